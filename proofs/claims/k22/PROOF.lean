import PyProof.Rows.All
import Wide.All
import OpenK.AllK
import Wide.FinOn
import HandS.ForMost
import HandS.ForExc
import HandS.SetKeys
import HandS.TupLen
import KE.KeyNested
import PyProof.DictRoadsH
import PyProof.DictMoreH
import HandS.TupAny
import HandS.IsInst
import HandS.Deep
import HandS.Wide
import HandS.Evl
import HandS.ListItems
import HandS.Conv
import KE.GoesEnum
import HandS.More
import HandS.Strs
import HandS.SetFor
import HandS.Sort
import HandS.SetBool
import KE.DatumOrd
import HandS.ExcInit
import HandS.ExcField
import HandS.ExcOwn
import HandS.TryMany
import KE.KExcIs
import KE.RegKTryMore
import HandS.Star
import HandS.TupSets
import PySem.Challenge.RW_partfilter_k22_sets_that_meet
set_option Elab.async false
set_option linter.all false
set_option maxRecDepth 100000
set_option maxHeartbeats 4000000
/-! A dict whose keys are tuples of any depth, as a tracked object. -/
namespace PL
open PySem PySem.Spec PyProof.Rows L2
abbrev Ent := NestedKey × Addr × V
abbrev EntV := NestedKey × Addr × Value
def EntR (p : Ent) (q : EntV) : Prop := p.1 = q.1 ∧ p.2.1 = q.2.1 ∧ RelV p.2.2 q.2.2
def rawOf (w : World) (y : EntV) : DictEntry := ⟨y.1.hash w, .ref y.2.1, y.2.2⟩
def DdIn (w : World) (a : Addr) (xs : List Ent) (h : Heap) : Prop := (a == sysModules) = false ∧ xs.length ≤ sizeLine ∧ (xs.map (·.1)).Nodup ∧ ∃ ys : List EntV, Paired EntR xs ys ∧ ∃ o es ep, h.get? a = some o ∧ o.ExactDict ∧ o.data = .dict es ep ∧ es.toList = ys.map (rawOf w)
def DdO (w : World) (a : Addr) (xs : List Ent) : HO := .ext (DdIn w a xs)
def atE (xs : List Ent) (k : NestedKey) : Option V := (xs.find? fun x => decide (x.1 = k)).map (·.2.2)
def putE (xs : List Ent) (k : NestedKey) (b : Addr) (v : V) : List Ent := match atE xs k with
  | some _ => xs.map fun x => if x.1 = k then (x.1, x.2.1, v) else x
  | none => xs ++ [(k, b, v)]
theorem ddo_ok {P : Program} {w w' : World} {H : Hp} {h : Heap} {a : Addr} {xs : List Ent} (x : DdIn w a xs h) : ObjOk P w' H h a (DdO w a xs) := by
  have ⟨_, _, _, _, _, o, _, _, ho, _⟩ := x
  refine ⟨x, ⟨o, ho⟩, fun h1 h2 p k => ?_⟩
  obtain ⟨q1, q2, q3, ys, q4, o, es, ep, ho, q5⟩ := p
  exact ⟨q1, q2, q3, ys, q4, o, es, ep, k o ho, q5⟩
theorem ddo_at {P : Program} {w : World} {H : Hp} {h : Heap} {a : Addr} {xs : List Ent} (ok : HOk P w H h) (e : H a = some (DdO w a xs)) : DdIn w a xs h := (ok a _ e).1
theorem ent_keys {xs : List Ent} {ys : List EntV} (r : Paired EntR xs ys) : xs.map (·.1) = ys.map (·.1) := by
  induction r with
  | nil => rfl
  | cons h _ ih => rw [List.map_cons, List.map_cons, ih, h.1]
theorem ent_at {xs : List Ent} {ys : List EntV} (r : Paired EntR xs ys) (k : NestedKey) : RelO (atE xs k) ((atKey ys k).map (·.2)) := by
  unfold atE atKey
  induction r with
  | nil => exact trivial
  | @cons p q ps qs h t ih =>
    obtain ⟨h1, h2, h3⟩ := h
    by_cases e : p.1 = k
    · rw [List.find?_cons_of_pos (by simpa using e), List.find?_cons_of_pos (by rw [← h1]; simpa using e)]
      exact h3
    · rw [List.find?_cons_of_neg (by simpa using e), List.find?_cons_of_neg (by rw [← h1]; simpa using e)]
      exact ih
theorem ent_put {xs : List Ent} {ys : List EntV} (r : Paired EntR xs ys) (k : NestedKey) (b : Addr) {v : V} {u : Value} (rv : RelV v u) : Paired EntR (putE xs k b v) (storedH ys k b u) := by
  have ra := ent_at r k
  have ex : ∀ {xs : List Ent} {ys : List EntV}, Paired EntR xs ys → Paired EntR (xs ++ [(k, b, v)]) (ys ++ [(k, b, u)]) := fun r => by
    induction r with
    | nil => exact .cons ⟨rfl, rfl, rv⟩ .nil
    | cons h _ ih => exact .cons h ih
  have mp : ∀ {xs : List Ent} {ys : List EntV}, Paired EntR xs ys → Paired EntR (xs.map fun x => if x.1 = k then (x.1, x.2.1, v) else x) (ys.map (putAt k u)) := fun r => by
    induction r with
    | nil => exact .nil
    | @cons p q ps qs h _ ih =>
      refine .cons ?_ ih
      unfold putAt
      dsimp only
      by_cases e : p.1 = k
      · rw [if_pos e, if_pos (by rw [← h.1]; exact e)]
        exact ⟨h.1, h.2.1, rv⟩
      · rw [if_neg e, if_neg (by rw [← h.1]; exact e)]
        exact h
  unfold putE
  cases hx : atE xs k with
  | some x =>
    rw [hx] at ra
    cases hy : atKey ys k with
    | none => rw [hy] at ra; exact ra.elim
    | some p => rw [storedH_old hy]; exact mp r
  | none =>
    rw [hx] at ra
    cases hy : atKey ys k with
    | none => rw [storedH_new hy]; exact ex r
    | some p => rw [hy] at ra; exact ra.elim
theorem put_len {xs : List Ent} {k : NestedKey} {b : Addr} {v : V} : (putE xs k b v).length ≤ xs.length + 1 := by
  unfold putE
  split <;> simp
theorem put_nd {xs : List Ent} {k : NestedKey} {b : Addr} {v : V} (h : (xs.map (·.1)).Nodup) : ((putE xs k b v).map (·.1)).Nodup := by
  unfold putE
  split
  · have e : (xs.map fun x => if x.1 = k then (x.1, x.2.1, v) else x).map (·.1) = xs.map (·.1) := by
      rw [List.map_map]
      refine List.map_congr_left fun x _ => ?_
      show (if x.1 = k then _ else x).1 = x.1
      split <;> rfl
    rw [e]; exact h
  · rename_i hn
    rw [List.map_append]
    refine List.nodup_append.mpr ⟨h, by simp, fun x hx y hy e => ?_⟩
    simp at hy
    subst hy; subst e
    obtain ⟨z, hz, rfl⟩ := List.mem_map.mp hx
    unfold atE at hn
    rw [Option.map_eq_none_iff, List.find?_eq_none] at hn
    exact hn z hz (by simp)
/-- the library's word for it -/
theorem dd_of {P : Program} {w : World} {h : Heap} {a : Addr} {xs : List Ent} (d : DdIn w a xs h) (hk : ∀ x ∈ xs, NestedIs h x.1 (.ref x.2.1) ∧ x.1.depth ≤ 8) : ∃ ys, Paired EntR xs ys ∧ h.DictOfH (nestedKind P w) a ys := by
  obtain ⟨_, _, nd, ys, r, o, es, ep, h1, h2, h3, h4⟩ := d
  refine ⟨ys, r, o, es, ep, h1, h2, h3, h4, fun y hy => ?_, by rw [← ent_keys r]; exact nd⟩
  have key : ∀ {xs : List Ent} {ys : List EntV}, Paired EntR xs ys → (∀ x ∈ xs, NestedIs h x.1 (.ref x.2.1) ∧ x.1.depth ≤ 8) → ∀ y ∈ ys, NestedIs h y.1 (.ref y.2.1) ∧ y.1.depth ≤ 8 := fun r => by
    induction r with
    | nil => intro _ y hy; simp at hy
    | @cons p q ps qs hr _ ih =>
      intro hk y hy
      rcases List.mem_cons.mp hy with rfl | hy
      · rw [← hr.1, ← hr.2.1]; exact hk p (List.mem_cons_self ..)
      · exact ih (fun x hx => hk x (List.mem_cons_of_mem _ hx)) y hy
  exact key r hk y hy
theorem dd_new {P : Program} {w : World} {h : Heap} {a : Addr} {xs : List Ent} {ys : List EntV} (hd : (a == sysModules) = false) (hl : xs.length ≤ sizeLine) (nd : (xs.map (·.1)).Nodup) (r : Paired EntR xs ys) (d : h.DictOfH (nestedKind P w) a ys) : DdIn w a xs h := by
  obtain ⟨o, es, ep, h1, h2, h3, h4, _⟩ := d
  exact ⟨hd, hl, nd, ys, r, o, es, ep, h1, h2, h3, h4⟩
end PL

/-! The state of a def by plain data: slots, and the objects that the def may still change. -/
namespace PL
open PySem PySem.Spec PyProof.Rows L2

abbrev D := PyData
inductive Wv where
  | dat (d : D)
  | ref (k : Nat)
inductive Ob where
  | lst (ds : List D)
  | nst (ks : List Nat)
  | dic (kvs : List (Key × D))
  | dit (w : World) (kvs : List (NestedKey × D))
  | box
  | rng (lo hi : Int)
  | frz (d : D)
def Ob.live : Ob → Bool
  | .frz _ => false
  | _ => true
structure En where
  sl : List (Option Wv)
  ob : List Ob

/-! ### lists side by side -/
def Al {α β : Type} (R : α → β → Prop) (xs : List α) (ys : List β) : Prop := xs.length = ys.length ∧ ∀ (i : Nat) x y, xs[i]? = some x → ys[i]? = some y → R x y
section
variable {α β : Type} {R S : α → β → Prop} {xs : List α} {ys : List β} {x : α} {y : β}
theorem Al.mono (h : Al R xs ys) (f : ∀ x y, R x y → S x y) : Al S xs ys := ⟨h.1, fun i x y a b => f _ _ (h.2 i x y a b)⟩
theorem Al.nil : Al R [] [] := ⟨rfl, fun i x y a _ => by simp at a⟩
theorem Al.cons (r : R x y) (h : Al R xs ys) : Al R (x :: xs) (y :: ys) := by
  refine ⟨by simp [h.1], fun i a b p q => ?_⟩
  cases i with
  | zero => simp at p q; subst p; subst q; exact r
  | succ i => exact h.2 i a b (by simpa using p) (by simpa using q)
theorem Al.hd (h : Al R (x :: xs) (y :: ys)) : R x y := h.2 0 x y rfl rfl
theorem Al.tl (h : Al R (x :: xs) (y :: ys)) : Al R xs ys := ⟨by simpa using h.1, fun i a b p q => h.2 (i + 1) a b (by simpa using p) (by simpa using q)⟩
theorem Al.nil_inv (h : Al R xs []) : xs = [] := by
  cases xs with
  | nil => rfl
  | cons _ _ => simp [Al] at h
theorem Al.cons_inv (h : Al R xs (y :: ys)) : ∃ x r, xs = x :: r ∧ R x y ∧ Al R r ys := by
  cases xs with
  | nil => exact absurd h.1 (by simp)
  | cons x r => exact ⟨x, r, rfl, h.hd, h.tl⟩
theorem Al.app (h : Al R xs ys) (r : R x y) : Al R (xs ++ [x]) (ys ++ [y]) := by
  refine ⟨by simp [h.1], fun i a b p q => ?_⟩
  by_cases hi : i < xs.length
  · rw [List.getElem?_append_left hi] at p
    rw [List.getElem?_append_left (by rw [← h.1]; exact hi)] at q
    exact h.2 i a b p q
  · rw [List.getElem?_append_right (by omega)] at p
    rw [List.getElem?_append_right (by rw [← h.1]; omega)] at q
    have e : i - xs.length = 0 := by
      have := (List.getElem?_eq_some_iff.mp p).1
      simp at this; omega
    rw [e] at p
    rw [← h.1, e] at q
    simp at p q; subst p; subst q; exact r
theorem Al.appL {us : List α} {vs : List β} (h : Al R xs ys) (k : Al R us vs) : Al R (xs ++ us) (ys ++ vs) := by
  refine ⟨by simp [h.1, k.1], fun i a b p q => ?_⟩
  by_cases hi : i < xs.length
  · rw [List.getElem?_append_left hi] at p
    rw [List.getElem?_append_left (by rw [← h.1]; exact hi)] at q
    exact h.2 i a b p q
  · rw [List.getElem?_append_right (by omega)] at p
    rw [List.getElem?_append_right (by rw [← h.1]; omega)] at q
    rw [← h.1] at q
    exact k.2 _ a b p q
theorem Al.set (h : Al R xs ys) (r : R x y) (i : Nat) : Al R (xs.set i x) (ys.set i y) := by
  refine ⟨by simp [h.1], fun j a b p q => ?_⟩
  by_cases hj : i = j
  · subst hj
    by_cases hl : i < xs.length
    · rw [List.getElem?_set_self hl] at p
      rw [List.getElem?_set_self (by rw [← h.1]; exact hl)] at q
      simp at p q; subst p; subst q; exact r
    · rw [List.getElem?_eq_none (by simpa using hl)] at p; cases p
  · rw [List.getElem?_set_ne hj] at p q
    exact h.2 j a b p q
theorem Al.get (h : Al R xs ys) {i : Nat} (e : ys[i]? = some y) : ∃ x, xs[i]? = some x ∧ R x y := by
  have hi : i < xs.length := by rw [h.1]; exact (List.getElem?_eq_some_iff.mp e).1
  exact ⟨xs[i], List.getElem?_eq_getElem hi, h.2 i _ _ (List.getElem?_eq_getElem hi) e⟩
theorem Al.get' (h : Al R xs ys) {i : Nat} (e : xs[i]? = some x) : ∃ y, ys[i]? = some y ∧ R x y := by
  have hi : i < ys.length := by rw [← h.1]; exact (List.getElem?_eq_some_iff.mp e).1
  exact ⟨ys[i], List.getElem?_eq_getElem hi, h.2 i _ _ e (List.getElem?_eq_getElem hi)⟩
theorem Al.drop (h : Al R xs ys) (n : Nat) : Al R (xs.drop n) (ys.drop n) := by
  refine ⟨by simp [h.1], fun i a b p q => ?_⟩
  rw [List.getElem?_drop] at p q
  exact h.2 _ a b p q
theorem Al.take (h : Al R xs ys) (n : Nat) : Al R (xs.take n) (ys.take n) := by
  refine ⟨by simp [h.1], fun i a b p q => ?_⟩
  rw [List.getElem?_take] at p q
  by_cases hi : i < n
  · rw [if_pos hi] at p q; exact h.2 _ a b p q
  · rw [if_neg hi] at p; cases p
theorem Al.erase (h : Al R xs ys) (n : Nat) : Al R (xs.eraseIdx n) (ys.eraseIdx n) := by
  rw [List.eraseIdx_eq_take_drop_succ, List.eraseIdx_eq_take_drop_succ]
  exact (h.take n).appL (h.drop (n + 1))
theorem Al.dropLast (h : Al R xs ys) : Al R xs.dropLast ys.dropLast := by
  rw [List.dropLast_eq_take, List.dropLast_eq_take, ← h.1]
  exact h.take _
theorem Al.rev (h : Al R xs ys) : Al R xs.reverse ys.reverse := by
  refine ⟨by simp [h.1], fun i a b p q => ?_⟩
  have hi : i < xs.length := by have := (List.getElem?_eq_some_iff.mp p).1; simpa using this
  rw [List.getElem?_reverse hi] at p
  rw [List.getElem?_reverse (by rw [← h.1]; exact hi), ← h.1] at q
  exact h.2 _ a b p q
theorem al_map {γ : Type} {f : γ → β} {zs : List γ} : Al R xs (zs.map f) ↔ Al (fun x z => R x (f z)) xs zs := by
  constructor
  · intro h
    refine ⟨by simpa using h.1, fun i a b p q => h.2 i a (f b) p (by simp [q])⟩
  · intro h
    refine ⟨by simpa using h.1, fun i a b p q => ?_⟩
    rw [List.getElem?_map] at q
    cases hz : zs[i]? with
    | none => rw [hz] at q; cases q
    | some z => rw [hz] at q; simp at q; subst q; exact h.2 i a z p hz
end

/-! ### heaps -/
def Sub (G H : Hp) : Prop := ∀ b o, G b = some o → H b = some o
theorem Sub.refl (H : Hp) : Sub H H := fun _ _ h => h
theorem Sub.trans {A B C : Hp} (f : Sub A B) (g : Sub B C) : Sub A C := fun b o h => g b o (f b o h)
theorem Sub.new {H : Hp} {p : Addr} {o : HO} (h : H p = none) : Sub H (upd H p o) := fun b u e => by
  rw [upd_ne (ne_of_none e h)]; exact e
section
variable {K : PySem.W.Frag} {G H : Hp} {a : Addr} {xs : List V}
theorem rd_sub {u : HO} (s : Sub G H) (h : Rd G a u) : Rd H a u := by
  rcases h with h | ⟨o, h⟩
  · exact .inl (s _ _ h)
  · exact .inr ⟨o, s _ _ h⟩
theorem sql_sub (s : Sub G H) (h : SqL K G a xs) : SqL K H a xs := by
  rcases h with h | h
  · exact .inl (rd_sub s h)
  · exact .inr h
theorem sqt_sub (s : Sub G H) (h : SqT K G a xs) : SqT K H a xs := by
  rcases h with h | h
  · exact .inl (rd_sub s h)
  · exact .inr h
mutual
theorem dp_sub (s : Sub G H) : ∀ (d : D) (v : V), Dp K G v d → Dp K H v d
  | .none, _, h => by cases h; exact .non
  | .bool b, _, h => by cases h; exact .bl b
  | .int i, _, h => by cases h; exact .int i
  | .str x, _, h => by cases h; exact .str x
  | .list ds, _, h => by
    cases h with
    | lst p q => exact .lst (sql_sub s p) (dpAll_sub s ds _ q)
  | .tuple ds, _, h => by
    cases h with
    | tup p q => exact .tup (sqt_sub s p) (dpAll_sub s ds _ q)
  | .dict _, _, h => by cases h
theorem dpAll_sub (s : Sub G H) : ∀ (ds : List D) (vs : List V), DpAll K G vs ds → DpAll K H vs ds
  | [], _, h => by cases h; exact .nil
  | d :: ds, _, h => by
    cases h with
    | cons p q => exact .cons (dp_sub s d _ p) (dpAll_sub s ds _ q)
end
theorem dpAll_al : ∀ {vs : List V} {ds : List D}, DpAll K G vs ds ↔ Al (Dp K G) vs ds
  | vs, [] => ⟨fun h => by cases h; exact .nil, fun h => by rw [h.nil_inv]; exact .nil⟩
  | vs, d :: ds => ⟨fun h => by
      cases h with
      | cons p q => exact .cons p (dpAll_al.mp q),
    fun h => by
      obtain ⟨x, r, rfl, p, q⟩ := h.cons_inv
      exact .cons p (dpAll_al.mpr q)⟩
end

/-- the addresses of the objects that may still change -/
def Lv (as : List Addr) (ob : List Ob) (b : Addr) : Prop := ∃ (k : Nat) (o : Ob), as[k]? = some b ∧ ob[k]? = some o ∧ o.live = true
open Classical in
/-- what the data stand in -/
noncomputable def hid (iv : Addr → Prop) (as : List Addr) (ob : List Ob) (H : Hp) : Hp := fun b => if iv b ∨ Lv as ob b then none else H b
section
variable {iv : Addr → Prop} {as : List Addr} {ob : List Ob} {G H H' : Hp} {b : Addr} {o : HO}
theorem hid_some : hid iv as ob H b = some o ↔ (¬ iv b ∧ ¬ Lv as ob b) ∧ H b = some o := by
  unfold hid
  by_cases h : iv b ∨ Lv as ob b
  · rw [if_pos h]
    exact ⟨fun z => (by cases z), fun z => absurd h (fun q => q.elim z.1.1 z.1.2)⟩
  · rw [if_neg h]
    exact ⟨fun z => ⟨⟨fun q => h (.inl q), fun q => h (.inr q)⟩, z⟩, fun z => z.2⟩
theorem hid_sub : Sub (hid iv as ob H) H := fun _ _ h => (hid_some.mp h).2
theorem hid_mono (s : Sub H H') : Sub (hid iv as ob H) (hid iv as ob H') := fun b o h => hid_some.mpr ⟨(hid_some.mp h).1, s b o (hid_some.mp h).2⟩
end

/-! ### values, objects, the state -/
def WR (K : PySem.W.Frag) (G : Hp) (as : List Addr) (v : V) : Wv → Prop
  | .dat d => Dp K G v d
  | .ref k => ∃ a, as[k]? = some a ∧ v = .ref a
def sRow : Str := "row"
def sAt : Str := "at"
/-- the box that a law draws from -/
def BoxOk (K : PySem.W.Frag) (G H : Hp) (a : Addr) : Prop := ∃ (r : Addr) (row : List Int) (n : Int), H a = some (.dK [(.inr sRow, .ref r), (.inr sAt, .int n)]) ∧ Dp K G (.ref r) (.list (row.map .int)) ∧ row ≠ [] ∧ (∀ x ∈ row, 0 ≤ x) ∧ row.length ≤ 400 ∧ 0 ≤ n
def OR (K : PySem.W.Frag) (G : Hp) (as : List Addr) (H : Hp) (a : Addr) : Ob → Prop
  | .lst ds => ∃ xs, H a = some (.lst xs) ∧ Al (Dp K G) xs ds
  | .nst ks => ∃ xs, H a = some (.lst xs) ∧ Al (fun v k => WR K G as v (.ref k)) xs ks
  | .dic kvs => ∃ ys, H a = some (.dK ys) ∧ Al (fun (y : Key × V) z => y.1 = z.1 ∧ Dp K G y.2 z.2) ys kvs
  | .dit w kvs => ∃ xs, H a = some (DdO w a xs) ∧ Al (fun (x : Ent) z => x.1 = z.1 ∧ (x.1.depth ≤ 8 ∧ Dp K G (.ref x.2.1) x.1.data) ∧ Dp K G x.2.2 z.2) xs kvs
  | .box => BoxOk K G H a
  | .rng lo hi => H a = some (.rng lo hi)
  | .frz d => Dp K G (.ref a) d
section
variable {K : PySem.W.Frag} {G G' H H' : Hp} {as t : List Addr} {a : Addr} {v : V} {w : Wv} {o : Ob}
theorem WR.sub (h : WR K G as v w) (s : Sub G G') : WR K G' (as ++ t) v w := by
  cases w with
  | dat d => exact dp_sub s d v h
  | ref k =>
    obtain ⟨a, e, q⟩ := h
    exact ⟨a, by rw [List.getElem?_append_left (List.getElem?_eq_some_iff.mp e).1]; exact e, q⟩
theorem WR.sub0 (h : WR K G as v w) (s : Sub G G') : WR K G' as v w := by
  have q := WR.sub (t := []) h s
  rw [List.append_nil] at q
  exact q
theorem OR.some (h : OR K G as H a o) (l : o.live = true) : ∃ u, H a = some u := by
  cases o with
  | lst ws => obtain ⟨xs, e, _⟩ := h; exact ⟨_, e⟩
  | nst ws => obtain ⟨xs, e, _⟩ := h; exact ⟨_, e⟩
  | dic ws => obtain ⟨xs, e, _⟩ := h; exact ⟨_, e⟩
  | dit u ws => obtain ⟨xs, e, _⟩ := h; exact ⟨_, e⟩
  | box => obtain ⟨_, _, _, e, _⟩ := h; exact ⟨_, e⟩
  | rng lo hi => exact ⟨_, h⟩
  | frz d => cases l
theorem OR.sub (h : OR K G as H a o) (s : Sub G G') (e : o.live = true → H' a = H a) : OR K G' (as ++ t) H' a o := by
  cases o with
  | lst ws => obtain ⟨xs, q, r⟩ := h; exact ⟨xs, (e rfl).trans q, r.mono fun _ _ z => dp_sub s _ _ z⟩
  | nst ws => obtain ⟨xs, q, r⟩ := h; exact ⟨xs, (e rfl).trans q, r.mono fun _ _ z => z.sub s⟩
  | dic ws => obtain ⟨xs, q, r⟩ := h; exact ⟨xs, (e rfl).trans q, r.mono fun _ _ z => ⟨z.1, dp_sub s _ _ z.2⟩⟩
  | dit u ws => obtain ⟨xs, q, r⟩ := h; exact ⟨xs, (e rfl).trans q, r.mono fun _ _ z => ⟨z.1, ⟨z.2.1.1, dp_sub s _ _ z.2.1.2⟩, dp_sub s _ _ z.2.2⟩⟩
  | box => obtain ⟨r, row, n, q, h1, h2⟩ := h; exact ⟨r, row, n, (e rfl).trans q, dp_sub s _ _ h1, h2⟩
  | rng lo hi => exact (e rfl).trans h
  | frz d => exact dp_sub s _ _ h
theorem OR.sub0 (h : OR K G as H a o) (s : Sub G G') (e : o.live = true → H' a = H a) : OR K G' as H' a o := by
  have q := OR.sub (t := []) h s e
  rw [List.append_nil] at q
  exact q
end

structure SR (K : PySem.W.Frag) (H0 : Hp) (iv : Addr → Prop) (as : List Addr) (e : En) (σ : L2.St) (H : Hp) : Prop where
  ext : Sub H0 H
  ivs : ∀ b, iv b → ∃ o, H b = some o
  len : as.length = e.ob.length
  inj : ∀ (k j : Nat) (a : Addr), as[k]? = some a → as[j]? = some a → k = j
  tr : ∀ (k : Nat) (a : Addr), as[k]? = some a → ∃ o, H a = some o
  niv : ∀ (k : Nat) (a : Addr), as[k]? = some a → ¬ iv a
  fr : ∀ (k : Nat) (a : Addr) (o : Ob), as[k]? = some a → e.ob[k]? = some o → o.live = true → H0 a = none
  obs : ∀ (k : Nat) (a : Addr) (o : Ob), as[k]? = some a → e.ob[k]? = some o → OR K (hid iv as e.ob H) as H a o
  slen : σ.length = e.sl.length
  sls : ∀ (i : Nat) (w : Wv), e.sl[i]? = some (some w) → ∃ v, σ[i]? = some (some v) ∧ WR K (hid iv as e.ob H) as v w
/-- a later state: old addresses stay, what data stand in grows -/
def Ltr (iv : Addr → Prop) (as : List Addr) (ob : List Ob) (H : Hp) (as' : List Addr) (ob' : List Ob) (H' : Hp) : Prop := (∃ t, as' = as ++ t) ∧ Sub (hid iv as ob H) (hid iv as' ob' H') ∧ ∀ b, iv b → H' b = H b
section
variable {K : PySem.W.Frag} {H0 H H' H2 : Hp} {iv : Addr → Prop} {as as' as2 : List Addr} {ob ob' ob2 : List Ob} {e e' : En} {σ σ' : L2.St} {p a : Addr} {v : V} {w : Wv} {o o' : Ob} {u : HO} {i k : Nat}
theorem Ltr.refl : Ltr iv as ob H as ob H := ⟨⟨[], by simp⟩, Sub.refl _, fun _ _ => rfl⟩
theorem Ltr.trans (f : Ltr iv as ob H as' ob' H') (g : Ltr iv as' ob' H' as2 ob2 H2) : Ltr iv as ob H as2 ob2 H2 := by
  obtain ⟨⟨t, rfl⟩, s, i1⟩ := f
  obtain ⟨⟨t2, rfl⟩, s2, i2⟩ := g
  exact ⟨⟨t ++ t2, by simp⟩, s.trans s2, fun b hb => (i2 b hb).trans (i1 b hb)⟩
theorem Ltr.wr (f : Ltr iv as ob H as' ob' H') (h : WR K (hid iv as ob H) as v w) : WR K (hid iv as' ob' H') as' v w := by
  obtain ⟨⟨t, rfl⟩, s, _⟩ := f
  exact h.sub s
theorem Ltr.dp {d : D} (f : Ltr iv as ob H as' ob' H') (h : Dp K (hid iv as ob H) v d) : Dp K (hid iv as' ob' H') v d := dp_sub f.2.1 _ _ h
theorem SR.fresh (S : SR K H0 iv as e σ H) (h : H p = none) : ¬ iv p ∧ ¬ Lv as e.ob p := by
  refine ⟨fun z => ?_, fun ⟨k, o, h1, h2, h3⟩ => ?_⟩
  · obtain ⟨o, q⟩ := S.ivs p z
    rw [h] at q; cases q
  · obtain ⟨u, q⟩ := (S.obs k p o h1 h2).some h3
    rw [h] at q; cases q
theorem SR.grow (S : SR K H0 iv as e σ H) (g : Sub H H') : SR K H0 iv as e σ H' ∧ Ltr iv as e.ob H as e.ob H' := by
  have s : Sub (hid iv as e.ob H) (hid iv as e.ob H') := hid_mono g
  refine ⟨⟨S.ext.trans g, fun b z => ?_, S.len, S.inj, fun k a q => ?_, S.niv, S.fr, fun k a o h1 h2 => ?_, S.slen, fun i w h => ?_⟩, ⟨[], by simp⟩, s, fun b hb => by
    obtain ⟨o, q⟩ := S.ivs b hb
    rw [q, g _ _ q]⟩
  · obtain ⟨o, q⟩ := S.ivs b z
    exact ⟨o, g _ _ q⟩
  · obtain ⟨o, q⟩ := S.tr k a q
    exact ⟨o, g _ _ q⟩
  · refine (S.obs k a o h1 h2).sub0 s fun l => ?_
    obtain ⟨u, q⟩ := (S.obs k a o h1 h2).some l
    rw [q]; exact g _ _ q
  · obtain ⟨v, h1, h2⟩ := S.sls i w h
    exact ⟨v, h1, h2.sub0 s⟩
/-- what is new is data's -/
theorem SR.seen (S : SR K H0 iv as e σ H) (h : H p = none) (h' : H' p = some u) : hid iv as e.ob H' p = some u := hid_some.mpr ⟨S.fresh h, h'⟩
theorem SR.h0 (S : SR K H0 iv as e σ H) (h : H p = none) : H0 p = none := by
  cases q : H0 p with
  | none => rfl
  | some o => rw [S.ext _ _ q] at h; cases h
theorem SR.at (S : SR K H0 iv as e σ H) (hk : as[k]? = some a) : ∃ o, e.ob[k]? = some o := by
  have hl : k < e.ob.length := by rw [← S.len]; exact (List.getElem?_eq_some_iff.mp hk).1
  exact ⟨_, List.getElem?_eq_getElem hl⟩
theorem SR.ad (S : SR K H0 iv as e σ H) (hk : e.ob[k]? = some o) : ∃ a, as[k]? = some a := by
  have hl : k < as.length := by rw [S.len]; exact (List.getElem?_eq_some_iff.mp hk).1
  exact ⟨_, List.getElem?_eq_getElem hl⟩
/-- a new object of the def's own -/
theorem SR.newO (S : SR K H0 iv as e σ H) (hp : H p = none) (hl : o.live = true) (ho : OR K (hid iv as e.ob H) as (upd H p u) p o) :
    SR K H0 iv (as ++ [p]) ⟨e.sl, e.ob ++ [o]⟩ σ (upd H p u) ∧ Ltr iv as e.ob H (as ++ [p]) (e.ob ++ [o]) (upd H p u) := by
  have hf := S.fresh hp
  have eq : hid iv (as ++ [p]) (e.ob ++ [o]) (upd H p u) = hid iv as e.ob H := by
    funext b
    by_cases hb : b = p
    · subst hb
      have h1 : hid iv as e.ob H b = none := by
        cases q : hid iv as e.ob H b with
        | none => rfl
        | some z => rw [(hid_some.mp q).2] at hp; cases hp
      rw [h1]
      unfold hid
      refine if_pos (.inr ⟨as.length, o, by simp, ?_, hl⟩)
      rw [S.len]; simp
    · have key : Lv (as ++ [p]) (e.ob ++ [o]) b ↔ Lv as e.ob b := by
        constructor
        · rintro ⟨k, o1, h1, h2, h3⟩
          by_cases hk : k < as.length
          · rw [List.getElem?_append_left hk] at h1
            rw [List.getElem?_append_left (by rw [← S.len]; exact hk)] at h2
            exact ⟨k, o1, h1, h2, h3⟩
          · rw [List.getElem?_append_right (by omega)] at h1
            have h0 : k - as.length = 0 := by
              have := (List.getElem?_eq_some_iff.mp h1).1
              simp at this; omega
            rw [h0] at h1
            simp at h1
            exact absurd h1.symm hb
        · rintro ⟨k, o1, h1, h2, h3⟩
          refine ⟨k, o1, ?_, ?_, h3⟩
          · rw [List.getElem?_append_left (List.getElem?_eq_some_iff.mp h1).1]; exact h1
          · rw [List.getElem?_append_left (List.getElem?_eq_some_iff.mp h2).1]; exact h2
      unfold hid
      rw [upd_ne hb]
      by_cases hc : iv b ∨ Lv as e.ob b
      · rw [if_pos hc, if_pos (hc.imp id key.mpr)]
      · rw [if_neg hc, if_neg (fun z => hc (z.imp id key.mp))]
  have s : Sub (hid iv as e.ob H) (hid iv (as ++ [p]) (e.ob ++ [o]) (upd H p u)) := by rw [eq]; exact Sub.refl _
  have g : Sub H (upd H p u) := Sub.new hp
  refine ⟨⟨S.ext.trans g, fun b z => ?_, by simp [S.len], fun k j a h1 h2 => ?_, fun k a q => ?_, fun k a q => ?_, fun k a o1 h1 h2 h3 => ?_, fun k a o1 h1 h2 => ?_, S.slen, fun i w h => ?_⟩, ⟨[p], rfl⟩, s, fun b hb => upd_ne (fun z => by subst z; exact hf.1 hb)⟩
  · obtain ⟨o, q⟩ := S.ivs b z
    exact ⟨o, g _ _ q⟩
  · have old : ∀ (k : Nat), (as ++ [p])[k]? = some p → k = as.length := fun k q => by
      by_cases hk : k < as.length
      · rw [List.getElem?_append_left hk] at q
        obtain ⟨z, hz⟩ := S.tr k p q
        rw [hp] at hz; cases hz
      · have := (List.getElem?_eq_some_iff.mp q).1
        simp at this; omega
    by_cases ha : a = p
    · subst ha; rw [old k h1, old j h2]
    · have lt : ∀ (k : Nat), (as ++ [p])[k]? = some a → as[k]? = some a := fun k q => by
        by_cases hk : k < as.length
        · rw [List.getElem?_append_left hk] at q; exact q
        · have := (List.getElem?_eq_some_iff.mp q).1
          have e0 : k = as.length := by simp at this; omega
          subst e0
          simp at q
          exact absurd q.symm ha
      exact S.inj k j a (lt k h1) (lt j h2)
  · by_cases hk : k < as.length
    · rw [List.getElem?_append_left hk] at q
      obtain ⟨z, hz⟩ := S.tr k a q
      exact ⟨z, g _ _ hz⟩
    · have := (List.getElem?_eq_some_iff.mp q).1
      have e0 : k = as.length := by simp at this; omega
      subst e0
      simp at q
      subst q
      exact ⟨u, upd_same⟩
  · by_cases hk : k < as.length
    · rw [List.getElem?_append_left hk] at q
      exact S.niv k a q
    · have := (List.getElem?_eq_some_iff.mp q).1
      have e0 : k = as.length := by simp at this; omega
      subst e0
      simp at q
      subst q
      exact hf.1
  · by_cases hk : k < as.length
    · rw [List.getElem?_append_left hk] at h1
      rw [List.getElem?_append_left (by rw [← S.len]; exact hk)] at h2
      exact S.fr k a o1 h1 h2 h3
    · have := (List.getElem?_eq_some_iff.mp h1).1
      have e0 : k = as.length := by simp at this; omega
      subst e0
      simp at h1
      subst h1
      exact S.h0 hp
  · by_cases hk : k < as.length
    · rw [List.getElem?_append_left hk] at h1
      rw [List.getElem?_append_left (by rw [← S.len]; exact hk)] at h2
      refine (S.obs k a o1 h1 h2).sub s fun l => ?_
      obtain ⟨z, q⟩ := (S.obs k a o1 h1 h2).some l
      rw [q]; exact g _ _ q
    · have := (List.getElem?_eq_some_iff.mp h1).1
      have e0 : k = as.length := by simp at this; omega
      subst e0
      simp at h1
      subst h1
      rw [S.len] at h2
      simp at h2
      subst h2
      exact ho.sub s fun _ => rfl
  · obtain ⟨v, h1, h2⟩ := S.sls i w h
    exact ⟨v, h1, h2.sub s⟩
/-- an object of the def's own is changed -/
theorem SR.mut (S : SR K H0 iv as e σ H) (hk : as[k]? = some a) (ho : e.ob[k]? = some o) (hl : o.live = true) (hl' : o'.live = true) (hn : OR K (hid iv as e.ob H) as (upd H a u) a o') :
    SR K H0 iv as ⟨e.sl, e.ob.set k o'⟩ σ (upd H a u) ∧ Ltr iv as e.ob H as (e.ob.set k o') (upd H a u) := by
  have hkl : k < e.ob.length := (List.getElem?_eq_some_iff.mp ho).1
  have key : ∀ b, Lv as (e.ob.set k o') b ↔ Lv as e.ob b := fun b => by
    constructor
    · rintro ⟨j, o1, h1, h2, h3⟩
      by_cases hj : k = j
      · subst hj; exact ⟨k, o, h1, ho, hl⟩
      · rw [List.getElem?_set_ne hj] at h2
        exact ⟨j, o1, h1, h2, h3⟩
    · rintro ⟨j, o1, h1, h2, h3⟩
      by_cases hj : k = j
      · subst hj; exact ⟨k, o', h1, by rw [List.getElem?_set_self hkl], hl'⟩
      · exact ⟨j, o1, h1, by rw [List.getElem?_set_ne hj]; exact h2, h3⟩
  have eq : hid iv as (e.ob.set k o') (upd H a u) = hid iv as e.ob H := by
    funext b
    by_cases hb : b = a
    · subst hb
      have hL : Lv as e.ob b := ⟨k, o, hk, ho, hl⟩
      unfold hid
      rw [if_pos (.inr ((key b).mpr hL)), if_pos (.inr hL)]
    · unfold hid
      rw [upd_ne hb]
      by_cases hc : iv b ∨ Lv as e.ob b
      · rw [if_pos hc, if_pos (hc.imp id (key b).mpr)]
      · rw [if_neg hc, if_neg (fun z => hc (z.imp id (key b).mp))]
  have s : Sub (hid iv as e.ob H) (hid iv as (e.ob.set k o') (upd H a u)) := by rw [eq]; exact Sub.refl _
  have hne : ∀ (j : Nat) b, as[j]? = some b → j ≠ k → b ≠ a := fun j b h1 hj z => by
    subst z; exact hj (S.inj j k b h1 hk)
  refine ⟨⟨fun b z h => ?_, fun b z => ?_, by simp [S.len], S.inj, fun j b q => ?_, S.niv, fun j b o1 h1 h2 h3 => ?_, fun j b o1 h1 h2 => ?_, S.slen, fun i w h => ?_⟩, ⟨[], by simp⟩, s, fun b hb => upd_ne (fun z => by subst z; exact S.niv k _ hk hb)⟩
  · have hb : b ≠ a := fun q => by subst q; rw [S.fr k b o hk ho hl] at h; cases h
    rw [upd_ne hb]; exact S.ext b z h
  · obtain ⟨o1, q⟩ := S.ivs b z
    by_cases hb : b = a
    · subst hb; exact ⟨u, upd_same⟩
    · exact ⟨o1, by rw [upd_ne hb]; exact q⟩
  · obtain ⟨z, hz⟩ := S.tr j b q
    by_cases hb : b = a
    · subst hb; exact ⟨u, upd_same⟩
    · exact ⟨z, by rw [upd_ne hb]; exact hz⟩
  · by_cases hj : k = j
    · subst hj
      rw [hk] at h1; cases h1
      exact S.fr k _ o hk ho hl
    · rw [List.getElem?_set_ne hj] at h2
      exact S.fr j b o1 h1 h2 h3
  · by_cases hj : k = j
    · subst hj
      rw [hk] at h1; cases h1
      rw [List.getElem?_set_self hkl] at h2; cases h2
      exact hn.sub0 s fun _ => rfl
    · rw [List.getElem?_set_ne hj] at h2
      exact (S.obs j b o1 h1 h2).sub0 s fun _ => upd_ne (hne j b h1 (Ne.symm hj))
  · obtain ⟨v, h1, h2⟩ := S.sls i w h
    exact ⟨v, h1, h2.sub0 s⟩
/-- a list of data will not change any more -/
theorem SR.freeze {ds : List D} (S : SR K H0 iv as e σ H) (hk : as[k]? = some a) (ho : e.ob[k]? = some (.lst ds)) :
    SR K H0 iv as ⟨e.sl, e.ob.set k (.frz (.list ds))⟩ σ H ∧ Ltr iv as e.ob H as (e.ob.set k (.frz (.list ds))) H := by
  have hiv := S.niv k a hk
  have hkl : k < e.ob.length := (List.getElem?_eq_some_iff.mp ho).1
  have key : ∀ b, Lv as (e.ob.set k (.frz (.list ds))) b → Lv as e.ob b := fun b => by
    rintro ⟨j, o1, h1, h2, h3⟩
    by_cases hj : k = j
    · subst hj
      rw [List.getElem?_set_self hkl] at h2; cases h2; cases h3
    · rw [List.getElem?_set_ne hj] at h2
      exact ⟨j, o1, h1, h2, h3⟩
  have s : Sub (hid iv as e.ob H) (hid iv as (e.ob.set k (.frz (.list ds))) H) := fun b o h => by
    obtain ⟨⟨q1, q2⟩, q3⟩ := hid_some.mp h
    exact hid_some.mpr ⟨⟨q1, fun z => q2 (key b z)⟩, q3⟩
  obtain ⟨xs, e1, r⟩ := S.obs k a _ hk ho
  have self : hid iv as (e.ob.set k (.frz (.list ds))) H a = some (.lst xs) := by
    refine hid_some.mpr ⟨⟨hiv, ?_⟩, e1⟩
    rintro ⟨j, o1, h1, h2, h3⟩
    have hj := S.inj j k a h1 hk
    subst hj
    rw [List.getElem?_set_self hkl] at h2; cases h2; cases h3
  refine ⟨⟨S.ext, S.ivs, by simp [S.len], S.inj, S.tr, S.niv, fun j b o1 h1 h2 h3 => ?_, fun j b o1 h1 h2 => ?_, S.slen, fun i w h => ?_⟩, ⟨[], by simp⟩, s, fun _ _ => rfl⟩
  · by_cases hj : k = j
    · subst hj
      rw [List.getElem?_set_self hkl] at h2; cases h2; cases h3
    · rw [List.getElem?_set_ne hj] at h2
      exact S.fr j b o1 h1 h2 h3
  · by_cases hj : k = j
    · subst hj
      rw [hk] at h1; cases h1
      rw [List.getElem?_set_self hkl] at h2; cases h2
      refine Dp.lst (.inl (.inl self)) (dpAll_al.mpr ?_)
      exact r.mono fun x z q => dp_sub s _ _ q
    · rw [List.getElem?_set_ne hj] at h2
      exact (S.obs j b o1 h1 h2).sub0 s fun _ => rfl
  · obtain ⟨v, h1, h2⟩ := S.sls i w h
    exact ⟨v, h1, h2.sub0 s⟩
theorem SR.set (S : SR K H0 iv as e σ H) (h : WR K (hid iv as e.ob H) as v w) : SR K H0 iv as ⟨e.sl.set i (some w), e.ob⟩ (σ.set i (some v)) H := by
  refine ⟨S.ext, S.ivs, S.len, S.inj, S.tr, S.niv, S.fr, S.obs, by simp [S.slen], fun j w1 h1 => ?_⟩
  by_cases hj : i = j
  · subst hj
    have hi : i < e.sl.length := by have := (List.getElem?_eq_some_iff.mp h1).1; simpa using this
    simp only [] at h1
    rw [List.getElem?_set_self hi] at h1
    cases h1
    exact ⟨v, List.getElem?_set_self (by rw [S.slen]; exact hi), h⟩
  · simp only [] at h1
    rw [List.getElem?_set_ne hj] at h1
    obtain ⟨v1, q, r⟩ := S.sls j w1 h1
    exact ⟨v1, by rw [List.getElem?_set_ne hj]; exact q, r⟩
/-- an object is changed by a def that was called -/
theorem SR.call1 (S : SR K H0 iv as e σ H) (hk : as[k]? = some a) (ho : e.ob[k]? = some o) (hl : o.live = true) (hl' : o'.live = true) (g : ∀ b u, H b = some u → b ≠ a → H' b = some u) (hn : OR K (hid iv as (e.ob.set k o') H') as H' a o') :
    SR K H0 iv as ⟨e.sl, e.ob.set k o'⟩ σ H' ∧ Ltr iv as e.ob H as (e.ob.set k o') H' := by
  obtain ⟨ua, hua⟩ := hn.some hl'
  have hkl : k < e.ob.length := (List.getElem?_eq_some_iff.mp ho).1
  have key : ∀ b, Lv as (e.ob.set k o') b → Lv as e.ob b := fun b => by
    rintro ⟨j, o1, h1, h2, h3⟩
    by_cases hj : k = j
    · subst hj; exact ⟨k, o, h1, ho, hl⟩
    · rw [List.getElem?_set_ne hj] at h2
      exact ⟨j, o1, h1, h2, h3⟩
  have s : Sub (hid iv as e.ob H) (hid iv as (e.ob.set k o') H') := fun b u h => by
    obtain ⟨⟨q1, q2⟩, q3⟩ := hid_some.mp h
    have hb : b ≠ a := fun z => by subst z; exact q2 ⟨k, o, hk, ho, hl⟩
    exact hid_some.mpr ⟨⟨q1, fun z => q2 (key b z)⟩, g b u q3 hb⟩
  have hne : ∀ (j : Nat) b, as[j]? = some b → j ≠ k → b ≠ a := fun j b h1 hj z => by
    subst z; exact hj (S.inj j k b h1 hk)
  refine ⟨⟨fun b z h => ?_, fun b z => ?_, by simp [S.len], S.inj, fun j b q => ?_, S.niv, fun j b o1 h1 h2 h3 => ?_, fun j b o1 h1 h2 => ?_, S.slen, fun i w h => ?_⟩, ⟨[], by simp⟩, s, fun b hb => by
    obtain ⟨o1, q⟩ := S.ivs b hb
    rw [q, g b o1 q (fun z => by subst z; exact S.niv k _ hk hb)]⟩
  · have hb : b ≠ a := fun q => by subst q; rw [S.fr k b o hk ho hl] at h; cases h
    exact g b z (S.ext b z h) hb
  · obtain ⟨o1, q⟩ := S.ivs b z
    by_cases hb : b = a
    · subst hb; exact ⟨ua, hua⟩
    · exact ⟨o1, g b o1 q hb⟩
  · obtain ⟨z, hz⟩ := S.tr j b q
    by_cases hb : b = a
    · subst hb; exact ⟨ua, hua⟩
    · exact ⟨z, g b z hz hb⟩
  · by_cases hj : k = j
    · subst hj
      rw [hk] at h1; cases h1
      exact S.fr k _ o hk ho hl
    · rw [List.getElem?_set_ne hj] at h2
      exact S.fr j b o1 h1 h2 h3
  · by_cases hj : k = j
    · subst hj
      rw [hk] at h1; cases h1
      rw [List.getElem?_set_self hkl] at h2; cases h2
      exact hn
    · rw [List.getElem?_set_ne hj] at h2
      refine (S.obs j b o1 h1 h2).sub0 s fun l => ?_
      obtain ⟨z, q⟩ := (S.obs j b o1 h1 h2).some l
      rw [q]
      exact g b z q (hne j b h1 (Ne.symm hj))
  · obtain ⟨v, h1, h2⟩ := S.sls i w h
    exact ⟨v, h1, h2.sub0 s⟩
end
end PL

/-! Judgements over plain data: what a piece of the text does to the slots and to the def's own objects. -/
namespace PL
open PySem PySem.Spec PyProof.Rows L2

/-- an exception: its class, its attribute -/
structure Xc where
  cls : Value
  att : Option (Str × D)
abbrev PX := Xc → En → Prop
abbrev PTE := PX → En → (Wv → En → Prop) → Prop
abbrev PTT := PX → En → (Bool → En → Prop) → Prop
abbrev PTA := PX → En → (List Wv → En → Prop) → Prop
abbrev PTI := PX → En → (List D → En → Prop) → Prop
abbrev PTG := Wv → En → (En → Prop) → Prop
structure PEn where
  nx : En → Prop
  rt : Wv → En → Prop
  bk : En → Prop
  ct : En → Prop
  xe : PX
abbrev PTS := PEn → En → Prop

def asD (ob : List Ob) : Wv → Option D
  | .dat d => some d
  | .ref k => match ob[k]? with
    | some (.frz d) => some d
    | _ => none
def kD (e : En) (w : Wv) (k : D → Prop) : Prop := match asD e.ob w with
  | some d => k d
  | none => False
def keyD : Key → D
  | .inl i => .int i
  | .inr x => .str x
def keysD (k : List Key) : D := .tuple (k.map keyD)
/-- what may be read of a value, an own object's content too -/
def vwD (ob : List Ob) : Wv → Option D
  | .dat d => some d
  | .ref k => match ob[k]? with
    | some (.frz d) => some d
    | some (.lst ds) => some (.list ds)
    | some (.dic kvs) => some (.dict (kvs.map fun z => (keyD z.1, z.2)))
    | _ => none
def kV' (e : En) (w : Wv) (k : D → Prop) : Prop := match vwD e.ob w with
  | some d => k d
  | none => False
def kO (e : En) (w : Wv) (k : Nat → Ob → Prop) : Prop := match w with
  | .ref n => match e.ob[n]? with
    | some o => k n o
    | none => False
  | .dat _ => False

def XR (K : PySem.W.Frag) (G H : Hp) (x : Xc) (cls : Value) (d : Option Addr) : Prop := cls = x.cls ∧ match x.att with
  | none => d = none
  | some (f, y) => ∃ a v, d = some a ∧ H a = some (.xd [(f, v)]) ∧ Dp K G v y

section
variable (K : PySem.W.Frag) (H0 : Hp) (iv : Addr → Prop) (as : List Addr) (e : En) (σ : L2.St) (H : Hp)
def LX (X : PX) (E : XK) : Prop := ∀ x cls d as' e' H', X x e' → SR K H0 iv as' e' σ H' → Ltr iv as e.ob H as' e'.ob H' → XR K (hid iv as' e'.ob H') H' x cls d → E cls d H'
def KE (Q : Wv → En → Prop) (R : VK) : Prop := ∀ v w as' e' H', Q w e' → SR K H0 iv as' e' σ H' → Ltr iv as e.ob H as' e'.ob H' → WR K (hid iv as' e'.ob H') as' v w → R v H'
def KT (Q : Bool → En → Prop) (R : Bool → Hp → Prop) : Prop := ∀ b as' e' H', Q b e' → SR K H0 iv as' e' σ H' → Ltr iv as e.ob H as' e'.ob H' → R b H'
def KA (Q : List Wv → En → Prop) (R : List V → Hp → Prop) : Prop := ∀ vs ws as' e' H', Q ws e' → SR K H0 iv as' e' σ H' → Ltr iv as e.ob H as' e'.ob H' → Al (WR K (hid iv as' e'.ob H') as') vs ws → R vs H'
/-- behind a statement -/
def KN (N : En → Prop) (f : L2.St → Hp → Prop) : Prop := ∀ as' e' σ' H', N e' → SR K H0 iv as' e' σ' H' → Ltr iv as e.ob H as' e'.ob H' → f σ' H'
def KR (N : Wv → En → Prop) (f : VK) : Prop := ∀ v w as' e' σ' H', N w e' → SR K H0 iv as' e' σ' H' → Ltr iv as e.ob H as' e'.ob H' → WR K (hid iv as' e'.ob H') as' v w → f v H'
def KX (X : PX) (E : XK) : Prop := ∀ x cls d as' e' σ' H', X x e' → SR K H0 iv as' e' σ' H' → Ltr iv as e.ob H as' e'.ob H' → XR K (hid iv as' e'.ob H') H' x cls d → E cls d H'
end
structure SndE (K : PySem.W.Frag) (E : XK) (te : TE) (p : PTE) : Prop where
  run : ∀ H0 iv as e σ H X Q R, SR K H0 iv as e σ H → p X e Q → KE K H0 iv as e σ H Q R → LX K H0 iv as e σ H X E → te σ H R
structure SndT (K : PySem.W.Frag) (E : XK) (te : TT) (p : PTT) : Prop where
  run : ∀ H0 iv as e σ H X Q R, SR K H0 iv as e σ H → p X e Q → KT K H0 iv as e σ H Q R → LX K H0 iv as e σ H X E → te σ H R
structure SndA (K : PySem.W.Frag) (E : XK) (te : TA) (p : PTA) : Prop where
  run : ∀ H0 iv as e σ H X Q R, SR K H0 iv as e σ H → p X e Q → KA K H0 iv as e σ H Q R → LX K H0 iv as e σ H X E → te σ H R
structure SndS (K : PySem.W.Frag) (E : XK) (ts : TS) (p : PTS) : Prop where
  run : ∀ H0 iv as e σ H (P : PEn) (F : Ends), SR K H0 iv as e σ H → p P e → KN K H0 iv as e H P.nx F.nx → KN K H0 iv as e H P.bk F.bk → KN K H0 iv as e H P.ct F.ct → KR K H0 iv as e H P.rt F.rt → KX K H0 iv as e H P.xe E → ts F σ H
/-- a target: only the slots of vs are changed -/
structure SndG (K : PySem.W.Frag) (vs : List Nat) (g : TG) (p : PTG) : Prop where
  run : ∀ H0 iv as e σ H v w Q R, SR K H0 iv as e σ H → WR K (hid iv as e.ob H) as v w → p w e Q →
    (∀ e' σ', Q e' → SR K H0 iv as e' σ' H → e'.ob = e.ob → σ'.length = σ.length → (∀ i, i ∉ vs → σ'[i]? = σ[i]?) → R σ' H) → g v σ H R
/-- what an iterator yields, as long as the data stand -/
def Feeds (K : PySem.W.Frag) (J : It) (ds : List D) (Z : Hp → Prop) : Prop := (∀ G G', Z G → Sub G G' → Z G') ∧ ∀ i G H, Z G → Sub G H →
  (∀ d, ds[i]? = some d → J.go i H ∧ ∀ x H', J.yld i H x H' → Sub H H' ∧ ∀ G', Sub G G' → (∀ b o, H b = none → H' b = some o → G' b = some o) → Dp K G' x d) ∧ (ds.length ≤ i → J.stop i H)
structure SndI (K : PySem.W.Frag) (E : XK) (ti : TI) (p : PTI) : Prop where
  run : ∀ H0 iv as e σ H X Q R, SR K H0 iv as e σ H → p X e Q → (∀ J ds Z as' e' H', Q ds e' → SR K H0 iv as' e' σ H' → Ltr iv as e.ob H as' e'.ob H' → Feeds K J ds Z → Z (hid iv as' e'.ob H') → R J H') → LX K H0 iv as e σ H X E → ti σ H R
/-- a value that is read: data, or an own object's content -/
def RV (K : PySem.W.Frag) (G H : Hp) (v : V) (d : D) : Prop := Dp K G v d ∨
  (∃ a xs ds, v = .ref a ∧ H a = some (.lst xs) ∧ Al (Dp K G) xs ds ∧ d = .list ds) ∨
  (∃ (a : Addr) (ys : List (Key × V)) (kvs : List (Key × D)), v = .ref a ∧ H a = some (.dK ys) ∧ Al (fun (y : Key × V) z => y.1 = z.1 ∧ Dp K G y.2 z.2) ys kvs ∧ d = .dict (kvs.map fun z => (keyD z.1, z.2)))
def RS (K : PySem.W.Frag) (r2 : R2) (r : D → D → (D → Prop) → Prop) : Prop := ∀ G H v1 v2 a b (k : D → Prop) (R : VK), Sub G H → RV K G H v1 a → RV K G H v2 b → r a b k →
  (∀ d v H', k d → Sub H H' → (∀ G', Sub G G' → (∀ b o, H b = none → H' b = some o → G' b = some o) → Dp K G' v d) → R v H') → r2 v1 v2 H R
def RU (K : PySem.W.Frag) (r2 : V → Hp → VK → Prop) (r : D → (D → Prop) → Prop) : Prop := ∀ G H v1 a (k : D → Prop) (R : VK), Sub G H → RV K G H v1 a → r a k →
  (∀ d v H', k d → Sub H H' → (∀ G', Sub G G' → (∀ b o, H b = none → H' b = some o → G' b = some o) → Dp K G' v d) → R v H') → r2 v1 H R
def RA (K : PySem.W.Frag) (r2 : List V → Hp → VK → Prop) (r : List D → (D → Prop) → Prop) : Prop := ∀ G H vs ds (k : D → Prop) (R : VK), Sub G H → Al (RV K G H) vs ds → r ds k →
  (∀ d v H', k d → Sub H H' → (∀ G', Sub G G' → (∀ b o, H b = none → H' b = some o → G' b = some o) → Dp K G' v d) → R v H') → r2 vs H R

section
variable {K : PySem.W.Frag} {E : XK} {H0 H H' : Hp} {iv : Addr → Prop} {as as' : List Addr} {e e' : En} {σ σ' : L2.St}
theorem LX.on {X : PX} (h : LX K H0 iv as e σ H X E) (l : Ltr iv as e.ob H as' e'.ob H') : LX K H0 iv as' e' σ H' X E := fun x cls d as2 e2 H2 hx s l2 r => h x cls d as2 e2 H2 hx s (l.trans l2) r
theorem KE.on {Q} {R : VK} (h : KE K H0 iv as e σ H Q R) (l : Ltr iv as e.ob H as' e'.ob H') : KE K H0 iv as' e' σ H' Q R := fun v w as2 e2 H2 hx s l2 r => h v w as2 e2 H2 hx s (l.trans l2) r
theorem KT.on {Q} {R : Bool → Hp → Prop} (h : KT K H0 iv as e σ H Q R) (l : Ltr iv as e.ob H as' e'.ob H') : KT K H0 iv as' e' σ H' Q R := fun v as2 e2 H2 hx s l2 => h v as2 e2 H2 hx s (l.trans l2)
theorem KN.on {N} {f : L2.St → Hp → Prop} (h : KN K H0 iv as e H N f) (l : Ltr iv as e.ob H as' e'.ob H') : KN K H0 iv as' e' H' N f := fun as2 e2 σ2 H2 hx s l2 => h as2 e2 σ2 H2 hx s (l.trans l2)
theorem KR.on {N} {f : VK} (h : KR K H0 iv as e H N f) (l : Ltr iv as e.ob H as' e'.ob H') : KR K H0 iv as' e' H' N f := fun v d as2 e2 σ2 H2 hx s l2 r => h v d as2 e2 σ2 H2 hx s (l.trans l2) r
theorem KX.on {X : PX} (h : KX K H0 iv as e H X E) (l : Ltr iv as e.ob H as' e'.ob H') : KX K H0 iv as' e' H' X E := fun x cls d as2 e2 σ2 H2 hx s l2 r => h x cls d as2 e2 σ2 H2 hx s (l.trans l2) r
theorem KX.lx {X : PX} (h : KX K H0 iv as e H X E) : LX K H0 iv as e σ H X E := fun x cls d as' e' H' a b c q => h x cls d as' e' σ H' a b c q
theorem asD_wr {v : V} {w : Wv} {d : D} (S : SR K H0 iv as e σ H) (h : WR K (hid iv as e.ob H) as v w) (hd : asD e.ob w = some d) : Dp K (hid iv as e.ob H) v d := by
  cases w with
  | dat d' => simp only [asD] at hd; cases hd; exact h
  | ref k =>
    obtain ⟨a, h1, rfl⟩ := h
    simp only [asD] at hd
    split at hd
    · rename_i d2 hk
      cases hd
      exact S.obs k a _ h1 hk
    · cases hd
theorem vwD_wr {v : V} {w : Wv} {d : D} (S : SR K H0 iv as e σ H) (h : WR K (hid iv as e.ob H) as v w) (hd : vwD e.ob w = some d) : RV K (hid iv as e.ob H) H v d := by
  cases w with
  | dat d' => simp only [vwD] at hd; cases hd; exact .inl h
  | ref k =>
    obtain ⟨a, h1, rfl⟩ := h
    simp only [vwD] at hd
    split at hd
    · rename_i d2 hk
      cases hd
      exact .inl (S.obs k a _ h1 hk)
    · rename_i ds hk
      cases hd
      obtain ⟨xs, q, r⟩ := S.obs k a _ h1 hk
      exact .inr (.inl ⟨a, xs, ds, rfl, q, r, rfl⟩)
    · rename_i ds hk
      cases hd
      obtain ⟨xs, q, r⟩ := S.obs k a _ h1 hk
      exact .inr (.inr ⟨a, xs, ds, rfl, q, r, rfl⟩)
    · cases hd
theorem kV_elim {w : Wv} {k : D → Prop} (h : kV' e w k) : ∃ d, vwD e.ob w = some d ∧ k d := by
  unfold kV' at h
  split at h
  · exact ⟨_, by assumption, h⟩
  · exact h.elim
theorem kD_elim {w : Wv} {k : D → Prop} (h : kD e w k) : ∃ d, asD e.ob w = some d ∧ k d := by
  unfold kD at h
  split at h
  · exact ⟨_, by assumption, h⟩
  · exact h.elim
theorem kO_elim {w : Wv} {k : Nat → Ob → Prop} (h : kO e w k) : ∃ n o, w = .ref n ∧ e.ob[n]? = some o ∧ k n o := by
  unfold kO at h
  split at h
  · split at h
    · exact ⟨_, _, rfl, by assumption, h⟩
    · exact h.elim
  · exact h.elim
end

/-! ### expressions -/
def pVar (i : Nat) : PTE := fun _ e Q => match e.sl[i]? with
  | some (some w) => Q w e
  | _ => False
def pC (d : D) : PTE := fun _ e Q => Q (.dat d) e
def pBin (r : D → D → (D → Prop) → Prop) (pa pb : PTE) : PTE := fun X e Q => pa X e fun x e1 => pb X e1 fun y e2 => kV' e2 x fun a => kV' e2 y fun b => r a b fun d => Q (.dat d) e2
def pUn (r : D → (D → Prop) → Prop) (pa : PTE) : PTE := fun X e Q => pa X e fun x e1 => kV' e1 x fun a => r a fun d => Q (.dat d) e1
def pNil : PTA := fun _ e Q => Q [] e
def pCons (pa : PTE) (pr : PTA) : PTA := fun X e Q => pa X e fun w e1 => pr X e1 fun ws e2 => Q (w :: ws) e2
/-- all arguments data -/
def asDs (ob : List Ob) : List Wv → Option (List D)
  | [] => some []
  | w :: ws => match asD ob w, asDs ob ws with
    | some d, some ds => some (d :: ds)
    | _, _ => none
def kDs (e : En) (ws : List Wv) (k : List D → Prop) : Prop := match asDs e.ob ws with
  | some ds => k ds
  | none => False
def vwDs (ob : List Ob) : List Wv → Option (List D)
  | [] => some []
  | w :: ws => match vwD ob w, vwDs ob ws with
    | some d, some ds => some (d :: ds)
    | _, _ => none
def kVs (e : En) (ws : List Wv) (k : List D → Prop) : Prop := match vwDs e.ob ws with
  | some ds => k ds
  | none => False
def pApp (r : List D → (D → Prop) → Prop) (pa : PTA) : PTE := fun X e Q => pa X e fun ws e1 => kVs e1 ws fun ds => r ds fun d => Q (.dat d) e1
def fits (ds : List D) (k : Prop) : Prop := match Nat.ble ds.length 1000 with
  | true => k
  | false => False
theorem fits_elim {ds : List D} {k : Prop} (h : fits ds k) : ds.length ≤ 1000 ∧ k := by
  unfold fits at h
  split at h
  · rename_i q; exact ⟨Nat.le_of_ble_eq_true q, h⟩
  · exact h.elim
theorem size1000 {n : Nat} (h : n ≤ 1000) : n ≤ sizeLine := Nat.le_trans h (by decide)
def pTup (pa : PTA) : PTE := fun X e Q => pa X e fun ws e1 => kDs e1 ws fun ds => fits ds (Q (.dat (.tuple ds)) e1)
def pLst (pa : PTA) : PTE := fun X e Q => pa X e fun ws e1 => kDs e1 ws fun ds => fits ds (Q (.dat (.list ds)) e1)
/-- a list display that the def will change -/
def pLstO (pa : PTA) : PTE := fun X e Q => pa X e fun ws e1 => kDs e1 ws fun ds => fits ds (Q (.ref e1.ob.length) ⟨e1.sl, e1.ob ++ [.lst ds]⟩)
/-- a name whose list will not change any more -/
def pFrz (i : Nat) : PTE := fun _ e Q => match e.sl[i]? with
  | some (some (.ref k)) => match e.ob[k]? with
    | some (.lst ds) => Q (.dat (.list ds)) ⟨e.sl, e.ob.set k (.frz (.list ds))⟩
    | some (.frz d) => Q (.dat d) e
    | _ => False
  | some (some (.dat d)) => Q (.dat d) e
  | _ => False
def pIf (pt : PTT) (pa pb : PTE) : PTE := fun X e Q => pt X e fun b e1 => (b = true → pa X e1 Q) ∧ (b = false → pb X e1 Q)
def kB (e : En) (w : Wv) (k : Bool → Prop) : Prop := kD e w fun d => match d with
  | .bool b => k b
  | _ => False
theorem kB_elim {e : En} {w : Wv} {k : Bool → Prop} (h : kB e w k) : ∃ b, asD e.ob w = some (.bool b) ∧ k b := by
  obtain ⟨d, h1, h2⟩ := kD_elim h
  cases d <;> first | exact h2.elim | exact ⟨_, h1, h2⟩
def pAndV (pa pb : PTE) : PTE := fun X e Q => pa X e fun x e1 => kB e1 x fun c => (c = true → pb X e1 Q) ∧ (c = false → Q (.dat (.bool false)) e1)
def pOrV (pa pb : PTE) : PTE := fun X e Q => pa X e fun x e1 => kB e1 x fun c => (c = true → Q (.dat (.bool true)) e1) ∧ (c = false → pb X e1 Q)
def pNotV (pa : PTE) : PTE := fun X e Q => pa X e fun x e1 => kB e1 x fun c => Q (.dat (.bool (!c))) e1
/-! ### tests -/
def pTst (pa : PTE) : PTT := fun X e Q => pa X e fun x e1 => kB e1 x fun c => Q c e1
def pAnd (p q : PTT) : PTT := fun X e Q => p X e fun c e1 => (c = true → q X e1 Q) ∧ (c = false → Q false e1)
def pOr (p q : PTT) : PTT := fun X e Q => p X e fun c e1 => (c = true → Q true e1) ∧ (c = false → q X e1 Q)
def pNot (p : PTT) : PTT := fun X e Q => p X e fun c e1 => Q (!c) e1
def pYes : PTT := fun _ e Q => Q true e

section
variable {K : PySem.W.Frag} {E : XK} {ta tb te : TE} {tr : TA} {t u : TT} {pa pb p : PTE} {pr : PTA} {q r : PTT} {i : Nat}
theorem snd_var : SndE K E (tVar i) (pVar i) := ⟨fun H0 iv as e σ H X Q R S h k _ => by
  unfold pVar at h
  split at h
  · rename_i w hw
    obtain ⟨v, h1, h2⟩ := S.sls i w hw
    exact ⟨v, h1, k v w as e H h S Ltr.refl h2⟩
  · exact h.elim⟩
theorem snd_frz : SndE K E (tVar i) (pFrz i) := ⟨fun H0 iv as e σ H X Q R S h k _ => by
  unfold pFrz at h
  split at h
  · rename_i n hw
    obtain ⟨v, h1, a, h2, rfl⟩ := S.sls i _ hw
    split at h
    · rename_i ds ho
      obtain ⟨S', l⟩ := S.freeze h2 ho
      have hk : n < e.ob.length := (List.getElem?_eq_some_iff.mp ho).1
      exact ⟨_, h1, k _ _ as _ H h S' l (S'.obs n a (.frz (.list ds)) h2 (by simp [hk]))⟩
    · rename_i d ho
      exact ⟨_, h1, k _ _ as e H h S Ltr.refl (S.obs n a _ h2 ho)⟩
    · exact h.elim
  · rename_i d hw
    obtain ⟨v, h1, h2⟩ := S.sls i _ hw
    exact ⟨v, h1, k v _ as e H h S Ltr.refl h2⟩
  · exact h.elim⟩
theorem snd_c {v : V} {d : D} (h : ∀ K' G, Dp K' G v d) : SndE K E (tC v) (pC d) := ⟨fun H0 iv as e σ H X Q R S hq k _ => k v _ as e H hq S Ltr.refl (h _ _)⟩
theorem snd_op {r2 : R2} {rr : D → D → (D → Prop) → Prop} (hr : RS K r2 rr) (ha : SndE K E ta pa) (hb : SndE K E tb pb) : SndE K E (tOp r2 ta tb) (pBin rr pa pb) := ⟨fun H0 iv as e σ H X Q R S h k l => by
  refine ha.run H0 iv as e σ H X _ _ S h (fun x wx as1 e1 H1 h1 S1 l1 w1 => ?_) l
  refine hb.run H0 iv as1 e1 σ H1 X _ _ S1 h1 (fun y wy as2 e2 H2 h2 S2 l2 w2 => ?_) (l.on l1)
  obtain ⟨a, ea, h3⟩ := kV_elim h2
  obtain ⟨b, eb, h4⟩ := kV_elim h3
  refine hr _ H2 x y a b _ R hid_sub (vwD_wr S2 (l2.wr w1) ea) (vwD_wr S2 w2 eb) h4 fun d v H3 hd g hg => ?_
  obtain ⟨S3, l3⟩ := S2.grow g
  exact k v _ as2 e2 H3 hd S3 ((l1.trans l2).trans l3) (hg _ l3.2.1 fun b o n1 n2 => S2.seen n1 n2)⟩
theorem snd_un {r2 : V → Hp → VK → Prop} {rr : D → (D → Prop) → Prop} (hr : RU K r2 rr) (ha : SndE K E ta pa) : SndE K E (tUn r2 ta) (pUn rr pa) := ⟨fun H0 iv as e σ H X Q R S h k l => by
  refine ha.run H0 iv as e σ H X _ _ S h (fun x wx as1 e1 H1 h1 S1 l1 w1 => ?_) l
  obtain ⟨a, ea, h3⟩ := kV_elim h1
  refine hr _ H1 x a _ R hid_sub (vwD_wr S1 w1 ea) h3 fun d v H3 hd g hg => ?_
  obtain ⟨S3, l3⟩ := S1.grow g
  exact k v _ as1 e1 H3 hd S3 (l1.trans l3) (hg _ l3.2.1 fun b o n1 n2 => S1.seen n1 n2)⟩
theorem snd_nil : SndA K E tNil pNil := ⟨fun H0 iv as e σ H X Q R S h k _ => k [] [] as e H h S Ltr.refl Al.nil⟩
theorem snd_cons (ha : SndE K E ta pa) (hr : SndA K E tr pr) : SndA K E (tCons ta tr) (pCons pa pr) := ⟨fun H0 iv as e σ H X Q R S h k l => by
  refine ha.run H0 iv as e σ H X _ _ S h (fun x wx as1 e1 H1 h1 S1 l1 w1 => ?_) l
  refine hr.run H0 iv as1 e1 σ H1 X _ _ S1 h1 (fun vs ws as2 e2 H2 h2 S2 l2 w2 => ?_) (l.on l1)
  exact k _ _ as2 e2 H2 h2 S2 (l1.trans l2) (Al.cons (l2.wr w1) w2)⟩
theorem asDs_wr {H0 H : Hp} {iv : Addr → Prop} {as : List Addr} {e : En} {σ : L2.St} (S : SR K H0 iv as e σ H) : ∀ {vs : List V} {ws : List Wv} {ds : List D}, Al (WR K (hid iv as e.ob H) as) vs ws → asDs e.ob ws = some ds → Al (Dp K (hid iv as e.ob H)) vs ds
  | vs, [], ds, h, hd => by
    rw [h.nil_inv]
    simp only [asDs] at hd
    cases hd
    exact Al.nil
  | vs, w :: ws, ds, h, hd => by
    obtain ⟨x, r, rfl, h1, h2⟩ := h.cons_inv
    simp only [asDs] at hd
    split at hd
    · rename_i d ds' e1 e2
      cases hd
      exact Al.cons (asD_wr S h1 e1) (asDs_wr S h2 e2)
    · cases hd
theorem vwDs_wr {H0 H : Hp} {iv : Addr → Prop} {as : List Addr} {e : En} {σ : L2.St} (S : SR K H0 iv as e σ H) : ∀ {vs : List V} {ws : List Wv} {ds : List D}, Al (WR K (hid iv as e.ob H) as) vs ws → vwDs e.ob ws = some ds → Al (RV K (hid iv as e.ob H) H) vs ds
  | vs, [], ds, h, hd => by
    rw [h.nil_inv]
    simp only [vwDs] at hd
    cases hd
    exact Al.nil
  | vs, w :: ws, ds, h, hd => by
    obtain ⟨x, r, rfl, h1, h2⟩ := h.cons_inv
    simp only [vwDs] at hd
    split at hd
    · rename_i d ds' e1 e2
      cases hd
      exact Al.cons (vwD_wr S h1 e1) (vwDs_wr S h2 e2)
    · cases hd
theorem kVs_elim {e : En} {ws : List Wv} {k : List D → Prop} (h : kVs e ws k) : ∃ ds, vwDs e.ob ws = some ds ∧ k ds := by
  unfold kVs at h
  split at h
  · exact ⟨_, by assumption, h⟩
  · exact h.elim
theorem kDs_elim {e : En} {ws : List Wv} {k : List D → Prop} (h : kDs e ws k) : ∃ ds, asDs e.ob ws = some ds ∧ k ds := by
  unfold kDs at h
  split at h
  · exact ⟨_, by assumption, h⟩
  · exact h.elim
theorem snd_tup (hr : SndA K E tr pr) : SndE K E (tTup tr) (pTup pr) := ⟨fun H0 iv as e σ H X Q R S h k l => by
  refine hr.run H0 iv as e σ H X _ _ S h (fun vs ws as1 e1 H1 h1 S1 l1 w1 => ?_) l
  obtain ⟨ds, ed, h2⟩ := kDs_elim h1
  obtain ⟨hl, h3⟩ := fits_elim h2
  have al := asDs_wr S1 w1 ed
  refine ⟨by rw [al.1]; exact size1000 hl, fun p hp => ?_⟩
  obtain ⟨S2, l2⟩ := S1.grow (Sub.new (o := .tup vs) hp)
  refine k _ _ as1 e1 _ h3 S2 (l1.trans l2) ?_
  exact Dp.tup (.inl (.inl (S1.seen hp upd_same))) (dpAll_al.mpr (al.mono fun _ _ z => l2.dp z))⟩
theorem snd_lst (hr : SndA K E tr pr) : SndE K E (tLst tr) (pLst pr) := ⟨fun H0 iv as e σ H X Q R S h k l => by
  refine hr.run H0 iv as e σ H X _ _ S h (fun vs ws as1 e1 H1 h1 S1 l1 w1 => ?_) l
  obtain ⟨ds, ed, h2⟩ := kDs_elim h1
  obtain ⟨hl, h3⟩ := fits_elim h2
  have al := asDs_wr S1 w1 ed
  refine ⟨by rw [al.1]; exact size1000 hl, fun p hp => ?_⟩
  obtain ⟨S2, l2⟩ := S1.grow (Sub.new (o := .lst vs) hp)
  refine k _ _ as1 e1 _ h3 S2 (l1.trans l2) ?_
  exact Dp.lst (.inl (.inl (S1.seen hp upd_same))) (dpAll_al.mpr (al.mono fun _ _ z => l2.dp z))⟩
theorem snd_lstO (hr : SndA K E tr pr) : SndE K E (tLst tr) (pLstO pr) := ⟨fun H0 iv as e σ H X Q R S h k l => by
  refine hr.run H0 iv as e σ H X _ _ S h (fun vs ws as1 e1 H1 h1 S1 l1 w1 => ?_) l
  obtain ⟨ds, ed, h2⟩ := kDs_elim h1
  obtain ⟨hl, h3⟩ := fits_elim h2
  have al := asDs_wr S1 w1 ed
  refine ⟨by rw [al.1]; exact size1000 hl, fun p hp => ?_⟩
  obtain ⟨S2, l2⟩ := S1.newO (o := .lst ds) (u := .lst vs) hp rfl ⟨vs, upd_same, al⟩
  exact k _ _ _ _ _ h3 S2 (l1.trans l2) ⟨p, by rw [← S1.len]; simp, rfl⟩⟩
theorem snd_if (ht : SndT K E t q) (ha : SndE K E ta pa) (hb : SndE K E tb pb) : SndE K E (tIf t ta tb) (pIf q pa pb) := ⟨fun H0 iv as e σ H X Q R S h k l => by
  refine ht.run H0 iv as e σ H X _ _ S h (fun c as1 e1 H1 h1 S1 l1 => ?_) l
  cases c with
  | true =>
    rw [if_pos rfl]
    exact ha.run H0 iv as1 e1 σ H1 X _ _ S1 (h1.1 rfl) (k.on l1) (l.on l1)
  | false =>
    rw [if_neg Bool.false_ne_true]
    exact hb.run H0 iv as1 e1 σ H1 X _ _ S1 (h1.2 rfl) (k.on l1) (l.on l1)⟩
theorem dp_bool {G : Hp} {v : V} {b : Bool} (h : Dp K G v (.bool b)) : v = .bl b := by cases h; rfl
theorem dp_int {G : Hp} {v : V} {b : Int} (h : Dp K G v (.int b)) : v = .int b := by cases h; rfl
theorem snd_andV (ha : SndE K E ta pa) (hb : SndE K E tb pb) : SndE K E (tAndV ta tb) (pAndV pa pb) := ⟨fun H0 iv as e σ H X Q R S h k l => by
  refine ha.run H0 iv as e σ H X _ _ S h (fun x w as1 e1 H1 h1 S1 l1 w1 => ?_) l
  obtain ⟨c, ec, h2⟩ := kB_elim h1
  refine ⟨c, dp_bool (asD_wr S1 w1 ec), ?_⟩
  cases c with
  | true =>
    rw [if_pos rfl]
    exact hb.run H0 iv as1 e1 σ H1 X _ _ S1 (h2.1 rfl) (k.on l1) (l.on l1)
  | false =>
    rw [if_neg Bool.false_ne_true]
    exact k _ _ as1 e1 H1 (h2.2 rfl) S1 l1 (Dp.bl false)⟩
theorem snd_orV (ha : SndE K E ta pa) (hb : SndE K E tb pb) : SndE K E (tOrV ta tb) (pOrV pa pb) := ⟨fun H0 iv as e σ H X Q R S h k l => by
  refine ha.run H0 iv as e σ H X _ _ S h (fun x w as1 e1 H1 h1 S1 l1 w1 => ?_) l
  obtain ⟨c, ec, h2⟩ := kB_elim h1
  refine ⟨c, dp_bool (asD_wr S1 w1 ec), ?_⟩
  cases c with
  | false =>
    rw [if_neg Bool.false_ne_true]
    exact hb.run H0 iv as1 e1 σ H1 X _ _ S1 (h2.2 rfl) (k.on l1) (l.on l1)
  | true =>
    rw [if_pos rfl]
    exact k _ _ as1 e1 H1 (h2.1 rfl) S1 l1 (Dp.bl true)⟩
theorem snd_notV (ha : SndE K E ta pa) : SndE K E (tNotV ta) (pNotV pa) := ⟨fun H0 iv as e σ H X Q R S h k l => by
  refine ha.run H0 iv as e σ H X _ _ S h (fun x w as1 e1 H1 h1 S1 l1 w1 => ?_) l
  obtain ⟨c, ec, h2⟩ := kB_elim h1
  exact ⟨c, dp_bool (asD_wr S1 w1 ec), k _ _ as1 e1 H1 h2 S1 l1 (Dp.bl _)⟩⟩
theorem snd_tst (ha : SndE K E ta pa) : SndT K E (tTest ta) (pTst pa) := ⟨fun H0 iv as e σ H X Q R S h k l => by
  refine ha.run H0 iv as e σ H X _ _ S h (fun x w as1 e1 H1 h1 S1 l1 w1 => ?_) l
  obtain ⟨c, ec, h2⟩ := kB_elim h1
  exact ⟨c, dp_bool (asD_wr S1 w1 ec), k c as1 e1 H1 h2 S1 l1⟩⟩
theorem snd_tB (ha : SndE K E ta pa) : SndT K E (tB ta) (pTst pa) := ⟨fun H0 iv as e σ H X Q R S h k l => by
  refine ha.run H0 iv as e σ H X _ _ S h (fun x w as1 e1 H1 h1 S1 l1 w1 => ?_) l
  obtain ⟨c, ec, h2⟩ := kB_elim h1
  exact ⟨c, dp_bool (asD_wr S1 w1 ec), k c as1 e1 H1 h2 S1 l1⟩⟩
theorem snd_and (h1 : SndT K E t q) (h2 : SndT K E u r) : SndT K E (tAnd t u) (pAnd q r) := ⟨fun H0 iv as e σ H X Q R S h k l => by
  refine h1.run H0 iv as e σ H X _ _ S h (fun c as1 e1 H1 hc S1 l1 => ?_) l
  cases c with
  | true =>
    rw [if_pos rfl]
    exact h2.run H0 iv as1 e1 σ H1 X _ _ S1 (hc.1 rfl) (k.on l1) (l.on l1)
  | false =>
    rw [if_neg Bool.false_ne_true]
    exact k _ as1 e1 H1 (hc.2 rfl) S1 l1⟩
theorem snd_or (h1 : SndT K E t q) (h2 : SndT K E u r) : SndT K E (tOr t u) (pOr q r) := ⟨fun H0 iv as e σ H X Q R S h k l => by
  refine h1.run H0 iv as e σ H X _ _ S h (fun c as1 e1 H1 hc S1 l1 => ?_) l
  cases c with
  | false =>
    rw [if_neg Bool.false_ne_true]
    exact h2.run H0 iv as1 e1 σ H1 X _ _ S1 (hc.2 rfl) (k.on l1) (l.on l1)
  | true =>
    rw [if_pos rfl]
    exact k _ as1 e1 H1 (hc.1 rfl) S1 l1⟩
theorem snd_not (h1 : SndT K E t q) : SndT K E (tNot t) (pNot q) := ⟨fun H0 iv as e σ H X Q R S h k l => 
  h1.run H0 iv as e σ H X _ _ S h (fun c as1 e1 H1 hc S1 l1 => k _ as1 e1 H1 hc S1 l1) l⟩
theorem snd_yes : SndT K E tYes pYes := ⟨fun H0 iv as e σ H X Q R S h k l => k true as e H h S Ltr.refl⟩
/-- a call of a built-in, arguments data -/
theorem snd_cb {r2 : List V → Hp → VK → Prop} {rr : List D → (D → Prop) → Prop} (hr : RA K r2 rr) (ha : SndA K E tr pr) : SndE K E (tCB r2 tr) (pApp rr pr) := ⟨fun H0 iv as e σ H X Q R S h k l => by
  refine ha.run H0 iv as e σ H X _ _ S h (fun vs ws as1 e1 H1 h1 S1 l1 w1 => ?_) l
  obtain ⟨ds, ed, h2⟩ := kVs_elim h1
  refine hr _ H1 vs ds _ R hid_sub (vwDs_wr S1 w1 ed) h2 fun d v H3 hd g hg => ?_
  obtain ⟨S3, l3⟩ := S1.grow g
  exact k v _ as1 e1 H3 hd S3 (l1.trans l3) (hg _ l3.2.1 fun b o n1 n2 => S1.seen n1 n2)⟩
end
end PL

/-! Statements, targets, loops, comprehensions. -/
namespace PL
open PySem PySem.Spec PyProof.Rows L2

def pSeq (p q : PTS) : PTS := fun P e => p { P with nx := q P } e
def pNext : PTS := fun P e => P.nx e
def pBrk : PTS := fun P e => P.bk e
def pCnt : PTS := fun P e => P.ct e
def pDrop (p : PTE) : PTS := fun P e => p P.xe e fun _ e1 => P.nx e1
def pRet (p : PTE) : PTS := fun P e => p P.xe e fun w e1 => kD e1 w fun d => P.rt (.dat d) e1
/-- what is handed back is an object of the def's own -/
def pRetO (p : PTE) : PTS := fun P e => p P.xe e fun w e1 => P.rt w e1
def pRetN : PTS := fun P e => P.rt (.dat .none) e
def pIfS (pt : PTT) (p q : PTS) : PTS := fun P e => pt P.xe e fun b e1 => (b = true → p P e1) ∧ (b = false → q P e1)
def pAsg (p : PTE) (g : PTG) : PTS := fun P e => p P.xe e fun w e1 => g w e1 P.nx
def pAug (i : Nat) (p : PTE) (f : Int → Int → Int) : PTS := fun P e => match e.sl[i]? with
  | some (some (.dat (.int a))) => p P.xe e fun w e1 => kD e1 w fun d => match d with
    | .int b => P.nx ⟨e1.sl.set i (some (.dat (.int (f a b)))), e1.ob⟩
    | _ => False
  | _ => False
def wipeE (sl : List (Option Wv)) : List Nat → List (Option Wv)
  | [] => sl
  | v :: vs => (wipeE sl vs).set v none
/-- some slots forgotten -/
def wp (vs : List Nat) (e : En) : En := ⟨wipeE e.sl vs, e.ob⟩
theorem SR.forg1 {K : PySem.W.Frag} {H0 H : Hp} {iv : Addr → Prop} {as : List Addr} {e : En} {σ : L2.St} {i : Nat} (S : SR K H0 iv as e σ H) : SR K H0 iv as ⟨e.sl.set i none, e.ob⟩ σ H := by
  refine ⟨S.ext, S.ivs, S.len, S.inj, S.tr, S.niv, S.fr, S.obs, by simp [S.slen], fun j w q => ?_⟩
  by_cases hj : i = j
  · subst hj
    have hi : i < e.sl.length := by have := (List.getElem?_eq_some_iff.mp q).1; simpa using this
    simp only [] at q
    rw [List.getElem?_set_self hi] at q
    cases q
  · simp only [] at q
    rw [List.getElem?_set_ne hj] at q
    exact S.sls j w q
theorem SR.forg {K : PySem.W.Frag} {H0 H : Hp} {iv : Addr → Prop} {as : List Addr} {e : En} {σ : L2.St} (S : SR K H0 iv as e σ H) : ∀ vs : List Nat, SR K H0 iv as (wp vs e) σ H
  | [] => S
  | v :: vs => (S.forg vs).forg1
def pWhile (pt : PTT) (b : PTS) : PTS := fun P e => ∃ (vs : List Nat) (I : Nat → En → Prop), (∃ m, I m (wp vs e)) ∧ ∀ m e', I m e' → pt P.xe e' fun c e1 => (c = true → b { P with nx := fun e2 => ∃ m', m' < m ∧ I m' (wp vs e2), ct := fun e2 => ∃ m', m' < m ∧ I m' (wp vs e2), bk := P.nx } e1) ∧ (c = false → P.nx e1)
def pFor (p : PTI) (g : PTG) (b : PTS) : PTS := fun P e => p P.xe e fun ds e1 => ∃ (vs : List Nat) (I : Nat → En → Prop), I 0 (wp vs e1) ∧
  (∀ i d e', ds[i]? = some d → I i e' → g (.dat d) e' fun e2 => b { P with nx := fun e3 => I (i + 1) (wp vs e3), ct := fun e3 => I (i + 1) (wp vs e3), bk := P.nx } e2) ∧ ∀ e', I ds.length e' → P.nx e'
/-! ### targets -/
def pName (i : Nat) : PTG := fun w e Q => Q ⟨e.sl.set i (some w), e.ob⟩
def pTup2 (i j : Nat) : PTG := fun w e Q => kD e w fun d => match d with
  | .tuple [a, b] => Q ⟨(e.sl.set i (some (.dat a))).set j (some (.dat b)), e.ob⟩
  | _ => False
section
variable {K : PySem.W.Frag} {E : XK} {ta tb te : TE} {tr : TA} {t u : TT} {pa pb p : PTE} {pr : PTA} {q r : PTT} {i : Nat} {ts us : TS} {ps qs : PTS} {g : TG} {pg : PTG} {wi : TI} {pi : PTI} {vs : List Nat}
theorem snd_seq (h1 : SndS K E ts ps) (h2 : SndS K E us qs) : SndS K E (tSeq ts us) (pSeq ps qs) := ⟨fun H0 iv as e σ H P F S h n b c r x =>
  h1.run H0 iv as e σ H { P with nx := qs P } { F with nx := us F } S h (fun as1 e1 σ1 H1 k S1 l1 => h2.run H0 iv as1 e1 σ1 H1 P F S1 k (n.on l1) (b.on l1) (c.on l1) (r.on l1) (x.on l1)) b c r x⟩
theorem snd_next : SndS K E tNext pNext := ⟨fun H0 iv as e σ H P F S h n b c r x => n as e σ H h S Ltr.refl⟩
theorem snd_brk : SndS K E tBreak pBrk := ⟨fun H0 iv as e σ H P F S h n b c r x => b as e σ H h S Ltr.refl⟩
theorem snd_cnt : SndS K E tCont pCnt := ⟨fun H0 iv as e σ H P F S h n b c r x => c as e σ H h S Ltr.refl⟩
theorem snd_drop (ha : SndE K E te p) : SndS K E (tDrop te) (pDrop p) := ⟨fun H0 iv as e σ H P F S h n b c r x =>
  ha.run H0 iv as e σ H P.xe _ _ S h (fun v w as1 e1 H1 h1 S1 l1 _ => n as1 e1 σ H1 h1 S1 l1) x.lx⟩
theorem snd_ret (ha : SndE K E te p) : SndS K E (tRet te) (pRet p) := ⟨fun H0 iv as e σ H P F S h n b c r x =>
  ha.run H0 iv as e σ H P.xe _ _ S h (fun v w as1 e1 H1 h1 S1 l1 w1 => by
    obtain ⟨d, ed, h2⟩ := kD_elim h1
    exact r v (.dat d) as1 e1 σ H1 h2 S1 l1 (asD_wr S1 w1 ed)) x.lx⟩
theorem snd_retO (ha : SndE K E te p) : SndS K E (tRet te) (pRetO p) := ⟨fun H0 iv as e σ H P F S h n b c r x =>
  ha.run H0 iv as e σ H P.xe _ _ S h (fun v w as1 e1 H1 h1 S1 l1 w1 => r v w as1 e1 σ H1 h1 S1 l1 w1) x.lx⟩
theorem snd_retN : SndS K E tRetN pRetN := ⟨fun H0 iv as e σ H P F S h n b c r x => r _ _ as e σ H h S Ltr.refl Dp.non⟩
theorem snd_ifS (ht : SndT K E t q) (h1 : SndS K E ts ps) (h2 : SndS K E us qs) : SndS K E (tIfS t ts us) (pIfS q ps qs) := ⟨fun H0 iv as e σ H P F S h n b c r x => by
  refine ht.run H0 iv as e σ H P.xe _ _ S h (fun k as1 e1 H1 hk S1 l1 => ?_) x.lx
  cases k with
  | true =>
    rw [if_pos rfl]
    exact h1.run H0 iv as1 e1 σ H1 P F S1 (hk.1 rfl) (n.on l1) (b.on l1) (c.on l1) (r.on l1) (x.on l1)
  | false =>
    rw [if_neg Bool.false_ne_true]
    exact h2.run H0 iv as1 e1 σ H1 P F S1 (hk.2 rfl) (n.on l1) (b.on l1) (c.on l1) (r.on l1) (x.on l1)⟩
theorem snd_asg (ha : SndE K E te p) (hg : SndG K vs g pg) : SndS K E (tAsg te g) (pAsg p pg) := ⟨fun H0 iv as e σ H P F S h n b c r x => by
  refine ha.run H0 iv as e σ H P.xe _ _ S h (fun v w as1 e1 H1 h1 S1 l1 w1 => ?_) x.lx
  refine hg.run H0 iv as1 e1 σ H1 v w _ _ S1 w1 h1 fun e2 σ2 h2 S2 eo _ _ => ?_
  exact n as1 e2 σ2 H1 h2 S2 (by rw [eo]; exact l1)⟩
theorem snd_aug {f : Int → Int → Int} (ha : SndE K E te p) : SndS K E (tAug i te (ipI f)) (pAug i p f) := ⟨fun H0 iv as e σ H P F S h n b c r x => by
  unfold pAug at h
  split at h
  · rename_i a hw
    obtain ⟨v, h1, h2⟩ := S.sls i _ hw
    have hv : v = .int a := dp_int h2
    subst hv
    refine ⟨_, h1, ?_⟩
    refine ha.run H0 iv as e σ H P.xe _ _ S h (fun y w as1 e1 H1 k1 S1 l1 w1 => ?_) x.lx
    obtain ⟨d, ed, k2⟩ := kD_elim k1
    cases d <;> first | exact k2.elim | skip
    rename_i j
    have hy : y = .int j := dp_int (asD_wr S1 w1 ed)
    exact ⟨a, j, rfl, hy, n as1 _ _ H1 k2 (S1.set (w := .dat (.int (f a j))) (Dp.int _)) l1⟩
  · exact h.elim⟩
theorem snd_while (ht : SndT K E t q) (hb : SndS K E ts ps) : SndS K E (tWhile t ts) (pWhile q ps) := ⟨fun H0 iv as e σ H P F S h n b c r x => by
  obtain ⟨ws, I, ⟨m0, i0⟩, hI⟩ := h
  refine ⟨fun m σ' H' => ∃ as' e', I m e' ∧ SR K H0 iv as' e' σ' H' ∧ Ltr iv as e.ob H as' e'.ob H', ⟨m0, as, wp ws e, i0, S.forg ws, Ltr.refl⟩, ?_⟩
  rintro m σ1 H1 ⟨as1, e1, hi, S1, l1⟩
  refine ht.run H0 iv as1 e1 σ1 H1 P.xe _ _ S1 (hI m e1 hi) (fun k as2 e2 H2 hk S2 l2 => ?_) (x.on l1).lx
  cases k with
  | true =>
    rw [if_pos rfl]
    refine ⟨fun σ' H' => ∃ m', m' < m ∧ ∃ as' e', I m' e' ∧ SR K H0 iv as' e' σ' H' ∧ Ltr iv as e.ob H as' e'.ob H', fun σ' H' z => z, ?_⟩
    have l := l1.trans l2
    have back : KN K H0 iv as2 e2 H2 (fun e2 => ∃ m', m' < m ∧ I m' (wp ws e2)) (fun σ' H' => ∃ m', m' < m ∧ ∃ as' e', I m' e' ∧ SR K H0 iv as' e' σ' H' ∧ Ltr iv as e.ob H as' e'.ob H') :=
      fun as3 e3 σ3 H3 ⟨m', hm, hi3⟩ S3 l3 => ⟨m', hm, as3, wp ws e3, hi3, S3.forg ws, l.trans l3⟩
    exact hb.run H0 iv as2 e2 σ1 H2 _ { F with nx := _, ct := _, bk := F.nx } S2 (hk.1 rfl) back (n.on l) back (r.on l) (x.on l)
  | false =>
    rw [if_neg Bool.false_ne_true]
    exact n as2 e2 σ1 H2 (hk.2 rfl) S2 (l1.trans l2)⟩
theorem snd_for (hi : SndI K E wi pi) (hg : SndG K vs g pg) (hb : SndS K E ts ps) : SndS K E (tFor wi g ts) (pFor pi pg ps) := ⟨fun H0 iv as e σ H P F S h n b c r x => by
  refine hi.run H0 iv as e σ H P.xe _ _ S h (fun J ds Z as1 e1 H1 h1 S1 l1 fd z1 => ?_) x.lx
  obtain ⟨ws, I, i0, hs, hd⟩ := h1
  refine ⟨fun i m σ' H' => m = ds.length - i ∧ i ≤ ds.length ∧ ∃ as' e', I i e' ∧ SR K H0 iv as' e' σ' H' ∧ Ltr iv as1 e1.ob H1 as' e'.ob H', ⟨ds.length, by simp, Nat.zero_le _, as1, wp ws e1, i0, S1.forg ws, Ltr.refl⟩, ?_⟩
  rintro i m σ2 H2 ⟨rfl, hle, as2, e2, hI, S2, l2⟩
  have z2 := fd.1 _ _ z1 l2.2.1
  obtain ⟨f1, f2⟩ := fd.2 i _ H2 z2 hid_sub
  by_cases hlt : i < ds.length
  · obtain ⟨go, yl⟩ := f1 ds[i] (List.getElem?_eq_getElem hlt)
    refine .inr ⟨go, fun σ' H' => ∃ as' e', I (i + 1) e' ∧ SR K H0 iv as' e' σ' H' ∧ Ltr iv as1 e1.ob H1 as' e'.ob H', fun σ' H' ⟨as', e', z⟩ => ⟨ds.length - (i + 1), by omega, rfl, hlt, as', e', z⟩, fun y H3 hy => ?_⟩
    obtain ⟨g3, dp3⟩ := yl y H3 hy
    obtain ⟨S3, l3⟩ := S2.grow g3
    have w3 : WR K (hid iv as2 e2.ob H3) as2 y (.dat ds[i]) := dp3 _ l3.2.1 fun b o n1 n2 => S2.seen n1 n2
    refine hg.run H0 iv as2 e2 σ2 H3 y _ _ _ S3 w3 (hs i ds[i] e2 (List.getElem?_eq_getElem hlt) hI) fun e4 σ4 h4 S4 eo _ _ => ?_
    have l4 : Ltr iv as1 e1.ob H1 as2 e4.ob H3 := by rw [eo]; exact l2.trans l3
    have back : KN K H0 iv as2 e4 H3 (fun e3 => I (i + 1) (wp ws e3)) (fun σ' H' => ∃ as' e', I (i + 1) e' ∧ SR K H0 iv as' e' σ' H' ∧ Ltr iv as1 e1.ob H1 as' e'.ob H') :=
      fun as5 e5 σ5 H5 hi5 S5 l5 => ⟨as5, wp ws e5, hi5, S5.forg ws, l4.trans l5⟩
    have l := l1.trans l4
    exact hb.run H0 iv as2 e4 σ4 H3 _ { F with nx := _, ct := _, bk := F.nx } S4 h4 back (n.on l) back (r.on l) (x.on l)
  · have hi : i = ds.length := by omega
    subst hi
    exact .inl ⟨f2 (Nat.le_refl _), n as2 e2 σ2 H2 (hd e2 hI) S2 (l1.trans l2)⟩⟩
theorem sg_name : SndG K [i] (gName i) (pName i) := ⟨fun H0 iv as e σ H v w Q R S hw h k =>
  k _ _ h (S.set hw) rfl (by simp) fun j hj => List.getElem?_set_ne (fun q => hj (by simp [q]))⟩
theorem dp_tup2 {G : Hp} {v : V} {a b : D} (h : Dp K G v (.tuple [a, b])) : ∃ p x y, v = .ref p ∧ SqT K G p [x, y] ∧ Dp K G x a ∧ Dp K G y b := by
  cases h with
  | tup hs hd =>
    cases hd with
    | cons h1 h2 =>
      cases h2 with
      | cons h3 h4 =>
        cases h4
        exact ⟨_, _, _, rfl, hs, h1, h3⟩
theorem sg_tup2 {j : Nat} : SndG K [i, j] (gTup K 2 (gCons (gName i) (gCons (gName j) gNil))) (pTup2 i j) := ⟨fun H0 iv as e σ H v w Q R S hw h k => by
  obtain ⟨d, ed, h1⟩ := kD_elim h
  split at h1
  · rename_i a b
    obtain ⟨p, x, y, rfl, hs, ha, hb⟩ := dp_tup2 (asD_wr S hw ed)
    refine ⟨p, [x, y], rfl, sqt_sub hid_sub hs, rfl, x, [y], rfl, y, [], rfl, rfl, ?_⟩
    have S1 := S.set (i := i) (v := x) (w := .dat a) ha
    have S2 := S1.set (i := j) (v := y) (w := .dat b) hb
    refine k _ _ h1 S2 rfl (by simp) fun n hn => ?_
    simp only [List.mem_cons, not_or, List.not_mem_nil] at hn
    rw [List.getElem?_set_ne (Ne.symm hn.2.1), List.getElem?_set_ne (Ne.symm hn.1)]
  · exact h1.elim⟩
theorem SndG.wide {ws : List Nat} (h : SndG K vs g pg) (s : ∀ i ∈ vs, i ∈ ws) : SndG K ws g pg := ⟨fun H0 iv as e σ H v w Q R S hw hq k =>
  h.run H0 iv as e σ H v w Q R S hw hq fun e' σ' a b c d f => k e' σ' a b c d fun i hi => f i fun z => hi (s i z)⟩
end

/-! ### what is walked -/
def pIt (p : PTE) : PTI := fun X e Q => p X e fun w e1 => kD e1 w fun d => match d with
  | .list ds => Q ds e1
  | _ => False
def pItT (p : PTE) : PTI := fun X e Q => p X e fun w e1 => kD e1 w fun d => match d with
  | .tuple ds => Q ds e1
  | _ => False
def intsD (lo : Int) (n : Nat) : List D := (List.range n).map fun k => .int (lo + (k : Nat))
theorem ints_at {lo : Int} {n i : Nat} {d : D} : (intsD lo n)[i]? = some d ↔ i < n ∧ d = .int (lo + (i : Nat)) := by
  unfold intsD
  rw [List.getElem?_map]
  by_cases h : i < n
  · rw [List.getElem?_range h]
    simp [h, eq_comm]
  · rw [List.getElem?_eq_none (by simpa using h)]
    simp [h]
theorem ints_len {lo : Int} {n : Nat} : (intsD lo n).length = n := by simp [intsD]
def pRng1 (p : PTA) : PTI := fun X e Q => p X e fun ws e1 => kDs e1 ws fun ds => match ds with
  | [.int n] => (-(2 ^ 62) ≤ n ∧ n < 2 ^ 62) ∧ Q (intsD 0 n.toNat) e1
  | _ => False
def pRng2 (p : PTA) : PTI := fun X e Q => p X e fun ws e1 => kDs e1 ws fun ds => match ds with
  | [.int m, .int n] => (-(2 ^ 62) ≤ m ∧ m < 2 ^ 62 ∧ -(2 ^ 62) ≤ n ∧ n < 2 ^ 62) ∧ Q (intsD m (n - m).toNat) e1
  | _ => False
/-- enumerate of a list -/
def nums (ds : List D) : List D := ds.mapIdx fun i d => .tuple [.int (i : Int), d]
theorem nums_at {ds : List D} {i : Nat} {d : D} : (nums ds)[i]? = some d ↔ ∃ x, ds[i]? = some x ∧ d = .tuple [.int (i : Int), x] := by
  unfold nums
  rw [List.getElem?_mapIdx]
  cases ds[i]? <;> simp [eq_comm]
theorem nums_len {ds : List D} : (nums ds).length = ds.length := by simp [nums]
def pEnum (p : PTA) : PTI := fun X e Q => p X e fun ws e1 => kDs e1 ws fun ds => match ds with
  | [.list xs] => Q (nums xs) e1
  | _ => False
section
variable {K : PySem.W.Frag} {E : XK} {te : TE} {p : PTE} {ta : TA} {pa : PTA}
theorem feeds_l {a : Addr} {ds : List D} : Feeds K (Itl K a) ds (fun G => Dp K G (.ref a) (.list ds)) := by
  refine ⟨fun G G' h s => dp_sub s _ _ h, fun i G H h s => ?_⟩
  cases h with
  | lst hs hd =>
    rename_i xs
    have al := dpAll_al.mp hd
    refine ⟨fun d hd => ?_, fun hl => ⟨xs, sql_sub s hs, by rw [al.1]; exact hl⟩⟩
    obtain ⟨v, e1, r1⟩ := al.get hd
    refine ⟨⟨xs, v, sql_sub s hs, e1⟩, fun x H' hy => ?_⟩
    obtain ⟨rfl, hx⟩ := hy
    refine ⟨Sub.refl _, fun G' g _ => ?_⟩
    have e2 := hx xs (sql_sub s hs)
    rw [e1] at e2
    cases e2
    exact dp_sub g _ _ r1
theorem feeds_t {a : Addr} {ds : List D} : Feeds K (Itt K a) ds (fun G => Dp K G (.ref a) (.tuple ds)) := by
  refine ⟨fun G G' h s => dp_sub s _ _ h, fun i G H h s => ?_⟩
  cases h with
  | tup hs hd =>
    rename_i xs
    have al := dpAll_al.mp hd
    refine ⟨fun d hd => ?_, fun hl => ⟨xs, sqt_sub s hs, by rw [al.1]; exact hl⟩⟩
    obtain ⟨v, e1, r1⟩ := al.get hd
    refine ⟨⟨xs, v, sqt_sub s hs, e1⟩, fun x H' hy => ?_⟩
    obtain ⟨rfl, hx⟩ := hy
    refine ⟨Sub.refl _, fun G' g _ => ?_⟩
    have e2 := hx xs (sqt_sub s hs)
    rw [e1] at e2
    cases e2
    exact dp_sub g _ _ r1
theorem feeds_r {lo : Int} {n : Nat} : Feeds K (Itr lo n) (intsD lo n) (fun _ => True) := by
  refine ⟨fun _ _ _ _ => trivial, fun i G H _ s => ⟨fun d hd => ?_, fun hl => by rw [ints_len] at hl; exact hl⟩⟩
  obtain ⟨h1, rfl⟩ := ints_at.mp hd
  refine ⟨h1, fun x H' hy => ?_⟩
  obtain ⟨rfl, rfl⟩ := hy
  exact ⟨Sub.refl _, fun _ _ _ => Dp.int _⟩
theorem dp_list {G : Hp} {v : V} {ds : List D} (h : Dp K G v (.list ds)) : ∃ a xs, v = .ref a ∧ SqL K G a xs ∧ Al (Dp K G) xs ds := by
  cases h with
  | lst hs hd => exact ⟨_, _, rfl, hs, dpAll_al.mp hd⟩
theorem dp_tuple {G : Hp} {v : V} {ds : List D} (h : Dp K G v (.tuple ds)) : ∃ a xs, v = .ref a ∧ SqT K G a xs ∧ Al (Dp K G) xs ds := by
  cases h with
  | tup hs hd => exact ⟨_, _, rfl, hs, dpAll_al.mp hd⟩
theorem si_list (h : SndE K E te p) : SndI K E (iList K te) (pIt p) := ⟨fun H0 iv as e σ H X Q R S hq k l => by
  refine h.run H0 iv as e σ H X _ _ S hq (fun v w as1 e1 H1 h1 S1 l1 w1 => ?_) l
  obtain ⟨d, ed, h2⟩ := kD_elim h1
  split at h2
  · rename_i ds
    have dp := asD_wr S1 w1 ed
    obtain ⟨a, xs, rfl, hs, al⟩ := dp_list dp
    exact ⟨a, rfl, ⟨xs, sql_sub hid_sub hs⟩, k _ ds _ as1 e1 H1 h2 S1 l1 feeds_l dp⟩
  · exact h2.elim⟩
theorem si_tup (h : SndE K E te p) : SndI K E (iTup K te) (pItT p) := ⟨fun H0 iv as e σ H X Q R S hq k l => by
  refine h.run H0 iv as e σ H X _ _ S hq (fun v w as1 e1 H1 h1 S1 l1 w1 => ?_) l
  obtain ⟨d, ed, h2⟩ := kD_elim h1
  split at h2
  · rename_i ds
    have dp := asD_wr S1 w1 ed
    obtain ⟨a, xs, rfl, hs, al⟩ := dp_tuple dp
    exact ⟨a, rfl, ⟨xs, sqt_sub hid_sub hs⟩, k _ ds _ as1 e1 H1 h2 S1 l1 feeds_t dp⟩
  · exact h2.elim⟩
theorem al_ints1 {G : Hp} {vs : List V} {i : Int} (h : Al (Dp K G) vs [.int i]) : vs = [.int i] := by
  obtain ⟨x, r, rfl, h1, h2⟩ := h.cons_inv
  rw [h2.nil_inv, dp_int h1]
theorem al_ints2 {G : Hp} {vs : List V} {i j : Int} (h : Al (Dp K G) vs [.int i, .int j]) : vs = [.int i, .int j] := by
  obtain ⟨x, r, rfl, h1, h2⟩ := h.cons_inv
  rw [al_ints1 h2, dp_int h1]
theorem si_rng1 (h : SndA K E ta pa) : SndI K E (iRng1 ta) (pRng1 pa) := ⟨fun H0 iv as e σ H X Q R S hq k l => by
  refine h.run H0 iv as e σ H X _ _ S hq (fun vs ws as1 e1 H1 h1 S1 l1 w1 => ?_) l
  obtain ⟨ds, ed, h2⟩ := kDs_elim h1
  split at h2
  · rename_i n
    obtain ⟨⟨b1, b2⟩, h3⟩ := h2
    exact ⟨n, al_ints1 (asDs_wr S1 w1 ed), b1, b2, k _ _ _ as1 e1 H1 h3 S1 l1 feeds_r trivial⟩
  · exact h2.elim⟩
theorem si_rng2 (h : SndA K E ta pa) : SndI K E (iRng2 ta) (pRng2 pa) := ⟨fun H0 iv as e σ H X Q R S hq k l => by
  refine h.run H0 iv as e σ H X _ _ S hq (fun vs ws as1 e1 H1 h1 S1 l1 w1 => ?_) l
  obtain ⟨ds, ed, h2⟩ := kDs_elim h1
  split at h2
  · rename_i m n
    obtain ⟨bs, h3⟩ := h2
    exact ⟨m, n, al_ints2 (asDs_wr S1 w1 ed), bs, k _ _ _ as1 e1 H1 h3 S1 l1 feeds_r trivial⟩
  · exact h2.elim⟩
theorem feeds_e {a : Addr} {ds : List D} : Feeds K (Ite K a) (nums ds) (fun G => Dp K G (.ref a) (.list ds)) := by
  refine ⟨fun G G' h s => dp_sub s _ _ h, fun i G H h s => ?_⟩
  cases h with
  | lst hs hd =>
    rename_i xs
    have al := dpAll_al.mp hd
    refine ⟨fun d hd => ?_, fun hl => ⟨xs, sql_sub s hs, by rw [al.1]; rw [nums_len] at hl; exact hl⟩⟩
    obtain ⟨y, hy, rfl⟩ := nums_at.mp hd
    obtain ⟨v, e1, r1⟩ := al.get hy
    refine ⟨⟨xs, v, sql_sub s hs, e1⟩, fun x H' hy => ?_⟩
    obtain ⟨T, x, rfl, hT, rfl, hx⟩ := hy
    refine ⟨Sub.new hT, fun G' g nw => ?_⟩
    have e2 := hx xs (sql_sub s hs)
    rw [e1] at e2
    cases e2
    exact Dp.tup (.inl (.inl (nw T _ hT upd_same))) (.cons (.int _) (.cons (dp_sub g _ _ r1) .nil))
theorem al_one {G : Hp} {vs : List V} {d : D} (h : Al (Dp K G) vs [d]) : ∃ v, vs = [v] ∧ Dp K G v d := by
  obtain ⟨x, r, rfl, h1, h2⟩ := h.cons_inv
  rw [h2.nil_inv]
  exact ⟨x, rfl, h1⟩
theorem si_enum (h : SndA K E ta pa) : SndI K E (iEnum K ta) (pEnum pa) := ⟨fun H0 iv as e σ H X Q R S hq k l => by
  refine h.run H0 iv as e σ H X _ _ S hq (fun vs ws as1 e1 H1 h1 S1 l1 w1 => ?_) l
  obtain ⟨ds, ed, h2⟩ := kDs_elim h1
  split at h2
  · rename_i xs
    obtain ⟨v, rfl, dp⟩ := al_one (asDs_wr S1 w1 ed)
    obtain ⟨a, ys, rfl, hs, al⟩ := dp_list dp
    exact ⟨a, ys, rfl, sql_sub hid_sub hs, k _ _ _ as1 e1 H1 h2 S1 l1 feeds_e dp⟩
  · exact h2.elim⟩
end
end PL

/-! Comprehensions, promises, calls. -/
namespace PL
open PySem PySem.Spec PyProof.Rows L2

/-! ### the state seen otherwise -/
section
variable {K : PySem.W.Frag} {H0 H H' : Hp} {iv : Addr → Prop} {as as' : List Addr} {e e' : En} {σ σ' : L2.St} {p : Addr} {u u' : HO}
/-- one more address that is not seen -/
def ivp (iv : Addr → Prop) (p : Addr) : Addr → Prop := fun b => iv b ∨ b = p
theorem hid_ivp {ob : List Ob} (h : ob = ob) : Sub (hid (ivp iv p) as ob H) (hid iv as ob H) := fun b o q => by
  obtain ⟨⟨h1, h2⟩, h3⟩ := hid_some.mp q
  exact hid_some.mpr ⟨⟨fun z => h1 (.inl z), h2⟩, h3⟩
theorem hid_ivp_new (h : H p = none) : Sub (hid iv as e.ob H) (hid (ivp iv p) as e.ob (upd H p u)) := fun b o q => by
  obtain ⟨⟨h1, h2⟩, h3⟩ := hid_some.mp q
  have hb : b ≠ p := fun z => by subst z; rw [h] at h3; cases h3
  exact hid_some.mpr ⟨⟨fun z => z.elim h1 hb, h2⟩, by rw [upd_ne hb]; exact h3⟩
theorem SR.hide (S : SR K H0 iv as e σ H) (h : H p = none) : SR K H0 (ivp iv p) as e σ (upd H p u) := by
  have s : Sub (hid iv as e.ob H) (hid (ivp iv p) as e.ob (upd H p u)) := hid_ivp_new h
  have g : Sub H (upd H p u) := Sub.new h
  refine ⟨S.ext.trans g, fun b z => ?_, S.len, S.inj, fun k a q => ?_, fun k a q z => ?_, S.fr, fun k a o h1 h2 => ?_, S.slen, fun i w q => ?_⟩
  · rcases z with z | z
    · obtain ⟨o, q⟩ := S.ivs b z
      exact ⟨o, g _ _ q⟩
    · subst z; exact ⟨u, upd_same⟩
  · obtain ⟨o, q⟩ := S.tr k a q
    exact ⟨o, g _ _ q⟩
  · rcases z with z | z
    · exact S.niv k a q z
    · subst z
      obtain ⟨o, q⟩ := S.tr k _ q
      rw [h] at q; cases q
  · refine (S.obs k a o h1 h2).sub0 s fun l => ?_
    obtain ⟨z, q⟩ := (S.obs k a o h1 h2).some l
    rw [q]; exact g _ _ q
  · obtain ⟨v, h1, h2⟩ := S.sls i w q
    exact ⟨v, h1, h2.sub0 s⟩
/-- the address is seen again -/
theorem SR.show (S : SR K H0 (ivp iv p) as e σ H) : SR K H0 iv as e σ H := by
  have s : Sub (hid (ivp iv p) as e.ob H) (hid iv as e.ob H) := hid_ivp rfl
  exact ⟨S.ext, fun b z => S.ivs b (.inl z), S.len, S.inj, S.tr, fun k a q z => S.niv k a q (.inl z), S.fr, fun k a o h1 h2 => (S.obs k a o h1 h2).sub0 s fun _ => rfl, S.slen, fun i w q => by
    obtain ⟨v, h1, h2⟩ := S.sls i w q
    exact ⟨v, h1, h2.sub0 s⟩⟩
/-- what is not seen may change -/
theorem SR.poke (S : SR K H0 iv as e σ H) (hp : iv p) (h0 : H0 p = none) : SR K H0 iv as e σ (upd H p u) ∧ hid iv as e.ob (upd H p u) = hid iv as e.ob H := by
  have eq : hid iv as e.ob (upd H p u) = hid iv as e.ob H := by
    funext b
    unfold hid
    by_cases hb : b = p
    · subst hb
      rw [if_pos (.inl hp), if_pos (.inl hp)]
    · rw [upd_ne hb]
  refine ⟨⟨fun b o q => ?_, fun b z => ?_, S.len, S.inj, fun k a q => ?_, S.niv, S.fr, fun k a o h1 h2 => ?_, S.slen, fun i w q => ?_⟩, eq⟩
  · have hb : b ≠ p := fun z => by subst z; rw [h0] at q; cases q
    rw [upd_ne hb]; exact S.ext b o q
  · by_cases hb : b = p
    · subst hb; exact ⟨u, upd_same⟩
    · rw [upd_ne hb]; exact S.ivs b z
  · by_cases hb : a = p
    · subst hb; exact ⟨u, upd_same⟩
    · rw [upd_ne hb]; exact S.tr k a q
  · rw [eq]
    have hb : a ≠ p := fun z => by subst z; exact S.niv k _ h1 hp
    exact (S.obs k a o h1 h2).sub0 (Sub.refl _) fun _ => upd_ne hb
  · rw [eq]; exact S.sls i w q
/-- the slots of an earlier state -/
theorem SR.back (S : SR K H0 iv as e σ H) (S' : SR K H0 iv as' e' σ' H') (l : Ltr iv as e.ob H as' e'.ob H') : SR K H0 iv as' ⟨e.sl, e'.ob⟩ σ H' :=
  ⟨S'.ext, S'.ivs, S'.len, S'.inj, S'.tr, S'.niv, S'.fr, S'.obs, S.slen, fun i w q => by
    obtain ⟨v, h1, h2⟩ := S.sls i w q
    exact ⟨v, h1, l.wr h2⟩⟩
/-- an address that was not seen becomes an object of the def's own -/
theorem SR.own {o : Ob} (S : SR K H0 (ivp iv p) as e σ H) (h0 : H0 p = none) (hn : ¬ iv p) (hl : o.live = true) (ho : OR K (hid (ivp iv p) as e.ob H) as H p o) :
    SR K H0 iv (as ++ [p]) ⟨e.sl, e.ob ++ [o]⟩ σ H ∧ Sub (hid (ivp iv p) as e.ob H) (hid iv (as ++ [p]) (e.ob ++ [o]) H) := by
  have hna : ∀ (k : Nat) (a : Addr), as[k]? = some a → a ≠ p := fun k a q z => S.niv k a q (.inr z)
  have key : ∀ b, Lv (as ++ [p]) (e.ob ++ [o]) b ↔ Lv as e.ob b ∨ b = p := fun b => by
    constructor
    · rintro ⟨k, o1, h1, h2, h3⟩
      by_cases hk : k < as.length
      · rw [List.getElem?_append_left hk] at h1
        rw [List.getElem?_append_left (by rw [← S.len]; exact hk)] at h2
        exact .inl ⟨k, o1, h1, h2, h3⟩
      · have := (List.getElem?_eq_some_iff.mp h1).1
        have e0 : k = as.length := by simp at this; omega
        subst e0
        simp at h1
        exact .inr h1.symm
    · rintro (⟨k, o1, h1, h2, h3⟩ | rfl)
      · refine ⟨k, o1, ?_, ?_, h3⟩
        · rw [List.getElem?_append_left (List.getElem?_eq_some_iff.mp h1).1]; exact h1
        · rw [List.getElem?_append_left (List.getElem?_eq_some_iff.mp h2).1]; exact h2
      · exact ⟨as.length, o, by simp, by rw [S.len]; simp, hl⟩
  have eq : hid iv (as ++ [p]) (e.ob ++ [o]) H = hid (ivp iv p) as e.ob H := by
    funext b
    unfold hid
    have kk : (iv b ∨ Lv (as ++ [p]) (e.ob ++ [o]) b) ↔ (ivp iv p b ∨ Lv as e.ob b) := by
      rw [key b]
      unfold ivp
      constructor
      · rintro (q | q | q)
        · exact .inl (.inl q)
        · exact .inr q
        · exact .inl (.inr q)
      · rintro ((q | q) | q)
        · exact .inl q
        · exact .inr (.inr q)
        · exact .inr (.inl q)
    by_cases hc : ivp iv p b ∨ Lv as e.ob b
    · rw [if_pos hc, if_pos (kk.mpr hc)]
    · rw [if_neg hc, if_neg (fun z => hc (kk.mp z))]
  have s : Sub (hid (ivp iv p) as e.ob H) (hid iv (as ++ [p]) (e.ob ++ [o]) H) := by rw [eq]; exact Sub.refl _
  have sp : ∀ (k : Nat) (a : Addr), (as ++ [p])[k]? = some a → (as[k]? = some a ∧ k < as.length) ∨ (k = as.length ∧ a = p) := fun k a q => by
    by_cases hk : k < as.length
    · rw [List.getElem?_append_left hk] at q
      exact .inl ⟨q, hk⟩
    · have := (List.getElem?_eq_some_iff.mp q).1
      have e0 : k = as.length := by simp at this; omega
      subst e0
      simp at q
      exact .inr ⟨rfl, q.symm⟩
  have obl : ∀ (k : Nat) (o1 : Ob), k < as.length → (e.ob ++ [o])[k]? = some o1 → e.ob[k]? = some o1 := fun k o1 hk q => by
    rw [List.getElem?_append_left (by rw [← S.len]; exact hk)] at q
    exact q
  have obr : ∀ (o1 : Ob), (e.ob ++ [o])[as.length]? = some o1 → o = o1 := fun o1 q => by
    rw [S.len] at q
    simpa using q
  refine ⟨⟨S.ext, fun b z => S.ivs b (.inl z), by simp [S.len], fun k j a h1 h2 => ?_, fun k a q => ?_, fun k a q => ?_, fun k a o1 h1 h2 h3 => ?_, fun k a o1 h1 h2 => ?_, S.slen, fun i w h => ?_⟩, s⟩
  · rcases sp k a h1 with ⟨q1, _⟩ | ⟨q1, rfl⟩ <;> rcases sp j _ h2 with ⟨q2, _⟩ | ⟨q2, q3⟩
    · exact S.inj k j a q1 q2
    · exact absurd q3 (hna k a q1)
    · exact absurd rfl (hna j _ q2)
    · rw [q1, q2]
  · rcases sp k a q with ⟨q1, _⟩ | ⟨q1, rfl⟩
    · exact S.tr k a q1
    · exact S.ivs _ (.inr rfl)
  · rcases sp k a q with ⟨q1, _⟩ | ⟨q1, rfl⟩
    · exact fun z => S.niv k a q1 (.inl z)
    · exact hn
  · rcases sp k a h1 with ⟨q1, q2⟩ | ⟨q1, rfl⟩
    · exact S.fr k a o1 q1 (obl k o1 q2 h2) h3
    · exact h0
  · rcases sp k a h1 with ⟨q1, q2⟩ | ⟨q1, rfl⟩
    · exact (S.obs k a o1 q1 (obl k o1 q2 h2)).sub s fun _ => rfl
    · subst q1
      have z := obr o1 h2
      subst z
      exact ho.sub s fun _ => rfl
  · obtain ⟨v, h1, h2⟩ := S.sls i w h
    exact ⟨v, h1, h2.sub s⟩
theorem SR.unset {i : Nat} (S : SR K H0 iv as e σ H) : SR K H0 iv as ⟨e.sl.set i none, e.ob⟩ (σ.set i none) H := by
  refine ⟨S.ext, S.ivs, S.len, S.inj, S.tr, S.niv, S.fr, S.obs, by simp [S.slen], fun j w q => ?_⟩
  by_cases hj : i = j
  · subst hj
    have hi : i < e.sl.length := by have := (List.getElem?_eq_some_iff.mp q).1; simpa using this
    simp only [] at q
    rw [List.getElem?_set_self hi] at q
    cases q
  · simp only [] at q
    rw [List.getElem?_set_ne hj] at q
    obtain ⟨v, h1, h2⟩ := S.sls j w q
    exact ⟨v, by rw [List.getElem?_set_ne hj]; exact h1, h2⟩
theorem SR.wipe (S : SR K H0 iv as e σ H) : ∀ vs : List Nat, SR K H0 iv as ⟨wipeE e.sl vs, e.ob⟩ (wipe σ vs) H
  | [] => S
  | v :: vs => (S.wipe vs).unset
theorem wipe_at : ∀ (vs : List Nat) (σ : L2.St) (i : Nat), (wipe σ vs)[i]? = if i ∈ vs ∧ i < σ.length then some none else σ[i]?
  | [], σ, i => by simp [wipe]
  | v :: vs, σ, i => by
    unfold wipe
    by_cases hv : v = i
    · subst hv
      by_cases hl : v < σ.length
      · rw [List.getElem?_set_self (by rw [wipe_length]; exact hl), if_pos ⟨by simp, hl⟩]
      · rw [List.getElem?_eq_none (by simp [wipe_length]; omega), if_neg (fun z => hl z.2), List.getElem?_eq_none (by omega)]
    · rw [List.getElem?_set_ne hv, wipe_at vs σ i]
      have key : (i ∈ v :: vs ∧ i < σ.length) ↔ (i ∈ vs ∧ i < σ.length) := by simp [Ne.symm hv]
      simp only [key]
theorem wipe_eq {vs : List Nat} {σ σ' : L2.St} (hl : σ'.length = σ.length) (h : ∀ i, i ∉ vs → σ'[i]? = σ[i]?) : wipe σ' vs = wipe σ vs := by
  refine List.ext_getElem? fun i => ?_
  rw [wipe_at, wipe_at, hl]
  by_cases hi : i ∈ vs ∧ i < σ.length
  · rw [if_pos hi, if_pos hi]
  · rw [if_neg hi, if_neg hi]
    by_cases hm : i ∈ vs
    · have hn : ¬ i < σ.length := fun z => hi ⟨hm, z⟩
      rw [List.getElem?_eq_none (by omega), List.getElem?_eq_none (by omega)]
    · exact h i hm
end

/-! ### comprehensions -/
def noX : PX := fun _ _ => False
/-- [te for g in p if tt]: elements data, the list data -/
def pLc (vs : List Nat) (p : PTI) (g : PTG) (tt : PTT) (te : PTE) : PTE := fun X e Q => p X e fun ds e1 => ds.length ≤ 100000 ∧ ∃ I : Nat → List D → Prop, I 0 [] ∧
  (∀ i d acc, ds[i]? = some d → I i acc → g (.dat d) ⟨wipeE e1.sl vs, e1.ob⟩ fun e2 => tt noX e2 fun b e3 => (b = true → te noX e3 fun w e4 => e4.ob = e1.ob ∧ kD e4 w fun y => I (i + 1) (acc ++ [y])) ∧
    (b = false → e3.ob = e1.ob ∧ I (i + 1) acc)) ∧ ∀ acc, I ds.length acc → Q (.dat (.list acc)) e1
/-- the same, the list an object of the def's own -/
def pLcO (vs : List Nat) (p : PTI) (g : PTG) (tt : PTT) (te : PTE) : PTE := fun X e Q => p X e fun ds e1 => ds.length ≤ 100000 ∧ ∃ I : Nat → List D → Prop, I 0 [] ∧
  (∀ i d acc, ds[i]? = some d → I i acc → g (.dat d) ⟨wipeE e1.sl vs, e1.ob⟩ fun e2 => tt noX e2 fun b e3 => (b = true → te noX e3 fun w e4 => e4.ob = e1.ob ∧ kD e4 w fun y => I (i + 1) (acc ++ [y])) ∧
    (b = false → e3.ob = e1.ob ∧ I (i + 1) acc)) ∧ ∀ acc, I ds.length acc → Q (.ref e1.ob.length) ⟨e1.sl, e1.ob ++ [.lst acc]⟩
section
variable {K : PySem.W.Frag} {E : XK} {te : TE} {p : PTE} {wi : TI} {pi : PTI} {g : TG} {pg : PTG} {tt : TT} {pt : PTT} {vs : List Nat}
/-- the loop of a comprehension, its end given -/
theorem lc_run {E0' : XK} (hg : SndG K vs g pg) (ht : SndT K E0' tt pt) (he : SndE K E0' te p) {J : It} {ds : List D} {Z : Hp → Prop} {H0 H1 : Hp} {iv : Addr → Prop} {as1 : List Addr} {e1 : En} {σ : L2.St} (S1 : SR K H0 iv as1 e1 σ H1) (fd : Feeds K J ds Z) (z1 : Z (hid iv as1 e1.ob H1)) (hz : ds.length ≤ 100000)
    (I : Nat → List D → Prop) (i0 : I 0 []) (hs : ∀ i d acc, ds[i]? = some d → I i acc → pg (.dat d) ⟨wipeE e1.sl vs, e1.ob⟩ fun e2 => pt noX e2 fun b e3 => (b = true → p noX e3 fun w e4 => e4.ob = e1.ob ∧ kD e4 w fun y => I (i + 1) (acc ++ [y])) ∧
      (b = false → e3.ob = e1.ob ∧ I (i + 1) acc)) {R : VK} {Dl : Addr} (hD : H1 Dl = none)
    (k : ∀ acc xs H', I ds.length acc → SR K H0 (ivp iv Dl) as1 e1 σ H' → Sub (hid iv as1 e1.ob H1) (hid (ivp iv Dl) as1 e1.ob H') → (∀ b, iv b → H' b = H1 b) → H' Dl = some (.lst xs) → Al (Dp K (hid (ivp iv Dl) as1 e1.ob H')) xs acc → R (.ref Dl) H') :
    ∃ W : Nat → Nat → Hp → Prop, (∃ m, W 0 m (upd H1 Dl (.lst []))) ∧ ∀ i m H, W i m H →
      (J.stop i H ∧ R (.ref Dl) H) ∨ (J.go i H ∧ ∃ Nx : Hp → Prop, (∀ H', Nx H' → ∃ m', m' < m ∧ W (i + 1) m' H') ∧ ∀ x H', J.yld i H x H' → g x (wipe σ vs) H' fun σ2 H2 => wipe σ2 vs = wipe σ vs ∧ tt σ2 H2 fun b H3 =>
        if b = true then te σ2 H3 fun y H4 => ∃ acc, H4 Dl = some (.lst acc) ∧ acc.length < sizeLine ∧ Nx (upd H4 Dl (.lst (acc ++ [y]))) else Nx H3) := by
  have h0D : H0 Dl = none := S1.h0 hD
  have s0 : Sub (hid iv as1 e1.ob H1) (hid (ivp iv Dl) as1 e1.ob (upd H1 Dl (.lst []))) := hid_ivp_new hD
  have hne : ∀ b, iv b → b ≠ Dl := fun b hb z => by
    subst z
    obtain ⟨o, q⟩ := S1.ivs _ hb
    rw [hD] at q; cases q
  let St : Nat → Hp → Prop := fun i H' => ∃ acc xs, I i acc ∧ acc.length ≤ i ∧ SR K H0 (ivp iv Dl) as1 e1 σ H' ∧ Sub (hid iv as1 e1.ob H1) (hid (ivp iv Dl) as1 e1.ob H') ∧ (∀ b, iv b → H' b = H1 b) ∧ H' Dl = some (.lst xs) ∧ Al (Dp K (hid (ivp iv Dl) as1 e1.ob H')) xs acc
  refine ⟨fun i m H' => m = ds.length - i ∧ i ≤ ds.length ∧ St i H', ⟨ds.length, by simp, Nat.zero_le _, [], [], i0, Nat.zero_le _, S1.hide hD, s0, fun b hb => upd_ne (hne b hb), upd_same, Al.nil⟩, ?_⟩
  rintro i m H2 ⟨rfl, hle, acc, xs, hI, hla, S2, s2, hv2, hx, al⟩
  obtain ⟨f1, f2⟩ := fd.2 i _ H2 (fd.1 _ _ z1 s2) hid_sub
  by_cases hlt : i < ds.length
  · obtain ⟨go, yl⟩ := f1 ds[i] (List.getElem?_eq_getElem hlt)
    refine .inr ⟨go, St (i + 1), fun H' z => ⟨ds.length - (i + 1), by omega, rfl, hlt, z⟩, fun y H3 hy => ?_⟩
    obtain ⟨g3, dp3⟩ := yl y H3 hy
    obtain ⟨S3, l3⟩ := S2.grow g3
    have w3 : WR K (hid (ivp iv Dl) as1 e1.ob H3) as1 y (.dat ds[i]) := dp3 _ l3.2.1 fun b o n1 n2 => S2.seen n1 n2
    have hx3 : H3 Dl = some (.lst xs) := g3 _ _ hx
    have T := hs i ds[i] acc (List.getElem?_eq_getElem hlt) hI
    refine hg.run H0 (ivp iv Dl) as1 ⟨wipeE e1.sl vs, e1.ob⟩ (wipe σ vs) H3 y _ _ _ (S3.wipe vs) w3 T fun e4 σ4 h4 S4 eo hlen hout => ?_
    refine ⟨(wipe_eq hlen hout).trans (wipe_eq (wipe_length σ vs) fun i hi => by rw [wipe_at, if_neg (fun z => hi z.1)]), ?_⟩
    have l4 : Ltr (ivp iv Dl) as1 e1.ob H3 as1 e4.ob H3 := by rw [eo]; exact Ltr.refl
    refine ht.run H0 (ivp iv Dl) as1 e4 σ4 H3 noX _ _ S4 h4 (fun b as5 e5 H5 h5 S5 l5 => ?_) (fun x cls d as' e' H' z => z.elim)
    have hx5 : H5 Dl = some (.lst xs) := by
      rw [(l4.trans l5).2.2 Dl (.inr rfl)]; exact hx3
    cases b with
    | true =>
      rw [if_pos rfl]
      refine he.run H0 (ivp iv Dl) as5 e5 σ4 H5 noX _ _ S5 (h5.1 rfl) (fun v w as6 e6 H6 h6 S6 l6 w6 => ?_) (fun x cls d as' e' H' z => z.elim)
      obtain ⟨eo6, h7⟩ := h6
      obtain ⟨yd, ey, hI6⟩ := kD_elim h7
      have l36 := (l4.trans l5).trans l6
      have hx6 : H6 Dl = some (.lst xs) := by
        rw [l36.2.2 Dl (.inr rfl)]; exact hx3
      have has : as6 = as1 := by
        obtain ⟨t, ht⟩ := l36.1
        have q : as6.length = as1.length := by rw [S6.len, S1.len, eo6]
        subst ht
        have : t = [] := by simpa using q
        subst this; simp
      subst has
      refine ⟨xs, hx6, ?_, acc ++ [yd], xs ++ [v], hI6, by simp; omega, ?_⟩
      · rw [al.1]; exact Nat.lt_of_le_of_lt (Nat.le_trans hla (by omega : i ≤ 100000)) (by decide)
      have SB : SR K H0 (ivp iv Dl) as6 e1 σ H6 := by
        have q := S3.back S6 (l36)
        rw [eo6] at q; exact q
      obtain ⟨SP, eP⟩ := SB.poke (p := Dl) (u := .lst (xs ++ [v])) (.inr rfl) h0D
      have s6 : Sub (hid iv as6 e1.ob H1) (hid (ivp iv Dl) as6 e1.ob H6) := by
        have q := (s2.trans l3.2.1).trans l36.2.1
        rw [eo6] at q; exact q
      refine ⟨SP, by rw [eP]; exact s6, fun b hb => ?_, upd_same, ?_⟩
      · rw [upd_ne (hne b hb), l36.2.2 b (.inl hb), l3.2.2 b (.inl hb), hv2 b hb]
      rw [eP]
      refine Al.app ?_ ?_
      · refine al.mono fun a b r => ?_
        have q := l36.dp (l3.dp r)
        rw [eo6] at q; exact q
      · have q := asD_wr S6 w6 ey
        rw [eo6] at q; exact q
    | false =>
      rw [if_neg Bool.false_ne_true]
      obtain ⟨eo5, hI5⟩ := h5.2 rfl
      have l35 := l4.trans l5
      have has : as5 = as1 := by
        obtain ⟨t, ht⟩ := l35.1
        have q : as5.length = as1.length := by rw [S5.len, S1.len, eo5]
        subst ht
        have : t = [] := by simpa using q
        subst this; simp
      subst has
      have SB : SR K H0 (ivp iv Dl) as5 e1 σ H5 := by
        have q := S3.back S5 l35
        rw [eo5] at q; exact q
      have s5 : Sub (hid iv as5 e1.ob H1) (hid (ivp iv Dl) as5 e1.ob H5) := by
        have q := (s2.trans l3.2.1).trans l35.2.1
        rw [eo5] at q; exact q
      refine ⟨acc, xs, hI5, by omega, SB, s5, fun b hb => ?_, hx5, ?_⟩
      · rw [l35.2.2 b (.inl hb), l3.2.2 b (.inl hb), hv2 b hb]
      refine al.mono fun a b r => ?_
      have q := l35.dp (l3.dp r)
      rw [eo5] at q; exact q
  · have hi : i = ds.length := by omega
    subst hi
    exact .inl ⟨f2 (Nat.le_refl _), k acc xs H2 hI S2 s2 hv2 hx al⟩
theorem snd_lc {E0' : XK} (hi : SndI K E wi pi) (hg : SndG K vs g pg) (ht : SndT K E0' tt pt) (he : SndE K E0' te p) : SndE K E (tLc wi g tt te vs) (pLc vs pi pg pt p) := ⟨fun H0 iv as e σ H X Q R S h k l => by
  refine hi.run H0 iv as e σ H X _ _ S h (fun J ds Z as1 e1 H1 h1 S1 l1 fd z1 => ?_) l
  obtain ⟨hz, I, i0, hs, hd⟩ := h1
  refine fun Dl hD => lc_run hg ht he S1 fd z1 hz I i0 hs hD fun acc xs H' hI S' s' hv hx al => ?_
  have SS := S'.show
  have up : Sub (hid (ivp iv Dl) as1 e1.ob H') (hid iv as1 e1.ob H') := hid_ivp rfl
  have see : hid iv as1 e1.ob H' Dl = some (.lst xs) := hid_some.mpr ⟨S1.fresh hD, hx⟩
  refine k _ _ as1 e1 H' (hd acc hI) SS (l1.trans ⟨⟨[], by simp⟩, s'.trans up, hv⟩) (Dp.lst (.inl (.inl see)) (dpAll_al.mpr (al.mono fun a b r => dp_sub up _ _ r)))⟩
theorem snd_lcO {E0' : XK} (hi : SndI K E wi pi) (hg : SndG K vs g pg) (ht : SndT K E0' tt pt) (he : SndE K E0' te p) : SndE K E (tLc wi g tt te vs) (pLcO vs pi pg pt p) := ⟨fun H0 iv as e σ H X Q R S h k l => by
  refine hi.run H0 iv as e σ H X _ _ S h (fun J ds Z as1 e1 H1 h1 S1 l1 fd z1 => ?_) l
  obtain ⟨hz, I, i0, hs, hd⟩ := h1
  refine fun Dl hD => lc_run hg ht he S1 fd z1 hz I i0 hs hD fun acc xs H' hI S' s' hv hx al => ?_
  obtain ⟨SS, lS⟩ := S'.own (iv := iv) (h0 := S1.h0 hD) (hn := (S1.fresh hD).1) (o := .lst acc) rfl ⟨xs, hx, al⟩
  exact k _ _ _ _ H' (hd acc hI) SS (l1.trans ⟨⟨[Dl], rfl⟩, s'.trans lS, hv⟩) ⟨Dl, by rw [← S1.len]; simp, rfl⟩⟩
end
end PL

/-! A def's promise by plain data; its body; its call. -/
namespace PL
open PySem PySem.Spec PyProof.Rows L2

/-- arguments, the object among them that the def may change, what is raised, what is handed back -/
abbrev Sc := List Wv → List Ob → (Xc → List Ob → Prop) → (D → List Ob → Prop) → Prop
open Classical in
noncomputable def cut (as : List Addr) (H : Hp) : Hp := fun b => if b ∈ as then none else H b
def toSp (K : PySem.W.Frag) (s : Sc) : Sp := fun vs H Q E => ∃ iv as ob ws X Qd, SR K (cut as H) iv as ⟨ws.map some, ob⟩ (vs.map some) H ∧ s ws ob X Qd ∧
  (∀ v d as' e' σ' H', Qd d e'.ob → SR K (cut as H) iv as' e' σ' H' → Ltr iv as ob H as' e'.ob H' → Dp K (hid iv as' e'.ob H') v d → Q v H') ∧
  ∀ x cls dx as' e' σ' H', X x e'.ob → SR K (cut as H) iv as' e' σ' H' → Ltr iv as ob H as' e'.ob H' → XR K (hid iv as' e'.ob H') H' x cls dx → E cls dx H'
/-- the slots at a def's entry -/
def slots (n : Nat) (ws : List Wv) : List (Option Wv) := ws.map some ++ List.replicate (n - ws.length) none
/-- what a def's end is to be -/
def fin (X : Xc → List Ob → Prop) (Q : D → List Ob → Prop) : PEn := ⟨fun e => Q .none e.ob, fun w e => match w with
  | .dat d => Q d e.ob
  | .ref _ => False, fun _ => False, fun _ => False, fun x e => X x e.ob⟩
section
variable {K : PySem.W.Frag} {E : XK} {ts : TS} {ps : PTS}
theorem toSp_body {s : Sc} (N : List Str) (hts : SndS K E ts ps) (hp : ∀ ws ob X Q, s ws ob X Q → ps (fin X Q) ⟨slots N.length ws, ob⟩) {vs : List V} {H : Hp} {Q : VK} (h : toSp K s vs H Q E) :
    ts { nx := fun _ H' => Q .non H', rt := Q } (L2.start N vs) H := by
  obtain ⟨iv, as, ob, ws, X, Qd, S, hs, hq, hx⟩ := h
  have hl : vs.length = ws.length := by have := S.slen; simpa using this
  have S' : SR K (cut as H) iv as ⟨slots N.length ws, ob⟩ (L2.start N vs) H := by
    refine ⟨S.ext, S.ivs, S.len, S.inj, S.tr, S.niv, S.fr, S.obs, by simp [slots, L2.start, hl], fun i w q => ?_⟩
    have q : (ws.map some ++ List.replicate (N.length - ws.length) none)[i]? = some (some w) := q
    by_cases hi : i < ws.length
    · rw [List.getElem?_append_left (by simpa using hi)] at q
      obtain ⟨v, h1, h2⟩ := S.sls i w q
      refine ⟨v, ?_, h2⟩
      unfold L2.start
      rw [List.getElem?_append_left (by simpa [hl] using hi)]
      exact h1
    · rw [List.getElem?_append_right (by simpa using hi)] at q
      rw [List.getElem?_replicate] at q
      split at q <;> cases q
  exact hts.run (cut as H) iv as _ _ H (fin X Qd) _ S' (hp ws ob X Qd hs) (fun as' e' σ' H' h1 h2 h3 => hq _ _ as' e' σ' H' h1 h2 h3 Dp.non) (fun as' e' σ' H' h1 h2 h3 => h1.elim) (fun as' e' σ' H' h1 h2 h3 => h1.elim)
    (fun v w as' e' σ' H' h1 h2 h3 h4 => by
      cases w with
      | dat d => exact hq v d as' e' σ' H' h1 h2 h3 h4
      | ref k => exact (show False from h1).elim) (fun x cls d as' e' σ' H' h1 h2 h3 h4 => hx x cls d as' e' σ' H' h1 h2 h3 h4)
theorem toSp_len {s : Sc} {n : Nat} (h : ∀ ws ob X Q, s ws ob X Q → ws.length = n) {vs : List V} {H : Hp} {Q : VK} {E : XK} (q : toSp K s vs H Q E) : vs.length = n := by
  obtain ⟨iv, as, ob, ws, X, Qd, S, hs, _⟩ := q
  have hl : vs.length = ws.length := by have := S.slen; simpa using this
  rw [hl]
  exact h _ _ _ _ hs
end
section
variable {P : Program} {w : World} {K : PySem.W.Frag} {mg : Str → Option Value} {base : Heap}
/-- a def that lets no exception out -/
theorem Fn.mk {x qual : Str} {st : Stmt} {f : Addr} {fd : FuncData} {N ps : List Str} {k : Nat} {s : Sc} (F : Fun K x qual st f fd) (S : FnScope N ps (defScope st)) (len : ∀ ws ob X Q, s ws ob X Q → ws.length = ps.length)
    (hb : ∀ (cdv : Value) (A : Around) (outer : List PySem.Env) (s' : Shared) (H : Hp) (E : XK), Room k (A.deeper (envOfC qual (defScope st) s'.heap.objs.size f cdv)) →
      ∃ t p, PSs (cxOf CX0 P w K mg base N qual (defScope st) f cdv A outer s' H E).nox (defBody st) t ∧ SndS K E0 t p ∧ ∀ ws ob X Q, s ws ob X Q → (∀ x o, ¬ X x o) → p (fin X Q) ⟨slots N.length ws, ob⟩)
    (hX : ∀ ws ob X Q, s ws ob X Q → s ws ob (fun _ _ => False) Q) : FnOk P w K mg base CX0 (k + 1) f fd ps (toSp K s) := by
  refine F.ok S (fun vs H Q E h => toSp_len len h) fun cdv A outer s' H vs Q E hr h => ?_
  obtain ⟨t, p, h1, h2, h3⟩ := hb cdv A outer s' H E hr
  refine ⟨t, h1, toSp_body (s := fun ws ob X Q => s ws ob (fun _ _ => False) Q ∧ ∀ x o, ¬ X x o) N h2 (fun ws ob X Q hs => h3 ws ob X Q ?_ hs.2) ?_⟩
  · have e : X = fun _ _ => False := by
      funext x o
      exact propext ⟨fun z => hs.2 x o z, fun z => z.elim⟩
    rw [e]; exact hs.1
  · obtain ⟨iv, as, ob, ws, X, Qd, h4, h5, h6, h7⟩ := h
    exact ⟨iv, as, ob, ws, fun _ _ => False, Qd, h4, ⟨hX _ _ _ _ h5, fun _ _ z => z⟩, h6, fun _ _ _ _ _ _ _ z => z.elim⟩
/-- a def that may raise -/
theorem Fn.mkX {x qual : Str} {st : Stmt} {f : Addr} {fd : FuncData} {N ps : List Str} {k : Nat} {s : Sc} (F : Fun K x qual st f fd) (S : FnScope N ps (defScope st)) (len : ∀ ws ob X Q, s ws ob X Q → ws.length = ps.length)
    (hb : ∀ (cdv : Value) (A : Around) (outer : List PySem.Env) (s' : Shared) (H : Hp) (E : XK), Room k (A.deeper (envOfC qual (defScope st) s'.heap.objs.size f cdv)) →
      ∃ t p, PSs (cxOf (L2.CX P w) P w K mg base N qual (defScope st) f cdv A outer s' H E) (defBody st) t ∧ SndS K E t p ∧ ∀ ws ob X Q, s ws ob X Q → p (fin X Q) ⟨slots N.length ws, ob⟩) :
    FnOk P w K mg base (L2.CX P w) (k + 1) f fd ps (toSp K s) := by
  refine F.okX S (fun vs H Q E h => toSp_len len h) fun cdv A outer s' H vs Q E hr h => ?_
  obtain ⟨t, p, h1, h2, h3⟩ := hb cdv A outer s' H E hr
  exact ⟨t, h1, toSp_body N h2 h3 h⟩
end

/-! ### a call -/
def refsOf (ob : List Ob) : List Wv → List Nat
  | [] => []
  | w :: ws => match asD ob w, w with
    | some _, _ => refsOf ob ws
    | none, .ref k => k :: refsOf ob ws
    | none, .dat _ => refsOf ob ws
def ren (ob : List Ob) : List Wv → List Wv
  | [] => []
  | w :: ws => (match asD ob w with
    | some d => .dat d
    | none => .ref 0) :: ren ob ws
def Ob.flat : Ob → Bool
  | .nst _ => false
  | .frz _ => false
  | _ => true
theorem Ob.flat_live {o : Ob} (h : o.flat = true) : o.live = true := by cases o <;> first | rfl | cases h
def kF (o : Ob) (k : Prop) : Prop := match o.flat with
  | true => k
  | false => False
theorem kF_elim {o : Ob} {k : Prop} (h : kF o k) : o.flat = true ∧ k := by
  unfold kF at h
  split at h
  · exact ⟨by assumption, h⟩
  · exact h.elim
def pCall (s : Sc) (pr : PTA) : PTE := fun X e Q => pr X e fun ws e1 => match refsOf e1.ob ws with
  | [] => s (ren e1.ob ws) [] (fun x _ => X x e1) (fun d _ => Q (.dat d) e1)
  | [k] => match e1.ob[k]? with
    | some o => kF o (s (ren e1.ob ws) [o] (fun x ob' => match ob' with
        | o' :: _ => kF o' (X x ⟨e1.sl, e1.ob.set k o'⟩)
        | [] => False) fun d ob' => match ob' with
        | o' :: _ => kF o' (Q (.dat d) ⟨e1.sl, e1.ob.set k o'⟩)
        | [] => False)
    | none => False
  | _ => False
section
variable {K : PySem.W.Frag} {E : XK} {tr : TA} {pr : PTA} {H0 H H' : Hp} {iv : Addr → Prop} {as : List Addr} {e : En} {σ : L2.St}
theorem OR.flat {G G' : Hp} {as' : List Addr} {a : Addr} {o : Ob} (hf : o.flat = true) (s : Sub G G') (h : OR K G as H a o) : OR K G' as' H a o := by
  cases o with
  | lst ds => obtain ⟨xs, q, r⟩ := h; exact ⟨xs, q, r.mono fun _ _ z => dp_sub s _ _ z⟩
  | nst ks => cases hf
  | dic ds => obtain ⟨xs, q, r⟩ := h; exact ⟨xs, q, r.mono fun _ _ z => ⟨z.1, dp_sub s _ _ z.2⟩⟩
  | dit u ds => obtain ⟨xs, q, r⟩ := h; exact ⟨xs, q, r.mono fun _ _ z => ⟨z.1, ⟨z.2.1.1, dp_sub s _ _ z.2.1.2⟩, dp_sub s _ _ z.2.2⟩⟩
  | box => obtain ⟨r, row, n, q, h1, h2⟩ := h; exact ⟨r, row, n, q, dp_sub s _ _ h1, h2⟩
  | rng lo hi => exact h
  | frz d => cases hf
theorem ren_len {ob : List Ob} : ∀ ws : List Wv, (ren ob ws).length = ws.length
  | [] => rfl
  | w :: ws => by simp [ren, ren_len ws]
/-- the arguments as the callee sees them -/
theorem ren_wr (S : SR K H0 iv as e σ H) {G' : Hp} {as' : List Addr} (g : Sub (hid iv as e.ob H) G') : ∀ {vs : List V} {ws : List Wv}, Al (WR K (hid iv as e.ob H) as) vs ws →
    (∀ k ∈ refsOf e.ob ws, ∃ a, as[k]? = some a ∧ as'[0]? = some a) → Al (WR K G' as') vs (ren e.ob ws)
  | vs, [], h, _ => by rw [h.nil_inv]; exact Al.nil
  | vs, w :: ws, h, hk => by
    obtain ⟨v, r, rfl, h1, h2⟩ := h.cons_inv
    cases hd : asD e.ob w with
    | some d =>
      have e1 : ren e.ob (w :: ws) = .dat d :: ren e.ob ws := by simp [ren, hd]
      have e2 : refsOf e.ob (w :: ws) = refsOf e.ob ws := by cases w <;> simp [refsOf, hd]
      rw [e1]
      exact Al.cons (dp_sub g _ _ (asD_wr S h1 hd)) (ren_wr S g h2 (by rw [← e2]; exact hk))
    | none =>
      cases w with
      | dat d => simp [asD] at hd
      | ref k =>
        have e1 : ren e.ob (.ref k :: ws) = .ref 0 :: ren e.ob ws := by simp [ren, hd]
        have e2 : refsOf e.ob (.ref k :: ws) = k :: refsOf e.ob ws := by
          show (match asD e.ob (.ref k), Wv.ref k with
            | some _, _ => refsOf e.ob ws
            | none, .ref k => k :: refsOf e.ob ws
            | none, .dat _ => refsOf e.ob ws) = _
          rw [hd]
        rw [e1]
        rw [e2] at hk
        obtain ⟨a, q1, q2⟩ := hk k (by simp)
        obtain ⟨a', q3, rfl⟩ := h1
        rw [q1] at q3; cases q3
        exact Al.cons ⟨a, q2, rfl⟩ (ren_wr S g h2 fun j hj => hk j (List.mem_cons_of_mem _ hj))
theorem cut_sub : Sub (cut as H) H := fun b o h => by
  unfold cut at h
  split at h
  · cases h
  · exact h
theorem snd_call {s : Sc} (ha : SndA K E tr pr) : SndE K E (tCall (toSp K s) [] E tr) (pCall s pr) := ⟨fun H0 iv as0 e0 σ H X Q R S h k l => by
  refine ha.run H0 iv as0 e0 σ H X _ _ S h (fun vs ws as e H1 h1 S1 l1 w1 => ?_) l
  rw [List.append_nil]
  split at h1
  · rename_i hr
    let iv' : Addr → Prop := fun b => iv b ∨ Lv as e.ob b
    have see : ∀ Hx : Hp, hid iv' [] [] Hx = hid iv as e.ob Hx := fun Hx => by
      funext b
      unfold hid
      have n0 : ¬ Lv [] [] b := fun ⟨k, o, z, _⟩ => by simp at z
      by_cases hc : iv b ∨ Lv as e.ob b
      · rw [if_pos hc, if_pos (.inl hc)]
      · rw [if_neg hc, if_neg (fun z => z.elim hc n0)]
    have al := ren_wr S1 (as' := []) (g := Sub.refl _) w1 (by rw [hr]; exact fun k hk => by simp at hk)
    refine ⟨iv', [], [], ren e.ob ws, _, _, ⟨cut_sub, fun b z => ?_, rfl, fun k j a q => by simp at q, fun k a q => by simp at q, fun k a q => by simp at q, fun k a o q => by simp at q, fun k a o q => by simp at q, ?_, fun i w q => ?_⟩, h1, ?_, ?_⟩
    · rcases z with z | ⟨k, o, z, _⟩
      · exact S1.ivs b z
      · exact S1.tr k b z
    · simp [ren_len, w1.1]
    · have q : ((ren e.ob ws).map some)[i]? = some (some w) := q
      rw [List.getElem?_map] at q
      cases hw : (ren e.ob ws)[i]? with
      | none => rw [hw] at q; cases q
      | some w' =>
        rw [hw] at q
        cases q
        obtain ⟨v, q1, q2⟩ := al.get hw
        refine ⟨v, by rw [List.getElem?_map, q1]; rfl, ?_⟩
        rw [see]; exact q2
    · intro v d as' e' σ' H' hq S' l' dp
      have g : Sub H1 H' := fun b o q => S'.ext b o (by unfold cut; rw [if_neg (by simp)]; exact q)
      obtain ⟨S3, l3⟩ := S1.grow g
      refine k v _ as e H' hq S3 (l1.trans l3) (dp_sub (fun b o q => ?_) _ _ dp)
      obtain ⟨⟨q1, q2⟩, q3⟩ := hid_some.mp q
      exact hid_some.mpr ⟨⟨fun z => q1 (.inl z), fun z => q1 (.inr z)⟩, q3⟩
    · intro x cls dx as' e' σ' H' hq S' l' xr
      have g : Sub H1 H' := fun b o q => S'.ext b o (by unfold cut; rw [if_neg (by simp)]; exact q)
      obtain ⟨S3, l3⟩ := S1.grow g
      refine l x cls dx as e H' hq S3 (l1.trans l3) ⟨xr.1, ?_⟩
      have sb : Sub (hid iv' as' e'.ob H') (hid iv as e.ob H') := fun b o q => by
        obtain ⟨⟨q1, q2⟩, q3⟩ := hid_some.mp q
        exact hid_some.mpr ⟨⟨fun z => q1 (.inl z), fun z => q1 (.inr z)⟩, q3⟩
      have r2 := xr.2
      split
      · rename_i ha; rw [ha] at r2; exact r2
      · rename_i f y ha
        rw [ha] at r2
        obtain ⟨a, v, z1, z2, z3⟩ := r2
        exact ⟨a, v, z1, z2, dp_sub sb _ _ z3⟩
  · rename_i n hr
    split at h1
    · rename_i o ho
      obtain ⟨hf, h2⟩ := kF_elim h1
      obtain ⟨a, ha'⟩ := S1.ad ho
      let iv' : Addr → Prop := fun b => iv b ∨ (Lv as e.ob b ∧ b ≠ a)
      have hla : Lv as e.ob a := ⟨n, o, ha', ho, Ob.flat_live hf⟩
      have one : ∀ b, Lv [a] [o] b ↔ b = a := fun b => by
        constructor
        · rintro ⟨k, o1, q1, q2, q3⟩
          cases k with
          | zero => simp at q1; exact q1.symm
          | succ k => simp at q1
        · rintro rfl
          exact ⟨0, o, rfl, rfl, Ob.flat_live hf⟩
      have see : hid iv' [a] [o] H1 = hid iv as e.ob H1 := by
        funext b
        unfold hid
        have kk : (iv' b ∨ Lv [a] [o] b) ↔ (iv b ∨ Lv as e.ob b) := by
          rw [one b]
          constructor
          · rintro ((q | q) | q)
            · exact .inl q
            · exact .inr q.1
            · subst q; exact .inr hla
          · rintro (q | q)
            · exact .inl (.inl q)
            · by_cases hb : b = a
              · exact .inr hb
              · exact .inl (.inr ⟨q, hb⟩)
        by_cases hc : iv b ∨ Lv as e.ob b
        · rw [if_pos hc, if_pos (kk.mpr hc)]
        · rw [if_neg hc, if_neg (fun z => hc (kk.mp z))]
      have al := ren_wr S1 (as' := [a]) (g := Sub.refl _) w1 (by rw [hr]; exact fun k hk => by simp at hk; subst hk; exact ⟨a, ha', rfl⟩)
      have z0 : ∀ (k : Nat) (b : Addr), [a][k]? = some b → k = 0 ∧ b = a := fun k b q => by
        cases k with
        | zero => simp at q; exact ⟨rfl, q.symm⟩
        | succ k => simp at q
      have after : ∀ as' e' σ' H' o' more, e'.ob = o' :: more → o'.flat = true → SR K (cut [a] H1) iv' as' e' σ' H' → Ltr iv' [a] [o] H1 as' e'.ob H' →
          (SR K H0 iv as ⟨e.sl, e.ob.set n o'⟩ σ H' ∧ Ltr iv as e.ob H1 as (e.ob.set n o') H') ∧ Sub (hid iv' as' e'.ob H') (hid iv as (e.ob.set n o') H') := fun as' e' σ' H' o' more eo hf' S' l' => by
        obtain ⟨⟨t, et⟩, _, _⟩ := l'
        have h0 : as'[0]? = some a := by rw [et]; rfl
        have ho' : e'.ob[0]? = some o' := by rw [eo]; rfl
        have hla' : Lv as' e'.ob a := ⟨0, o', h0, ho', Ob.flat_live hf'⟩
        have hkl : n < e.ob.length := (List.getElem?_eq_some_iff.mp ho).1
        have sb : Sub (hid iv' as' e'.ob H') (hid iv as (e.ob.set n o') H') := fun b u q => by
          obtain ⟨⟨q1, q2⟩, q3⟩ := hid_some.mp q
          refine hid_some.mpr ⟨⟨fun z => q1 (.inl z), ?_⟩, q3⟩
          rintro ⟨j, o1, z1, z2, z3⟩
          by_cases hj : n = j
          · subst hj
            rw [ha'] at z1; cases z1
            exact q2 hla'
          · rw [List.getElem?_set_ne hj] at z2
            have hb : b ≠ a := fun z => by subst z; exact hj (S1.inj n j _ ha' z1)
            exact q1 (.inr ⟨⟨j, o1, z1, z2, z3⟩, hb⟩)
        refine ⟨S1.call1 ha' ho (Ob.flat_live hf) (Ob.flat_live hf') (fun b u q hb => S'.ext b u ?_) (OR.flat hf' sb (S'.obs 0 a o' h0 ho')), sb⟩
        unfold cut
        rw [if_neg (by simpa using hb)]; exact q
      refine ⟨iv', [a], [o], ren e.ob ws, _, _, ⟨cut_sub, fun b z => ?_, rfl, fun k j b q1 q2 => by rw [(z0 k b q1).1, (z0 j b q2).1], fun k b q => ?_, fun k b q => ?_, fun k b o1 q1 _ _ => ?_, fun k b o1 q1 q2 => ?_, ?_, fun i w q => ?_⟩, h2, ?_, ?_⟩
      · rcases z with z | ⟨⟨k, o, z, _⟩, _⟩
        · exact S1.ivs b z
        · exact S1.tr k b z
      · rw [(z0 k b q).2]; exact S1.tr n a ha'
      · rw [(z0 k b q).2]
        rintro (z | z)
        · exact S1.niv n a ha' z
        · exact z.2 rfl
      · rw [(z0 k b q1).2]
        unfold cut
        rw [if_pos (by simp)]
      · obtain ⟨rfl, rfl⟩ := z0 k b q1
        have q2 : some o = some o1 := q2
        cases q2
        rw [see]
        exact OR.flat hf (Sub.refl _) (S1.obs n b o ha' ho)
      · simp [ren_len, w1.1]
      · have q : ((ren e.ob ws).map some)[i]? = some (some w) := q
        rw [List.getElem?_map] at q
        cases hw : (ren e.ob ws)[i]? with
        | none => rw [hw] at q; cases q
        | some w' =>
          rw [hw] at q
          cases q
          obtain ⟨v, q1, q2⟩ := al.get hw
          refine ⟨v, by rw [List.getElem?_map, q1]; rfl, ?_⟩
          rw [see]; exact q2
      · intro v d as' e' σ' H' hq S' l' dp
        split at hq
        · rename_i o' more eo
          obtain ⟨hf', hq⟩ := kF_elim hq
          obtain ⟨⟨S3, l3⟩, sb⟩ := after as' e' σ' H' o' more eo hf' S' l'
          exact k v _ as _ H' hq S3 (l1.trans l3) (dp_sub sb _ _ dp)
        · exact hq.elim
      · intro x cls dx as' e' σ' H' hq S' l' xr
        split at hq
        · rename_i o' more eo
          obtain ⟨hf', hq⟩ := kF_elim hq
          obtain ⟨⟨S3, l3⟩, sb⟩ := after as' e' σ' H' o' more eo hf' S' l'
          refine l x cls dx as _ H' hq S3 (l1.trans l3) ⟨xr.1, ?_⟩
          have r2 := xr.2
          split
          · rename_i ha; rw [ha] at r2; exact r2
          · rename_i f y ha
            rw [ha] at r2
            obtain ⟨a, v, z1, z2, z3⟩ := r2
            exact ⟨a, v, z1, z2, dp_sub sb _ _ z3⟩
        · exact hq.elim
    · exact h1.elim
  · exact h1.elim⟩
end
end PL

/-! Operators, built-ins and methods over plain data. -/
namespace PL
open PySem PySem.Spec PyProof.Rows L2

section
variable {K : PySem.W.Frag} {G H : Hp} {v : V}
theorem rv_dp {d : D} (s : Sub G H) (h : RV K G H v d) (hd : ∀ kvs, d ≠ .dict kvs) : Dp K H v d := by
  rcases h with h | ⟨a, xs, ds, rfl, h1, h2, rfl⟩ | ⟨a, ys, kvs, rfl, h1, h2, rfl⟩
  · exact dp_sub s _ _ h
  · exact .lst (.inl (.inl h1)) (dpAll_al.mpr (h2.mono fun _ _ z => dp_sub s _ _ z))
  · exact absurd rfl (hd _)
theorem rv_int {i : Int} (h : RV K G H v (.int i)) : v = .int i := by
  rcases h with h | ⟨a, xs, ds, rfl, h1, h2, e⟩ | ⟨a, ys, kvs, rfl, h1, h2, e⟩
  · exact dp_int h
  all_goals cases e
theorem rv_bool {i : Bool} (h : RV K G H v (.bool i)) : v = .bl i := by
  rcases h with h | ⟨a, xs, ds, rfl, h1, h2, e⟩ | ⟨a, ys, kvs, rfl, h1, h2, e⟩
  · exact dp_bool h
  all_goals cases e
theorem rv_none (h : RV K G H v .none) : v = .non := by
  rcases h with h | ⟨a, xs, ds, rfl, h1, h2, e⟩ | ⟨a, ys, kvs, rfl, h1, h2, e⟩
  · cases h; rfl
  all_goals cases e
theorem rv_str {x : Str} (h : RV K G H v (.str x)) : v = .str x := by
  rcases h with h | ⟨a, xs, ds, rfl, h1, h2, e⟩ | ⟨a, ys, kvs, rfl, h1, h2, e⟩
  · cases h; rfl
  all_goals cases e
theorem rv_list {ds : List D} (s : Sub G H) (h : RV K G H v (.list ds)) : ∃ a xs, v = .ref a ∧ SqL K H a xs ∧ Al (Dp K G) xs ds := by
  rcases h with h | ⟨a, xs, ds', rfl, h1, h2, e⟩ | ⟨a, ys, kvs, rfl, h1, h2, e⟩
  · obtain ⟨a, xs, rfl, q, r⟩ := dp_list h
    exact ⟨a, xs, rfl, sql_sub s q, r⟩
  · cases e
    exact ⟨a, xs, rfl, .inl (.inl h1), h2⟩
  all_goals cases e
theorem rv_tuple {ds : List D} (s : Sub G H) (h : RV K G H v (.tuple ds)) : ∃ a xs, v = .ref a ∧ SqT K H a xs ∧ Al (Dp K G) xs ds := by
  rcases h with h | ⟨a, xs, ds', rfl, h1, h2, e⟩ | ⟨a, ys, kvs, rfl, h1, h2, e⟩
  · obtain ⟨a, xs, rfl, q, r⟩ := dp_tuple h
    exact ⟨a, xs, rfl, sqt_sub s q, r⟩
  all_goals cases e
end

/-! ### numbers -/
def nInt (f : Int → Int → D) : D → D → (D → Prop) → Prop := fun a b k => match a, b with
  | .int i, .int j => k (f i j)
  | _, _ => False
def nIntC (C : Int → Int → Prop) (f : Int → Int → D) : D → D → (D → Prop) → Prop := fun a b k => match a, b with
  | .int i, .int j => C i j ∧ k (f i j)
  | _, _ => False
section
variable {K : PySem.W.Frag}
theorem rs_int {g : Int → Int → V} {f : Int → Int → D} (h : ∀ i j G, Dp K G (g i j) (f i j)) : RS K (rI0 g) (nInt f) := fun G H v1 v2 a b k R s h1 h2 hk hR => by
  unfold nInt at hk
  split at hk
  · rename_i i j
    exact ⟨i, j, rv_int h1, rv_int h2, hR _ _ H hk (Sub.refl _) fun G' _ _ => h i j G'⟩
  · exact hk.elim
theorem rs_intC {C : Int → Int → Prop} {g : Int → Int → V} {f : Int → Int → D} (h : ∀ i j G, Dp K G (g i j) (f i j)) : RS K (rI C g) (nIntC C f) := fun G H v1 v2 a b k R s h1 h2 hk hR => by
  unfold nIntC at hk
  split at hk
  · rename_i i j
    exact ⟨i, j, rv_int h1, rv_int h2, hk.1, hR _ _ H hk.2 (Sub.refl _) fun G' _ _ => h i j G'⟩
  · exact hk.elim
/-! ### == at any depth -/
def nEq (neg : Bool) : D → D → (D → Prop) → Prop := fun a b k => SeqAt.shaped a = true ∧ SeqAt.shaped b = true ∧ k (.bool (if neg then !PyData.eqv a b else PyData.eqv a b))
theorem not_dict {d : D} (h : SeqAt.shaped d = true) : ∀ kvs, d ≠ .dict kvs := fun kvs e => by
  subst e
  have q := SeqAt.canLay_of_shaped h
  cases q
theorem rs_eq : RS K (rEqD K) (nEq false) := fun G H v1 v2 a b k R s h1 h2 hk hR => by
  obtain ⟨sa, sb, q⟩ := hk
  exact ⟨a, b, rv_dp s h1 (not_dict sa), rv_dp s h2 (not_dict sb), sa, sb, hR _ _ H q (Sub.refl _) fun G' _ _ => Dp.bl _⟩
theorem rs_ne : RS K (rNeD K) (nEq true) := fun G H v1 v2 a b k R s h1 h2 hk hR => by
  obtain ⟨sa, sb, q⟩ := hk
  exact ⟨a, b, rv_dp s h1 (not_dict sa), rv_dp s h2 (not_dict sb), sa, sb, hR _ _ H q (Sub.refl _) fun G' _ _ => Dp.bl _⟩
/-- two ints, or an int and None -/
def scalD : D → D → Option Bool
  | .int i, .int j => some (decide (i = j))
  | .none, .none => some true
  | .none, .int _ => some false
  | .int _, .none => some false
  | .bool a, .bool b => some (decide (a = b))
  | .none, .bool _ => some false
  | .bool _, .none => some false
  | .str a, .str b => some (decide (a = b))
  | .none, .str _ => some false
  | .str _, .none => some false
  | .str _, .int _ => some false
  | .int _, .str _ => some false
  | _, _ => none
def nSc (neg : Bool) : D → D → (D → Prop) → Prop := fun a b k => match scalD a b with
  | some r => k (.bool (if neg then !r else r))
  | none => False
theorem scal_of {a b : D} {r : Bool} {G H : Hp} {v1 v2 : V} (h1 : RV K G H v1 a) (h2 : RV K G H v2 b) (h : scalD a b = some r) : scal v1 v2 = true ∧ decide (v1 = v2) = r := by
  unfold scalD at h
  split at h <;> first
    | (cases h; done)
    | (cases h
       first | rw [rv_int h1] | rw [rv_none h1] | rw [rv_bool h1] | rw [rv_str h1]
       first | rw [rv_int h2] | rw [rv_none h2] | rw [rv_bool h2] | rw [rv_str h2]
       exact ⟨rfl, by simp⟩)
theorem rs_sceq : RS K rEq (nSc false) := fun G H v1 v2 a b k R s h1 h2 hk hR => by
  unfold nSc at hk
  split at hk
  · rename_i r hr
    obtain ⟨q1, q2⟩ := scal_of h1 h2 hr
    exact ⟨q1, hR _ _ H hk (Sub.refl _) fun G' _ _ => by rw [q2]; exact Dp.bl _⟩
  · exact hk.elim
theorem rs_scne : RS K rNe (nSc true) := fun G H v1 v2 a b k R s h1 h2 hk hR => by
  unfold nSc at hk
  split at hk
  · rename_i r hr
    obtain ⟨q1, q2⟩ := scal_of h1 h2 hr
    exact ⟨q1, hR _ _ H hk (Sub.refl _) fun G' _ _ => by rw [q2]; exact Dp.bl _⟩
  · exact hk.elim
/-! ### is None -/
def isN : D → Bool
  | .none => true
  | _ => false
def nIsN (neg : Bool) : D → D → (D → Prop) → Prop := fun a b k => match b with
  | .none => k (.bool (if neg then !isN a else isN a))
  | _ => False
theorem isN_of {a : D} {G H : Hp} {v : V} (h : RV K G H v a) : decide (v = .non) = isN a := by
  rcases h with h | ⟨a, xs, ds, rfl, h1, h2, rfl⟩ | ⟨a, ys, kvs, rfl, h1, h2, rfl⟩
  · cases h <;> rfl
  all_goals rfl
theorem rs_isN : RS K (fun x y H Q => y = .non ∧ Q (.bl (decide (x = .non))) H) (nIsN false) := fun G H v1 v2 a b k R s h1 h2 hk hR => by
  unfold nIsN at hk
  split at hk
  · refine ⟨rv_none h2, ?_⟩
    rw [isN_of h1]
    exact hR _ _ H hk (Sub.refl _) fun G' _ _ => Dp.bl _
  · exact hk.elim
theorem rs_notN : RS K (fun x y H Q => y = .non ∧ Q (.bl (!decide (x = .non))) H) (nIsN true) := fun G H v1 v2 a b k R s h1 h2 hk hR => by
  unfold nIsN at hk
  split at hk
  · refine ⟨rv_none h2, ?_⟩
    rw [isN_of h1]
    exact hR _ _ H hk (Sub.refl _) fun G' _ _ => Dp.bl _
  · exact hk.elim
/-! ### items -/
def nIxL : D → D → (D → Prop) → Prop := fun a b k => match a, b with
  | .list ds, .int i => ∃ d, atI ds i = some d ∧ k d
  | _, _ => False
def nIxT : D → D → (D → Prop) → Prop := fun a b k => match a, b with
  | .tuple ds, .int i => ∃ d, atI ds i = some d ∧ k d
  | _, _ => False
theorem atI_al {R : V → D → Prop} {xs : List V} {ds : List D} {i : Int} {d : D} (al : Al R xs ds) (h : atI ds i = some d) : ∃ x, atI xs i = some x ∧ R x d := by
  unfold atI at h ⊢
  rw [al.1]
  cases hx : ixN ds.length i with
  | none => rw [hx] at h; cases h
  | some j =>
    rw [hx] at h
    obtain ⟨x, q1, q2⟩ := al.get (show ds[j]? = some d from h)
    exact ⟨x, q1, q2⟩
theorem rs_ixL : RS K (rIxL K) nIxL := fun G H v1 v2 a b k R s h1 h2 hk hR => by
  unfold nIxL at hk
  split at hk
  · rename_i ds i
    obtain ⟨d, hd, hk⟩ := hk
    obtain ⟨p, xs, rfl, hs, al⟩ := rv_list s h1
    obtain ⟨x, q1, q2⟩ := atI_al al hd
    exact ⟨p, xs, i, x, rfl, rv_int h2, hs, q1, hR d x H hk (Sub.refl _) fun G' g _ => dp_sub g _ _ q2⟩
  · exact hk.elim
theorem rs_ixT : RS K (rIxT K) nIxT := fun G H v1 v2 a b k R s h1 h2 hk hR => by
  unfold nIxT at hk
  split at hk
  · rename_i ds i
    obtain ⟨d, hd, hk⟩ := hk
    obtain ⟨p, xs, rfl, hs, al⟩ := rv_tuple s h1
    obtain ⟨x, q1, q2⟩ := atI_al al hd
    exact ⟨p, xs, i, x, rfl, rv_int h2, hs, q1, hR d x H hk (Sub.refl _) fun G' g _ => dp_sub g _ _ q2⟩
  · exact hk.elim
/-! ### list + list, tuple + tuple -/
def nCat : D → D → (D → Prop) → Prop := fun a b k => match a, b with
  | .list xs, .list ys => xs.length + ys.length ≤ 1000000 ∧ k (.list (xs ++ ys))
  | _, _ => False
def nCatT : D → D → (D → Prop) → Prop := fun a b k => match a, b with
  | .tuple xs, .tuple ys => xs.length + ys.length ≤ 1000000 ∧ k (.tuple (xs ++ ys))
  | _, _ => False
theorem big_fits {n : Nat} (h : n ≤ 1000000) : n ≤ sizeLine := Nat.le_trans h (by decide)
/-- lists that are read -/
def rCatG (K : PySem.W.Frag) : R2 := fun x y H Q => ∃ l b xs zs, x = .ref l ∧ y = .ref b ∧ SqL K H l xs ∧ SqL K H b zs ∧ xs.length + zs.length ≤ sizeLine ∧ ∀ p, H p = none → Q (.ref p) (upd H p (.lst (xs ++ zs)))
theorem op_catG {X : Cx} : OpR X (binaryOp .Add) (rCatG X.K) := by
  intro pins s σ H x y v u Q I rx ry h
  obtain ⟨l, b, xs, zs, rfl, rfl, hH, hB, hz, q⟩ := h
  cases rx
  cases ry
  obtain ⟨its, r, ⟨⟨c1, d1, a1, s1⟩, n, e1, hc1, hd1, ha1⟩, _⟩ := I.list hH
  obtain ⟨its2, r2, ⟨⟨c2, d2, a2, s2⟩, n2, e2, hc2, hd2, ha2⟩, _⟩ := I.list hB
  simp only at hc1 hd1 ha1 hc2 hd2 ha2
  subst hc1 hd1 ha1 hc2 hd2 ha2
  have hl := r.length
  have hl2 := r2.length
  refine concat_meets ⟨_, e1, rfl⟩ ⟨_, e2, rfl⟩ noFill_list_add seq_list_add PySem.F.slot_list_add PySem.F.entry_list_add
    (PySem.F.args_list_add_2 _ _) (list_addW l b its.toArray its2.toArray n n2 none none s1 s2 (by simp; omega)) ⟨e1, e2, ?_⟩
  have ea : its.toArray ++ its2.toArray = (its ++ its2).toArray := by simp
  rw [ea]
  exact ⟨.ref _, _, I.lnew (t' := s.toks) (r.append r2) (by rw [List.length_append]; omega), rfl, q _ I.fresh⟩
theorem rs_cat : RS K (rCatG K) nCat := fun G H v1 v2 a b k R s h1 h2 hk hR => by
  unfold nCat at hk
  split at hk
  · rename_i xs ys
    obtain ⟨hz, hk⟩ := hk
    obtain ⟨p, vs, rfl, hs, al⟩ := rv_list s h1
    obtain ⟨q, us, rfl, hs2, al2⟩ := rv_list s h2
    refine ⟨p, q, vs, us, rfl, rfl, hs, hs2, by rw [al.1, al2.1]; exact big_fits hz, fun r hr => hR _ _ _ hk (Sub.new hr) fun G' g nw => ?_⟩
    exact Dp.lst (.inl (.inl (nw r _ hr upd_same))) (dpAll_al.mpr ((al.appL al2).mono fun _ _ z => dp_sub g _ _ z))
  · exact hk.elim
theorem rs_catT : RS K (rCatA K) nCatT := fun G H v1 v2 a b k R s h1 h2 hk hR => by
  unfold nCatT at hk
  split at hk
  · rename_i xs ys
    obtain ⟨hz, hk⟩ := hk
    have keep1 := h1
    have keep2 := h2
    obtain ⟨p, vs, rfl, hs, al⟩ := rv_tuple s h1
    obtain ⟨q, us, rfl, hs2, al2⟩ := rv_tuple s h2
    refine ⟨p, q, vs, us, rfl, rfl, hs, hs2, by rw [al.1, al2.1]; exact big_fits hz, fun e => ?_, fun e1 e2 => ?_, fun e1 e2 r hr => hR _ _ _ hk (Sub.new hr) fun G' g nw => ?_⟩
    · have ex : xs = [] := List.eq_nil_of_length_eq_zero (by rw [← al.1, e]; rfl)
      subst ex
      rcases keep2 with z | ⟨_, _, _, _, _, _, z⟩ | ⟨_, _, _, _, _, _, z⟩
      · exact hR _ _ H hk (Sub.refl _) fun G' g _ => dp_sub g _ _ z
      all_goals cases z
    · have ex : ys = [] := List.eq_nil_of_length_eq_zero (by rw [← al2.1, e2]; rfl)
      subst ex
      rcases keep1 with z | ⟨_, _, _, _, _, _, z⟩ | ⟨_, _, _, _, _, _, z⟩
      · exact hR _ _ H hk (Sub.refl _) fun G' g _ => by rw [List.append_nil]; exact dp_sub g _ _ z
      all_goals cases z
    · exact Dp.tup (.inl (.inl (nw r _ hr upd_same))) (dpAll_al.mpr ((al.appL al2).mono fun _ _ z => dp_sub g _ _ z))
  · exact hk.elim
/-! ### built-ins -/
def bLen : List D → (D → Prop) → Prop := fun ds k => match ds with
  | [.list xs] => k (.int (xs.length : Int))
  | [.tuple xs] => k (.int (xs.length : Int))
  | _ => False
def bList : List D → (D → Prop) → Prop := fun ds k => match ds with
  | [.list xs] => k (.list xs)
  | [.tuple xs] => k (.list xs)
  | _ => False
def bTuple : List D → (D → Prop) → Prop := fun ds k => match ds with
  | [.list xs] => k (.tuple xs)
  | [.tuple xs] => k (.tuple xs)
  | _ => False
def bInt : List D → (D → Prop) → Prop := fun ds k => match ds with
  | [.int i] => k (.int i)
  | [.bool b] => k (.int (if b then 1 else 0))
  | _ => False
def bMax : List D → (D → Prop) → Prop := fun ds k => match ds with
  | [.int i, .int j] => k (.int (if j > i then j else i))
  | _ => False
def bMin : List D → (D → Prop) → Prop := fun ds k => match ds with
  | [.int i, .int j] => k (.int (if j < i then j else i))
  | _ => False
theorem al1 {R : V → D → Prop} {vs : List V} {d : D} (h : Al R vs [d]) : ∃ v, vs = [v] ∧ R v d := by
  obtain ⟨x, r, rfl, h1, h2⟩ := h.cons_inv
  rw [h2.nil_inv]
  exact ⟨x, rfl, h1⟩
theorem al2 {R : V → D → Prop} {vs : List V} {d d' : D} (h : Al R vs [d, d']) : ∃ v v', vs = [v, v'] ∧ R v d ∧ R v' d' := by
  obtain ⟨x, r, rfl, h1, h2⟩ := h.cons_inv
  obtain ⟨y, rfl, h3⟩ := al1 h2
  exact ⟨x, y, rfl, h1, h3⟩
theorem ra_len : RA K (fun xs H Q => ∃ p ys, xs = [.ref p] ∧ (SqL K H p ys ∨ SqT K H p ys) ∧ Q (.int ys.length) H) bLen := fun G H vs ds k R s h hk hR => by
  unfold bLen at hk
  split at hk
  · obtain ⟨v, rfl, r⟩ := al1 h
    obtain ⟨a, xs, rfl, hs, al⟩ := rv_list s r
    exact ⟨a, xs, rfl, .inl hs, by rw [al.1]; exact hR _ _ H hk (Sub.refl _) fun _ _ _ => Dp.int _⟩
  · obtain ⟨v, rfl, r⟩ := al1 h
    obtain ⟨a, xs, rfl, hs, al⟩ := rv_tuple s r
    exact ⟨a, xs, rfl, .inr hs, by rw [al.1]; exact hR _ _ H hk (Sub.refl _) fun _ _ _ => Dp.int _⟩
  · exact hk.elim
theorem ra_list : RA K (fun xs H Q => ∃ p ys, xs = [.ref p] ∧ (SqL K H p ys ∨ SqT K H p ys) ∧ ∀ l, H l = none → Q (.ref l) (upd H l (.lst ys))) bList := fun G H vs ds k R s h hk hR => by
  unfold bList at hk
  split at hk
  · obtain ⟨v, rfl, r⟩ := al1 h
    obtain ⟨a, xs, rfl, hs, al⟩ := rv_list s r
    exact ⟨a, xs, rfl, .inl hs, fun l hl => hR _ _ _ hk (Sub.new hl) fun G' g nw => Dp.lst (.inl (.inl (nw l _ hl upd_same))) (dpAll_al.mpr (al.mono fun _ _ z => dp_sub g _ _ z))⟩
  · obtain ⟨v, rfl, r⟩ := al1 h
    obtain ⟨a, xs, rfl, hs, al⟩ := rv_tuple s r
    exact ⟨a, xs, rfl, .inr hs, fun l hl => hR _ _ _ hk (Sub.new hl) fun G' g nw => Dp.lst (.inl (.inl (nw l _ hl upd_same))) (dpAll_al.mpr (al.mono fun _ _ z => dp_sub g _ _ z))⟩
  · exact hk.elim
theorem ra_tuple : RA K (fun xs H Q => ∃ p ys, xs = [.ref p] ∧ ((SqL K H p ys ∧ ∀ l, H l = none → Q (.ref l) (upd H l (.tup ys))) ∨ (SqT K H p ys ∧ Q (.ref p) H))) bTuple := fun G H vs ds k R s h hk hR => by
  unfold bTuple at hk
  split at hk
  · obtain ⟨v, rfl, r⟩ := al1 h
    obtain ⟨a, xs, rfl, hs, al⟩ := rv_list s r
    exact ⟨a, xs, rfl, .inl ⟨hs, fun l hl => hR _ _ _ hk (Sub.new hl) fun G' g nw => Dp.tup (.inl (.inl (nw l _ hl upd_same))) (dpAll_al.mpr (al.mono fun _ _ z => dp_sub g _ _ z))⟩⟩
  · obtain ⟨v, rfl, r⟩ := al1 h
    have keep := r
    obtain ⟨a, xs, rfl, hs, al⟩ := rv_tuple s r
    rcases keep with z | ⟨_, _, _, _, _, _, z⟩ | ⟨_, _, _, _, _, _, z⟩
    · exact ⟨a, xs, rfl, .inr ⟨hs, hR _ _ H hk (Sub.refl _) fun G' g _ => dp_sub g _ _ z⟩⟩
    all_goals cases z
  · exact hk.elim
theorem ra_int : RA K (fun xs H Q => (∃ i, xs = [.int i] ∧ Q (.int i) H) ∨ ∃ k, xs = [.bl k] ∧ Q (.int (if k then 1 else 0)) H) bInt := fun G H vs ds k R s h hk hR => by
  unfold bInt at hk
  split at hk
  · obtain ⟨v, rfl, r⟩ := al1 h
    exact .inl ⟨_, by rw [rv_int r], hR _ _ H hk (Sub.refl _) fun _ _ _ => Dp.int _⟩
  · obtain ⟨v, rfl, r⟩ := al1 h
    exact .inr ⟨_, by rw [rv_bool r], hR _ _ H hk (Sub.refl _) fun _ _ _ => Dp.int _⟩
  · exact hk.elim
theorem ra_max : RA K (fun xs H Q => ∃ i j, xs = [.int i, .int j] ∧ Q (.int (if j > i then j else i)) H) bMax := fun G H vs ds k R s h hk hR => by
  unfold bMax at hk
  split at hk
  · obtain ⟨v, v', rfl, r, r'⟩ := al2 h
    exact ⟨_, _, by rw [rv_int r, rv_int r'], hR _ _ H hk (Sub.refl _) fun _ _ _ => Dp.int _⟩
  · exact hk.elim
theorem ra_min : RA K (fun xs H Q => ∃ i j, xs = [.int i, .int j] ∧ Q (.int (if j < i then j else i)) H) bMin := fun G H vs ds k R s h hk hR => by
  unfold bMin at hk
  split at hk
  · obtain ⟨v, v', rfl, r, r'⟩ := al2 h
    exact ⟨_, _, by rw [rv_int r, rv_int r'], hR _ _ H hk (Sub.refl _) fun _ _ _ => Dp.int _⟩
  · exact hk.elim
end
end PL

/-! Objects that a def changes: lists, dicts. -/
namespace PL
open PySem PySem.Spec PyProof.Rows L2

/-! ### methods that change a list -/
def kL (o : Ob) (k : Prop) : Prop := match o with
  | .lst _ => k
  | _ => False
theorem kL_elim {o : Ob} {k : Prop} (h : kL o k) : (∃ ds, o = .lst ds) ∧ k := by
  cases o <;> first | exact ⟨⟨_, rfl⟩, h⟩ | exact h.elim
def pMeth (m : Ob → List D → (Ob → D → Prop) → Prop) (pa : PTE) (pr : PTA) : PTE := fun X e Q => pa X e fun w e1 => kO e1 w fun _ o1 => kL o1 (pr X e1 fun ws e2 => kDs e2 ws fun ds => kO e2 w fun k o => m o ds fun o' d => Q (.dat d) ⟨e2.sl, e2.ob.set k o'⟩)
def pMeth0 (m : Ob → List D → (Ob → D → Prop) → Prop) (pa : PTE) : PTE := fun X e Q => pa X e fun w e1 => kO e1 w fun k o => kL o (m o [] fun o' d => Q (.dat d) ⟨e1.sl, e1.ob.set k o'⟩)
/-- (of the values: the object's address, its arguments) -/
def RM (K : PySem.W.Frag) (r : V → List V → Hp → VK → Prop) (m : Ob → List D → (Ob → D → Prop) → Prop) : Prop :=
  ∀ G H a o as vs ds (kk : Ob → D → Prop) (R : VK), Sub G H → OR K G as H a o → Al (Dp K G) vs ds → m o ds kk →
    (∀ o' d v u, o'.live = true → kk o' d → (∀ H', H' a = some u → OR K G as H' a o') → Dp K G v d → R v (upd H a u)) → o.live = true ∧ r (.ref a) vs H R
section
variable {K : PySem.W.Frag} {E : XK} {ta te tx : TE} {tr : TA} {pa pb pc : PTE} {pr : PTA} {r : V → List V → Hp → VK → Prop} {m : Ob → List D → (Ob → D → Prop) → Prop}
theorem ty_list {H0 H : Hp} {iv : Addr → Prop} {as : List Addr} {e : En} {σ : L2.St} {v : V} {n : Nat} {ds : List D} (S : SR K H0 iv as e σ H) (h : WR K (hid iv as e.ob H) as v (.ref n)) (ho : e.ob[n]? = some (.lst ds)) : tyV K "list" v H := by
  obtain ⟨a, ha, rfl⟩ := h
  obtain ⟨xs, q, _⟩ := S.obs n a _ ha ho
  exact .inl ⟨rfl, xs, .inl (.inl q)⟩
theorem snd_bm (hm : RM K r m) (ha : SndE K E ta pa) (hr : SndA K E tr pr) : SndE K E (tBM K "list" r ta tr) (pMeth m pa pr) := ⟨fun H0 iv as e σ H X Q R S h k l => by
  refine ha.run H0 iv as e σ H X _ _ S h (fun x wx as1 e1 H1 h1 S1 l1 w1 => ?_) l
  obtain ⟨n, o1, rfl, ho1, h1⟩ := kO_elim h1
  obtain ⟨⟨ds1, rfl⟩, h1⟩ := kL_elim h1
  refine ⟨ty_list S1 w1 ho1, hr.run H0 iv as1 e1 σ H1 X _ _ S1 h1 (fun vs ws as2 e2 H2 h2 S2 l2 w2 => ?_) (l.on l1)⟩
  obtain ⟨ds, ed, h3⟩ := kDs_elim h2
  obtain ⟨n', o, e0, ho, h4⟩ := kO_elim h3
  cases e0
  obtain ⟨a, ha2, rfl⟩ := l2.wr w1
  refine (hm _ H2 a o as2 vs ds _ R hid_sub (S2.obs n a o ha2 ho) (asDs_wr S2 w2 ed) h4 fun o' d v u hl' hq hn dp => ?_).2
  have hl : o.live = true := (hm _ H2 a o as2 vs ds _ (fun _ _ => True) hid_sub (S2.obs n a o ha2 ho) (asDs_wr S2 w2 ed) h4 fun _ _ _ _ _ _ _ _ => trivial).1
  obtain ⟨S3, l3⟩ := S2.mut (u := u) ha2 ho hl hl' (hn _ upd_same)
  exact k v _ as2 _ _ hq S3 ((l1.trans l2).trans l3) (l3.dp dp)⟩
theorem snd_bm0 (hm : RM K r m) (ha : SndE K E ta pa) : SndE K E (tBM0 K "list" r ta) (pMeth0 m pa) := ⟨fun H0 iv as e σ H X Q R S h k l => by
  refine ha.run H0 iv as e σ H X _ _ S h (fun x wx as1 e1 H1 h1 S1 l1 w1 => ?_) l
  obtain ⟨n, o1, rfl, ho1, h1⟩ := kO_elim h1
  obtain ⟨⟨ds1, rfl⟩, h4⟩ := kL_elim h1
  refine ⟨ty_list S1 w1 ho1, ?_⟩
  obtain ⟨a, ha2, rfl⟩ := w1
  refine (hm _ H1 a _ as1 [] [] _ R hid_sub (S1.obs n a _ ha2 ho1) Al.nil h4 fun o' d v u hl' hq hn dp => ?_).2
  obtain ⟨S3, l3⟩ := S1.mut (u := u) ha2 ho1 rfl hl' (hn _ upd_same)
  exact k v _ as1 _ _ hq S3 (l1.trans l3) (l3.dp dp)⟩
def mAppend : Ob → List D → (Ob → D → Prop) → Prop := fun o ds k => match o, ds with
  | .lst xs, [d] => xs.length ≤ 1000000 ∧ k (.lst (xs ++ [d])) .none
  | _, _ => False
theorem fits_lt {n : Nat} (h : n ≤ 1000000) : n < sizeLine := Nat.lt_of_le_of_lt h (by decide)
theorem rm_append : RM K rAppend mAppend := fun G H a o as vs ds kk R s ho al h hR => by
  unfold mAppend at h
  split at h
  · rename_i ys d
    obtain ⟨hz, hk⟩ := h
    obtain ⟨xs, q, r⟩ := ho
    obtain ⟨v, rfl, dv⟩ := al1 al
    exact ⟨rfl, a, xs, v, rfl, rfl, q, by rw [r.1]; exact fits_lt hz, hR _ _ _ _ rfl hk (fun H' h' => ⟨_, h', r.app dv⟩) Dp.non⟩
  · exact h.elim
/-- pop() -/
def mPop : Ob → List D → (Ob → D → Prop) → Prop := fun o ds k => match o, ds with
  | .lst xs, [] => ∃ d, xs[xs.length - 1]? = some d ∧ k (.lst xs.dropLast) d
  | _, _ => False
theorem rm_pop : RM K rPop mPop := fun G H a o as vs ds kk R s ho al h hR => by
  unfold mPop at h
  split at h
  · rename_i ys
    obtain ⟨d, hd, h⟩ := h
    obtain ⟨xs, q, r⟩ := ho
    obtain ⟨v, h1, dv⟩ := r.get hd
    rw [al.nil_inv]
    exact ⟨rfl, a, xs, v, rfl, rfl, q, by rw [r.1]; exact h1, hR _ _ _ _ rfl h (fun H' h' => ⟨_, h', r.dropLast⟩) dv⟩
  · exact h.elim
/-- pop(0) -/
def mPopF : Ob → List D → (Ob → D → Prop) → Prop := fun o ds k => match o, ds with
  | .lst ys, [.int 0] => ∃ d xs, ys = d :: xs ∧ k (.lst xs) d
  | _, _ => False
theorem rm_popF : RM K rPopAt mPopF := fun G H a o as vs ds kk R s ho al h hR => by
  unfold mPopF at h
  split at h
  · obtain ⟨d, ys, rfl, h⟩ := h
    obtain ⟨xs, q, r⟩ := ho
    obtain ⟨v, h1, rfl, dv, r2⟩ := r.cons_inv
    rw [al_ints1 al]
    refine ⟨rfl, a, v :: h1, 0, 0, v, rfl, rfl, q, by decide, by decide, ?_, rfl, hR _ _ _ _ rfl h (fun H' h' => ⟨_, h', r2⟩) dv⟩
    simp [seqIndex?]
  · exact h.elim
/-! ### dicts -/
def keq : D → D → Bool
  | .int i, .int j => decide (i = j)
  | .str x, .str y => decide (x = y)
  | _, _ => false
def lookD : List (D × D) → D → Option D
  | [], _ => none
  | (k, v) :: r, d => if keq k d = true then some v else lookD r d
def keyOf : D → Option Key
  | .int i => some (.inl i)
  | .str x => some (.inr x)
  | _ => none
def nDGet : D → D → (D → Prop) → Prop := fun a b k => match a with
  | .dict kvs => match keyOf b with
    | some _ => ∃ d, lookD kvs b = some d ∧ k d
    | none => False
  | _ => False
theorem keq_key (k k' : Key) : keq (keyD k) (keyD k') = decide (k = k') := by
  cases k <;> cases k' <;> simp [keq, keyD]
theorem keyOf_some {b : D} {k : Key} (h : keyOf b = some k) : b = keyD k := by
  cases b <;> simp [keyOf] at h <;> subst h <;> rfl
theorem look_al {G : Hp} : ∀ {ys : List (Key × V)} {kvs : List (Key × D)} (k : Key), Al (fun (y : Key × V) z => y.1 = z.1 ∧ Dp K G y.2 z.2) ys kvs →
    (∀ d, lookD (kvs.map fun z => (keyD z.1, z.2)) (keyD k) = some d → ∃ v, valV ys k = some v ∧ Dp K G v d) ∧ (lookD (kvs.map fun z => (keyD z.1, z.2)) (keyD k) = none → valV ys k = none)
  | ys, [], k, h => by
    rw [h.nil_inv]
    exact ⟨fun d z => by simp [lookD] at z, fun _ => rfl⟩
  | ys, (k1, d1) :: kvs, k, h => by
    obtain ⟨⟨k2, v2⟩, r, rfl, ⟨h1, h2⟩, h3⟩ := h.cons_inv
    simp only at h1 h2
    subst h1
    have ih := look_al k h3
    simp only [List.map_cons, lookD, keq_key]
    by_cases hk : k2 = k
    · subst hk
      simp only [decide_true, if_true]
      exact ⟨fun d z => ⟨v2, by simp [valV], by cases z; exact h2⟩, fun z => by cases z⟩
    · have hf : decide (k2 = k) = false := decide_eq_false hk
      simp only [hf, Bool.false_eq_true, if_false]
      have hv : valV ((k2, v2) :: r) k = valV r k := by simp [valV, hk]
      rw [hv]
      exact ih
theorem rv_dict {G H : Hp} {v : V} {kvs : List (D × D)} {b : D} {k : Key} (h : RV K G H v (.dict kvs)) (hb : keyOf b = some k) : ∃ (a : Addr) (ys : List (Key × V)) (kv2 : List (Key × D)), v = .ref a ∧ H a = some (.dK ys) ∧ Al (fun (y : Key × V) z => y.1 = z.1 ∧ Dp K G y.2 z.2) ys kv2 ∧ kvs = kv2.map fun z => (keyD z.1, z.2) := by
  rcases h with h | ⟨a, xs, ds, rfl, h1, h2, e⟩ | ⟨a, ys, kv2, rfl, h1, h2, e⟩
  · cases h
  · cases e
  · cases e; exact ⟨a, ys, kv2, rfl, h1, h2, rfl⟩
theorem keyV {G H : Hp} {v : V} {k : Key} (h : RV K G H v (keyD k)) : v = kV k := by
  cases k with
  | inl i => exact rv_int h
  | inr x => exact rv_str h
theorem rs_dget : RS K (fun x y H Q => ∃ a v, x = .ref a ∧ DGet H a y (some v) ∧ Q v H) nDGet := fun G H v1 v2 a b k R s h1 h2 hk hR => by
  unfold nDGet at hk
  split at hk
  · split at hk
    · rename_i kvs _ kb hb
      have eb := keyOf_some hb
      subst eb
      obtain ⟨d, hd, hk⟩ := hk
      obtain ⟨a, ys, kv2, rfl, q1, q2, rfl⟩ := rv_dict h1 hb
      obtain ⟨v, e1, e2⟩ := (look_al kb q2).1 d hd
      refine ⟨a, v, rfl, ?_, hR d v H hk (Sub.refl _) fun G' g _ => dp_sub g _ _ e2⟩
      rw [keyV h2, ← e1]
      exact DGet.k q1
    · exact hk.elim
  · exact hk.elim
/-- k in d -/
def nDIn (neg : Bool) : D → D → (D → Prop) → Prop := fun b a k => match a with
  | .dict kvs => match keyOf b with
    | some _ => k (.bool (if neg then !(lookD kvs b).isSome else (lookD kvs b).isSome))
    | none => False
  | _ => False
theorem look_some {G : Hp} {ys : List (Key × V)} {kvs : List (Key × D)} (k : Key) (h : Al (fun (y : Key × V) z => y.1 = z.1 ∧ Dp K G y.2 z.2) ys kvs) : (valV ys k).isSome = (lookD (kvs.map fun z => (keyD z.1, z.2)) (keyD k)).isSome := by
  obtain ⟨h1, h2⟩ := look_al k h
  cases q : lookD (kvs.map fun z => (keyD z.1, z.2)) (keyD k) with
  | none => rw [h2 q]; rfl
  | some d =>
    obtain ⟨v, e, _⟩ := h1 d q
    rw [e]; rfl
end

/-! ### d[k] = v on an own dict -/
def putD {κ : Type} [DecidableEq κ] (kvs : List (κ × D)) (k : κ) (v : D) : List (κ × D) :=
  if (kvs.any fun kv => decide (kv.1 = k)) = true then kvs.map (fun kv => if kv.1 = k then (kv.1, v) else kv) else kvs ++ [(k, v)]
theorem put_al {R : V → D → Prop} {κ : Type} [DecidableEq κ] {ys : List (κ × V)} {kvs : List (κ × D)} {k : κ} {v : V} {d : D} (h : Al (fun (y : κ × V) z => y.1 = z.1 ∧ R y.2 z.2) ys kvs) (hv : R v d) : Al (fun (y : κ × V) z => y.1 = z.1 ∧ R y.2 z.2) (putK ys k v) (putD kvs k d) := by
  have hany : (ys.any fun kv => decide (kv.1 = k)) = (kvs.any fun kv => decide (kv.1 = k)) := by
    rw [Bool.eq_iff_iff]
    simp only [List.any_eq_true, decide_eq_true_eq]
    constructor
    · rintro ⟨y, hy, e⟩
      obtain ⟨i, hi⟩ := List.mem_iff_getElem?.mp hy
      obtain ⟨z, hz, r⟩ := h.get' hi
      exact ⟨z, List.mem_iff_getElem?.mpr ⟨i, hz⟩, r.1 ▸ e⟩
    · rintro ⟨y, hy, e⟩
      obtain ⟨i, hi⟩ := List.mem_iff_getElem?.mp hy
      obtain ⟨z, hz, r⟩ := h.get hi
      exact ⟨z, List.mem_iff_getElem?.mpr ⟨i, hz⟩, r.1.trans e⟩
  unfold putK putD
  rw [hany]
  split
  · refine ⟨by simp [h.1], fun i x y p q => ?_⟩
    rw [List.getElem?_map] at p q
    cases hx : ys[i]? with
    | none => rw [hx] at p; cases p
    | some x0 =>
      obtain ⟨y0, hy0, r1, r2⟩ := h.get' hx
      rw [hx] at p; rw [hy0] at q
      simp only [Option.map_some, Option.some.injEq] at p q
      subst p; subst q
      by_cases hk : x0.1 = k
      · rw [if_pos hk, if_pos (r1 ▸ hk)]
        exact ⟨r1, hv⟩
      · rw [if_neg hk, if_neg (r1 ▸ hk)]
        exact ⟨r1, r2⟩
  · exact h.app ⟨rfl, hv⟩
def pDPut (pd pk pv : PTE) : PTS := fun P e => pv P.xe e fun wv e1 => pd P.xe e1 fun w e2 => pk P.xe e2 fun wk e3 => kD e3 wv fun v => kD e3 wk fun b => kO e3 w fun n o => match o with
  | .dic kvs => match keyOf b with
    | some k => kvs.length ≤ 100000 ∧ P.nx ⟨e3.sl, e3.ob.set n (.dic (putD kvs k v))⟩
    | none => False
  | _ => False
section
variable {K : PySem.W.Frag} {E : XK} {td ty tv : TE} {pd pk pv : PTE}
theorem snd_dput (hd : SndE K E td pd) (hk : SndE K E ty pk) (hv : SndE K E tv pv) : SndS K E (sDPut td ty tv) (pDPut pd pk pv) := ⟨fun H0 iv as e σ H P F S h n b c r x => by
  refine hv.run H0 iv as e σ H P.xe _ _ S h (fun v wv as1 e1 H1 h1 S1 l1 w1 => ?_) x.lx
  refine hd.run H0 iv as1 e1 σ H1 P.xe _ _ S1 h1 (fun u w as2 e2 H2 h2 S2 l2 w2 => ?_) (x.on l1).lx
  refine hk.run H0 iv as2 e2 σ H2 P.xe _ _ S2 h2 (fun y wk as3 e3 H3 h3 S3 l3 w3 => ?_) (x.on (l1.trans l2)).lx
  obtain ⟨dv, ev, h4⟩ := kD_elim h3
  obtain ⟨dk, ek, h5⟩ := kD_elim h4
  obtain ⟨j, o, rfl, ho, h6⟩ := kO_elim h5
  split at h6
  · rename_i kvs
    split at h6
    · rename_i kk hkk
      obtain ⟨hz, h7⟩ := h6
      obtain ⟨a, ha, rfl⟩ := l3.wr w2
      have eb := keyOf_some hkk
      subst eb
      obtain ⟨ys, q1, q2⟩ := S3.obs j a _ ha ho
      have ey : y = kV kk := keyV (.inl (asD_wr S3 w3 ek) : RV K _ H3 y (keyD kk))
      have dpv := asD_wr S3 ((l2.trans l3).wr w1) ev
      refine ⟨a, upd H3 a (.dK (putK ys kk v)), rfl, ?_, ?_⟩
      · rw [ey]
        exact DPut.k q1 (by rw [q2.1]; exact fits_lt (by omega))
      · obtain ⟨S4, l4⟩ := S3.mut (o' := .dic (putD kvs kk dv)) (u := .dK (putK ys kk v)) ha ho rfl rfl ⟨_, upd_same, put_al (R := Dp K _) q2 dpv⟩
        exact n as3 _ σ _ h7 S4 (((l1.trans l2).trans l3).trans l4)
    · exact h6.elim
  · exact h6.elim⟩
end
/-! ### isinstance with a built-in class -/
def isTyD : String → D → Option Bool
  | "int", .int _ => some true
  | "int", .bool _ => some true
  | "int", _ => some false
  | "bool", .bool _ => some true
  | "bool", _ => some false
  | "list", .list _ => some true
  | "list", _ => some false
  | "tuple", .tuple _ => some true
  | "tuple", _ => some false
  | "str", .str _ => some true
  | "str", _ => some false
  | _, _ => none
def pIsi (n : String) (p : PTE) : PTE := fun X e Q => p X e fun w e1 => kD e1 w fun d => ∃ b, isTyD n d = some b ∧ Q (.dat (.bool b)) e1
section
variable {K : PySem.W.Frag} {E : XK} {te : TE} {p : PTE}
def tyN : D → String
  | .none => "NoneType"
  | .bool _ => "bool"
  | .int _ => "int"
  | .str _ => "str"
  | .list _ => "list"
  | .tuple _ => "tuple"
  | .dict _ => "dict"
theorem tyx_of {G H : Hp} {v : V} {d : D} (s : Sub G H) (h : Dp K G v d) : TyX K H v (.type (tyN d)) := by
  cases h with
  | non => exact .base .non
  | bl b => exact .base (.bl b)
  | int i => exact .base (.int i)
  | str x => exact .base (.str x)
  | lst hs _ =>
    rcases sql_sub s hs with (q | ⟨o, q⟩) | ⟨o, its, n, q1, q2, _⟩
    · exact .base (.lst q)
    · exact .base (.frz q)
    · exact .kList q1 q2
  | tup hs _ =>
    rcases sqt_sub s hs with (q | ⟨o, q⟩) | ⟨o, its, n, q1, q2, _⟩
    · exact .base (.tup q)
    · exact .fTuple q
    · exact .kTuple q1 q2
theorem kit_all : ∀ (n : String) (d : D) (b : Bool), isTyD n d = some b → (∀ kvs, d ≠ .dict kvs) → kitB (tyN d) n = some b := by
  intro n d b h hd
  unfold isTyD at h
  split at h <;> first
    | (cases h; done)
    | (cases h; simp only [tyN]; decide +kernel)
    | (cases h
       cases d <;> first | exact absurd rfl (hd _) | (exfalso; simp_all; done) | (simp only [tyN]; decide +kernel))
theorem snd_isi {n : String} (h : SndE K E te p) : SndE K E (tCB (rIsi K) (tCons te (tCons (tC (.ty n)) tNil))) (pIsi n p) := ⟨fun H0 iv as e σ H X Q R S hq k l => by
  refine h.run H0 iv as e σ H X _ _ S hq (fun v w as1 e1 H1 h1 S1 l1 w1 => ?_) l
  obtain ⟨d, ed, h2⟩ := kD_elim h1
  · obtain ⟨b, hb, h2⟩ := h2
    have dp := asD_wr S1 w1 ed
    have nd : ∀ kvs, d ≠ .dict kvs := fun kvs e => by subst e; cases dp
    exact ⟨v, .ty n, .type (tyN d), .type n, b, rfl, .ty n, tyx_of hid_sub dp, kit_ty (kit_all n d b hb nd), k _ _ as1 e1 H1 h2 S1 l1 (Dp.bl b)⟩⟩
end
end PL

/-! Rules: a piece of the text, its reading, its reading by plain data. -/
namespace PL
open PySem PySem.Spec PyProof.Rows L2

structure PD (X : Cx) (E : XK) (ex : Expr) (te : TE) (p : PTE) : Prop where
  a : PE X ex te
  b : SndE X.K E te p
structure TD (X : Cx) (E : XK) (ex : Expr) (te : TT) (p : PTT) : Prop where
  a : PT X ex te
  b : SndT X.K E te p
structure WD (X : Cx) (E : XK) (ex : Expr) (te : TT) (p : PTT) : Prop where
  a : PW X ex te
  b : SndT X.K E te p
structure AD (X : Cx) (E : XK) (es : List Expr) (te : TA) (p : PTA) : Prop where
  a : PA X es te
  b : SndA X.K E te p
structure ID (X : Cx) (E : XK) (tg ex : Expr) (te : TI) (p : PTI) : Prop where
  a : PI X tg ex te
  b : SndI X.K E te p
structure GD (X : Cx) (vs : List Nat) (ex : Expr) (te : TG) (p : PTG) : Prop where
  a : PG X ex te
  b : SndG X.K vs te p
structure SD (X : Cx) (E : XK) (st : Stmt) (te : TS) (p : PTS) : Prop where
  a : PS X st te
  b : SndS X.K E te p
structure BD (X : Cx) (E : XK) (st : List Stmt) (te : TS) (p : PTS) : Prop where
  a : PSs X st te
  b : SndS X.K E te p
structure QD (X : Cx) (E : XK) (es : List Expr) (te : TT) (p : PTT) : Prop where
  a : PTs X es te
  b : SndT X.K E te p

section
variable {X : Cx} {E : XK} {a b c f : Expr} {ta tb tc te : TE} {pa pb pc p : PTE} {pos p2 apos cpos : Pos} {es : List Expr} {tr : TA} {pr : PTA} {t u : TT} {q r : PTT} {ts us : TS} {ps qs : PTS} {st : Stmt} {rest body els : List Stmt} {x : Str} {g : TG} {pg : PTG} {vs : List Nat} {wi : TI} {pi : PTI} {tg iter : Expr} {k : Nat}
/-! ### names, constants -/
theorem pd_var (i : Nat) (hN : X.N[i]? = some x := by rfl) (hv : Vis X.env.scope x := by first | exact .inl rfl | exact .inr (.inl rfl) | exact .inr (.inr rfl)) (hd : (x == ("__debug__" : Str)) = false := by decide)
    (hcd : (x == ("__classdict__" : Str)) = false := by decide) : PD X E (.Name x pos) (tVar i) (pVar i) := ⟨pe_var hN hv hd hcd, snd_var⟩
theorem pd_frz (i : Nat) (hN : X.N[i]? = some x := by rfl) (hv : Vis X.env.scope x := by first | exact .inl rfl | exact .inr (.inl rfl) | exact .inr (.inr rfl)) (hd : (x == ("__debug__" : Str)) = false := by decide)
    (hcd : (x == ("__classdict__" : Str)) = false := by decide) : PD X E (.Name x pos) (tVar i) (pFrz i) := ⟨pe_var hN hv hd hcd, snd_frz⟩
theorem pd_int {i : Int} {j : Nat} : PD X E (.Constant (.int i) j pos) (tC (.int i)) (pC (.int i)) := ⟨pe_int, snd_c fun _ _ => Dp.int i⟩
theorem pd_str {s : Str} {j : Nat} : PD X E (.Constant (.str s) j pos) (tC (.str s)) (pC (.str s)) := ⟨pe_str, snd_c fun _ _ => Dp.str s⟩
theorem pd_bl {s : Bool} {j : Nat} : PD X E (.Constant (.bool s) j pos) (tC (.bl s)) (pC (.bool s)) := ⟨pe_bl, snd_c fun _ _ => Dp.bl s⟩
theorem pd_non {j : Nat} : PD X E (.Constant .none j pos) (tC .non) (pC .none) := ⟨pe_non, snd_c fun _ _ => Dp.non⟩
/-- a constant of the module -/
theorem pd_glob {v : V} {d : D} {u' : Value} (hg : Gl X x) (hm : X.mg x = some u') (hr : RelV v u') (hk : ∀ K' G, Dp K' G v d) (hd : (x == ("__debug__" : Str)) = false := by decide) : PD X E (.Name x pos) (tC v) (pC d) := ⟨pe_glob hg hm hr hd, snd_c hk⟩
/-! ### operators -/
theorem pd_op {op : Operator} {r2 : R2} {rr : D → D → (D → Prop) → Prop} (ho : OpR X (binaryOp op) r2) (hr : RS X.K r2 rr) (ha : PD X E a ta pa) (hb : PD X E b tb pb) : PD X E (.BinOp a op b pos) (tOp r2 ta tb) (pBin rr pa pb) := ⟨pe_op ho ha.a hb.a, snd_op hr ha.b hb.b⟩
abbrev addR : R2 := rI0 fun i j => .int (i + j)
abbrev subR : R2 := rI0 fun i j => .int (i - j)
abbrev mulR : R2 := rI CMul fun i j => .int (i * j)
abbrev modR : R2 := rI (fun _ j => 0 < j) fun i j => .int (i % j)
abbrev divR : R2 := rI CDiv fun i j => .int (i / j)
abbrev powR : R2 := rI CPow fun i j => .int (i ^ j.toNat)
abbrev shlR : R2 := rI CPow fun i j => .int (i * 2 ^ j.toNat)
abbrev shrR : R2 := rI (fun _ j => 0 ≤ j) fun i j => .int (i / 2 ^ j.toNat)
abbrev bandR : R2 := rI0 fun i j => .int (Builtin.bitAnd i j)
abbrev borR : R2 := rI0 fun i j => .int (Builtin.bitOr i j)
def addI : D → D → (D → Prop) → Prop := nInt fun i j => .int (i + j)
def subI : D → D → (D → Prop) → Prop := nInt fun i j => .int (i - j)
def mulI : D → D → (D → Prop) → Prop := nIntC CMul fun i j => .int (i * j)
def modI : D → D → (D → Prop) → Prop := nIntC (fun _ j => 0 < j) fun i j => .int (i % j)
def divI : D → D → (D → Prop) → Prop := nIntC CDiv fun i j => .int (i / j)
def powI : D → D → (D → Prop) → Prop := nIntC CPow fun i j => .int (i ^ j.toNat)
def shlI : D → D → (D → Prop) → Prop := nIntC CPow fun i j => .int (i * 2 ^ j.toNat)
def shrI : D → D → (D → Prop) → Prop := nIntC (fun _ j => 0 ≤ j) fun i j => .int (i / 2 ^ j.toNat)
def andI : D → D → (D → Prop) → Prop := nInt fun i j => .int (Builtin.bitAnd i j)
def orI : D → D → (D → Prop) → Prop := nInt fun i j => .int (Builtin.bitOr i j)
theorem pd_add (ha : PD X E a ta pa) (hb : PD X E b tb pb) : PD X E (.BinOp a .Add b pos) (tOp addR ta tb) (pBin addI pa pb) := pd_op op_add (rs_int fun _ _ _ => Dp.int _) ha hb
theorem pd_sub (ha : PD X E a ta pa) (hb : PD X E b tb pb) : PD X E (.BinOp a .Sub b pos) (tOp subR ta tb) (pBin subI pa pb) := pd_op op_sub (rs_int fun _ _ _ => Dp.int _) ha hb
theorem pd_mul (ha : PD X E a ta pa) (hb : PD X E b tb pb) : PD X E (.BinOp a .Mult b pos) (tOp mulR ta tb) (pBin mulI pa pb) := pd_op op_mul (rs_intC fun _ _ _ => Dp.int _) ha hb
theorem pd_mod (ha : PD X E a ta pa) (hb : PD X E b tb pb) : PD X E (.BinOp a .Mod b pos) (tOp modR ta tb) (pBin modI pa pb) := pd_op op_mod (rs_intC fun _ _ _ => Dp.int _) ha hb
theorem pd_div (ha : PD X E a ta pa) (hb : PD X E b tb pb) : PD X E (.BinOp a .FloorDiv b pos) (tOp divR ta tb) (pBin divI pa pb) := pd_op op_fdiv (rs_intC fun _ _ _ => Dp.int _) ha hb
theorem pd_pow (ha : PD X E a ta pa) (hb : PD X E b tb pb) : PD X E (.BinOp a .Pow b pos) (tOp powR ta tb) (pBin powI pa pb) := pd_op op_pow (rs_intC fun _ _ _ => Dp.int _) ha hb
theorem pd_shl (ha : PD X E a ta pa) (hb : PD X E b tb pb) : PD X E (.BinOp a .LShift b pos) (tOp shlR ta tb) (pBin shlI pa pb) := pd_op op_shl (rs_intC fun _ _ _ => Dp.int _) ha hb
theorem pd_shr (ha : PD X E a ta pa) (hb : PD X E b tb pb) : PD X E (.BinOp a .RShift b pos) (tOp shrR ta tb) (pBin shrI pa pb) := pd_op op_shr (rs_intC fun _ _ _ => Dp.int _) ha hb
theorem pd_band (ha : PD X E a ta pa) (hb : PD X E b tb pb) : PD X E (.BinOp a .BitAnd b pos) (tOp bandR ta tb) (pBin andI pa pb) := pd_op op_and (rs_int fun _ _ _ => Dp.int _) ha hb
theorem pd_bor (ha : PD X E a ta pa) (hb : PD X E b tb pb) : PD X E (.BinOp a .BitOr b pos) (tOp borR ta tb) (pBin orI pa pb) := pd_op op_or (rs_int fun _ _ _ => Dp.int _) ha hb
theorem pd_cat {K : PySem.W.Frag} (ha : PD X E a ta pa) (hb : PD X E b tb pb) (hK : X.K = K := by rfl) : PD X E (.BinOp a .Add b pos) (tOp (rCatG K) ta tb) (pBin nCat pa pb) := by
  subst hK
  exact pd_op op_catG rs_cat ha hb
theorem pd_catT {K : PySem.W.Frag} (ha : PD X E a ta pa) (hb : PD X E b tb pb) (hK : X.K = K := by rfl) : PD X E (.BinOp a .Add b pos) (tOp (rCatA K) ta tb) (pBin nCatT pa pb) := by
  subst hK
  exact pd_op op_catA rs_catT ha hb
/-! ### comparisons -/
theorem pd_cmp {op : CmpOp} {r2 : R2} {rr : D → D → (D → Prop) → Prop} (ho : OpR X (compareOp op) r2) (hr : RS X.K r2 rr) (ha : PD X E a ta pa) (hb : PD X E b tb pb) (hm : behindInMarks op b = false) : PD X E (.Compare a [op] [b] pos) (tOp r2 ta tb) (pBin rr pa pb) :=
  ⟨pe_cmpR ho ha.a hb.a hm, snd_op hr ha.b hb.b⟩
theorem td_cmp {op : CmpOp} {r2 : R2} {rr : D → D → (D → Prop) → Prop} (ho : OpR X (compareOp op) r2) (hr : RS X.K r2 rr) (ha : PD X E a ta pa) (hb : PD X E b tb pb) (hm : behindInMarks op b = false) : TD X E (.Compare a [op] [b] pos) (tTest (tOp r2 ta tb)) (pTst (pBin rr pa pb)) :=
  ⟨pt_cmpR ho ha.a hb.a hm, snd_tst (snd_op hr ha.b hb.b)⟩
def ltI : D → D → (D → Prop) → Prop := nInt fun i j => .bool (decide (i < j))
def leI : D → D → (D → Prop) → Prop := nInt fun i j => .bool (decide (i ≤ j))
def gtI : D → D → (D → Prop) → Prop := nInt fun i j => .bool (decide (j < i))
def geI : D → D → (D → Prop) → Prop := nInt fun i j => .bool (decide (j ≤ i))
theorem cm_lt : OpR X (compareOp .Lt) (rI0 fun i j => .bl (decide (i < j))) ∧ RS X.K (rI0 fun i j => .bl (decide (i < j))) ltI := ⟨op_lt, rs_int fun _ _ _ => Dp.bl _⟩
theorem cm_le : OpR X (compareOp .LtE) (rI0 fun i j => .bl (decide (i ≤ j))) ∧ RS X.K (rI0 fun i j => .bl (decide (i ≤ j))) leI := ⟨op_le, rs_int fun _ _ _ => Dp.bl _⟩
theorem cm_gt : OpR X (compareOp .Gt) (rI0 fun i j => .bl (decide (j < i))) ∧ RS X.K (rI0 fun i j => .bl (decide (j < i))) gtI := ⟨op_gt, rs_int fun _ _ _ => Dp.bl _⟩
theorem cm_ge : OpR X (compareOp .GtE) (rI0 fun i j => .bl (decide (j ≤ i))) ∧ RS X.K (rI0 fun i j => .bl (decide (j ≤ i))) geI := ⟨op_ge, rs_int fun _ _ _ => Dp.bl _⟩
theorem cm_eqS : OpR X (compareOp .Eq) rEq ∧ RS X.K rEq (nSc false) := ⟨op_eq, rs_sceq⟩
theorem cm_neS : OpR X (compareOp .NotEq) rNe ∧ RS X.K rNe (nSc true) := ⟨op_ne, rs_scne⟩
theorem cm_eqD {K : PySem.W.Frag} (hu : X.A.units + 64 < cLine) (hK : X.K = K := by rfl) : OpR X (compareOp .Eq) (rEqD K) ∧ RS K (rEqD K) (nEq false) := by
  subst hK
  exact ⟨op_eqD hu, rs_eq⟩
theorem cm_neD {K : PySem.W.Frag} (hu : X.A.units + 64 < cLine) (hK : X.K = K := by rfl) : OpR X (compareOp .NotEq) (rNeD K) ∧ RS K (rNeD K) (nEq true) := by
  subst hK
  exact ⟨op_neD hu, rs_ne⟩
theorem cm_isN : OpR X (compareOp .Is) (fun x y H Q => y = .non ∧ Q (.bl (decide (x = .non))) H) ∧ RS X.K (fun x y H Q => y = .non ∧ Q (.bl (decide (x = .non))) H) (nIsN false) := ⟨op_isN, rs_isN⟩
theorem cm_notN : OpR X (compareOp .IsNot) (fun x y H Q => y = .non ∧ Q (.bl (!decide (x = .non))) H) ∧ RS X.K (fun x y H Q => y = .non ∧ Q (.bl (!decide (x = .non))) H) (nIsN true) := ⟨op_notN, rs_notN⟩
theorem pd_cm {op : CmpOp} {r2 : R2} {rr : D → D → (D → Prop) → Prop} (ho : OpR X (compareOp op) r2 ∧ RS X.K r2 rr) (ha : PD X E a ta pa) (hb : PD X E b tb pb) (hm : behindInMarks op b = false) : PD X E (.Compare a [op] [b] pos) (tOp r2 ta tb) (pBin rr pa pb) := pd_cmp ho.1 ho.2 ha hb hm
theorem td_cm {op : CmpOp} {r2 : R2} {rr : D → D → (D → Prop) → Prop} (ho : OpR X (compareOp op) r2 ∧ RS X.K r2 rr) (ha : PD X E a ta pa) (hb : PD X E b tb pb) (hm : behindInMarks op b = false) : TD X E (.Compare a [op] [b] pos) (tTest (tOp r2 ta tb)) (pTst (pBin rr pa pb)) := td_cmp ho.1 ho.2 ha hb hm
/-! ### items -/
theorem pd_ixL {K : PySem.W.Frag} (ha : PD X E a ta pa) (hb : PD X E b tb pb) (hs : PlainIx b := by exact fun _ _ => rfl) (hK : X.K = K := by rfl) : PD X E (.Subscript a b pos) (tOp (rIxL K) ta tb) (pBin nIxL pa pb) := by
  subst hK
  exact ⟨pe_ix ix_list ha.a hb.a hs, snd_op rs_ixL ha.b hb.b⟩
theorem pd_ixT {K : PySem.W.Frag} (ha : PD X E a ta pa) (hb : PD X E b tb pb) (hs : PlainIx b := by exact fun _ _ => rfl) (hK : X.K = K := by rfl) : PD X E (.Subscript a b pos) (tOp (rIxT K) ta tb) (pBin nIxT pa pb) := by
  subst hK
  exact ⟨pe_ix ix_tup ha.a hb.a hs, snd_op rs_ixT ha.b hb.b⟩
theorem pd_dget (hu : X.A.units + 1 < cLine) (ha : PD X E a ta pa) (hb : PD X E b tb pb) (hs : NoSl b := by exact fun _ _ => rfl) : PD X E (.Subscript a b pos) (tDGet ta tb) (pBin nDGet pa pb) := ⟨pe_dget hu ha.a hb.a hs, snd_op (r2 := fun x y H Q => ∃ a v, x = .ref a ∧ DGet H a y (some v) ∧ Q v H) rs_dget ha.b hb.b⟩
/-! ### displays -/
theorem ad_nil : AD X E [] tNil pNil := ⟨pa_nil, snd_nil⟩
theorem ad_cons (ha : PD X E a ta pa) (hr : AD X E es tr pr) (hs : starEach (a :: es) X.env = (false, eval a X.env) :: starEach es X.env := by rfl) : AD X E (a :: es) (tCons ta tr) (pCons pa pr) := ⟨pa_cons ha.a hr.a hs, snd_cons ha.b hr.b⟩
theorem pd_tup (h : AD X E es tr pr) : PD X E (.Tuple es k pos) (tTup tr) (pTup pr) := ⟨pe_tup h.a, snd_tup h.b⟩
theorem pd_lst (h : AD X E es tr pr) : PD X E (.List es pos) (tLst tr) (pLst pr) := ⟨pe_lst h.a, snd_lst h.b⟩
theorem pd_lstO (h : AD X E es tr pr) : PD X E (.List es pos) (tLst tr) (pLstO pr) := ⟨pe_lst h.a, snd_lstO h.b⟩
/-! ### tests, and, or, not, if -/
theorem td_val (h : PD X E a ta pa) (he : ∀ whole, isTrue a X.env whole = (do let v ← whole; standAt a.pos; holding [v] (truthy v)) := by intro _; rfl) : TD X E a (tB ta) (pTst pa) := ⟨pt_val h.a he, snd_tB h.b⟩
theorem wd_and1 (h : TD X E a t q) : WD X E (.BoolOp .And [a] pos) t q := ⟨pw_and1 h.a, h.b⟩
theorem wd_or1 (h : TD X E a t q) : WD X E (.BoolOp .Or [a] pos) t q := ⟨pw_or1 h.a, h.b⟩
theorem wd_and (h : TD X E a t q) (h2 : WD X E (.BoolOp .And (b :: es) pos) u r) : WD X E (.BoolOp .And (a :: b :: es) pos) (tAnd t u) (pAnd q r) := ⟨pw_and h.a h2.a, snd_and h.b h2.b⟩
theorem wd_or (h : TD X E a t q) (h2 : WD X E (.BoolOp .Or (b :: es) pos) u r) : WD X E (.BoolOp .Or (a :: b :: es) pos) (tOr t u) (pOr q r) := ⟨pw_or h.a h2.a, snd_or h.b h2.b⟩
theorem td_wd (h : WD X E a t q) : TD X E a t q := ⟨h.a.pt, h.b⟩
theorem td_not (h : TD X E a t q) : TD X E (.UnaryOp .Not a pos) (tNot t) (pNot q) := ⟨pt_not h.a, snd_not h.b⟩
theorem pd_and1 {o : BoolOp} (h : PD X E a ta pa) : PD X E (.BoolOp o [a] pos) ta pa := ⟨pe_one h.a, h.b⟩
theorem pd_and (h : PD X E a ta pa) (h2 : PD X E (.BoolOp .And (b :: es) pos) tb pb) : PD X E (.BoolOp .And (a :: b :: es) pos) (tAndV ta tb) (pAndV pa pb) := ⟨pe_and h.a h2.a, snd_andV h.b h2.b⟩
theorem pd_or (h : PD X E a ta pa) (h2 : PD X E (.BoolOp .Or (b :: es) pos) tb pb) : PD X E (.BoolOp .Or (a :: b :: es) pos) (tOrV ta tb) (pOrV pa pb) := ⟨pe_or h.a h2.a, snd_orV h.b h2.b⟩
theorem pd_not (h : PD X E a ta pa) : PD X E (.UnaryOp .Not a pos) (tNotV ta) (pNotV pa) := ⟨pe_not h.a, snd_notV h.b⟩
theorem pd_if (ht : TD X E c t q) (ha : PD X E a ta pa) (hb : PD X E b tb pb) : PD X E (.IfExp c a b pos) (tIf t ta tb) (pIf q pa pb) := ⟨pe_ifExp ht.a ha.a hb.a, snd_if ht.b ha.b hb.b⟩
/-! ### calls -/
theorem pd_call {K : PySem.W.Frag} {CX : CXT} {k : Nat} {fa : Addr} {fd : FuncData} {N : List Str} {s : Sc} (F : FnOk X.prog X.w K X.mg X.base CX k fa fd N (toSp K s)) (hr : Room k X.A) (hg : Gl X x) (hm : X.mg x = some (.ref fa)) (hk : PySem.W.keepIn K (.ref fa) = true) (hb : Binds K fd N []) (hx : Passes CX X E)
    (ha : AD X E (a :: es) tr pr) (hdb : (x == ("__debug__" : Str)) = false := by decide) (he : starEach (a :: es) X.env = (false, eval a X.env) :: starEach es X.env := by rfl)
    (hpl : (backTo pos (starEach es X.env)).any (·.1) = false := by rfl) (hK : X.K = K := by rfl) : PD X E (.Call (.Name x p2) (a :: es) [] pos) (tCall (toSp K s) [] E tr) (pCall s pr) := by
  subst hK
  exact ⟨pe_call F hr hg hm hk hb .nil hx ha.a hdb he hpl, snd_call ha.b⟩
theorem pd_cb {id : String} {r2 : List V → Hp → VK → Prop} {rr : List D → (D → Prop) → Prop} (hc : CallR X (.builtin id) r2) (hr : RA X.K r2 rr) (hg : Gl X x) (hm : X.mg x = none) (hv : bootBuiltins x = some (.builtin id)) (ha : AD X E (a :: es) tr pr) (hn : x ≠ "__name__" := by decide) (hdb : (x == ("__debug__" : Str)) = false := by decide) (he : starEach (a :: es) X.env = (false, eval a X.env) :: starEach es X.env := by rfl)
    (hpl : (backTo pos (starEach es X.env)).any (·.1) = false := by rfl) :
    PD X E (.Call (.Name x p2) (a :: es) [] pos) (tCB r2 tr) (pApp rr pr) := ⟨pe_callB hc hg hm hv ha.a hn hdb he hpl, snd_cb hr ha.b⟩
theorem pd_ct {id : String} {r2 : List V → Hp → VK → Prop} {rr : List D → (D → Prop) → Prop} (hc : CallR X (.type id) r2) (hr : RA X.K r2 rr) (hg : Gl X x) (hm : X.mg x = none) (hv : bootBuiltins x = some (.type id)) (ha : AD X E (a :: es) tr pr) (hn : x ≠ "__name__" := by decide) (hdb : (x == ("__debug__" : Str)) = false := by decide) (he : starEach (a :: es) X.env = (false, eval a X.env) :: starEach es X.env := by rfl)
    (hpl : (backTo pos (starEach es X.env)).any (·.1) = false := by rfl) :
    PD X E (.Call (.Name x p2) (a :: es) [] pos) (tCB r2 tr) (pApp rr pr) := ⟨pe_callTy hc hg hm hv ha.a hn hdb he hpl, snd_cb hr ha.b⟩
abbrev cLenR (K : PySem.W.Frag) : List V → Hp → VK → Prop := fun xs H Q => ∃ p ys, xs = [.ref p] ∧ (SqL K H p ys ∨ SqT K H p ys) ∧ Q (.int ys.length) H
abbrev cListR (K : PySem.W.Frag) : List V → Hp → VK → Prop := fun xs H Q => ∃ p ys, xs = [.ref p] ∧ (SqL K H p ys ∨ SqT K H p ys) ∧ ∀ l, H l = none → Q (.ref l) (upd H l (.lst ys))
abbrev cTupleR (K : PySem.W.Frag) : List V → Hp → VK → Prop := fun xs H Q => ∃ p ys, xs = [.ref p] ∧ ((SqL K H p ys ∧ ∀ l, H l = none → Q (.ref l) (upd H l (.tup ys))) ∨ (SqT K H p ys ∧ Q (.ref p) H))
abbrev cIntR (K : PySem.W.Frag) : List V → Hp → VK → Prop := fun xs H Q => (∃ i, xs = [.int i] ∧ Q (.int i) H) ∨ ∃ k, xs = [.bl k] ∧ Q (.int (if k then 1 else 0)) H
abbrev cMaxR (K : PySem.W.Frag) : List V → Hp → VK → Prop := fun xs H Q => ∃ i j, xs = [.int i, .int j] ∧ Q (.int (if j > i then j else i)) H
abbrev cMinR (K : PySem.W.Frag) : List V → Hp → VK → Prop := fun xs H Q => ∃ i j, xs = [.int i, .int j] ∧ Q (.int (if j < i then j else i)) H
theorem pd_len {K : PySem.W.Frag} (hg : Gl X "len") (hm : X.mg "len" = none) (ha : AD X E (a :: es) tr pr) (he : starEach (a :: es) X.env = (false, eval a X.env) :: starEach es X.env := by rfl)
    (hpl : (backTo pos (starEach es X.env)).any (·.1) = false := by rfl) (hK : X.K = K := by rfl) : PD X E (.Call (.Name "len" p2) (a :: es) [] pos) (tCB (cLenR K) tr) (pApp bLen pr) := by
  subst hK
  exact pd_cb call_len_seq ra_len hg hm (by decide +kernel) ha (by decide) (by decide) he hpl
theorem pd_list {K : PySem.W.Frag} (hg : Gl X "list") (hm : X.mg "list" = none) (ha : AD X E (a :: es) tr pr) (he : starEach (a :: es) X.env = (false, eval a X.env) :: starEach es X.env := by rfl)
    (hpl : (backTo pos (starEach es X.env)).any (·.1) = false := by rfl) (hK : X.K = K := by rfl) : PD X E (.Call (.Name "list" p2) (a :: es) [] pos) (tCB (cListR K) tr) (pApp bList pr) := by
  subst hK
  exact pd_ct call_list_of ra_list hg hm (by decide +kernel) ha (by decide) (by decide) he hpl
theorem pd_tuple {K : PySem.W.Frag} (hg : Gl X "tuple") (hm : X.mg "tuple" = none) (ha : AD X E (a :: es) tr pr) (he : starEach (a :: es) X.env = (false, eval a X.env) :: starEach es X.env := by rfl)
    (hpl : (backTo pos (starEach es X.env)).any (·.1) = false := by rfl) (hK : X.K = K := by rfl) : PD X E (.Call (.Name "tuple" p2) (a :: es) [] pos) (tCB (cTupleR K) tr) (pApp bTuple pr) := by
  subst hK
  exact pd_ct call_tuple_of ra_tuple hg hm (by decide +kernel) ha (by decide) (by decide) he hpl
theorem pd_toInt {K : PySem.W.Frag} (hg : Gl X "int") (hm : X.mg "int" = none) (ha : AD X E (a :: es) tr pr) (he : starEach (a :: es) X.env = (false, eval a X.env) :: starEach es X.env := by rfl)
    (hpl : (backTo pos (starEach es X.env)).any (·.1) = false := by rfl) (hK : X.K = K := by rfl) : PD X E (.Call (.Name "int" p2) (a :: es) [] pos) (tCB (cIntR K) tr) (pApp bInt pr) := by
  subst hK
  exact pd_ct call_int1 ra_int hg hm (by decide +kernel) ha (by decide) (by decide) he hpl
theorem pd_max {K : PySem.W.Frag} (hc : X.calm = true) (hg : Gl X "max") (hm : X.mg "max" = none) (ha : AD X E (a :: es) tr pr) (he : starEach (a :: es) X.env = (false, eval a X.env) :: starEach es X.env := by rfl)
    (hpl : (backTo pos (starEach es X.env)).any (·.1) = false := by rfl) (hK : X.K = K := by rfl) : PD X E (.Call (.Name "max" p2) (a :: es) [] pos) (tCB (cMaxR K) tr) (pApp bMax pr) := by
  subst hK
  exact pd_cb (call_max2 hc) ra_max hg hm (by decide +kernel) ha (by decide) (by decide) he hpl
theorem pd_min {K : PySem.W.Frag} (hc : X.calm = true) (hg : Gl X "min") (hm : X.mg "min" = none) (ha : AD X E (a :: es) tr pr) (he : starEach (a :: es) X.env = (false, eval a X.env) :: starEach es X.env := by rfl)
    (hpl : (backTo pos (starEach es X.env)).any (·.1) = false := by rfl) (hK : X.K = K := by rfl) : PD X E (.Call (.Name "min" p2) (a :: es) [] pos) (tCB (cMinR K) tr) (pApp bMin pr) := by
  subst hK
  exact pd_cb (call_min2 hc) ra_min hg hm (by decide +kernel) ha (by decide) (by decide) he hpl
theorem pd_isi {K : PySem.W.Frag} {y : Str} {n : String} {py : Pos} (hg : Gl X "isinstance") (hm : X.mg "isinstance" = none) (hg2 : Gl X y) (hm2 : X.mg y = none) (hv2 : bootBuiltins y = some (.type n)) (ha : PD X E a ta pa)
    (hs : starEach [a, .Name y py] X.env = (false, eval a X.env) :: starEach [.Name y py] X.env := by rfl) (hs2 : starEach [.Name y py] X.env = (false, eval (.Name y py) X.env) :: starEach [] X.env := by rfl)
    (hpl : (backTo pos (starEach [.Name y py] X.env)).any (·.1) = false := by rfl) (hy1 : y ≠ "__name__" := by decide) (hy2 : (y == ("__debug__" : Str)) = false := by decide) (hK : X.K = K := by rfl) :
    PD X E (.Call (.Name "isinstance" p2) [a, .Name y py] [] pos) (tCB (rIsi K) (tCons ta (tCons (tC (.ty n)) tNil))) (pIsi n pa) := by
  subst hK
  exact ⟨pe_callB call_isi hg hm (by decide +kernel) (pa_cons ha.a (pa_cons (pe_bltn hg2 hm2 hv2 rfl hy1 hy2) pa_nil hs2) hs) (by decide) (by decide) hs hpl, snd_isi ha.b⟩
/-! ### methods of a list -/
theorem pd_append {K : PySem.W.Frag} (ha : PD X E a ta pa) (hr : AD X E (b :: es) tr pr)
    (hbase : attributeBase a "append" X.env (eval a X.env) = eval a X.env := by rfl)
    (hfew : ((backTo cpos (starEach (b :: es) X.env)).all (fun x => !x.1) && (backToKw cpos (keywordEach [] X.env)).all (fun x => x.1.isSome)
      && decide ((b :: es).length + ([] : List Keyword).length + (if ([] : List Keyword).isEmpty then 0 else 1) < 30)) = true := by rfl)
    (hline : (apos.endLine == cpos.line) = true := by rfl) (hs : starEach (b :: es) X.env = (false, eval b X.env) :: starEach es X.env := by rfl) (hplain : (backTo cpos (starEach es X.env)).any (·.1) = false := by rfl) (hK : X.K = K := by rfl) :
    PD X E (.Call (.Attribute a "append" apos) (b :: es) [] cpos) (tBM K "list" rAppend ta tr) (pMeth mAppend pa pr) := by
  subst hK
  exact ⟨pe_bm PySem.F.plainAttrs_list PySem.F.slot_list_append PySem.F.type_list_append mt_append ha.a hr.a hbase hfew hline hs hplain, snd_bm rm_append ha.b hr.b⟩
theorem pd_popF {K : PySem.W.Frag} (ha : PD X E a ta pa) (hr : AD X E (b :: es) tr pr)
    (hbase : attributeBase a "pop" X.env (eval a X.env) = eval a X.env := by rfl)
    (hfew : ((backTo cpos (starEach (b :: es) X.env)).all (fun x => !x.1) && (backToKw cpos (keywordEach [] X.env)).all (fun x => x.1.isSome)
      && decide ((b :: es).length + ([] : List Keyword).length + (if ([] : List Keyword).isEmpty then 0 else 1) < 30)) = true := by rfl)
    (hline : (apos.endLine == cpos.line) = true := by rfl) (hs : starEach (b :: es) X.env = (false, eval b X.env) :: starEach es X.env := by rfl) (hplain : (backTo cpos (starEach es X.env)).any (·.1) = false := by rfl) (hK : X.K = K := by rfl) :
    PD X E (.Call (.Attribute a "pop" apos) (b :: es) [] cpos) (tBM K "list" rPopAt ta tr) (pMeth mPopF pa pr) := by
  subst hK
  exact ⟨pe_bm PySem.F.plainAttrs_list PySem.F.slot_list_pop PySem.F.type_list_pop mt_popAt ha.a hr.a hbase hfew hline hs hplain, snd_bm rm_popF ha.b hr.b⟩
theorem pd_pop {K : PySem.W.Frag} (ha : PD X E a ta pa) (hbase : attributeBase a "pop" X.env (eval a X.env) = eval a X.env := by rfl) (hline : (apos.endLine == cpos.line) = true := by rfl) (hK : X.K = K := by rfl) :
    PD X E (.Call (.Attribute a "pop" apos) [] [] cpos) (tBM0 K "list" rPop ta) (pMeth0 mPop pa) := by
  subst hK
  exact ⟨pe_bm0 PySem.F.plainAttrs_list PySem.F.slot_list_pop PySem.F.type_list_pop mt_pop ha.a hbase hline, snd_bm0 rm_pop ha.b⟩
/-! ### comprehensions -/
theorem qd_nil : QD X E [] tYes pYes := ⟨pts_nil, snd_yes⟩
theorem qd_one (h : TD X E a t q) : QD X E [a] t q := ⟨pts_one h.a, h.b⟩
theorem gd_name (i : Nat) (hN : X.N.Nodup) (hi : X.N[i]? = some x := by rfl) (hx : Loc X.env.scope x := by first | exact .inl rfl | exact .inr rfl) (hf : X.fn x = true ∨ X.env.scope.names.lookup x = some .local := by first | exact .inl rfl | exact .inr rfl) : GD X [i] (.Name x pos) (gName i) (pName i) := ⟨pg_name hN hi hx hf, sg_name⟩
theorem gd_tup2 {K : PySem.W.Frag} {x y : Str} {px py : Pos} (i j : Nat) (hc : X.calm = true) (hN : X.N.Nodup) (hi : X.N[i]? = some x := by rfl) (hj : X.N[j]? = some y := by rfl) (hx : Loc X.env.scope x := by first | exact .inl rfl | exact .inr rfl) (hy : Loc X.env.scope y := by first | exact .inl rfl | exact .inr rfl)
    (hfx : X.fn x = true ∨ X.env.scope.names.lookup x = some .local := by first | exact .inl rfl | exact .inr rfl) (hfy : X.fn y = true ∨ X.env.scope.names.lookup y = some .local := by first | exact .inl rfl | exact .inr rfl) (hK : X.K = K := by rfl) :
    GD X [i, j] (.Tuple [.Name x px, .Name y py] k pos) (gTup K 2 (gCons (gName i) (gCons (gName j) gNil))) (pTup2 i j) := by
  subst hK
  exact ⟨pg_tup hc (pgs_cons (pg_name hN hi hx hfx) (pgs_cons (pg_name hN hj hy hfy) pgs_nil)), sg_tup2⟩
theorem pd_lc {elt : Expr} {ifs : List Expr} {scope : Scope} {own : List (Str × Nat)} (hc : X.calm = true) (hN : X.N.Nodup) (hi : ID X E tg iter wi pi) (ok : BlkOk X.N X.env.scope scope own)
    (hg : ∀ (s : Shared) (H : Hp) (C : Addr) (cl : List (Str × Addr)) (fp : List Addr), GD (X.blk s H scope (compEnvC scope cl C X.env) fp) vs tg g pg) (ht : ∀ (s : Shared) (H : Hp) (C : Addr) (cl : List (Str × Addr)) (fp : List Addr), QD (X.blk s H scope (compEnvC scope cl C X.env) fp) E0 ifs t q)
    (he : ∀ (s : Shared) (H : Hp) (C : Addr) (cl : List (Str × Addr)) (fp : List Addr), PD (X.blk s H scope (compEnvC scope cl C X.env) fp) E0 elt te p) (hv : ∀ i ∈ vs, i ∈ own.map (·.2) := by decide) (hs : ∀ x, foldedSetIterable iter X.env x = pure x := by intro _; rfl) :
    PD X E (.ListComp elt [⟨tg, iter, ifs, 0⟩] scope pos) (tLc wi g t te (own.map (·.2))) (pLc (own.map (·.2)) pi pg q p) :=
  ⟨pe_lc hc hN hi.a ok (fun s H C cl fp => (hg s H C cl fp).a) (fun s H C cl fp => (ht s H C cl fp).a) (fun s H C cl fp => (he s H C cl fp).a) hs,
   snd_lc hi.b ((hg X.s_0 X.H_0 0 [] []).b.wide hv) (ht X.s_0 X.H_0 0 [] []).b (he X.s_0 X.H_0 0 [] []).b⟩
theorem pd_lcO {elt : Expr} {ifs : List Expr} {scope : Scope} {own : List (Str × Nat)} (hc : X.calm = true) (hN : X.N.Nodup) (hi : ID X E tg iter wi pi) (ok : BlkOk X.N X.env.scope scope own)
    (hg : ∀ (s : Shared) (H : Hp) (C : Addr) (cl : List (Str × Addr)) (fp : List Addr), GD (X.blk s H scope (compEnvC scope cl C X.env) fp) vs tg g pg) (ht : ∀ (s : Shared) (H : Hp) (C : Addr) (cl : List (Str × Addr)) (fp : List Addr), QD (X.blk s H scope (compEnvC scope cl C X.env) fp) E0 ifs t q)
    (he : ∀ (s : Shared) (H : Hp) (C : Addr) (cl : List (Str × Addr)) (fp : List Addr), PD (X.blk s H scope (compEnvC scope cl C X.env) fp) E0 elt te p) (hv : ∀ i ∈ vs, i ∈ own.map (·.2) := by decide) (hs : ∀ x, foldedSetIterable iter X.env x = pure x := by intro _; rfl) :
    PD X E (.ListComp elt [⟨tg, iter, ifs, 0⟩] scope pos) (tLc wi g t te (own.map (·.2))) (pLcO (own.map (·.2)) pi pg q p) :=
  ⟨pe_lc hc hN hi.a ok (fun s H C cl fp => (hg s H C cl fp).a) (fun s H C cl fp => (ht s H C cl fp).a) (fun s H C cl fp => (he s H C cl fp).a) hs,
   snd_lcO hi.b ((hg X.s_0 X.H_0 0 [] []).b.wide hv) (ht X.s_0 X.H_0 0 [] []).b (he X.s_0 X.H_0 0 [] []).b⟩
/-- name = [..] -/
theorem sd_lc {i : Nat} {y : Str} {py spos : Pos} {elt : Expr} {ifs : List Expr} {scope : Scope} {own : List (Str × Nat)} (hc : X.calm = true) (hN : X.N.Nodup) (hy : X.N[i]? = some y) (hyl : X.env.scope.names.lookup y = some .local)
    (hsw : swapsWith (.ListComp elt [⟨tg, iter, ifs, 0⟩] scope pos) (some (.Name y py)) spos.line X.env = pure true) (hi : ID X E tg iter wi pi) (ok : BlkOk X.N X.env.scope scope own)
    (hg : ∀ (s : Shared) (H : Hp) (C : Addr) (cl : List (Str × Addr)) (fp : List Addr), GD (X.blk s H scope (compEnvC scope cl C X.env) fp) vs tg g pg) (ht : ∀ (s : Shared) (H : Hp) (C : Addr) (cl : List (Str × Addr)) (fp : List Addr), QD (X.blk s H scope (compEnvC scope cl C X.env) fp) E0 ifs t q)
    (he : ∀ (s : Shared) (H : Hp) (C : Addr) (cl : List (Str × Addr)) (fp : List Addr), PD (X.blk s H scope (compEnvC scope cl C X.env) fp) E0 elt te p) (hv : ∀ i ∈ vs, i ∈ own.map (·.2) := by decide) (hs : ∀ x, foldedSetIterable iter X.env x = pure x := by intro _; rfl) :
    SD X E (.Assign [.Name y py] (.ListComp elt [⟨tg, iter, ifs, 0⟩] scope pos) spos) (tAsg (tLc wi g t te (own.map (·.2))) (gName i)) (pAsg (pLc (own.map (·.2)) pi pg q p) (pName i)) :=
  ⟨ps_setLc hc hN hy hyl hsw hi.a ok (fun s H C cl fp => (hg s H C cl fp).a) (fun s H C cl fp => (ht s H C cl fp).a) (fun s H C cl fp => (he s H C cl fp).a) hs,
   snd_asg (snd_lc hi.b ((hg X.s_0 X.H_0 0 [] []).b.wide hv) (ht X.s_0 X.H_0 0 [] []).b (he X.s_0 X.H_0 0 [] []).b) sg_name⟩
theorem sd_lcO {i : Nat} {y : Str} {py spos : Pos} {elt : Expr} {ifs : List Expr} {scope : Scope} {own : List (Str × Nat)} (hc : X.calm = true) (hN : X.N.Nodup) (hy : X.N[i]? = some y) (hyl : X.env.scope.names.lookup y = some .local)
    (hsw : swapsWith (.ListComp elt [⟨tg, iter, ifs, 0⟩] scope pos) (some (.Name y py)) spos.line X.env = pure true) (hi : ID X E tg iter wi pi) (ok : BlkOk X.N X.env.scope scope own)
    (hg : ∀ (s : Shared) (H : Hp) (C : Addr) (cl : List (Str × Addr)) (fp : List Addr), GD (X.blk s H scope (compEnvC scope cl C X.env) fp) vs tg g pg) (ht : ∀ (s : Shared) (H : Hp) (C : Addr) (cl : List (Str × Addr)) (fp : List Addr), QD (X.blk s H scope (compEnvC scope cl C X.env) fp) E0 ifs t q)
    (he : ∀ (s : Shared) (H : Hp) (C : Addr) (cl : List (Str × Addr)) (fp : List Addr), PD (X.blk s H scope (compEnvC scope cl C X.env) fp) E0 elt te p) (hv : ∀ i ∈ vs, i ∈ own.map (·.2) := by decide) (hs : ∀ x, foldedSetIterable iter X.env x = pure x := by intro _; rfl) :
    SD X E (.Assign [.Name y py] (.ListComp elt [⟨tg, iter, ifs, 0⟩] scope pos) spos) (tAsg (tLc wi g t te (own.map (·.2))) (gName i)) (pAsg (pLcO (own.map (·.2)) pi pg q p) (pName i)) :=
  ⟨ps_setLc hc hN hy hyl hsw hi.a ok (fun s H C cl fp => (hg s H C cl fp).a) (fun s H C cl fp => (ht s H C cl fp).a) (fun s H C cl fp => (he s H C cl fp).a) hs,
   snd_asg (snd_lcO hi.b ((hg X.s_0 X.H_0 0 [] []).b.wide hv) (ht X.s_0 X.H_0 0 [] []).b (he X.s_0 X.H_0 0 [] []).b) sg_name⟩
/-! ### what is walked -/
theorem id_list {K : PySem.W.Frag} (h : PD X E a ta pa) (hK : X.K = K := by rfl) : ID X E tg a (iList K ta) (pIt pa) := by
  subst hK
  exact ⟨pi_list h.a, si_list h.b⟩
theorem id_tup {K : PySem.W.Frag} (h : PD X E a ta pa) (hK : X.K = K := by rfl) : ID X E tg a (iTup K ta) (pItT pa) := by
  subst hK
  exact ⟨pi_tup h.a, si_tup h.b⟩
theorem id_rng1 (hg : Gl X "range") (hm : X.mg "range" = none) (h : AD X E [a] tr pr) (hs : starEach [a] X.env = [(false, eval a X.env)] := by rfl) : ID X E tg (.Call (.Name "range" p2) [a] [] pos) (iRng1 tr) (pRng1 pr) := ⟨pi_range1 hg hm h.a hs, si_rng1 h.b⟩
theorem id_rng2 (hg : Gl X "range") (hm : X.mg "range" = none) (h : AD X E [a, b] tr pr) (hs : starEach [a, b] X.env = [(false, eval a X.env), (false, eval b X.env)] := by rfl) (hs2 : starEach [b] X.env = [(false, eval b X.env)] := by rfl) : ID X E tg (.Call (.Name "range" p2) [a, b] [] pos) (iRng2 tr) (pRng2 pr) := ⟨pi_range2 hg hm h.a hs hs2, si_rng2 h.b⟩
/-! ### statements -/
theorem bd_nil : BD X E [] tNext pNext := ⟨pss_nil, snd_next⟩
theorem bd_cons (h : SD X E st ts ps) (h2 : BD X E rest us qs) : BD X E (st :: rest) (tSeq ts us) (pSeq ps qs) := ⟨pss_cons h.a h2.a, snd_seq h.b h2.b⟩
theorem bd_one (h : SD X E st ts ps) : BD X E [st] ts ps := ⟨pss_one h.a, h.b⟩
theorem sd_ret (h : PD X E a ta pa) : SD X E (.Return (some a) pos) (tRet ta) (pRet pa) := ⟨ps_ret h.a, snd_ret h.b⟩
theorem sd_retO (h : PD X E a ta pa) : SD X E (.Return (some a) pos) (tRet ta) (pRetO pa) := ⟨ps_ret h.a, snd_retO h.b⟩
theorem sd_retN : SD X E (.Return none pos) tRetN pRetN := ⟨ps_retN, snd_retN⟩
theorem sd_pass : SD X E (.Pass pos) tNext pNext := ⟨ps_pass, snd_next⟩
theorem sd_brk : SD X E (.Break pos) tBreak pBrk := ⟨ps_break, snd_brk⟩
theorem sd_cnt : SD X E (.Continue pos) tCont pCnt := ⟨ps_continue, snd_cnt⟩
theorem sd_if (ht : TD X E c t q) (h1 : BD X E body ts ps) (h2 : BD X E els us qs) : SD X E (.If c body els pos) (tIfS t ts us) (pIfS q ps qs) := ⟨ps_if ht.a h1.a h2.a, snd_ifS ht.b h1.b h2.b⟩
theorem sd_drop (h : PD X E a ta pa) (hs : swapsWith a none pos.line X.env = pure false := by rfl) : SD X E (.Expr a pos) (tDrop ta) (pDrop pa) := ⟨ps_expr h.a hs, snd_drop h.b⟩
theorem sd_doc {s : Str} {j : Nat} : SD X E (.Expr (.Constant (.str s) j p2) pos) tNext pNext := ⟨ps_doc, snd_next⟩
theorem sd_asg (h : PD X E a ta pa) (hg : GD X vs tg g pg) (hs : swapsWithSole [tg] a pos.line X.env = pure false := by rfl) (hw : swappedStores [tg] a X.env = pure none := by rfl) (h1 : (assignEach [tg] X.env).map (·.2) = [assign tg X.env] := by rfl) : SD X E (.Assign [tg] a pos) (tAsg ta g) (pAsg pa pg) := ⟨ps_asg h.a hg.a hs hw h1, snd_asg h.b hg.b⟩
theorem sd_set (i : Nat) (hN : X.N.Nodup) (h : PD X E a ta pa) (hi : X.N[i]? = some x := by rfl) (hx : Loc X.env.scope x := by first | exact .inl rfl | exact .inr rfl) (hs : swapsWith a (some (.Name x p2)) pos.line X.env = pure false := by rfl) (hf : X.fn x = true ∨ X.env.scope.names.lookup x = some .local := by first | exact .inl rfl | exact .inr rfl) :
    SD X E (.Assign [.Name x p2] a pos) (tAsg ta (gName i)) (pAsg pa (pName i)) := ⟨ps_set hN hi hx h.a hs hf, snd_asg h.b sg_name⟩
theorem sd_aug {op : Operator} {fo : Int → Int → Int} (i : Nat) (hN : X.N.Nodup) (h : PD X E a ta pa) (ho : PIp X op (ipI fo)) (hi : X.N[i]? = some x := by rfl) (hx : Loc X.env.scope x := by first | exact .inl rfl | exact .inr rfl) (hf : X.fn x = true ∨ X.env.scope.names.lookup x = some .local := by first | exact .inl rfl | exact .inr rfl) :
    SD X E (.AugAssign (.Name x p2) op a pos) (tAug i ta (ipI fo)) (pAug i pa fo) := ⟨ps_aug hN hi hx h.a ho hf, snd_aug h.b⟩
theorem sd_while (hp : PassesOwn (model X.prog X.w) X.A X.env X.xe) (ht : TD X E c t q) (hb : BD X E body ts ps) : SD X E (.While c body [] pos) (tWhile t ts) (pWhile q ps) := ⟨ps_while hp ht.a hb.a, snd_while ht.b hb.b⟩
theorem sd_for (hp : PassesOwn (model X.prog X.w) X.A X.env X.xe) (hc : X.calm = true) (hi : ID X E tg iter wi pi) (hg : GD X vs tg g pg) (hb : BD X E body ts ps)
    (hs : ∀ x, foldedSetIterable iter X.env x = pure x := by intro _; rfl) : SD X E (.For tg iter body [] pos) (tFor wi g ts) (pFor pi pg ps) := ⟨ps_for hp hc hi.a hg.a hb.a hs, snd_for hi.b hg.b hb.b⟩
theorem sd_dput (hu : X.A.units + 1 < cLine) (ho : PD X E a ta pa) (hi : PD X E b tb pb) (hv : PD X E c tc pc) (hs : swapsWith c (some (.Subscript a b p2)) pos.line X.env = pure false := by rfl) : SD X E (.Assign [.Subscript a b p2] c pos) (sDPut ta tb tc) (pDPut pa pb pc) :=
  ⟨ps_dput hu ho.a hi.a hv.a hs, snd_dput ho.b hi.b hv.b⟩
end
end PL

/-! Rules that need no word of the kinds; dict displays; the box. -/
namespace PL
open PySem PySem.Spec PyProof.Rows L2

/-! ### either of two rules -/
def orR (r1 r2 : R2) : R2 := fun x y H Q => r1 x y H Q ∨ r2 x y H Q
theorem OpR.or {X : Cx} {f : Value → Value → Sem Value} {r1 r2 : R2} (h1 : OpR X f r1) (h2 : OpR X f r2) : OpR X f (orR r1 r2) := by
  intro pins s σ H x y v u Q I rx ry h
  rcases h with h | h
  · exact h1 pins s σ H x y v u Q I rx ry h
  · exact h2 pins s σ H x y v u Q I rx ry h
/-- a + b, whatever they are -/
def nAddA : D → D → (D → Prop) → Prop := fun a b k => match a, b with
  | .int i, .int j => k (.int (i + j))
  | .list xs, .list ys => xs.length + ys.length ≤ 1000000 ∧ k (.list (xs ++ ys))
  | .tuple xs, .tuple ys => xs.length + ys.length ≤ 1000000 ∧ k (.tuple (xs ++ ys))
  | _, _ => False
def nIxA : D → D → (D → Prop) → Prop := fun a b k => match a, b with
  | .list ds, .int i => ∃ d, atI ds i = some d ∧ k d
  | .tuple ds, .int i => ∃ d, atI ds i = some d ∧ k d
  | _, _ => False
def nEqA (neg : Bool) : D → D → (D → Prop) → Prop := fun a b k => match scalD a b with
  | some r => k (.bool (if neg then !r else r))
  | none => nEq neg a b k
def flatD : D → Bool
  | .none => true
  | .bool _ => true
  | .int _ => true
  | .str _ => true
  | _ => false
/-- a in b, b a list or a tuple -/
def nIn (neg : Bool) : D → D → (D → Prop) → Prop := fun a b k => match b with
  | .list ds => SeqAt.shaped a = true ∧ SeqAt.shaped (.list ds) = true ∧ k (.bool (if neg then !ds.any fun z => PyData.eqv z a else ds.any fun z => PyData.eqv z a))
  | .tuple ds => flatD a = true ∧ ds.all flatD = true ∧ k (.bool (if neg then !ds.any fun z => PyData.eqv z a else ds.any fun z => PyData.eqv z a))
  | .dict kvs => match keyOf a with
    | some _ => k (.bool (if neg then !(lookD kvs a).isSome else (lookD kvs a).isSome))
    | none => False
  | _ => False
section
variable {K : PySem.W.Frag}
theorem rs_addA : RS K (orR addR (orR (rCatG K) (rCatA K))) nAddA := fun G H v1 v2 a b k R s h1 h2 hk hR => by
  unfold nAddA at hk
  split at hk
  · exact .inl (rs_int (f := fun i j => .int (i + j)) (fun _ _ _ => Dp.int _) G H v1 v2 _ _ k R s h1 h2 hk hR)
  · exact .inr (.inl (rs_cat G H v1 v2 _ _ k R s h1 h2 hk hR))
  · exact .inr (.inr (rs_catT G H v1 v2 _ _ k R s h1 h2 hk hR))
  · exact hk.elim
theorem rs_ixA : RS K (rIx K) nIxA := fun G H v1 v2 a b k R s h1 h2 hk hR => by
  unfold nIxA at hk
  split at hk
  · exact .inl (rs_ixL G H v1 v2 _ _ k R s h1 h2 hk hR)
  · exact .inr (.inl (rs_ixT G H v1 v2 _ _ k R s h1 h2 hk hR))
  · exact hk.elim
theorem rs_eqA : RS K (orR rEq (rEqD K)) (nEqA false) := fun G H v1 v2 a b k R s h1 h2 hk hR => by
  unfold nEqA at hk
  split at hk
  · rename_i r hr
    exact .inl (rs_sceq G H v1 v2 _ _ k R s h1 h2 (by unfold nSc; rw [hr]; exact hk) hR)
  · exact .inr (rs_eq G H v1 v2 _ _ k R s h1 h2 hk hR)
theorem rs_neA : RS K (orR rNe (rNeD K)) (nEqA true) := fun G H v1 v2 a b k R s h1 h2 hk hR => by
  unfold nEqA at hk
  split at hk
  · rename_i r hr
    exact .inl (rs_scne G H v1 v2 _ _ k R s h1 h2 (by unfold nSc; rw [hr]; exact hk) hR)
  · exact .inr (rs_ne G H v1 v2 _ _ k R s h1 h2 hk hR)
theorem flat_of {G : Hp} {v : V} {d : D} (h : Dp K G v d) (hf : flatD d = true) : flatV v = true := by
  cases h <;> first | rfl | cases hf
theorem eqV_of {G G' : Hp} {v v' : V} {d d' : D} (h : Dp K G v d) (h' : Dp K G' v' d') (hf : flatD d = true) (hf' : flatD d' = true) : eqV v v' = PyData.eqv d d' := by
  cases h <;> first | (cases hf; done) | (cases h' <;> first | (cases hf'; done) | (simp only [eqV, PyData.eqv]) | rfl)
theorem flat_shaped {d : D} (h : flatD d = true) : ∀ kvs, d ≠ .dict kvs := fun kvs e => by subst e; cases h
theorem any_of {G : Hp} {x : V} {a : D} (hx : Dp K G x a) (fa : flatD a = true) : ∀ {xs : List V} {ds : List D}, Al (Dp K G) xs ds → ds.all flatD = true → xs.all flatV = true ∧ inV x xs = ds.any fun z => PyData.eqv z a
  | xs, [], h, _ => by rw [h.nil_inv]; exact ⟨rfl, rfl⟩
  | xs, d :: ds, h, hf => by
    obtain ⟨v, r, rfl, h1, h2⟩ := h.cons_inv
    simp only [List.all_cons, Bool.and_eq_true] at hf
    obtain ⟨q1, q2⟩ := any_of hx fa h2 hf.2
    refine ⟨by simp only [List.all_cons, q1, flat_of h1 hf.1, Bool.and_self], ?_⟩
    unfold inV at q2 ⊢
    simp only [List.any_cons, q2, eqV_of h1 hx hf.1 fa]
theorem dp_of_rv {G H : Hp} {v : V} {d : D} (h : RV K G H v d) (hf : flatD d = true) : Dp K G v d := by
  rcases h with h | ⟨_, _, _, _, _, _, e⟩ | ⟨_, _, _, _, _, _, e⟩
  · exact h
  all_goals (subst e; cases hf)
def inAR (K : PySem.W.Frag) (neg : Bool) : R2 := orR (rIn K neg) (orR (if neg then rNotInD K else rInD K) (fun y x H Q => ∃ a o, x = .ref a ∧ DGet H a y o ∧ Q (.bl (if neg then !o.isSome else o.isSome)) H))
theorem rs_in (neg : Bool) : RS K (inAR K neg) (nIn neg) := fun G H v1 v2 a b k R s h1 h2 hk hR => by
  unfold nIn at hk
  split at hk
  · rename_i ds
    obtain ⟨sa, sd, q⟩ := hk
    refine .inr (.inl ?_)
    cases neg with
    | true => exact ⟨a, ds, rv_dp s h1 (not_dict sa), rv_dp s h2 (not_dict sd), sa, sd, hR _ _ H q (Sub.refl _) fun _ _ _ => Dp.bl _⟩
    | false => exact ⟨a, ds, rv_dp s h1 (not_dict sa), rv_dp s h2 (not_dict sd), sa, sd, hR _ _ H q (Sub.refl _) fun _ _ _ => Dp.bl _⟩
  · rename_i ds
    obtain ⟨fa, fd, q⟩ := hk
    obtain ⟨p, xs, rfl, hs, al⟩ := rv_tuple s h2
    have dx := dp_of_rv h1 fa
    obtain ⟨q1, q2⟩ := any_of dx fa al fd
    refine .inl ⟨p, xs, rfl, .inr hs, flat_of dx fa, q1, ?_⟩
    rw [q2]
    exact hR _ _ H q (Sub.refl _) fun _ _ _ => Dp.bl _
  · split at hk
    · rename_i kvs _ kb hb
      have eb := keyOf_some hb
      subst eb
      refine .inr (.inr ?_)
      obtain ⟨a, ys, kv2, rfl, q1, q2, rfl⟩ := rv_dict h2 hb
      refine ⟨a, valV ys kb, rfl, ?_, ?_⟩
      · rw [keyV h1]; exact DGet.k q1
      · rw [look_some kb q2]
        exact hR _ _ H hk (Sub.refl _) fun _ _ _ => Dp.bl _
    · exact hk.elim
  · exact hk.elim
end

/-! ### the rules -/
def rnIn (K : PySem.W.Frag) (neg : Bool) : R2 := orR (rIn K neg) (if neg then rNotInD K else rInD K)
/-- a in b, b a list or a tuple -/
def nInS (neg : Bool) : D → D → (D → Prop) → Prop := fun a b k => match b with
  | .list ds => SeqAt.shaped a = true ∧ SeqAt.shaped (.list ds) = true ∧ k (.bool (if neg then !ds.any fun z => PyData.eqv z a else ds.any fun z => PyData.eqv z a))
  | .tuple ds => flatD a = true ∧ ds.all flatD = true ∧ k (.bool (if neg then !ds.any fun z => PyData.eqv z a else ds.any fun z => PyData.eqv z a))
  | _ => False
section
variable {K : PySem.W.Frag}
theorem rs_inS (neg : Bool) : RS K (rnIn K neg) (nInS neg) := fun G H v1 v2 a b k R s h1 h2 hk hR => by
  unfold nInS at hk
  split at hk
  · rename_i ds
    obtain ⟨sa, sd, q⟩ := hk
    refine .inr ?_
    cases neg with
    | true => exact ⟨a, ds, rv_dp s h1 (not_dict sa), rv_dp s h2 (not_dict sd), sa, sd, hR _ _ H q (Sub.refl _) fun _ _ _ => Dp.bl _⟩
    | false => exact ⟨a, ds, rv_dp s h1 (not_dict sa), rv_dp s h2 (not_dict sd), sa, sd, hR _ _ H q (Sub.refl _) fun _ _ _ => Dp.bl _⟩
  · rename_i ds
    obtain ⟨fa, fd, q⟩ := hk
    obtain ⟨p, xs, rfl, hs, al⟩ := rv_tuple s h2
    have dx := dp_of_rv h1 fa
    obtain ⟨q1, q2⟩ := any_of dx fa al fd
    refine .inl ⟨p, xs, rfl, .inr hs, flat_of dx fa, q1, ?_⟩
    rw [q2]
    exact hR _ _ H q (Sub.refl _) fun _ _ _ => Dp.bl _
  · exact hk.elim
theorem rs_din (neg : Bool) : RS K (fun y x H Q => ∃ a o, x = .ref a ∧ DGet H a y o ∧ Q (.bl (if neg then !o.isSome else o.isSome)) H) (nDIn neg) := fun G H v1 v2 a b k R s h1 h2 hk hR => by
  unfold nDIn at hk
  split at hk
  · split at hk
    · rename_i kvs _ kb hb
      have eb := keyOf_some hb
      subst eb
      obtain ⟨a, ys, kv2, rfl, q1, q2, rfl⟩ := rv_dict h2 hb
      refine ⟨a, valV ys kb, rfl, ?_, ?_⟩
      · rw [keyV h1]; exact DGet.k q1
      · rw [look_some kb q2]
        exact hR _ _ H hk (Sub.refl _) fun _ _ _ => Dp.bl _
    · exact hk.elim
  · exact hk.elim
end
section
variable {X : Cx} {E : XK} {a b c f : Expr} {ta tb tc te : TE} {pa pb pc p : PTE} {pos p2 apos cpos : Pos} {es : List Expr} {tr : TA} {pr : PTA} {x : Str} {tg : Expr}
theorem pd_addA {K : PySem.W.Frag} (ha : PD X E a ta pa) (hb : PD X E b tb pb) (hK : X.K = K := by rfl) : PD X E (.BinOp a .Add b pos) (tOp (orR addR (orR (rCatG K) (rCatA K))) ta tb) (pBin nAddA pa pb) := by
  subst hK
  exact pd_op (op_add.or (op_catG.or op_catA)) rs_addA ha hb
theorem pd_ixA {K : PySem.W.Frag} (ha : PD X E a ta pa) (hb : PD X E b tb pb) (hs : PlainIx b := by exact fun _ _ => rfl) (hK : X.K = K := by rfl) : PD X E (.Subscript a b pos) (tOp (rIx K) ta tb) (pBin nIxA pa pb) := by
  subst hK
  exact ⟨pe_ix ix_seq ha.a hb.a hs, snd_op rs_ixA ha.b hb.b⟩
theorem cm_eqA {K : PySem.W.Frag} (hu : X.A.units + 64 < cLine) (hK : X.K = K := by rfl) : OpR X (compareOp .Eq) (orR rEq (rEqD K)) ∧ RS K (orR rEq (rEqD K)) (nEqA false) := by
  subst hK
  exact ⟨op_eq.or (op_eqD hu), rs_eqA⟩
theorem cm_neA {K : PySem.W.Frag} (hu : X.A.units + 64 < cLine) (hK : X.K = K := by rfl) : OpR X (compareOp .NotEq) (orR rNe (rNeD K)) ∧ RS K (orR rNe (rNeD K)) (nEqA true) := by
  subst hK
  exact ⟨op_ne.or (op_neD hu), rs_neA⟩
theorem cm_in {K : PySem.W.Frag} (hu : X.A.units + 65 < cLine) (hK : X.K = K := by rfl) : OpR X (compareOp .In) (rnIn K false) ∧ RS K (rnIn K false) (nInS false) := by
  subst hK
  exact ⟨op_in_seq.or (op_inD hu), rs_inS false⟩
theorem cm_nin {K : PySem.W.Frag} (hu : X.A.units + 65 < cLine) (hK : X.K = K := by rfl) : OpR X (compareOp .NotIn) (rnIn K true) ∧ RS K (rnIn K true) (nInS true) := by
  subst hK
  exact ⟨op_notIn_seq.or (op_notInD hu), rs_inS true⟩
theorem pd_din (hu : X.A.units + 1 < cLine) (ha : PD X E a ta pa) (hb : PD X E b tb pb) (hm : behindInMarks .In b = false) : PD X E (.Compare a [.In] [b] pos) (tDIn ta tb) (pBin (nDIn false) pa pb) :=
  ⟨pe_cmp (pc_din hu ha.a hb.a) hm, snd_op (r2 := fun y x H Q => ∃ a o, x = .ref a ∧ DGet H a y o ∧ Q (.bl o.isSome) H) (rs_din false) ha.b hb.b⟩
theorem pd_dnin (hu : X.A.units + 1 < cLine) (ha : PD X E a ta pa) (hb : PD X E b tb pb) (hm : behindInMarks .NotIn b = false) : PD X E (.Compare a [.NotIn] [b] pos) (tDNotIn ta tb) (pBin (nDIn true) pa pb) :=
  ⟨pe_cmp (pc_dnotin hu ha.a hb.a) hm, snd_op (r2 := fun y x H Q => ∃ a o, x = .ref a ∧ DGet H a y o ∧ Q (.bl (!o.isSome)) H) (rs_din true) ha.b hb.b⟩
theorem td_din (hu : X.A.units + 1 < cLine) (ha : PD X E a ta pa) (hb : PD X E b tb pb) (hm : behindInMarks .In b = false) : TD X E (.Compare a [.In] [b] pos) (tB (tDIn ta tb)) (pTst (pBin (nDIn false) pa pb)) :=
  ⟨pt_cmp (pc_din hu ha.a hb.a) hm, snd_tB (pd_din (pos := pos) hu ha hb hm).b⟩
theorem td_dnin (hu : X.A.units + 1 < cLine) (ha : PD X E a ta pa) (hb : PD X E b tb pb) (hm : behindInMarks .NotIn b = false) : TD X E (.Compare a [.NotIn] [b] pos) (tB (tDNotIn ta tb)) (pTst (pBin (nDIn true) pa pb)) :=
  ⟨pt_cmp (pc_dnotin hu ha.a hb.a) hm, snd_tB (pd_dnin (pos := pos) hu ha hb hm).b⟩
/-! ### over a list or a tuple -/
def iSeq (K : PySem.W.Frag) (tl : TE) : TI := fun σ H R => tl σ H fun x H1 => (∃ a, x = .ref a ∧ (∃ xs, SqL K H1 a xs) ∧ R (Itl K a) H1) ∨ ∃ a, x = .ref a ∧ (∃ xs, SqT K H1 a xs) ∧ R (Itt K a) H1
theorem pi_seq (hl : PE X a ta) : PI X tg a (iSeq X.K ta) := by
  refine ⟨fun pins s σ H R I h => ?_⟩
  refine thn (hl.run pins s σ H _ I h) fun v s1 ⟨x, H1, I1, r1, q1⟩ => ?_
  rcases q1 with ⟨l, e, ⟨xs, hq⟩, q⟩ | ⟨l, e, ⟨xs, hq⟩, q⟩ <;> subst e <;> cases r1
  · obtain ⟨its, rv, pl, hz⟩ := I1.list hq
    refine wpAny_pyIter_list pl.isList ⟨s1.heap.objs.size, [s1.heap.objs.size], _, _, H1, rfl, I1.kept (t' := s1.toks) fun b o e => Heap.get?_push_of_some _ e, turn_list l _, ⟨_, Heap.get?_push_size _ rfl, rfl, rfl⟩, fun b hb => ?_, q⟩
    rw [show b = s1.heap.objs.size by simpa using hb]
    exact I1.fpOk (Nat.le_refl _) (I1.hok.fresh (Nat.le_refl _))
  · obtain ⟨its, rv, pl, hz⟩ := I1.tuple hq
    refine wpAny_pyIter_tuple (show s1.heap.IsTuple l its.toArray from pl) ⟨s1.heap.objs.size, [s1.heap.objs.size], _, _, H1, rfl, I1.kept (t' := s1.toks) fun b o e => Heap.get?_push_of_some _ e, turn_tuple l _, ⟨_, Heap.get?_push_size _ rfl, rfl, rfl⟩, fun b hb => ?_, q⟩
    rw [show b = s1.heap.objs.size by simpa using hb]
    exact I1.fpOk (Nat.le_refl _) (I1.hok.fresh (Nat.le_refl _))
def pItA (p : PTE) : PTI := fun X e Q => p X e fun w e1 => kD e1 w fun d => match d with
  | .list ds => Q ds e1
  | .tuple ds => Q ds e1
  | _ => False
theorem si_seq {K : PySem.W.Frag} (h : SndE K E te p) : SndI K E (iSeq K te) (pItA p) := ⟨fun H0 iv as e σ H X Q R S hq k l => by
  refine h.run H0 iv as e σ H X _ _ S hq (fun v w as1 e1 H1 h1 S1 l1 w1 => ?_) l
  obtain ⟨d, ed, h2⟩ := kD_elim h1
  split at h2
  · rename_i ds
    have dp := asD_wr S1 w1 ed
    obtain ⟨a, xs, rfl, hs, al⟩ := dp_list dp
    exact .inl ⟨a, rfl, ⟨xs, sql_sub hid_sub hs⟩, k _ ds _ as1 e1 H1 h2 S1 l1 feeds_l dp⟩
  · rename_i ds
    have dp := asD_wr S1 w1 ed
    obtain ⟨a, xs, rfl, hs, al⟩ := dp_tuple dp
    exact .inr ⟨a, rfl, ⟨xs, sqt_sub hid_sub hs⟩, k _ ds _ as1 e1 H1 h2 S1 l1 feeds_t dp⟩
  · exact h2.elim⟩
theorem id_seq {K : PySem.W.Frag} (h : PD X E a ta pa) (hK : X.K = K := by rfl) : ID X E tg a (iSeq K ta) (pItA pa) := by
  subst hK
  exact ⟨pi_seq h.a, si_seq h.b⟩
theorem id_enum {K : PySem.W.Frag} {elts : List Expr} {kk : Nat} {tpos : Pos} (hg : Gl X "enumerate") (hm : X.mg "enumerate" = none) (h : AD X E [a] tr pr) (hs : starEach [a] X.env = [(false, eval a X.env)] := by rfl) (hK : X.K = K := by rfl) : ID X E (.Tuple elts kk tpos) (.Call (.Name "enumerate" p2) [a] [] pos) (iEnum K tr) (pEnum pr) := by
  subst hK
  exact ⟨pi_enum hg hm h.a hs, si_enum h.b⟩
end

/-! ### the box that a law draws from: made, handed on -/
def boxD (row : List Int) (n : Int) : Ob := .dic [(.inr sRow, .list (row.map .int)), (.inr sAt, .int n)]
structure RowOk (row : List Int) : Prop where
  ne : row ≠ []
  nn : ∀ x ∈ row, 0 ≤ x
  len : row.length ≤ 400
section
variable {K : PySem.W.Frag} {H0 H : Hp} {iv : Addr → Prop} {as : List Addr} {e : En} {σ : L2.St} {k : Nat} {G : Hp} {a : Addr}
theorem or_box_open (h : OR K G as H a .box) : ∃ row n, RowOk row ∧ 0 ≤ n ∧ OR K G as H a (boxD row n) := by
  obtain ⟨r, row, n, h1, h2, h3, h4, h5, h6⟩ := h
  exact ⟨row, n, ⟨h3, h4, h5⟩, h6, _, h1, Al.cons ⟨rfl, h2⟩ (Al.cons ⟨rfl, Dp.int n⟩ Al.nil)⟩
theorem or_box_close {row : List Int} {n : Int} (h0 : RowOk row) (hn : 0 ≤ n) (h : OR K G as H a (boxD row n)) : OR K G as H a .box := by
  obtain ⟨ys, h1, h2⟩ := h
  obtain ⟨⟨k1, v1⟩, r, rfl, ⟨e1, d1⟩, h3⟩ := h2.cons_inv
  obtain ⟨⟨k2, v2⟩, r2, rfl, ⟨e2, d2⟩, h5⟩ := h3.cons_inv
  obtain rfl := h5.nil_inv
  simp only at e1 d1 e2 d2
  subst e1 e2
  obtain ⟨a1, xs, rfl, _, _⟩ := dp_list d1
  rw [dp_int d2] at h1
  exact ⟨a1, row, n, h1, d1, h0.ne, h0.nn, h0.len, hn⟩
theorem lv_swap {o o' : Ob} (ho : e.ob[k]? = some o) (h : o.live = o'.live) (b : Addr) : Lv as (e.ob.set k o') b ↔ Lv as e.ob b := by
  have hk : k < e.ob.length := (List.getElem?_eq_some_iff.mp ho).1
  constructor
  · rintro ⟨j, o1, h1, h2, h3⟩
    by_cases hj : k = j
    · subst hj
      rw [List.getElem?_set_self hk] at h2; cases h2
      exact ⟨k, o, h1, ho, h.trans h3⟩
    · rw [List.getElem?_set_ne hj] at h2
      exact ⟨j, o1, h1, h2, h3⟩
  · rintro ⟨j, o1, h1, h2, h3⟩
    by_cases hj : k = j
    · subst hj
      rw [ho] at h2; cases h2
      exact ⟨k, o', h1, by rw [List.getElem?_set_self hk], h.symm.trans h3⟩
    · exact ⟨j, o1, h1, by rw [List.getElem?_set_ne hj]; exact h2, h3⟩
theorem hid_swap {o o' : Ob} (ho : e.ob[k]? = some o) (h : o.live = o'.live) : hid iv as (e.ob.set k o') H = hid iv as e.ob H := by
  funext b
  unfold hid
  by_cases hc : iv b ∨ Lv as e.ob b
  · rw [if_pos hc, if_pos (hc.imp id (lv_swap ho h b).mpr)]
  · rw [if_neg hc, if_neg (fun z => hc (z.imp id (lv_swap ho h b).mp))]
/-- an object described otherwise -/
theorem SR.redo {o o' : Ob} (S : SR K H0 iv as e σ H) (ho : e.ob[k]? = some o) (hl : o.live = true) (hl' : o'.live = true) (hr : ∀ a, as[k]? = some a → OR K (hid iv as e.ob H) as H a o → OR K (hid iv as e.ob H) as H a o') :
    SR K H0 iv as ⟨e.sl, e.ob.set k o'⟩ σ H := by
  have hk : k < e.ob.length := (List.getElem?_eq_some_iff.mp ho).1
  have eq := hid_swap (iv := iv) (as := as) (H := H) ho (hl.trans hl'.symm)
  refine ⟨S.ext, S.ivs, by simp [S.len], S.inj, S.tr, S.niv, fun j b o1 h1 h2 h3 => ?_, fun j b o1 h1 h2 => ?_, S.slen, fun i w h => ?_⟩
  · by_cases hj : k = j
    · subst hj; exact S.fr k b o h1 ho hl
    · rw [List.getElem?_set_ne hj] at h2; exact S.fr j b o1 h1 h2 h3
  · rw [eq]
    by_cases hj : k = j
    · subst hj
      rw [List.getElem?_set_self hk] at h2; cases h2
      exact hr b h1 (S.obs k b o h1 ho)
    · rw [List.getElem?_set_ne hj] at h2; exact S.obs j b o1 h1 h2
  · rw [eq]; exact S.sls i w h
end
end PL

/-! Dict displays; a box handed back, a box taken. -/
namespace PL
open PySem PySem.Spec PyProof.Rows L2

def pPairs : List (PTE × PTE) → PX → En → (List (D × D) → En → Prop) → Prop
  | [], _, e, Q => Q [] e
  | (pk, pv) :: r, X, e, Q => pk X e fun wk e1 => pv X e1 fun wv e2 => pPairs r X e2 fun ps e3 => kD e3 wk fun k => kD e3 wv fun v => Q ((k, v) :: ps) e3
def keysOf : List (D × D) → Option (List (Key × D))
  | [] => some []
  | (k, v) :: r => match keyOf k, keysOf r with
    | some k', some r' => some ((k', v) :: r')
    | _, _ => none
def mergeD (more : List (Key × D)) : List (Key × D) := more.foldl (fun acc kv => putD acc kv.1 kv.2) []
/-- {k: v, ..}, an object of the def's own -/
def pDisp (prs : List (PTE × PTE)) : PTE := fun X e Q => pPairs prs X e fun kvs e1 => match keysOf kvs with
  | some ks => match Nat.ble ks.length 15 with
    | true => Q (.ref e1.ob.length) ⟨e1.sl, e1.ob ++ [.dic (mergeD ks)]⟩
    | false => False
  | none => False
def PrAl (K : PySem.W.Frag) (G : Hp) : List (V × V) → List (D × D) → Prop := Al fun y z => Dp K G y.1 z.1 ∧ Dp K G y.2 z.2
structure SndPs (K : PySem.W.Frag) (E : XK) (trs : List (TE × TE)) (prs : List (PTE × PTE)) : Prop where
  run : ∀ H0 iv as e σ H X Q (R : List (V × V) → Hp → Prop), SR K H0 iv as e σ H → pPairs prs X e Q → (∀ vs ds as' e' H', Q ds e' → SR K H0 iv as' e' σ H' → Ltr iv as e.ob H as' e'.ob H' → PrAl K (hid iv as' e'.ob H') vs ds → R vs H') →
    LX K H0 iv as e σ H X E → tPairs trs σ H R
section
variable {K : PySem.W.Frag} {E : XK} {trs : List (TE × TE)} {prs : List (PTE × PTE)} {tk tv : TE} {pk pv : PTE}
theorem sps_nil : SndPs K E [] [] := ⟨fun H0 iv as e σ H X Q R S h k l => k [] [] as e H h S Ltr.refl Al.nil⟩
theorem sps_cons (hk : SndE K E tk pk) (hv : SndE K E tv pv) (hr : SndPs K E trs prs) : SndPs K E ((tk, tv) :: trs) ((pk, pv) :: prs) := ⟨fun H0 iv as e σ H X Q R S h k l => by
  refine hk.run H0 iv as e σ H X _ _ S h (fun x wx as1 e1 H1 h1 S1 l1 w1 => ?_) l
  refine hv.run H0 iv as1 e1 σ H1 X _ _ S1 h1 (fun y wy as2 e2 H2 h2 S2 l2 w2 => ?_) (l.on l1)
  refine hr.run H0 iv as2 e2 σ H2 X _ _ S2 h2 (fun vs ds as3 e3 H3 h3 S3 l3 w3 => ?_) (l.on (l1.trans l2))
  obtain ⟨dk, ek, h4⟩ := kD_elim h3
  obtain ⟨dv, ev, h5⟩ := kD_elim h4
  exact k _ _ as3 e3 H3 h5 S3 ((l1.trans l2).trans l3) (Al.cons ⟨asD_wr S3 ((l2.trans l3).wr w1) ek, asD_wr S3 (l3.wr w2) ev⟩ w3)⟩
theorem keysOf_al {G : Hp} : ∀ {vs : List (V × V)} {ds : List (D × D)} {ks : List (Key × D)}, PrAl K G vs ds → keysOf ds = some ks →
    ∃ kvs : List (Key × V), vs = kvs.map (fun kv => (kV kv.1, kv.2)) ∧ Al (fun (y : Key × V) z => y.1 = z.1 ∧ Dp K G y.2 z.2) kvs ks
  | vs, [], ks, h, e => by
    simp only [keysOf] at e
    cases e
    exact ⟨[], by rw [h.nil_inv]; rfl, Al.nil⟩
  | vs, (dk, dv) :: ds, ks, h, e => by
    obtain ⟨⟨x, y⟩, r, rfl, ⟨h1, h2⟩, h3⟩ := h.cons_inv
    simp only [keysOf] at e
    split at e
    · rename_i k' r' e1 e2
      cases e
      obtain ⟨kvs, rfl, al⟩ := keysOf_al h3 e2
      have ed := keyOf_some e1
      simp only at h1 h2
      subst ed
      have ex : x = kV k' := keyV (.inl h1 : RV K G G x (keyD k'))
      exact ⟨(k', y) :: kvs, by rw [ex]; rfl, Al.cons ⟨rfl, h2⟩ al⟩
    · cases e
theorem merge_al {G : Hp} : ∀ {more : List (Key × V)} {mD : List (Key × D)} {acc : List (Key × V)} {aD : List (Key × D)}, Al (fun (y : Key × V) z => y.1 = z.1 ∧ Dp K G y.2 z.2) more mD → Al (fun (y : Key × V) z => y.1 = z.1 ∧ Dp K G y.2 z.2) acc aD →
    Al (fun (y : Key × V) z => y.1 = z.1 ∧ Dp K G y.2 z.2) (more.foldl (fun acc kv => putK acc kv.1 kv.2) acc) (mD.foldl (fun acc kv => putD acc kv.1 kv.2) aD)
  | more, [], acc, aD, h, h0 => by rw [h.nil_inv]; exact h0
  | more, (k, d) :: mD, acc, aD, h, h0 => by
    obtain ⟨⟨k', v⟩, r, rfl, ⟨h1, h2⟩, h3⟩ := h.cons_inv
    simp only at h1 h2
    subst h1
    rw [List.foldl_cons, List.foldl_cons]
    exact merge_al h3 (put_al (R := Dp K G) h0 h2)
theorem snd_disp (h : SndPs K E trs prs) : SndE K E (tDisp trs) (pDisp prs) := ⟨fun H0 iv as e σ H X Q R S hq k l => by
  intro p hp
  have s0 : Sub (hid iv as e.ob H) (hid (ivp iv p) as e.ob (upd H p (.dK []))) := hid_ivp_new hp
  have hne : ∀ b, iv b → b ≠ p := fun b hb z => by
    subst z
    obtain ⟨o, q⟩ := S.ivs _ hb
    rw [hp] at q; cases q
  refine h.run H0 (ivp iv p) as e σ (upd H p (.dK [])) X _ _ (S.hide hp) hq (fun vs ds as1 e1 H1 h1 S1 l1 al => ?_) (fun x cls d as' e' H' hx S' l' xr => ?_)
  · split at h1
    · rename_i ks eks
      split at h1
      · rename_i hb
        have hl : ks.length ≤ 15 := Nat.le_of_ble_eq_true hb
        obtain ⟨kvs, rfl, al2⟩ := keysOf_al al eks
        have hp1 : H1 p = some (.dK []) := by rw [l1.2.2 p (.inr rfl), upd_same]
        obtain ⟨S2, e2⟩ := S1.poke (p := p) (u := .dK (mergeK [] kvs)) (.inr rfl) (S.h0 hp)
        refine ⟨hp1, kvs, rfl, by rw [al2.1]; exact hl, ?_⟩
        obtain ⟨S3, s3⟩ := S2.own (iv := iv) (o := .dic (mergeD ks)) (h0 := S.h0 hp) (hn := (S.fresh hp).1) rfl ⟨_, upd_same, by rw [e2]; exact merge_al al2 Al.nil⟩
        refine k _ (.ref e1.ob.length) (as1 ++ [p]) ⟨e1.sl, e1.ob ++ [.dic (mergeD ks)]⟩ _ h1 S3 ⟨?_, ?_, fun b hb => ?_⟩ ⟨p, by rw [← S1.len]; simp, rfl⟩
        · obtain ⟨t, rfl⟩ := l1.1
          exact ⟨t ++ [p], by simp⟩
        · rw [e2] at s3
          exact (s0.trans l1.2.1).trans s3
        · rw [upd_ne (hne b hb), l1.2.2 b (.inl hb), upd_ne (hne b hb)]
      · exact h1.elim
    · exact h1.elim
  · have up : Sub (hid (ivp iv p) as' e'.ob H') (hid iv as' e'.ob H') := hid_ivp rfl
    refine l x cls d as' e' H' hx S'.show ⟨l'.1, (s0.trans l'.2.1).trans up, fun b hb => ?_⟩ ⟨xr.1, ?_⟩
    · rw [l'.2.2 b (.inl hb), upd_ne (hne b hb)]
    · have r2 := xr.2
      split
      · rename_i ha; rw [ha] at r2; exact r2
      · rename_i f y ha
        rw [ha] at r2
        obtain ⟨a, v, z1, z2, z3⟩ := r2
        exact ⟨a, v, z1, z2, dp_sub up _ _ z3⟩⟩
end
structure PPD (X : Cx) (E : XK) (pos : Pos) (ks : List (Option Expr)) (vs : List Expr) (trs : List (TE × TE)) (prs : List (PTE × PTE)) : Prop where
  a : PPs X pos ks vs trs
  b : SndPs X.K E trs prs
section
variable {X : Cx} {E : XK} {pos : Pos} {k v : Expr} {ks : List (Option Expr)} {vs : List Expr} {trs : List (TE × TE)} {prs : List (PTE × PTE)} {tk tv : TE} {pk pv : PTE}
theorem ppd_nil : PPD X E pos [] [] [] [] := ⟨pps_nil, sps_nil⟩
theorem ppd_cons (hk : PD X E k tk pk) (hv : PD X E v tv pv) (hr : PPD X E pos ks vs trs prs) : PPD X E pos (some k :: ks) (v :: vs) ((tk, tv) :: trs) ((pk, pv) :: prs) := ⟨pps_cons hk.a hv.a hr.a, sps_cons hk.b hv.b hr.b⟩
theorem pd_disp {keys : List (Option Expr)} {values : List Expr} (h : PPD X E pos keys values trs prs) (hall : keys.all (·.isSome) = true := by rfl) (hl : keys.length = values.length := by rfl) (h0 : keys ≠ [] := by intro z; cases z) (h15 : keys.length ≤ 15 := by decide) :
    PD X E (.Dict keys values pos) (tDisp trs) (pDisp prs) := ⟨pe_disp h.a hall hl h0 h15, snd_disp h.b⟩
theorem pd_dnew : PD X E (.Dict [] [] pos) tDNewK (fun X e Q => Q (.ref e.ob.length) ⟨e.sl, e.ob ++ [.dic []]⟩) := ⟨pe_dnewK, ⟨fun H0 iv as e σ H X Q R S hq k l p hp => by
  obtain ⟨S1, l1⟩ := S.newO (o := .dic []) (u := .dK []) hp rfl ⟨[], upd_same, Al.nil⟩
  exact k _ _ _ _ _ hq S1 l1 ⟨p, by rw [← S.len]; simp, rfl⟩⟩⟩
end

/-! ### what a def hands back when it makes the box -/
def spBox (K : PySem.W.Frag) : Sp := fun vs H Q _ => ∃ iv d, (∀ b, iv b → ∃ o, H b = some o) ∧ (∃ v, vs = [v] ∧ Dp K (hid iv [] [] H) v d) ∧ (∃ ns : List Int, d = .list (ns.map .int) ∧ ns.length ≤ 63) ∧
  ∀ p H', H p = none → Sub H H' → BoxOk K (hid (ivp iv p) [] [] H') H' p → Q (.ref p) H'
theorem hid_nil {iv : Addr → Prop} {H : Hp} {b : Addr} {o : HO} : hid iv [] [] H b = some o ↔ ¬ iv b ∧ H b = some o := by
  rw [hid_some]
  constructor
  · rintro ⟨⟨h1, _⟩, h3⟩
    exact ⟨h1, h3⟩
  · rintro ⟨h1, h3⟩
    exact ⟨⟨h1, fun ⟨k, o, z, _⟩ => by simp at z⟩, h3⟩
def pMkBox (pr : PTA) : PTE := fun X e Q => pr X e fun ws e1 => kDs e1 ws fun ds => match ds with
  | [d] => (∃ ns : List Int, d = .list (ns.map .int) ∧ ns.length ≤ 63) ∧ Q (.ref e1.ob.length) ⟨e1.sl, e1.ob ++ [.box]⟩
  | _ => False
section
variable {K : PySem.W.Frag} {E E' : XK} {tr : TA} {pr : PTA} {ts : TS} {ps : PTS}
theorem snd_mkBox (ha : SndA K E tr pr) : SndE K E (tCall (spBox K) [] E' tr) (pMkBox pr) := ⟨fun H0 iv as e σ H X Q R S hq k l => by
  refine ha.run H0 iv as e σ H X _ _ S hq (fun vs ws as1 e1 H1 h1 S1 l1 w1 => ?_) l
  rw [List.append_nil]
  obtain ⟨ds, ed, h2⟩ := kDs_elim h1
  split at h2
  · rename_i d
    obtain ⟨hd, h3⟩ := h2
    obtain ⟨v, rfl, dv⟩ := al1 (asDs_wr S1 w1 ed)
    let iv' : Addr → Prop := fun b => iv b ∨ Lv as1 e1.ob b
    have see : ∀ Hx : Hp, Sub (hid iv as1 e1.ob Hx) (hid iv' [] [] Hx) := fun Hx b o q => by
      obtain ⟨⟨q1, q2⟩, q3⟩ := hid_some.mp q
      exact hid_nil.mpr ⟨fun z => z.elim q1 q2, q3⟩
    refine ⟨iv', d, fun b z => ?_, ⟨v, rfl, dp_sub (see H1) _ _ dv⟩, hd, fun p H' hp g hb => ?_⟩
    · rcases z with z | ⟨j, o, z, _⟩
      · exact S1.ivs b z
      · exact S1.tr j b z
    · obtain ⟨r, row, n, q1, q2, q3⟩ := hb
      have S2 : SR K H0 (ivp iv p) as1 e1 σ H' := by
        obtain ⟨S', _⟩ := (S1.hide (u := .dK [(.inr sRow, .ref r), (.inr sAt, .int n)]) hp).grow (H' := H') (fun b o z => by
          by_cases hbp : b = p
          · subst hbp; rw [upd_same] at z; cases z; exact q1
          · rw [upd_ne hbp] at z; exact g b o z)
        exact S'
      have sub2 : Sub (hid (ivp iv' p) [] [] H') (hid (ivp iv p) as1 e1.ob H') := fun b o q => by
        obtain ⟨q1, q2⟩ := hid_nil.mp q
        exact hid_some.mpr ⟨⟨fun z => q1 (z.imp .inl id), fun z => q1 (.inl (.inr z))⟩, q2⟩
      obtain ⟨S3, s3⟩ := S2.own (iv := iv) (o := .box) (h0 := S1.h0 hp) (hn := (S1.fresh hp).1) rfl ⟨r, row, n, q1, dp_sub sub2 _ _ q2, q3⟩
      have s0 : Sub (hid iv as1 e1.ob H1) (hid (ivp iv p) as1 e1.ob H') := fun b o q => by
        obtain ⟨⟨z1, z2⟩, z3⟩ := hid_some.mp q
        have hbp : b ≠ p := fun z => by subst z; rw [hp] at z3; cases z3
        exact hid_some.mpr ⟨⟨fun z => z.elim z1 hbp, z2⟩, g b o z3⟩
      refine k _ _ _ _ _ h3 S3 (l1.trans ⟨⟨[p], rfl⟩, s0.trans s3, fun b hb => ?_⟩) ⟨p, by rw [← S1.len]; simp, rfl⟩
      obtain ⟨o, q⟩ := S1.ivs b hb
      rw [q, g b o q]
  · exact h2.elim⟩
/-- the end of a def that makes the box -/
def finBox : PEn := ⟨fun _ => False, fun w e => ∃ k row n, w = .ref k ∧ e.ob[k]? = some (boxD row n) ∧ RowOk row ∧ 0 ≤ n, fun _ => False, fun _ => False, fun _ _ => False⟩
theorem spBox_body (N : List Str) (hts : SndS K E ts ps) (hp : ∀ ns : List Int, ns.length ≤ 63 → ps finBox ⟨slots N.length [.dat (.list (ns.map .int))], []⟩) {vs : List V} {H : Hp} {Q : VK} (h : spBox K vs H Q E) :
    ts { nx := fun _ H' => Q .non H', rt := Q } (L2.start N vs) H := by
  obtain ⟨iv, d, hiv, ⟨v, rfl, dv⟩, ⟨ns, rfl, hn⟩, hq⟩ := h
  have S : SR K H iv [] ⟨slots N.length [.dat (.list (ns.map .int))], []⟩ (L2.start N [v]) H := by
    refine ⟨Sub.refl _, hiv, rfl, fun k j a q => by simp at q, fun k a q => by simp at q, fun k a q => by simp at q, fun k a o q => by simp at q, fun k a o q => by simp at q, by simp [slots, L2.start], fun i w q => ?_⟩
    have q : (([Wv.dat (.list (ns.map .int))] : List Wv).map some ++ List.replicate (N.length - 1) none)[i]? = some (some w) := q
    cases i with
    | zero => cases q; exact ⟨v, rfl, dv⟩
    | succ i =>
      simp only [List.map_cons, List.map_nil, List.cons_append, List.nil_append, List.getElem?_cons_succ, List.getElem?_replicate] at q
      split at q <;> cases q
  refine hts.run H iv [] _ _ H finBox _ S (hp ns hn) (fun _ _ _ _ z => z.elim) (fun _ _ _ _ z => z.elim) (fun _ _ _ _ z => z.elim) (fun u w as' e' σ' H' h1 S' l' hw => ?_) (fun _ _ _ _ _ _ _ z => z.elim)
  obtain ⟨k, row, n, rfl, ho, hr, h0⟩ := h1
  obtain ⟨a, ha, rfl⟩ := hw
  have hl : Lv as' e'.ob a := ⟨k, _, ha, ho, rfl⟩
  have hfa : H a = none := S'.fr k a _ ha ho rfl
  refine hq a H' hfa S'.ext ?_
  obtain ⟨r, row', n', q1, q2, q3⟩ := or_box_close hr h0 (S'.obs k a _ ha ho)
  refine ⟨r, row', n', q1, dp_sub (fun b o q => ?_) _ _ q2, q3⟩
  obtain ⟨⟨z1, z2⟩, z3⟩ := hid_some.mp q
  exact hid_nil.mpr ⟨fun z => z.elim z1 (fun hb => z2 (by rw [hb]; exact hl)), z3⟩
end
section
variable {P : Program} {w : World} {K : PySem.W.Frag} {mg : Str → Option Value} {base : Heap}
theorem Fn.mkBox {x qual : Str} {st : Stmt} {f : Addr} {fd : FuncData} {N : List Str} {y : Str} {k : Nat} (F : Fun K x qual st f fd) (S : FnScope N [y] (defScope st))
    (hb : ∀ (cdv : Value) (A : Around) (outer : List PySem.Env) (s' : Shared) (H : Hp) (E : XK), Room k (A.deeper (envOfC qual (defScope st) s'.heap.objs.size f cdv)) →
      ∃ t p, BD (cxOf CX0 P w K mg base N qual (defScope st) f cdv A outer s' H E).nox E0 (defBody st) t p ∧ ∀ ns : List Int, ns.length ≤ 63 → p finBox ⟨slots N.length [.dat (.list (ns.map .int))], []⟩) : FnOk P w K mg base CX0 (k + 1) f fd [y] (spBox K) := by
  refine F.ok S (fun vs H Q E h => ?_) fun cdv A outer s' H vs Q E hr h => ?_
  · obtain ⟨_, _, _, ⟨v, rfl, _⟩, _⟩ := h
    rfl
  · obtain ⟨t, p, h1, h2⟩ := hb cdv A outer s' H E hr
    obtain ⟨iv, d, q⟩ := h
    exact ⟨t, h1.a, spBox_body N h1.b h2 ⟨iv, d, q⟩⟩
/-- by the rules -/
theorem Fn.mkB {x qual : Str} {st : Stmt} {f : Addr} {fd : FuncData} {N ps : List Str} {k : Nat} {s : Sc} (F : Fun K x qual st f fd) (S : FnScope N ps (defScope st)) (len : ∀ ws ob X Q, s ws ob X Q → ws.length = ps.length)
    (hX : ∀ ws ob X Q, s ws ob X Q → s ws ob (fun _ _ => False) Q)
    (hb : ∀ (cdv : Value) (A : Around) (outer : List PySem.Env) (s' : Shared) (H : Hp) (E : XK), Room k (A.deeper (envOfC qual (defScope st) s'.heap.objs.size f cdv)) →
      ∃ t p, BD (cxOf CX0 P w K mg base N qual (defScope st) f cdv A outer s' H E).nox E0 (defBody st) t p ∧ ∀ ws ob X Q, s ws ob X Q → p (fin X Q) ⟨slots N.length ws, ob⟩) : FnOk P w K mg base CX0 (k + 1) f fd ps (toSp K s) :=
  Fn.mk F S len (fun cdv A outer s' H E hr => by
    obtain ⟨t, p, h1, h2⟩ := hb cdv A outer s' H E hr
    exact ⟨t, p, h1.a, h1.b, fun ws ob X Q h _ => h2 ws ob X Q h⟩) hX
end
/-- a def that draws: from its promise over the open box -/
theorem toSp_box {K : PySem.W.Frag} {s s' : Sc} (h : ∀ ws ob X Q, s ws ob X Q → ob = [.box] ∧ ∀ row n, RowOk row → 0 ≤ n → s' ws [boxD row n] (fun _ _ => False) fun d ob' => ∃ row' n' more, ob' = boxD row' n' :: more ∧ RowOk row' ∧ 0 ≤ n' ∧ ∀ more, Q d (.box :: more))
    {vs : List V} {H : Hp} {Q : VK} {E : XK} (q : toSp K s vs H Q E) : toSp K s' vs H Q E := by
  obtain ⟨iv, as, ob, ws, X, Qd, S, hs, hq, hx⟩ := q
  obtain ⟨rfl, h'⟩ := h ws ob X Qd hs
  obtain ⟨a, ha⟩ := S.ad (k := 0) (o := .box) rfl
  obtain ⟨row, n, hr, hn, ho⟩ := or_box_open (S.obs 0 a .box ha rfl)
  have has : ∀ (k : Nat) b, as[k]? = some b → k = 0 := fun k b q => by
    have := (List.getElem?_eq_some_iff.mp q).1
    have l := S.len
    simp at l
    omega
  have S' : SR K (cut as H) iv as ⟨ws.map some, [boxD row n]⟩ (vs.map some) H := S.redo (k := 0) (o := .box) (o' := boxD row n) rfl rfl rfl fun b hb _ => by
    rw [ha] at hb; cases hb; exact ho
  have eq0 : hid iv as [boxD row n] H = hid iv as [.box] H := hid_swap (e := ⟨[], [.box]⟩) (k := 0) (o := .box) (o' := boxD row n) rfl rfl
  refine ⟨iv, as, [boxD row n], ws, _, _, S', h' row n hr hn, fun v d as' e' σ' H' h1 S2 l2 dp => ?_, fun _ _ _ _ _ _ _ z => z.elim⟩
  obtain ⟨row', n', more, eo, hr', hn', hQ⟩ := h1
  have ho' : e'.ob[0]? = some (boxD row' n') := by rw [eo]; rfl
  have S3 : SR K (cut as H) iv as' ⟨e'.sl, e'.ob.set 0 .box⟩ σ' H' := S2.redo ho' rfl rfl fun b hb hob => or_box_close hr' hn' hob
  have eq1 : hid iv as' (e'.ob.set 0 .box) H' = hid iv as' e'.ob H' := hid_swap ho' rfl
  refine hq v d as' ⟨e'.sl, e'.ob.set 0 .box⟩ σ' H' ?_ S3 ⟨l2.1, ?_, l2.2.2⟩ (by rw [eq1]; exact dp)
  · simp only [eo]; exact hQ more
  · rw [eq1, ← eq0]; exact l2.2.1
end PL

/-! More rules: chains, slices, stores into lists, truth, lists of lists, all, any, sorted. -/
namespace PL
open PySem PySem.Spec PyProof.Rows L2

theorem u65 {k : Nat} {A : Around} (r : Room k A) : A.units + 65 < cLine := by have := r.un; omega
theorem ff {P : Prop} (h : false = true) : P := by cases h
theorem tf {P : Prop} (h : true = false) : P := by cases h
/-! ### a < b < c -/
def pChain (r r' : D → D → (D → Prop) → Prop) (pa pb pc : PTE) : PTE := fun X e Q => pa X e fun x e1 => pb X e1 fun y e2 => kD e2 x fun a => kD e2 y fun b => r a b fun d => match d with
  | .bool k => (k = true → pc X e2 fun z e3 => kD e3 z fun c => r' b c fun d' => Q (.dat d') e3) ∧ (k = false → Q (.dat (.bool false)) e2)
  | _ => False
section
variable {K : PySem.W.Frag} {E : XK} {ta tb tc te : TE} {pa pb pc p : PTE} {r1 r2 : R2} {n1 n2 : D → D → (D → Prop) → Prop}
theorem snd_chain (h1 : RS K r1 n1) (h2 : RS K r2 n2) (ha : SndE K E ta pa) (hb : SndE K E tb pb) (hc : SndE K E tc pc) : SndE K E (tChain r1 r2 ta tb tc) (pChain n1 n2 pa pb pc) := ⟨fun H0 iv as e σ H X Q R S h k l => by
  refine ha.run H0 iv as e σ H X _ _ S h (fun x wx as1 e1 H1 k1 S1 l1 w1 => ?_) l
  refine hb.run H0 iv as1 e1 σ H1 X _ _ S1 k1 (fun y wy as2 e2 H2 k2 S2 l2 w2 => ?_) (l.on l1)
  obtain ⟨a, ea, k3⟩ := kD_elim k2
  obtain ⟨b, eb, k4⟩ := kD_elim k3
  have da := asD_wr S2 (l2.wr w1) ea
  have db := asD_wr S2 w2 eb
  refine h1 _ H2 x y a b _ _ hid_sub (.inl da) (.inl db) k4 fun d v H3 hd g hg => ?_
  obtain ⟨S3, l3⟩ := S2.grow g
  split at hd
  · rename_i c
    have dv : v = .bl c := dp_bool (hg _ l3.2.1 fun b o n1 n2 => S2.seen n1 n2)
    refine ⟨c, dv, ?_⟩
    cases c with
    | true =>
      rw [if_pos rfl]
      refine hc.run H0 iv as2 e2 σ H3 X _ _ S3 (hd.1 rfl) (fun z wz as4 e4 H4 k5 S4 l4 w4 => ?_) (l.on ((l1.trans l2).trans l3))
      obtain ⟨c, ec, k6⟩ := kD_elim k5
      refine h2 _ H4 y z b c _ R hid_sub (.inl ((l3.trans l4).dp db)) (.inl (asD_wr S4 w4 ec)) k6 fun d' v' H5 hd' g5 hg5 => ?_
      obtain ⟨S5, l5⟩ := S4.grow g5
      exact k v' _ as4 e4 H5 hd' S5 ((((l1.trans l2).trans l3).trans l4).trans l5) (hg5 _ l5.2.1 fun b o n1 n2 => S4.seen n1 n2)
    | false =>
      rw [if_neg Bool.false_ne_true]
      exact k _ _ as2 e2 H3 (hd.2 rfl) S3 ((l1.trans l2).trans l3) (Dp.bl false)
  · exact hd.elim⟩
end
section
variable {X : Cx} {E : XK} {a b c f : Expr} {ta tb tc te : TE} {pa pb pc p : PTE} {pos p2 apos cpos : Pos} {es : List Expr} {tr : TA} {pr : PTA} {x : Str} {op op' : CmpOp} {r1 r2 : R2} {n1 n2 : D → D → (D → Prop) → Prop}
theorem pd_chain (h1 : OpR X (compareOp op) r1 ∧ RS X.K r1 n1) (h2 : OpR X (compareOp op') r2 ∧ RS X.K r2 n2) (ha : PD X E a ta pa) (hb : PD X E b tb pb) (hc : PD X E c tc pc) (hm : lastMarks [op, op'] [b, c] = false := by with_unfolding_all rfl) :
    PD X E (.Compare a [op, op'] [b, c] pos) (tChain r1 r2 ta tb tc) (pChain n1 n2 pa pb pc) := ⟨pe_chain h1.1 h2.1 ha.a hb.a hc.a hm, snd_chain h1.2 h2.2 ha.b hb.b hc.b⟩
theorem td_chain (h1 : OpR X (compareOp op) r1 ∧ RS X.K r1 n1) (h2 : OpR X (compareOp op') r2 ∧ RS X.K r2 n2) (ha : PD X E a ta pa) (hb : PD X E b tb pb) (hc : PD X E c tc pc) (hm : lastMarks [op, op'] [b, c] = false := by with_unfolding_all rfl) :
    TD X E (.Compare a [op, op'] [b, c] pos) (tTest (tChain r1 r2 ta tb tc)) (pTst (pChain n1 n2 pa pb pc)) := ⟨pt_chain h1.1 h2.1 ha.a hb.a hc.a hm, snd_tst (snd_chain h1.2 h2.2 ha.b hb.b hc.b)⟩
/-! ### -a -/
def uNeg : D → (D → Prop) → Prop := fun a k => match a with
  | .int i => k (.int (-i))
  | _ => False
theorem ru_negD {K : PySem.W.Frag} : RU K (rU fun i => .int (-i)) uNeg := fun G H v a k R s h hk hR => by
  unfold uNeg at hk
  split at hk
  · exact ⟨_, rv_int h, hR _ _ H hk (Sub.refl _) fun _ _ _ => Dp.int _⟩
  · exact hk.elim
theorem pd_neg (ha : PD X E a ta pa) : PD X E (.UnaryOp .USub a pos) (tUn (rU fun i => .int (-i)) ta) (pUn uNeg pa) := ⟨pe_un un_neg ha.a, snd_un ru_negD ha.b⟩
end
/-! ### slices -/
abbrev PTO := PX → En → (Option Int → En → Prop) → Prop
structure SndO (K : PySem.W.Frag) (E : XK) (te : TO) (p : PTO) : Prop where
  run : ∀ H0 iv as e σ H X Q (R : Option Int → Hp → Prop), SR K H0 iv as e σ H → p X e Q → (∀ o as' e' H', Q o e' → SR K H0 iv as' e' σ H' → Ltr iv as e.ob H as' e'.ob H' → R o H') → LX K H0 iv as e σ H X E → te σ H R
structure OD (X : Cx) (E : XK) (ex : Option Expr) (te : TO) (p : PTO) : Prop where
  a : PO X ex te
  b : SndO X.K E te p
def pNoP : PTO := fun _ e Q => Q none e
def pPart (p : PTE) : PTO := fun X e Q => p X e fun w e1 => kD e1 w fun d => match d with
  | .int i => Q (some i) e1
  | _ => False
def cutD (xs : List D) (lo hi : Option Int) : List D := (xs.drop (HT.sIx xs.length 0 lo)).take (HT.sIx xs.length xs.length hi - HT.sIx xs.length 0 lo)
/-- of a list or a tuple -/
def pSl (pa : PTE) (pl ph : PTO) : PTE := fun X e Q => pa X e fun w e1 => pl X e1 fun lo e2 => ph X e2 fun hi e3 => kV' e3 w fun d => match d with
  | .list ds => Q (.dat (.list (cutD ds lo hi))) e3
  | .tuple ds => Q (.dat (.tuple (cutD ds lo hi))) e3
  | _ => False
theorem cut_al {R : V → D → Prop} {xs : List V} {ds : List D} {lo hi : Option Int} (h : Al R xs ds) : Al R (cutV xs lo hi) (cutD ds lo hi) := by
  unfold cutV cutD
  rw [h.1]
  exact (h.drop _).take _
def rSlAny (K : PySem.W.Frag) : V → Option Int → Option Int → Hp → VK → Prop := fun x lo hi H Q => rSlL K x lo hi H Q ∨ rSlA K x lo hi H Q
section
variable {K : PySem.W.Frag} {E : XK} {te : TE} {p : PTE} {tl th : TO} {pl ph : PTO}
theorem so_none : SndO K E tNoPart pNoP := ⟨fun H0 iv as e σ H X Q R S h k l => k none as e H h S Ltr.refl⟩
theorem so_some (h : SndE K E te p) : SndO K E (tPart te) (pPart p) := ⟨fun H0 iv as e σ H X Q R S hq k l => by
  refine h.run H0 iv as e σ H X _ _ S hq (fun v w as1 e1 H1 h1 S1 l1 w1 => ?_) l
  obtain ⟨d, ed, h2⟩ := kD_elim h1
  split at h2
  · exact ⟨_, dp_int (asD_wr S1 w1 ed), k _ as1 e1 H1 h2 S1 l1⟩
  · exact h2.elim⟩
theorem sIx_whole {n : Nat} {lo hi : Option Int} {xs : List D} (hn : xs.length = n) (h : HT.sIx n 0 lo = 0 ∧ HT.sIx n n hi = n) : cutD xs lo hi = xs := by
  subst hn
  unfold cutD
  rw [h.1, h.2, List.drop_zero, Nat.sub_zero, List.take_length]
theorem snd_sl (h : SndE K E te p) (h1 : SndO K E tl pl) (h2 : SndO K E th ph) : SndE K E (tSl (rSlAny K) te tl th) (pSl p pl ph) := ⟨fun H0 iv as e σ H X Q R S hq k l => by
  refine h.run H0 iv as e σ H X _ _ S hq (fun v w as1 e1 H1 q1 S1 l1 w1 => ?_) l
  refine h1.run H0 iv as1 e1 σ H1 X _ _ S1 q1 (fun lo as2 e2 H2 q2 S2 l2 => ?_) (l.on l1)
  refine h2.run H0 iv as2 e2 σ H2 X _ _ S2 q2 (fun hi as3 e3 H3 q3 S3 l3 => ?_) (l.on (l1.trans l2))
  obtain ⟨d, ed, q4⟩ := kV_elim q3
  have ll := (l1.trans l2).trans l3
  have rv := vwD_wr S3 ((l2.trans l3).wr w1) ed
  split at q4
  · rename_i ds
    obtain ⟨a, xs, rfl, hs, al⟩ := rv_list hid_sub rv
    refine .inl ⟨a, xs, rfl, hs, fun q hp => ?_⟩
    obtain ⟨S4, l4⟩ := S3.grow (Sub.new (o := .lst (cutV xs lo hi)) hp)
    exact k _ _ as3 e3 _ q4 S4 (ll.trans l4) (Dp.lst (.inl (.inl (S3.seen hp upd_same))) (dpAll_al.mpr ((cut_al al).mono fun _ _ z => l4.dp z)))
  · rename_i ds
    have keep := rv
    obtain ⟨a, xs, rfl, hs, al⟩ := rv_tuple hid_sub rv
    refine .inr ⟨a, xs, rfl, hs, fun hw => ?_, fun hw q hp => ?_⟩
    · rw [al.1] at hw
      rw [sIx_whole rfl hw] at q4
      rcases keep with z | ⟨_, _, _, _, _, _, z⟩ | ⟨_, _, _, _, _, _, z⟩
      · exact k _ (.dat (.tuple ds)) as3 e3 H3 q4 S3 ll z
      all_goals cases z
    · obtain ⟨S4, l4⟩ := S3.grow (Sub.new (o := .tup (cutV xs lo hi)) hp)
      exact k _ _ as3 e3 _ q4 S4 (ll.trans l4) (Dp.tup (.inl (.inl (S3.seen hp upd_same))) (dpAll_al.mpr ((cut_al al).mono fun _ _ z => l4.dp z)))
  · exact q4.elim⟩
end
section
variable {X : Cx} {E : XK} {a b c f : Expr} {ta tb tc te : TE} {pa pb pc p : PTE} {pos p2 apos cpos : Pos} {tl th : TO} {pl ph : PTO} {lo hi : Option Expr}
theorem sl_any : SlR X (rSlAny X.K) := by
  intro pins s σ H x v vl vu lo hi sl Q I rx hs pl pu h
  rcases h with h | h
  · exact sl_list pins s σ H x v vl vu lo hi sl Q I rx hs pl pu h
  · exact sl_tupA pins s σ H x v vl vu lo hi sl Q I rx hs pl pu h
theorem od_none : OD X E none tNoPart pNoP := ⟨po_none, so_none⟩
theorem od_some (h : PD X E a ta pa) : OD X E (some a) (tPart ta) (pPart pa) := ⟨po_some h.a, so_some h.b⟩
theorem pd_slice {K : PySem.W.Frag} (h : PD X E a ta pa) (h1 : OD X E lo tl pl) (h2 : OD X E hi th ph) (hK : X.K = K := by rfl) : PD X E (.Subscript a (.Slice lo hi none p2) pos) (tSl (rSlAny K) ta tl th) (pSl pa pl ph) := by
  subst hK
  exact ⟨pe_slice sl_any h.a h1.a h2.a, snd_sl h.b h1.b h2.b⟩
end
/-! ### xs[i] = e -/
def pSetL (po pi pv : PTE) : PTS := fun P e => pv P.xe e fun wv e1 => po P.xe e1 fun wo e2 => pi P.xe e2 fun wi e3 => kD e3 wv fun v => kD e3 wi fun d => match d with
  | .int i => ∃ n ds, wo = .ref n ∧ e3.ob[n]? = some (.lst ds) ∧ ∃ j, ixN ds.length i = some j ∧ P.nx ⟨e3.sl, e3.ob.set n (.lst (ds.set j v))⟩
  | _ => False
section
variable {K : PySem.W.Frag} {E : XK} {ta tb te : TE} {po pi pv : PTE}
theorem snd_setL (ho : SndE K E ta po) (hi : SndE K E tb pi) (hv : SndE K E te pv) : SndS K E (tAsg te (gSub ta tb rSetL)) (pSetL po pi pv) := ⟨fun H0 iv as e σ H P F S h n b c r x => by
  refine hv.run H0 iv as e σ H P.xe _ _ S h (fun v wv as1 e1 H1 h1 S1 l1 w1 => ?_) x.lx
  refine ho.run H0 iv as1 e1 σ H1 P.xe _ _ S1 h1 (fun u wo as2 e2 H2 h2 S2 l2 w2 => ?_) (x.on l1).lx
  refine hi.run H0 iv as2 e2 σ H2 P.xe _ _ S2 h2 (fun y wi as3 e3 H3 h3 S3 l3 w3 => ?_) (x.on (l1.trans l2)).lx
  obtain ⟨dv, ev, h4⟩ := kD_elim h3
  obtain ⟨di, ei, h5⟩ := kD_elim h4
  split at h5
  · rename_i i
    obtain ⟨m, ds, rfl, ho', j, hj, h7⟩ := h5
    obtain ⟨a, ha, rfl⟩ := l3.wr w2
    obtain ⟨xs, q1, q2⟩ := S3.obs m a _ ha ho'
    refine ⟨a, xs, i, j, rfl, dp_int (asD_wr S3 w3 ei), q1, by rw [q2.1]; exact hj, ?_⟩
    obtain ⟨S4, l4⟩ := S3.mut (o' := .lst (ds.set j dv)) (u := .lst (xs.set j v)) ha ho' rfl rfl ⟨_, upd_same, q2.set (asD_wr S3 ((l2.trans l3).wr w1) ev) j⟩
    exact n as3 _ σ _ h7 S4 (((l1.trans l2).trans l3).trans l4)
  · exact h5.elim⟩
end
section
variable {X : Cx} {E : XK} {a b c : Expr} {ta tb tc : TE} {pa pb pc : PTE} {pos p2 : Pos}
theorem sd_setL (ho : PD X E a ta pa) (hi : PD X E b tb pb) (hv : PD X E c tc pc)
    (hg : PE X a ta → PE X b tb → PG X (.Subscript a b p2) (gSub ta tb rSetL) := by exact fun h1 h2 => pg_sub h1 h2 set_list)
    (hs : swapsWithSole [.Subscript a b p2] c pos.line X.env = pure false := by rfl) (hw : swappedStores [.Subscript a b p2] c X.env = pure none := by rfl) (h1 : (assignEach [.Subscript a b p2] X.env).map (·.2) = [assign (.Subscript a b p2) X.env] := by rfl) :
    SD X E (.Assign [.Subscript a b p2] c pos) (tAsg tc (gSub ta tb rSetL)) (pSetL pa pb pc) := ⟨ps_asg hv.a (hg ho.a hi.a) hs hw h1, snd_setL ho.b hi.b hv.b⟩
end
end PL

/-! Truth of lists, all, any, sorted, index, insert, setdefault, lists of lists. -/
namespace PL
open PySem PySem.Spec PyProof.Rows L2

/-! ### truth -/
def truD : D → Option Bool
  | .none => some false
  | .bool b => some b
  | .int i => some (i != 0)
  | .list ds => some (!ds.isEmpty)
  | .tuple ds => some (!ds.isEmpty)
  | _ => none
def pTru (p : PTE) : PTT := fun X e Q => p X e fun w e1 => kV' e1 w fun d => ∃ b, truD d = some b ∧ Q b e1
section
variable {K : PySem.W.Frag} {E : XK} {te : TE} {p : PTE}
theorem isE {R : V → D → Prop} {xs : List V} {ds : List D} (h : Al R xs ds) : xs.isEmpty = ds.isEmpty := by
  cases xs <;> cases ds <;> first | rfl | (have := h.1; simp at this)
theorem snd_tru (h : SndE K E te p) : SndT K E (fun σ H Q => te σ H fun x H' => ∃ k, TruV K x H' k ∧ Q k H') (pTru p) := ⟨fun H0 iv as e σ H X Q R S hq k l => by
  refine h.run H0 iv as e σ H X _ _ S hq (fun v w as1 e1 H1 h1 S1 l1 w1 => ?_) l
  obtain ⟨d, ed, b, hb, h2⟩ := kV_elim h1
  have rv := vwD_wr S1 w1 ed
  refine ⟨b, ?_, k b as1 e1 H1 h2 S1 l1⟩
  cases d with
  | none => rw [rv_none rv]; cases hb; rfl
  | bool c => rw [rv_bool rv]; cases hb; rfl
  | int i => rw [rv_int rv]; cases hb; rfl
  | list ds =>
    obtain ⟨a, xs, rfl, hs, al⟩ := rv_list hid_sub rv
    cases hb
    exact .inl ⟨xs, hs, by rw [isE al]⟩
  | tuple ds =>
    obtain ⟨a, xs, rfl, hs, al⟩ := rv_tuple hid_sub rv
    cases hb
    exact .inr (.inl ⟨xs, hs, by rw [isE al]⟩)
  | str x => cases hb
  | dict x => cases hb⟩
end
theorem td_tru {K : PySem.W.Frag} {X : Cx} {E : XK} {a : Expr} {ta : TE} {pa : PTE} (h : PD X E a ta pa) (he : ∀ whole, isTrue a X.env whole = (do let v ← whole; standAt a.pos; holding [v] (truthy v)) := by intro _; rfl) (hK : X.K = K := by rfl) :
    TD X E a (fun σ H Q => ta σ H fun x H' => ∃ k, TruV K x H' k ∧ Q k H') (pTru pa) := by
  subst hK
  exact ⟨pt_truth h.a he, snd_tru h.b⟩
/-! ### all, any, sorted, max of a list -/
def bAll : List D → (D → Prop) → Prop := fun ds k => match ds with
  | [.list xs] => ∃ bs : List Bool, xs = bs.map .bool ∧ k (.bool (bs.all id))
  | _ => False
def bAny : List D → (D → Prop) → Prop := fun ds k => match ds with
  | [.list xs] => ∃ bs : List Bool, xs = bs.map .bool ∧ k (.bool (bs.any id))
  | _ => False
def bSorted : List D → (D → Prop) → Prop := fun ds k => match ds with
  | [.list xs] => ∃ ns : List Int, xs = ns.map .int ∧ ns.length < 64 ∧ ∀ ms : List Int, ms.Perm ns → ms.Pairwise (· ≤ ·) → k (.list (ms.map .int))
  | _ => False
def bMaxL : List D → (D → Prop) → Prop := fun ds k => match ds with
  | [.list xs] => ∃ ns : List Int, xs = ns.map .int ∧ 0 < ns.length ∧ ∀ m, m ∈ ns → (∀ y, y ∈ ns → y ≤ m) → k (.int m)
  | _ => False
section
variable {K : PySem.W.Frag}
theorem al_bools {G : Hp} {xs : List V} {bs : List Bool} (h : Al (Dp K G) xs (bs.map .bool)) : xs = bs.map V.bl := by
  induction bs generalizing xs with
  | nil => exact h.nil_inv
  | cons b bs ih =>
    obtain ⟨x, r, rfl, h1, h2⟩ := h.cons_inv
    rw [dp_bool h1, ih h2]; rfl
theorem al_intsL {G : Hp} {xs : List V} {ns : List Int} (h : Al (Dp K G) xs (ns.map .int)) : xs = ns.map V.int := by
  induction ns generalizing xs with
  | nil => exact h.nil_inv
  | cons b bs ih =>
    obtain ⟨x, r, rfl, h1, h2⟩ := h.cons_inv
    rw [dp_int h1, ih h2]; rfl
theorem al_of_ints {G : Hp} (ns : List Int) : Al (Dp K G) (ns.map V.int) (ns.map .int) := by
  induction ns with
  | nil => exact Al.nil
  | cons n ns ih => exact Al.cons (Dp.int n) ih
theorem ra_all : RA K (rAll K) bAll := fun G H vs ds k R s h hk hR => by
  unfold bAll at hk
  split at hk
  · obtain ⟨bs, rfl, hk⟩ := hk
    obtain ⟨v, rfl, r⟩ := al1 h
    obtain ⟨a, xs, rfl, hs, al⟩ := rv_list s r
    rw [al_bools al] at hs
    exact ⟨a, bs, rfl, hs, hR _ _ H hk (Sub.refl _) fun _ _ _ => Dp.bl _⟩
  · exact hk.elim
theorem ra_any : RA K (rAny K) bAny := fun G H vs ds k R s h hk hR => by
  unfold bAny at hk
  split at hk
  · obtain ⟨bs, rfl, hk⟩ := hk
    obtain ⟨v, rfl, r⟩ := al1 h
    obtain ⟨a, xs, rfl, hs, al⟩ := rv_list s r
    rw [al_bools al] at hs
    exact ⟨a, bs, rfl, hs, hR _ _ H hk (Sub.refl _) fun _ _ _ => Dp.bl _⟩
  · exact hk.elim
theorem ra_sorted : RA K (rSorted K) bSorted := fun G H vs ds k R s h hk hR => by
  unfold bSorted at hk
  split at hk
  · obtain ⟨ns, rfl, hl, hk⟩ := hk
    obtain ⟨v, rfl, r⟩ := al1 h
    obtain ⟨a, xs, rfl, hs, al⟩ := rv_list s r
    rw [al_intsL al] at hs
    exact ⟨a, ns, rfl, hs, hl, fun ms p hp hw hn => hR _ _ _ (hk ms hp hw) (Sub.new hn) fun G' g nw => Dp.lst (.inl (.inl (nw p _ hn upd_same))) (dpAll_al.mpr (al_of_ints ms))⟩
  · exact hk.elim
theorem ra_maxL : RA K (rMax K) bMaxL := fun G H vs ds k R s h hk hR => by
  unfold bMaxL at hk
  split at hk
  · obtain ⟨ns, rfl, hl, hk⟩ := hk
    obtain ⟨v, rfl, r⟩ := al1 h
    obtain ⟨a, xs, rfl, hs, al⟩ := rv_list s r
    rw [al_intsL al] at hs
    exact ⟨a, ns, rfl, hs, hl, fun m hm hy => hR _ _ H (hk m hm hy) (Sub.refl _) fun _ _ _ => Dp.int _⟩
  · exact hk.elim
end
section
variable {X : Cx} {E : XK} {a b c f : Expr} {ta tb tc te : TE} {pa pb pc p : PTE} {pos p2 apos cpos : Pos} {es : List Expr} {tr : TA} {pr : PTA} {x : Str}
theorem pd_allL {K : PySem.W.Frag} (hc : X.calm = true) (hg : Gl X "all") (hm : X.mg "all" = none) (ha : AD X E (a :: es) tr pr) (he : starEach (a :: es) X.env = (false, eval a X.env) :: starEach es X.env := by rfl) (hpl : (backTo pos (starEach es X.env)).any (·.1) = false := by rfl) (hK : X.K = K := by rfl) :
    PD X E (.Call (.Name "all" p2) (a :: es) [] pos) (tCB (rAll K) tr) (pApp bAll pr) := by
  subst hK
  exact pd_cb (cr_all hc) ra_all hg hm (by decide +kernel) ha (by decide) (by decide) he hpl
theorem pd_anyL {K : PySem.W.Frag} (hc : X.calm = true) (hg : Gl X "any") (hm : X.mg "any" = none) (ha : AD X E (a :: es) tr pr) (he : starEach (a :: es) X.env = (false, eval a X.env) :: starEach es X.env := by rfl) (hpl : (backTo pos (starEach es X.env)).any (·.1) = false := by rfl) (hK : X.K = K := by rfl) :
    PD X E (.Call (.Name "any" p2) (a :: es) [] pos) (tCB (rAny K) tr) (pApp bAny pr) := by
  subst hK
  exact pd_cb (cr_any hc) ra_any hg hm (by decide +kernel) ha (by decide) (by decide) he hpl
theorem pd_sortedL {K : PySem.W.Frag} (hc : X.calm = true) (hg : Gl X "sorted") (hm : X.mg "sorted" = none) (ha : AD X E (a :: es) tr pr) (he : starEach (a :: es) X.env = (false, eval a X.env) :: starEach es X.env := by rfl) (hpl : (backTo pos (starEach es X.env)).any (·.1) = false := by rfl) (hK : X.K = K := by rfl) :
    PD X E (.Call (.Name "sorted" p2) (a :: es) [] pos) (tCB (rSorted K) tr) (pApp bSorted pr) := by
  subst hK
  exact pd_cb cr_sorted ra_sorted hg hm (by decide +kernel) ha (by decide) (by decide) he hpl
theorem pd_maxL {K : PySem.W.Frag} (hc : X.calm = true) (hg : Gl X "max") (hm : X.mg "max" = none) (ha : AD X E (a :: es) tr pr) (he : starEach (a :: es) X.env = (false, eval a X.env) :: starEach es X.env := by rfl) (hpl : (backTo pos (starEach es X.env)).any (·.1) = false := by rfl) (hK : X.K = K := by rfl) :
    PD X E (.Call (.Name "max" p2) (a :: es) [] pos) (tCB (rMax K) tr) (pApp bMaxL pr) := by
  subst hK
  exact pd_cb (cr_max hc) ra_maxL hg hm (by decide +kernel) ha (by decide) (by decide) he hpl
end
/-! ### list(..) as an object of the def's own -/
def pListO (pr : PTA) : PTE := fun X e Q => pr X e fun ws e1 => kVs e1 ws fun ds => match ds with
  | [.list xs] => Q (.ref e1.ob.length) ⟨e1.sl, e1.ob ++ [.lst xs]⟩
  | [.tuple xs] => Q (.ref e1.ob.length) ⟨e1.sl, e1.ob ++ [.lst xs]⟩
  | _ => False
section
variable {K : PySem.W.Frag} {E : XK} {tr : TA} {pr : PTA}
theorem snd_listO (ha : SndA K E tr pr) : SndE K E (tCB (cListR K) tr) (pListO pr) := ⟨fun H0 iv as e σ H X Q R S h k l => by
  refine ha.run H0 iv as e σ H X _ _ S h (fun vs ws as1 e1 H1 h1 S1 l1 w1 => ?_) l
  obtain ⟨ds, ed, h2⟩ := kVs_elim h1
  have al := vwDs_wr S1 w1 ed
  split at h2
  · rename_i ys
    obtain ⟨v, rfl, r⟩ := al1 al
    obtain ⟨a, xs, rfl, hs, al⟩ := rv_list hid_sub r
    refine ⟨a, xs, rfl, .inl hs, fun q hq => ?_⟩
    obtain ⟨S2, l2⟩ := S1.newO (o := .lst ys) (u := .lst xs) hq rfl ⟨xs, upd_same, al⟩
    exact k _ _ _ _ _ h2 S2 (l1.trans l2) ⟨q, by rw [← S1.len]; simp, rfl⟩
  · rename_i ys
    obtain ⟨v, rfl, r⟩ := al1 al
    obtain ⟨a, xs, rfl, hs, al⟩ := rv_tuple hid_sub r
    refine ⟨a, xs, rfl, .inr hs, fun q hq => ?_⟩
    obtain ⟨S2, l2⟩ := S1.newO (o := .lst ys) (u := .lst xs) hq rfl ⟨xs, upd_same, al⟩
    exact k _ _ _ _ _ h2 S2 (l1.trans l2) ⟨q, by rw [← S1.len]; simp, rfl⟩
  · exact h2.elim⟩
end
theorem pd_listO {K : PySem.W.Frag} {X : Cx} {E : XK} {a : Expr} {es : List Expr} {tr : TA} {pr : PTA} {pos p2 : Pos} (hg : Gl X "list") (hm : X.mg "list" = none) (ha : AD X E (a :: es) tr pr) (he : starEach (a :: es) X.env = (false, eval a X.env) :: starEach es X.env := by rfl) (hpl : (backTo pos (starEach es X.env)).any (·.1) = false := by rfl) (hK : X.K = K := by rfl) :
    PD X E (.Call (.Name "list" p2) (a :: es) [] pos) (tCB (cListR K) tr) (pListO pr) := by
  subst hK
  exact ⟨pe_callTy call_list_of hg hm (by decide +kernel) ha.a (by decide) (by decide) he hpl, snd_listO ha.b⟩
/-! ### the box, made by a call -/
theorem pd_mkBox {K : PySem.W.Frag} {X : Cx} {E : XK} {a : Expr} {es : List Expr} {tr : TA} {pr : PTA} {pos p2 : Pos} {x : Str} {CX : CXT} {k : Nat} {fa : Addr} {fd : FuncData} {N : List Str} (F : FnOk X.prog X.w K X.mg X.base CX k fa fd N (spBox K)) (hr : Room k X.A) (hg : Gl X x) (hm : X.mg x = some (.ref fa)) (hk : PySem.W.keepIn K (.ref fa) = true) (hb : Binds K fd N []) (hx : Passes CX X E)
    (ha : AD X E (a :: es) tr pr) (hdb : (x == ("__debug__" : Str)) = false := by decide) (he : starEach (a :: es) X.env = (false, eval a X.env) :: starEach es X.env := by rfl) (hpl : (backTo pos (starEach es X.env)).any (·.1) = false := by rfl) (hK : X.K = K := by rfl) :
    PD X E (.Call (.Name x p2) (a :: es) [] pos) (tCall (spBox K) [] E tr) (pMkBox pr) := by
  subst hK
  exact ⟨pe_call F hr hg hm hk hb .nil hx ha.a hdb he hpl, snd_mkBox ha.b⟩
end PL

/-! Lists of lists that a def changes. -/
namespace PL
open PySem PySem.Spec PyProof.Rows L2

/-- the numbers of k objects from n on -/
def idx (n k : Nat) : List Nat := (List.range k).map (n + ·)
theorem idx_snoc {n k : Nat} : idx n (k + 1) = idx n k ++ [n + k] := by simp [idx, List.range_succ]
/-- [te for g in p]: each element a new list of the def's own; the list of them too -/
def pLcN (vs : List Nat) (p : PTI) (g : PTG) (te : PTE) : PTE := fun X e Q => p X e fun ds e1 => ds.length ≤ 100000 ∧ ∃ I : Nat → List (List D) → Prop, I 0 [] ∧
  (∀ i d acc, ds[i]? = some d → I i acc → g (.dat d) ⟨wipeE e1.sl vs, e1.ob ++ acc.map .lst⟩ fun e2 => te noX e2 fun w e4 => match w with
    | .ref n => n = e1.ob.length + acc.length ∧ ∃ r, e4.ob = e1.ob ++ (acc ++ [r]).map .lst ∧ I (i + 1) (acc ++ [r])
    | .dat _ => False) ∧
  ∀ acc, I ds.length acc → Q (.ref (e1.ob.length + acc.length)) ⟨e1.sl, e1.ob ++ acc.map .lst ++ [.nst (idx e1.ob.length acc.length)]⟩
section
variable {K : PySem.W.Frag} {E : XK} {te : TE} {p : PTE} {wi : TI} {pi : PTI} {g : TG} {pg : PTG} {vs : List Nat}
theorem snd_lcN {E0' : XK} (hi : SndI K E wi pi) (hg : SndG K vs g pg) (he : SndE K E0' te p) : SndE K E (tLc wi g tYes te vs) (pLcN vs pi pg p) := ⟨fun H0 iv as e σ H X Q R S h k l => by
  refine hi.run H0 iv as e σ H X _ _ S h (fun J ds Z as1 e1 H1 h1 S1 l1 fd z1 => ?_) l
  obtain ⟨hz, I, i0, hs, hd⟩ := h1
  intro Dl hD
  have h0D : H0 Dl = none := S1.h0 hD
  have hnD := (S1.fresh hD).1
  have s0 : Sub (hid iv as1 e1.ob H1) (hid (ivp iv Dl) as1 e1.ob (upd H1 Dl (.lst []))) := hid_ivp_new hD
  have hne : ∀ b, iv b → b ≠ Dl := fun b hb z => by
    subst z
    obtain ⟨o, q⟩ := S1.ivs _ hb
    rw [hD] at q; cases q
  let ob' : List (List D) → List Ob := fun acc => e1.ob ++ acc.map .lst
  let St : Nat → Hp → Prop := fun i H' => ∃ acc as' xs, I i acc ∧ acc.length ≤ i ∧ SR K H0 (ivp iv Dl) as' ⟨e1.sl, ob' acc⟩ σ H' ∧ (∃ t, as' = as1 ++ t) ∧ Sub (hid iv as1 e1.ob H1) (hid (ivp iv Dl) as' (ob' acc) H') ∧ (∀ b, iv b → H' b = H1 b) ∧ H' Dl = some (.lst xs) ∧
    Al (fun v j => WR K (hid (ivp iv Dl) as' (ob' acc) H') as' v (.ref j)) xs (idx e1.ob.length acc.length)
  refine ⟨fun i m H' => m = ds.length - i ∧ i ≤ ds.length ∧ St i H', ⟨ds.length, by simp, Nat.zero_le _, [], as1, [], i0, Nat.zero_le _, ?_, ⟨[], by simp⟩, ?_, fun b hb => upd_ne (hne b hb), upd_same, Al.nil⟩, ?_⟩
  · have e : ob' [] = e1.ob := by simp [ob']
    rw [e]; exact S1.hide hD
  · have e : ob' [] = e1.ob := by simp [ob']
    rw [e]; exact s0
  rintro i m H2 ⟨rfl, hle, acc, as2, xs, hI, hla, S2, ht2, s2, hv2, hx, al⟩
  obtain ⟨f1, f2⟩ := fd.2 i _ H2 (fd.1 _ _ z1 s2) hid_sub
  by_cases hlt : i < ds.length
  · obtain ⟨go, yl⟩ := f1 ds[i] (List.getElem?_eq_getElem hlt)
    refine .inr ⟨go, St (i + 1), fun H' z => ⟨ds.length - (i + 1), by omega, rfl, hlt, z⟩, fun y H3 hy => ?_⟩
    obtain ⟨g3, dp3⟩ := yl y H3 hy
    obtain ⟨S3, l3⟩ := SR.grow (e := ⟨e1.sl, ob' acc⟩) S2 g3
    have w3 : WR K (hid (ivp iv Dl) as2 (ob' acc) H3) as2 y (.dat ds[i]) := dp3 _ l3.2.1 fun b o n1 n2 => SR.seen (e := ⟨e1.sl, ob' acc⟩) S2 n1 n2
    have hx3 : H3 Dl = some (.lst xs) := g3 _ _ hx
    have T := hs i ds[i] acc (List.getElem?_eq_getElem hlt) hI
    refine hg.run H0 (ivp iv Dl) as2 ⟨wipeE e1.sl vs, ob' acc⟩ (wipe σ vs) H3 y _ _ _ (SR.wipe (e := ⟨e1.sl, ob' acc⟩) S3 vs) w3 T fun e4 σ4 h4 S4 eo hlen hout => ?_
    refine ⟨(wipe_eq hlen hout).trans (wipe_eq (wipe_length σ vs) fun i hi => by rw [wipe_at, if_neg (fun z => hi z.1)]), ?_⟩
    show (if true = true then te σ4 H3 fun y H4 => ∃ acc, H4 Dl = some (HO.lst acc) ∧ acc.length < sizeLine ∧ St (i + 1) (upd H4 Dl (HO.lst (acc ++ [y]))) else St (i + 1) H3)
    rw [if_pos rfl]
    have l4 : Ltr (ivp iv Dl) as2 (ob' acc) H3 as2 e4.ob H3 := by rw [eo]; exact Ltr.refl
    refine he.run H0 (ivp iv Dl) as2 e4 σ4 H3 noX _ _ S4 h4 (fun v w as6 e6 H6 h6 S6 l6 w6 => ?_) (fun x cls d as' e' H' z => z.elim)
    split at h6
    · rename_i n
      obtain ⟨rfl, r, eo6, hI6⟩ := h6
      have l36 := l4.trans l6
      have hx6 : H6 Dl = some (.lst xs) := by
        rw [l36.2.2 Dl (.inr rfl)]; exact hx3
      refine ⟨xs, hx6, ?_, acc ++ [r], as6, xs ++ [v], hI6, by simp; omega, ?_⟩
      · have : xs.length = acc.length := by rw [al.1]; simp [idx]
        rw [this]; exact Nat.lt_of_le_of_lt (Nat.le_trans hla (by omega : i ≤ 100000)) (by decide)
      have SB : SR K H0 (ivp iv Dl) as6 ⟨e1.sl, ob' (acc ++ [r])⟩ σ H6 := by
        have q := S3.back S6 l36
        rw [eo6] at q; exact q
      obtain ⟨SP, eP⟩ := SB.poke (p := Dl) (u := .lst (xs ++ [v])) (.inr rfl) h0D
      have s6 : Sub (hid iv as1 e1.ob H1) (hid (ivp iv Dl) as6 (ob' (acc ++ [r])) H6) := by
        have q := (s2.trans l3.2.1).trans l36.2.1
        rw [eo6] at q; exact q
      refine ⟨SP, ?_, ?_, fun b hb => ?_, upd_same, ?_⟩
      · obtain ⟨t, rfl⟩ := ht2
        obtain ⟨t2, rfl⟩ := l36.1
        exact ⟨t ++ t2, by simp⟩
      · simp only [] at eP; rw [eP]; exact s6
      · rw [upd_ne (hne b hb), l36.2.2 b (.inl hb), l3.2.2 b (.inl hb), hv2 b hb]
      · simp only [] at eP
        rw [eP, show (acc ++ [r]).length = acc.length + 1 by simp, idx_snoc]
        refine Al.app ?_ ?_
        · refine al.mono fun a b q => ?_
          have q2 := l36.wr (l3.wr q)
          rw [eo6] at q2; exact q2
        · rw [eo6] at w6; exact w6
    · exact h6.elim
  · have hi : i = ds.length := by omega
    subst hi
    refine .inl ⟨f2 (Nat.le_refl _), ?_⟩
    obtain ⟨t, rfl⟩ := ht2
    obtain ⟨SS, lS⟩ := S2.own (iv := iv) (o := .nst (idx e1.ob.length acc.length)) (h0 := h0D) (hn := hnD) rfl ⟨xs, hx, al⟩
    have hlen : (as1 ++ t).length = e1.ob.length + acc.length := by
      have q := S2.len
      simp [ob'] at q
      simp; omega
    refine k _ _ _ _ H2 (hd acc hI) SS (l1.trans ⟨⟨t ++ [Dl], by simp⟩, s2.trans lS, hv2⟩) ⟨Dl, ?_, rfl⟩
    rw [← hlen]; simp⟩
/-! ### an item of a list of lists -/
def pIxN (pa pb : PTE) : PTE := fun X e Q => pa X e fun w e1 => pb X e1 fun y e2 => kD e2 y fun d => match d with
  | .int i => ∃ n ks, w = .ref n ∧ e2.ob[n]? = some (.nst ks) ∧ ∃ k, atI ks i = some k ∧ Q (.ref k) e2
  | _ => False
theorem atI_alN {R : V → Nat → Prop} {xs : List V} {ks : List Nat} {i : Int} {k : Nat} (al : Al R xs ks) (h : atI ks i = some k) : ∃ x, atI xs i = some x ∧ R x k := by
  unfold atI at h ⊢
  rw [al.1]
  cases hx : ixN ks.length i with
  | none => rw [hx] at h; cases h
  | some j =>
    rw [hx] at h
    obtain ⟨x, q1, q2⟩ := al.get (show ks[j]? = some k from h)
    exact ⟨x, q1, q2⟩
theorem snd_ixN {ta tb : TE} {pa pb : PTE} (ha : SndE K E ta pa) (hb : SndE K E tb pb) : SndE K E (tOp (rIxL K) ta tb) (pIxN pa pb) := ⟨fun H0 iv as e σ H X Q R S h k l => by
  refine ha.run H0 iv as e σ H X _ _ S h (fun x wx as1 e1 H1 h1 S1 l1 w1 => ?_) l
  refine hb.run H0 iv as1 e1 σ H1 X _ _ S1 h1 (fun y wy as2 e2 H2 h2 S2 l2 w2 => ?_) (l.on l1)
  obtain ⟨d, ed, h3⟩ := kD_elim h2
  split at h3
  · rename_i i
    obtain ⟨n, ks, rfl, ho, j, hj, h5⟩ := h3
    obtain ⟨a, ha2, rfl⟩ := l2.wr w1
    obtain ⟨xs, q1, q2⟩ := S2.obs n a _ ha2 ho
    obtain ⟨v, q3, q4⟩ := atI_alN q2 hj
    exact ⟨a, xs, i, v, rfl, dp_int (asD_wr S2 w2 ed), .inl (.inl q1), q3, k v (.ref j) as2 e2 H2 h5 S2 (l1.trans l2) q4⟩
  · exact h3.elim⟩
end
section
variable {X : Cx} {E : XK} {a b : Expr} {ta tb te : TE} {pa pb p : PTE} {pos : Pos} {wi : TI} {pi : PTI} {tg iter : Expr} {g : TG} {pg : PTG} {vs : List Nat}
theorem pd_ixN {K : PySem.W.Frag} (ha : PD X E a ta pa) (hb : PD X E b tb pb) (hs : PlainIx b := by exact fun _ _ => rfl) (hK : X.K = K := by rfl) : PD X E (.Subscript a b pos) (tOp (rIxL K) ta tb) (pIxN pa pb) := by
  subst hK
  exact ⟨pe_ix ix_list ha.a hb.a hs, snd_ixN ha.b hb.b⟩
theorem pd_lcN {elt : Expr} {scope : Scope} {own : List (Str × Nat)} (hc : X.calm = true) (hN : X.N.Nodup) (hi : ID X E tg iter wi pi) (ok : BlkOk X.N X.env.scope scope own)
    (hg : ∀ (s : Shared) (H : Hp) (C : Addr) (cl : List (Str × Addr)) (fp : List Addr), GD (X.blk s H scope (compEnvC scope cl C X.env) fp) vs tg g pg)
    (he : ∀ (s : Shared) (H : Hp) (C : Addr) (cl : List (Str × Addr)) (fp : List Addr), PD (X.blk s H scope (compEnvC scope cl C X.env) fp) E0 elt te p) (hv : ∀ i ∈ vs, i ∈ own.map (·.2) := by decide) (hs : ∀ x, foldedSetIterable iter X.env x = pure x := by intro _; rfl) :
    PD X E (.ListComp elt [⟨tg, iter, [], 0⟩] scope pos) (tLc wi g tYes te (own.map (·.2))) (pLcN (own.map (·.2)) pi pg p) :=
  ⟨pe_lc hc hN hi.a ok (fun s H C cl fp => (hg s H C cl fp).a) (fun _ _ _ _ _ => pts_nil) (fun s H C cl fp => (he s H C cl fp).a) hs,
   snd_lcN hi.b ((hg X.s_0 X.H_0 0 [] []).b.wide hv) (he X.s_0 X.H_0 0 [] []).b⟩
theorem sd_lcN {i : Nat} {y : Str} {py spos : Pos} {elt : Expr} {scope : Scope} {own : List (Str × Nat)} (hc : X.calm = true) (hN : X.N.Nodup) (hy : X.N[i]? = some y) (hyl : X.env.scope.names.lookup y = some .local)
    (hsw : swapsWith (.ListComp elt [⟨tg, iter, [], 0⟩] scope pos) (some (.Name y py)) spos.line X.env = pure true) (hi : ID X E tg iter wi pi) (ok : BlkOk X.N X.env.scope scope own)
    (hg : ∀ (s : Shared) (H : Hp) (C : Addr) (cl : List (Str × Addr)) (fp : List Addr), GD (X.blk s H scope (compEnvC scope cl C X.env) fp) vs tg g pg)
    (he : ∀ (s : Shared) (H : Hp) (C : Addr) (cl : List (Str × Addr)) (fp : List Addr), PD (X.blk s H scope (compEnvC scope cl C X.env) fp) E0 elt te p) (hv : ∀ i ∈ vs, i ∈ own.map (·.2) := by decide) (hs : ∀ x, foldedSetIterable iter X.env x = pure x := by intro _; rfl) :
    SD X E (.Assign [.Name y py] (.ListComp elt [⟨tg, iter, [], 0⟩] scope pos) spos) (tAsg (tLc wi g tYes te (own.map (·.2))) (gName i)) (pAsg (pLcN (own.map (·.2)) pi pg p) (pName i)) :=
  ⟨ps_setLc hc hN hy hyl hsw hi.a ok (fun s H C cl fp => (hg s H C cl fp).a) (fun _ _ _ _ _ => pts_nil) (fun s H C cl fp => (he s H C cl fp).a) hs,
   snd_asg (snd_lcN hi.b ((hg X.s_0 X.H_0 0 [] []).b.wide hv) (he X.s_0 X.H_0 0 [] []).b) sg_name⟩
end
/-! ### a list of lists that will not change any more -/
section
variable {K : PySem.W.Frag} {E : XK} {H0 H : Hp} {iv : Addr → Prop} {as : List Addr} {e : En} {σ : L2.St}
/-- the inner ones -/
def frzIn (ob : List Ob) : List Nat → List (List D) → List Ob
  | k :: ks, d :: ds => frzIn (ob.set k (.frz (.list d))) ks ds
  | _, _ => ob
theorem frzIn_len : ∀ (ks : List Nat) (ds : List (List D)) (ob : List Ob), (frzIn ob ks ds).length = ob.length
  | [], _, _ => by simp [frzIn]
  | k :: ks, [], _ => by simp [frzIn]
  | k :: ks, d :: ds, ob => by simp [frzIn, frzIn_len ks ds]
theorem frzIn_ne : ∀ (ks : List Nat) (ds : List (List D)) (ob : List Ob) (j : Nat), j ∉ ks → (frzIn ob ks ds)[j]? = ob[j]?
  | [], _, _, _, _ => by simp [frzIn]
  | k :: ks, [], _, _, _ => by simp [frzIn]
  | k :: ks, d :: ds, ob, j, h => by
    simp only [List.mem_cons, not_or] at h
    simp only [frzIn]
    rw [frzIn_ne ks ds _ j h.2, List.getElem?_set_ne (Ne.symm h.1)]
theorem SR.freezeIn : ∀ (ks : List Nat) (ds : List (List D)) (e : En), ks.Nodup → ks.length = ds.length → SR K H0 iv as e σ H → (∀ (i : Nat) k d, ks[i]? = some k → ds[i]? = some d → e.ob[k]? = some (.lst d)) →
    SR K H0 iv as ⟨e.sl, frzIn e.ob ks ds⟩ σ H ∧ Ltr iv as e.ob H as (frzIn e.ob ks ds) H ∧ ∀ (i : Nat) k d, ks[i]? = some k → ds[i]? = some d → (frzIn e.ob ks ds)[k]? = some (.frz (.list d))
  | [], ds, e, _, hl, S, _ => by
    have : ds = [] := List.eq_nil_of_length_eq_zero (by simpa using hl.symm)
    subst this
    exact ⟨S, Ltr.refl, fun i k d q => by simp at q⟩
  | k :: ks, [], e, _, hl, _, _ => by simp at hl
  | k :: ks, d :: ds, e, nd, hl, S, h => by
    have ho := h 0 k d rfl rfl
    obtain ⟨a, ha⟩ := S.ad ho
    obtain ⟨S1, l1⟩ := S.freeze ha ho
    have hnd := List.nodup_cons.mp nd
    have hkl : k < e.ob.length := (List.getElem?_eq_some_iff.mp ho).1
    obtain ⟨S2, l2, h2⟩ := SR.freezeIn ks ds _ hnd.2 (by simpa using hl) S1 fun i k' d' q1 q2 => by
      have hne : k' ≠ k := fun z => by subst z; exact hnd.1 (List.mem_of_getElem? q1)
      have q := h (i + 1) k' d' (by simpa using q1) (by simpa using q2)
      show (e.ob.set k _)[k']? = _
      rw [List.getElem?_set_ne (Ne.symm hne)]
      exact q
    refine ⟨S2, l1.trans l2, fun i k' d' q1 q2 => ?_⟩
    cases i with
    | zero =>
      simp at q1 q2
      subst q1 q2
      show (frzIn (e.ob.set k _) ks ds)[k]? = _
      rw [frzIn_ne ks ds _ k hnd.1, List.getElem?_set_self hkl]
    | succ i => exact h2 i k' d' (by simpa using q1) (by simpa using q2)
/-- all of it -/
def frzN (ob : List Ob) (n : Nat) (ks : List Nat) (ds : List (List D)) : List Ob := (frzIn ob ks ds).set n (.frz (.list (ds.map .list)))
theorem SR.freezeN {n : Nat} {ks : List Nat} {ds : List (List D)} (S : SR K H0 iv as e σ H) (nd : ks.Nodup) (hn : n ∉ ks) (hl : ks.length = ds.length) (ho : e.ob[n]? = some (.nst ks)) (h : ∀ (i : Nat) k d, ks[i]? = some k → ds[i]? = some d → e.ob[k]? = some (.lst d)) :
    SR K H0 iv as ⟨e.sl, frzN e.ob n ks ds⟩ σ H ∧ Ltr iv as e.ob H as (frzN e.ob n ks ds) H := by
  obtain ⟨S1, l1, h1⟩ := SR.freezeIn ks ds e nd hl S h
  have ho1 : (frzIn e.ob ks ds)[n]? = some (.nst ks) := by rw [frzIn_ne ks ds _ n hn]; exact ho
  obtain ⟨a, ha⟩ := S1.ad ho1
  -- the outer one holds data now
  have S2 : SR K H0 iv as ⟨e.sl, (frzIn e.ob ks ds).set n (.lst (ds.map .list))⟩ σ H := S1.redo (o' := .lst (ds.map .list)) ho1 rfl rfl fun b hb hob => by
    obtain ⟨xs, q1, q2⟩ := hob
    refine ⟨xs, q1, by rw [q2.1, hl]; simp, fun i v d r1 r2 => ?_⟩
    rw [List.getElem?_map] at r2
    cases hdi : ds[i]? with
    | none => rw [hdi] at r2; cases r2
    | some d0 =>
      rw [hdi] at r2
      cases r2
      have hi : i < ks.length := by rw [hl]; exact (List.getElem?_eq_some_iff.mp hdi).1
      obtain ⟨c, r3, rfl⟩ := q2.2 i v ks[i] r1 (List.getElem?_eq_getElem hi)
      exact S1.obs ks[i] c _ r3 (h1 i ks[i] d0 (List.getElem?_eq_getElem hi) hdi)
  have l2 : Ltr iv as (frzIn e.ob ks ds) H as ((frzIn e.ob ks ds).set n (.lst (ds.map .list))) H := ⟨⟨[], by simp⟩, by
    rw [hid_swap (e := ⟨[], frzIn e.ob ks ds⟩) ho1 (o' := .lst (ds.map .list)) rfl]
    exact Sub.refl _, fun _ _ => rfl⟩
  have hkl : n < (frzIn e.ob ks ds).length := (List.getElem?_eq_some_iff.mp ho1).1
  obtain ⟨S3, l3⟩ := S2.freeze ha (ds := ds.map .list) (by show ((frzIn e.ob ks ds).set n _)[n]? = _; rw [List.getElem?_set_self hkl])
  have e3 : ((frzIn e.ob ks ds).set n (.lst (ds.map .list))).set n (.frz (.list (ds.map .list))) = frzN e.ob n ks ds := List.set_set _
  simp only [] at S3 l3
  rw [e3] at S3 l3
  exact ⟨S3, (l1.trans l2).trans l3⟩
/-- a name whose list of lists will not change any more: its lists are said -/
def pFrzN (i : Nat) : PTE := fun _ e Q => (∃ d, e.sl[i]? = some (some (.dat d)) ∧ Q (.dat d) e) ∨
  ∃ n ks, e.sl[i]? = some (some (.ref n)) ∧ e.ob[n]? = some (.nst ks) ∧ ∃ ds : List (List D), ks.Nodup ∧ n ∉ ks ∧ ks.length = ds.length ∧ (∀ (i : Nat) k d, ks[i]? = some k → ds[i]? = some d → e.ob[k]? = some (.lst d)) ∧ Q (.dat (.list (ds.map .list))) ⟨e.sl, frzN e.ob n ks ds⟩
theorem snd_frzN {i : Nat} : SndE K E (tVar i) (pFrzN i) := ⟨fun H0 iv as e σ H X Q R S h k _ => by
  rcases h with ⟨d, hw, h⟩ | ⟨n, ks, hw, ho, ds, nd, hn, hl, hh, hq⟩
  · obtain ⟨v, h1, h2⟩ := S.sls i _ hw
    exact ⟨v, h1, k v _ as e H h S Ltr.refl h2⟩
  · obtain ⟨v, h1, a, h2, rfl⟩ := S.sls i _ hw
    obtain ⟨S', l⟩ := S.freezeN nd hn hl ho hh
    have hk : n < (frzIn e.ob ks ds).length := by rw [frzIn_len]; exact (List.getElem?_eq_some_iff.mp ho).1
    exact ⟨_, h1, k _ _ as _ H hq S' l (S'.obs n a (.frz (.list (ds.map .list))) h2 (by show ((frzIn e.ob ks ds).set n _)[n]? = _; rw [List.getElem?_set_self hk]))⟩⟩
/-! ### the objects of a list of lists, in a row -/
def obT (pre : List Ob) (T : List (List D)) : List Ob := pre ++ T.map .lst ++ [.nst (idx pre.length T.length)]
theorem idx_at {n k x : Nat} (h : x < k) : (idx n k)[x]? = some (n + x) := by
  unfold idx
  rw [List.getElem?_map, List.getElem?_range h]; rfl
theorem idx_nd {n k : Nat} : (idx n k).Nodup := by
  unfold idx
  exact List.pairwise_map.mpr (List.Pairwise.imp (fun h e => h (Nat.add_left_cancel e)) List.nodup_range)
theorem idx_len {n k : Nat} : (idx n k).length = k := by simp [idx]
theorem mem_idx {n k x : Nat} : x ∈ idx n k ↔ n ≤ x ∧ x < n + k := by
  unfold idx
  simp only [List.mem_map, List.mem_range]
  constructor
  · rintro ⟨a, h, rfl⟩; omega
  · rintro ⟨h1, h2⟩; exact ⟨x - n, by omega, by omega⟩
section
variable {pre : List Ob} {T : List (List D)} {x : Nat} {r : List D}
theorem obT_last : (obT pre T)[pre.length + T.length]? = some (.nst (idx pre.length T.length)) := by
  unfold obT
  rw [List.getElem?_append_right (by simp)]
  simp
theorem obT_row (h : T[x]? = some r) : (obT pre T)[pre.length + x]? = some (.lst r) := by
  have hx := (List.getElem?_eq_some_iff.mp h).1
  unfold obT
  rw [List.getElem?_append_left (by simp; omega), List.getElem?_append_right (by omega), Nat.add_sub_cancel_left, List.getElem?_map, h]; rfl
theorem obT_set (h : x < T.length) : (obT pre T).set (pre.length + x) (.lst r) = obT pre (T.set x r) := by
  unfold obT
  rw [List.set_append_left _ _ (by simp; omega), List.set_append_right _ _ (by omega), Nat.add_sub_cancel_left, List.map_set, List.length_set]
theorem frzIn_zero {ob : List Ob} {o : Ob} {n : Nat} {ks : List Nat} {ds : List (List D)} (h : ob[0]? = some o) (hk : 0 ∉ ks) (hn : n ≠ 0) : ∃ t, frzN ob n ks ds = o :: t := by
  have q : (frzN ob n ks ds)[0]? = some o := by
    unfold frzN
    rw [List.getElem?_set_ne hn, frzIn_ne ks ds ob 0 hk]; exact h
  cases hf : frzN ob n ks ds with
  | nil => rw [hf] at q; cases q
  | cons a t => rw [hf] at q; simp at q; subst q; exact ⟨t, rfl⟩
end
end
theorem pd_frzN {X : Cx} {E : XK} {x : Str} {pos : Pos} (i : Nat) (hN : X.N[i]? = some x := by rfl) (hv : Vis X.env.scope x := by first | exact .inl rfl | exact .inr (.inl rfl) | exact .inr (.inr rfl)) (hd : (x == ("__debug__" : Str)) = false := by decide)
    (hcd : (x == ("__classdict__" : Str)) = false := by decide) : PD X E (.Name x pos) (tVar i) (pFrzN i) := ⟨pe_var hN hv hd hcd, snd_frzN⟩
end PL

/-! A word between two statements; plain data of the program and of the laws. -/
namespace PL
open PySem PySem.Spec PyProof.Rows L2

/-- what follows is shown once, from a word -/
def pCut (p q : PTS) : PTS := fun P e => ∃ (vs : List Nat) (Mid : En → Prop), p { P with nx := fun e' => Mid (wp vs e') } e ∧ ∀ e', Mid e' → q P e'
theorem snd_cut {K : PySem.W.Frag} {E : XK} {ts us : TS} {ps qs : PTS} (h1 : SndS K E ts ps) (h2 : SndS K E us qs) : SndS K E (Evl.tCut ts us) (pCut ps qs) := ⟨fun H0 iv as e σ H P F S h n b c r x => by
  obtain ⟨vs, Mid, hp, hq⟩ := h
  refine ⟨fun σ' H' => ∃ as' e', Mid e' ∧ SR K H0 iv as' e' σ' H' ∧ Ltr iv as e.ob H as' e'.ob H', ?_, ?_⟩
  · exact h1.run H0 iv as e σ H { P with nx := fun e' => Mid (wp vs e') } { F with nx := _ } S hp (fun as1 e1 σ1 H1 k S1 l1 => ⟨as1, wp vs e1, k, S1.forg vs, l1⟩) b c r x
  · rintro σ1 H1 ⟨as1, e1, k, S1, l1⟩
    exact h2.run H0 iv as1 e1 σ1 H1 P F S1 (hq e1 k) (n.on l1) (b.on l1) (c.on l1) (r.on l1) (x.on l1)⟩
theorem bd_cut {X : Cx} {E : XK} {st : Stmt} {rest : List Stmt} {ts us : TS} {ps qs : PTS} (h : SD X E st ts ps) (h2 : BD X E rest us qs) : BD X E (st :: rest) (Evl.tCut ts us) (pCut ps qs) := ⟨Evl.pss_cut h.a h2.a, snd_cut h.b h2.b⟩

/-! ### plain data -/
def nD (n : Nat) : D := .int (n : Int)
def rowD (r : List Nat) : D := .tuple (r.map nD)
def tblD (T : List (List Nat)) : D := .tuple (T.map rowD)
def sgD (T : List (List Nat)) (L : List Nat) : D := .tuple [tblD T, rowD L]
def wdD (w : List Nat) : D := .list (w.map nD)
def lstI (ns : List Int) : D := .list (ns.map .int)
def vD : Option Nat → D
  | none => .none
  | some v => nD v
theorem at_nat {α : Type} {xs : List α} {j : Nat} {x : α} (h : xs[j]? = some x) : atI xs (j : Int) = some x := atI_nat h
theorem at_int {α : Type} {xs : List α} {i : Int} {x : α} (h0 : 0 ≤ i) (h : xs[i.toNat]? = some x) : atI xs i = some x := by
  have e : i = (i.toNat : Int) := by omega
  rw [e]
  exact at_nat h
theorem ixN_nat {n j : Nat} (h : j < n) : ixN n (j : Int) = some j := by
  unfold ixN
  rw [if_pos (by omega), if_pos (by omega)]; simp
theorem at_row {L : List Nat} {a : Nat} (h : a < L.length) : atI (L.map nD) (a : Int) = some (nD (L.getD a 0)) := at_nat (by
  rw [List.getElem?_map, List.getElem?_eq_getElem h, List.getD_eq_getElem?_getD, List.getElem?_eq_getElem h]
  rfl)
theorem at_tbl {T : List (List Nat)} {a : Nat} (h : a < T.length) : atI (T.map rowD) (a : Int) = some (rowD (T.getD a [])) := at_nat (by
  rw [List.getElem?_map, List.getElem?_eq_getElem h, List.getD_eq_getElem?_getD, List.getElem?_eq_getElem h]
  rfl)
theorem map_at {α β : Type} {f : α → β} {xs : List α} {i : Nat} {d : β} (h : (xs.map f)[i]? = some d) : ∃ a, xs[i]? = some a ∧ d = f a := by
  rw [List.getElem?_map] at h
  cases ha : xs[i]? with
  | none => rw [ha] at h; cases h
  | some a => rw [ha] at h; cases h; exact ⟨a, rfl, rfl⟩
theorem take_snoc {α : Type} {xs : List α} {i : Nat} {a : α} (h : xs[i]? = some a) : xs.take (i + 1) = xs.take i ++ [a] := by
  rw [List.take_add_one, h]; rfl
theorem map_snoc {α β : Type} {f : α → β} {xs : List α} {i : Nat} {a : α} (h : xs[i]? = some a) : (xs.take i).map f ++ [f a] = (xs.take (i + 1)).map f := by
  rw [take_snoc h, List.map_append]; rfl
theorem getD_mem {α : Type} {xs : List α} {i : Nat} {d : α} (h : i < xs.length) : xs.getD i d ∈ xs := by
  rw [List.getD_eq_getElem?_getD, List.getElem?_eq_getElem h]
  exact List.getElem_mem h
theorem getD_some {α : Type} {xs : List α} {i : Nat} {d x : α} (h : xs[i]? = some x) : xs.getD i d = x := by
  rw [List.getD_eq_getElem?_getD, h]; rfl
theorem some_getD {α : Type} {xs : List α} {i : Nat} {d : α} (h : i < xs.length) : xs[i]? = some (xs.getD i d) := by
  rw [List.getD_eq_getElem?_getD, List.getElem?_eq_getElem h]; rfl

/-! ### semigroups -/
structure Sg (T : List (List Nat)) (L : List Nat) : Prop where
  rows : ∀ r ∈ T, r.length = T.length
  vals : ∀ r ∈ T, ∀ v ∈ r, v < T.length
  lets : ∀ v ∈ L, v < T.length
def mulT (T : List (List Nat)) (a b : Nat) : Nat := (T.getD a []).getD b 0
/-- a table of n values -/
structure Tb (T : List (List Nat)) : Prop where
  rows : ∀ r ∈ T, r.length = T.length
  vals : ∀ r ∈ T, ∀ v ∈ r, v < T.length
def Assoc (T : List (List Nat)) : Prop := ∀ a b c, a < T.length → b < T.length → c < T.length → mulT T (mulT T a b) c = mulT T a (mulT T b c)
section
variable {T : List (List Nat)} {L : List Nat}
theorem Sg.tb (s : Sg T L) : Tb T := ⟨s.rows, s.vals⟩
theorem Tb.row (s : Tb T) {a : Nat} (h : a < T.length) : (T.getD a []).length = T.length := s.rows _ (getD_mem h)
theorem Tb.mul (s : Tb T) {a b : Nat} (h : a < T.length) (h2 : b < T.length) : mulT T a b < T.length := s.vals _ (getD_mem h) _ (getD_mem (by rw [s.row h]; exact h2))
theorem Sg.row (s : Sg T L) {a : Nat} (h : a < T.length) : (T.getD a []).length = T.length := s.tb.row h
theorem Sg.mul (s : Sg T L) {a b : Nat} (h : a < T.length) (h2 : b < T.length) : mulT T a b < T.length := s.tb.mul h h2
theorem Sg.let (s : Sg T L) {a : Nat} (h : a < L.length) : L.getD a 0 < T.length := s.lets _ (getD_mem h)
end
def vstep (T : List (List Nat)) (L : List Nat) (acc : Option Nat) (a : Nat) : Option Nat := some (match acc with
  | none => L.getD a 0
  | some v => mulT T v (L.getD a 0))
def valueOf (T : List (List Nat)) (L : List Nat) (w : List Nat) : Option Nat := w.foldl (vstep T L) none
theorem value_lt {T : List (List Nat)} {L : List Nat} (s : Sg T L) : ∀ {w : List Nat} {acc : Option Nat}, (∀ a ∈ w, a < L.length) → (∀ v, acc = some v → v < T.length) → ∀ v, w.foldl (vstep T L) acc = some v → v < T.length
  | [], acc, _, h0, v, e => h0 v e
  | a :: w, acc, h, h0, v, e => by
    refine value_lt s (fun b hb => h b (List.mem_cons_of_mem _ hb)) (fun u hu => ?_) v e
    have ha := s.let (h a (by simp))
    cases acc with
    | none => cases hu; exact ha
    | some c => cases hu; exact s.mul (h0 c rfl) ha
theorem valueOf_lt {T : List (List Nat)} {L w : List Nat} (s : Sg T L) (h : ∀ a ∈ w, a < L.length) {v : Nat} (e : valueOf T L w = some v) : v < T.length := value_lt s h (fun _ z => by cases z) v e
def s_value_of : Sc := fun ws ob X Q => ∃ T L w, Sg T L ∧ (∀ a ∈ w, a < L.length) ∧ ws = [.dat (sgD T L), .dat (wdD w)] ∧ ob = [] ∧ ∀ more, Q (vD (valueOf T L w)) more

/-! ### what the laws draw -/
def s__law_draws : Sc := fun ws ob X Q => ∃ c m n : Int, 0 < m ∧ m < 1073741824 ∧ 0 ≤ n ∧ n ≤ 100 ∧ ws = [.dat (.int c), .dat (.int m), .dat (.int n)] ∧ ob = [] ∧
  ∀ row : List Int, row.length = n.toNat → (∀ x ∈ row, 0 ≤ x ∧ x < m) → ∀ more, Q (lstI row) more
def s__law_next0 : Sc := fun ws ob X Q => ∃ (m : Int) (row : List Int) (n : Int), 0 < m ∧ RowOk row ∧ 0 ≤ n ∧ ws = [.ref 0, .dat (.int m)] ∧ ob = [boxD row n] ∧ ∀ r, 0 ≤ r → r < m → ∀ more, Q (.int r) (boxD row (n + 1) :: more)
def s__law_next : Sc := fun ws ob X Q => ∃ m : Int, 0 < m ∧ ws = [.ref 0, .dat (.int m)] ∧ ob = [.box] ∧ ∀ r : Nat, (r : Int) < m → ∀ more, Q (nD r) (.box :: more)
end PL

/-! What the laws draw: semigroups, words, sets. The law's own promise. -/
namespace PL
open PySem PySem.Spec PyProof.Rows L2

/-! ### the simple tables -/
def smp (kind size a b : Nat) : Nat :=
  if kind = 0 then (if b > a then b else a) else if kind = 1 then (a + b) % size else if kind = 2 then a else if kind = 3 then b else if kind = 4 then (if size - 1 < a + b + 1 then size - 1 else a + b + 1)
  else if kind = 5 then (a * b) % size else if kind = 6 ∧ a = b then a else 0
theorem smp_lt : ∀ size < 5, ∀ kind < 8, ∀ a < size, ∀ b < size, smp kind size a b < size := by decide +kernel
theorem smp_assoc : ∀ size < 5, ∀ kind < 8, ∀ a < size, ∀ b < size, ∀ c < size, smp kind size (smp kind size a b) c = smp kind size a (smp kind size b c) := by decide +kernel
def setT (T : List (List Nat)) (x y v : Nat) : List (List Nat) := T.set x ((T.getD x []).set y v)
theorem setT_len {T : List (List Nat)} {x y v : Nat} : (setT T x y v).length = T.length := by simp [setT]
theorem mulT_set {T : List (List Nat)} {x y v a b : Nat} (hx : x < T.length) (hy : y < (T.getD x []).length) : mulT (setT T x y v) a b = if a = x ∧ b = y then v else mulT T a b := by
  unfold mulT setT
  rw [List.getD_eq_getElem?_getD, List.getD_eq_getElem?_getD, List.getD_eq_getElem?_getD (l := T) (i := a)]
  by_cases ha : a = x
  · subst ha
    rw [List.getElem?_set_self hx]
    simp only [Option.getD_some]
    by_cases hb : b = y
    · subst hb
      rw [List.getElem?_set_self hy, if_pos (by simp)]; rfl
    · rw [List.getElem?_set_ne (Ne.symm hb), if_neg (fun z => hb z.2)]
      simp [List.getD_eq_getElem?_getD]
  · rw [List.getElem?_set_ne (Ne.symm ha), if_neg (fun z => ha z.1)]
    simp [List.getD_eq_getElem?_getD]
theorem setT_rows {T : List (List Nat)} {n x y v : Nat} (h : ∀ r ∈ T, r.length = n ∧ ∀ u ∈ r, u < n) (hx : x < T.length) (hv : v < n) : ∀ r ∈ setT T x y v, r.length = n ∧ ∀ u ∈ r, u < n := by
  intro r hr
  rcases List.mem_or_eq_of_mem_set hr with hr | rfl
  · exact h r hr
  · have q := h _ (getD_mem (d := []) hx)
    refine ⟨by rw [List.length_set]; exact q.1, fun u hu => ?_⟩
    rcases List.mem_or_eq_of_mem_set hu with hu | rfl
    · exact q.2 u hu
    · exact hv
/-- names of the values, put otherwise -/
structure Nm (n : Nat) (ns : List Nat) : Prop where
  perm : ns.Perm (List.range n)
theorem Nm.len {n : Nat} {ns : List Nat} (h : Nm n ns) : ns.length = n := by rw [h.perm.length_eq, List.length_range]
theorem Nm.lt {n : Nat} {ns : List Nat} (h : Nm n ns) {i : Nat} (hi : i < n) : ns.getD i 0 < n := by
  have q := getD_mem (d := 0) (show i < ns.length by rw [h.len]; exact hi)
  have := h.perm.mem_iff.mp q
  simpa using this
theorem Nm.onto {n : Nat} {ns : List Nat} (h : Nm n ns) {x : Nat} (hx : x < n) : ∃ i, i < n ∧ ns.getD i 0 = x := by
  have q := h.perm.mem_iff.mpr (show x ∈ List.range n by simpa using hx)
  obtain ⟨i, hi⟩ := List.mem_iff_getElem?.mp q
  exact ⟨i, by rw [← h.len]; exact (List.getElem?_eq_some_iff.mp hi).1, getD_some hi⟩
theorem Nm.inj {n : Nat} {ns : List Nat} (h : Nm n ns) {i j : Nat} (hi : i < n) (hj : j < n) (e : ns.getD i 0 = ns.getD j 0) : i = j := by
  have nd : ns.Nodup := h.perm.nodup_iff.mpr List.nodup_range
  refine (List.getElem?_inj (by rw [h.len]; exact hi) nd).mp ?_
  rw [some_getD (d := 0) (by rw [h.len]; exact hi), some_getD (d := 0) (by rw [h.len]; exact hj), e]
theorem Nm.swap {n : Nat} {ns : List Nat} (h : Nm n ns) {i j : Nat} (hi : i < n) (hj : j < n) : Nm n ((ns.set i (ns.getD j 0)).set j (ns.getD i 0)) := by
  have h1 : i < ns.length := by rw [h.len]; exact hi
  have h2 : j < ns.length := by rw [h.len]; exact hj
  have e1 : ns.getD i 0 = ns[i] := getD_some (List.getElem?_eq_getElem h1)
  have e2 : ns.getD j 0 = ns[j] := getD_some (List.getElem?_eq_getElem h2)
  rw [e1, e2]
  exact ⟨(List.set_set_perm h1 h2).trans h.perm⟩
theorem Nm.start (n : Nat) : Nm n (List.range n) := ⟨List.Perm.refl _⟩
/-- a table that a simple one is under other names -/
structure Simple (T : List (List Nat)) (kind : Nat) (ns : List Nat) : Prop where
  tb : Tb T
  at_ : ∀ a b, a < T.length → b < T.length → mulT T (ns.getD a 0) (ns.getD b 0) = ns.getD (smp kind T.length a b) 0
theorem Simple.assoc {T : List (List Nat)} {kind : Nat} {ns : List Nat} (h : Simple T kind ns) (hn : Nm T.length ns) (h5 : T.length < 5) (hk : kind < 8) : Assoc T := by
  intro x y z hx hy hz
  obtain ⟨a, ha, rfl⟩ := hn.onto hx
  obtain ⟨b, hb, rfl⟩ := hn.onto hy
  obtain ⟨c, hc, rfl⟩ := hn.onto hz
  rw [h.at_ a b ha hb, h.at_ b c hb hc, h.at_ _ c (smp_lt _ h5 _ hk _ ha _ hb) hc, h.at_ a _ ha (smp_lt _ h5 _ hk _ hb _ hc), smp_assoc _ h5 _ hk _ ha _ hb _ hc]

theorem q_int {Q : D → List Ob → Prop} {x : Int} {n : Nat} {more : List Ob} (hq : Q (nD n) more) (e : x = (n : Int)) : Q (.int x) more := by
  rw [e]; exact hq
theorem dT {p : Prop} [Decidable p] (h : decide p = true) : p := of_decide_eq_true h
theorem dF {p : Prop} [Decidable p] (h : decide p = false) : ¬ p := of_decide_eq_false h
theorem rbN {n : Nat} (h : n ≤ 1000000) : -(2 ^ 62) ≤ (n : Int) ∧ (n : Int) < 2 ^ 62 := by constructor <;> omega
theorem rbI {n : Int} (h0 : 0 ≤ n) (h : n ≤ 1000000) : -(2 ^ 62) ≤ n ∧ n < 2 ^ 62 := by constructor <;> omega
/-! ### promises -/
def s__law_simple : Sc := fun ws ob X Q => ∃ kind size a b : Nat, 1 ≤ size ∧ size ≤ 4 ∧ a < size ∧ b < size ∧ ws = [.dat (nD kind), .dat (nD size), .dat (nD a), .dat (nD b)] ∧ ob = [] ∧ ∀ more, Q (nD (smp kind size a b)) more
def tblL (T : List (List Nat)) : D := .list (T.map wdD)
theorem at_tblL {T : List (List Nat)} {a : Nat} (h : a < T.length) : atI (T.map wdD) (a : Int) = some (wdD (T.getD a [])) := at_nat (by
  rw [List.getElem?_map, some_getD (d := []) h]; rfl)
theorem nT {p : Prop} [Decidable p] (h : (!decide p) = true) : ¬ p := by simpa using h
theorem nF {p : Prop} [Decidable p] (h : (!decide p) = false) : p := by simpa using h
def s__law_associative : Sc := fun ws ob X Q => ∃ (T : List (List Nat)) (d : D), Tb T ∧ T.length ≤ 4 ∧ (d = tblD T ∨ d = tblL T) ∧ ws = [.dat d] ∧ ob = [] ∧ ∀ (b : Bool) more, (b = true ↔ Assoc T) → Q (.bool b) more
def s__law_table : Sc := fun ws ob X Q => ∃ size : Nat, 1 ≤ size ∧ size ≤ 4 ∧ ws = [.ref 0, .dat (nD size)] ∧ ob = [.box] ∧ ∀ T more, Tb T → Assoc T → T.length = size → Q (tblD T) (.box :: more)
def s__law_semigroup : Sc := fun ws ob X Q => ∃ most : Nat, 1 ≤ most ∧ most ≤ 4 ∧ ws = [.ref 0, .dat (nD most)] ∧ ob = [.box] ∧ ∀ T L more, Sg T L → Assoc T → 1 ≤ T.length → T.length ≤ most → 1 ≤ L.length → L.length ≤ 3 → Q (sgD T L) (.box :: more)
def s__law_word : Sc := fun ws ob X Q => ∃ l m : Nat, 1 ≤ l ∧ m ≤ 1000 ∧ ws = [.ref 0, .dat (nD l), .dat (nD m)] ∧ ob = [.box] ∧ ∀ w more, (∀ a ∈ w, a < l) → w.length ≤ m → Q (wdD w) (.box :: more)
def s__law_value : Sc := fun ws ob X Q => ∃ T L w, Sg T L ∧ (∀ a ∈ w, a < L.length) ∧ ws = [.dat (sgD T L), .dat (wdD w)] ∧ ob = [] ∧ ∀ more, Q (vD (valueOf T L w)) more
/-- a set of values: ascending, each once -/
structure VS (n : Nat) (S : List Nat) : Prop where
  lt : ∀ v ∈ S, v < n
  up : S.Pairwise (· < ·)
def s__law_subset : Sc := fun ws ob X Q => ∃ n : Nat, n ≤ 1000 ∧ ws = [.ref 0, .dat (nD n)] ∧ ob = [.box] ∧ ∀ S more, VS n S → Q (rowD S) (.box :: more)
def s_law : Sc := fun ws ob X Q => ∃ ns : List Int, ns.length ≤ 63 ∧ ws = [.dat (lstI ns)] ∧ ob = [] ∧ ∀ more, Q (.bool true) more
theorem law_sp {K : PySem.W.Frag} {H : Hp} {a : Addr} {ns : List Int} {E : XK} (hl : ns.length ≤ 63) (hS : SqL K H a (ns.map V.int)) : toSp K s_law [.ref a] H (fun v _ => v = .bl true) E := by
  have hh : Sub H (hid (fun _ => False) [] [] H) := fun b o q => hid_nil.mpr ⟨fun z => z, q⟩
  refine ⟨fun _ => False, [], [], [.dat (lstI ns)], fun _ _ => False, fun d _ => d = .bool true, ⟨cut_sub, fun b z => z.elim, rfl, fun k j a q => by simp at q, fun k a q => by simp at q, fun k a q => by simp at q, fun k a o q => by simp at q, fun k a o q => by simp at q, rfl, fun i w q => ?_⟩, ⟨ns, hl, rfl, rfl, fun _ => rfl⟩, fun v d as' e' σ' H' hd S' l' dp => ?_, fun _ _ _ _ _ _ _ z => z.elim⟩
  · cases i with
    | zero =>
      cases q
      exact ⟨.ref a, rfl, Dp.lst (sql_sub hh hS) (dpAll_al.mpr (al_of_ints ns))⟩
    | succ i => simp at q
  · subst hd
    exact dp_bool dp
end PL

/-! Plain data as == sees them. -/
namespace PL
open PySem PySem.Spec PyProof.Rows L2

/-- data that == may look at, of at most this depth -/
def Lay (n : Nat) (d : D) : Prop := d.canLay0 = true ∧ d.depth ≤ n
theorem lay_shaped {n : Nat} {d : D} (h : Lay n d) (hn : n ≤ 64) : SeqAt.shaped d = true := by
  unfold SeqAt.shaped
  rw [h.1, Bool.true_and]
  exact decide_eq_true (Nat.le_trans h.2 hn)
theorem Lay.mono {n m : Nat} {d : D} (h : Lay n d) (hm : n ≤ m) : Lay m d := ⟨h.1, Nat.le_trans h.2 hm⟩
theorem lay_all {n : Nat} : ∀ {ds : List D}, (∀ d ∈ ds, Lay n d) → PyData.canLayAll0 ds = true ∧ PyData.depthAll ds ≤ n
  | [], _ => ⟨rfl, Nat.zero_le _⟩
  | d :: ds, h => by
    have h1 := h d (by simp)
    have h2 := lay_all fun x hx => h x (List.mem_cons_of_mem _ hx)
    refine ⟨by simp only [PyData.canLayAll0, h1.1, h2.1, Bool.and_self], ?_⟩
    simp only [PyData.depthAll]
    have := h1.2; have := h2.2
    omega
theorem lay_list {n : Nat} {ds : List D} (h : ∀ d ∈ ds, Lay n d) : Lay (n + 1) (.list ds) := by
  obtain ⟨h1, h2⟩ := lay_all h
  refine ⟨h1, ?_⟩
  simp only [PyData.depth]; omega
theorem lay_tuple {n : Nat} {ds : List D} (h : ∀ d ∈ ds, Lay n d) : Lay (n + 1) (.tuple ds) := by
  obtain ⟨h1, h2⟩ := lay_all h
  refine ⟨h1, ?_⟩
  simp only [PyData.depth]; omega
theorem lay_int {i : Int} : Lay 0 (.int i) := ⟨rfl, by simp [PyData.depth]⟩
theorem lay_bool {i : Bool} : Lay 0 (.bool i) := ⟨rfl, by simp [PyData.depth]⟩
theorem lay_none : Lay 0 .none := ⟨rfl, by simp [PyData.depth]⟩
theorem lay_map {α : Type} {n : Nat} {f : α → D} {xs : List α} (h : ∀ x, Lay n (f x)) : ∀ d ∈ xs.map f, Lay n d := fun d hd => by
  obtain ⟨x, _, rfl⟩ := List.mem_map.mp hd
  exact h x
theorem lay_nD {n : Nat} : Lay 0 (nD n) := lay_int
theorem lay_wd {w : List Nat} : Lay 1 (wdD w) := lay_list (lay_map fun _ => lay_nD)
theorem lay_row {w : List Nat} : Lay 1 (rowD w) := lay_tuple (lay_map fun _ => lay_nD)
theorem lay_tbl {T : List (List Nat)} : Lay 2 (tblD T) := lay_tuple (lay_map fun _ => lay_row)
/-- data that == tells apart as they are -/
def Tell {α : Type} (f : α → D) : Prop := ∀ x y, PyData.eqv (f x) (f y) = true ↔ x = y
theorem tell_all {α : Type} {f : α → D} (h : Tell f) : ∀ xs ys : List α, PyData.eqvAll (xs.map f) (ys.map f) = true ↔ xs = ys
  | [], [] => by simp [PyData.eqvAll]
  | [], y :: ys => by simp [PyData.eqvAll]
  | x :: xs, [] => by simp [PyData.eqvAll]
  | x :: xs, y :: ys => by
    simp only [List.map_cons, PyData.eqvAll, Bool.and_eq_true, tell_all h xs ys, h x y, List.cons.injEq]
theorem tell_list {α : Type} {f : α → D} (h : Tell f) : Tell fun xs : List α => .list (xs.map f) := fun x y => by
  simp only [PyData.eqv]; exact tell_all h x y
theorem tell_tuple {α : Type} {f : α → D} (h : Tell f) : Tell fun xs : List α => .tuple (xs.map f) := fun x y => by
  simp only [PyData.eqv]; exact tell_all h x y
theorem tell_int : Tell PyData.int := fun x y => by simp [PyData.eqv]
theorem tell_nD : Tell nD := fun x y => by simp only [nD, PyData.eqv, beq_iff_eq]; omega
theorem tell_wd : Tell wdD := tell_list tell_nD
theorem tell_row : Tell rowD := tell_tuple tell_nD
theorem tell_tbl : Tell tblD := tell_tuple tell_row
theorem Tell.same {α : Type} {f : α → D} (h : Tell f) (x : α) : PyData.eqv (f x) (f x) = true := (h x x).mpr rfl
/-- a == b, a != b of such data -/
theorem eq_go {α : Type} {f : α → D} {n : Nat} {x y : α} {k : D → Prop} {neg : Bool} (h : Tell f) (hx : Lay n (f x)) (hy : Lay n (f y)) (hn : n ≤ 64) (hs : scalD (f x) (f y) = none) (hk : ∀ b : Bool, (b = true ↔ x = y) → k (.bool (if neg then !b else b))) : nEqA neg (f x) (f y) k := by
  unfold nEqA
  rw [hs]
  exact ⟨lay_shaped hx hn, lay_shaped hy hn, hk _ (h x y)⟩
theorem eq_same {α : Type} {f : α → D} {n : Nat} {x : α} {k : D → Prop} {neg : Bool} (h : Tell f) (hx : Lay n (f x)) (hn : n ≤ 64) (hs : scalD (f x) (f x) = none) (hk : k (.bool (!neg))) : nEqA neg (f x) (f x) k := by
  refine eq_go h hx hx hn hs fun b hb => ?_
  have e : b = true := hb.mpr rfl
  subst e
  cases neg <;> exact hk
theorem same_ne {α : Type} {f : α → D} (h : Tell f) {x : α} {P : Prop} (hb : (!PyData.eqv (f x) (f x)) = true) : P := by
  rw [h.same x] at hb; cases hb
/-! ### values of words -/
theorem fold_mul {T : List (List Nat)} {L : List Nat} (s : Sg T L) (hA : Assoc T) {v : Nat} (hv : v < T.length) : ∀ {b : List Nat} {u : Nat}, (∀ a ∈ b, a < L.length) → u < T.length → b.foldl (vstep T L) (some (mulT T v u)) = (b.foldl (vstep T L) (some u)).map (mulT T v)
  | [], u, _, _ => rfl
  | a :: b, u, h, hu => by
    have ha := s.let (h a (by simp))
    have e : vstep T L (some (mulT T v u)) a = some (mulT T v (mulT T u (L.getD a 0))) := by
      show some (mulT T (mulT T v u) (L.getD a 0)) = _
      rw [hA v u _ hv hu ha]
    rw [List.foldl_cons, List.foldl_cons, e]
    exact fold_mul s hA hv (fun c hc => h c (List.mem_cons_of_mem _ hc)) (s.mul hu ha)
theorem valueOf_app {T : List (List Nat)} {L one two : List Nat} (s : Sg T L) (hA : Assoc T) (h1 : ∀ a ∈ one, a < L.length) (h2 : ∀ a ∈ two, a < L.length) {v u : Nat} (e1 : valueOf T L one = some v) (e2 : valueOf T L two = some u) : valueOf T L (one ++ two) = some (mulT T v u) := by
  have hv := valueOf_lt s h1 e1
  unfold valueOf at e1 e2 ⊢
  rw [List.foldl_append, e1]
  cases two with
  | nil => cases e2
  | cons a b =>
    have ha := s.let (h2 a (by simp))
    rw [List.foldl_cons] at e2 ⊢
    show b.foldl (vstep T L) (some (mulT T v (L.getD a 0))) = _
    rw [fold_mul s hA hv (fun c hc => h2 c (List.mem_cons_of_mem _ hc)) ha]
    rw [show b.foldl (vstep T L) (some (L.getD a 0)) = some u from e2]
    rfl
end PL

/-! An own dict: setdefault, its keys and its entries as a list. -/
namespace PL
open PySem PySem.Spec PyProof.Rows L2

def findD (kvs : List (Key × D)) (k : Key) : Option D := lookD (kvs.map fun z => (keyD z.1, z.2)) (keyD k)
def pSetd (pd pk pv : PTE) : PTE := fun X e Q => pd X e fun w e1 => kO e1 w fun n o => (∃ l, o = .dic l) ∧ pk X e1 fun wk e2 => pv X e2 fun wv e3 => kD e3 wk fun b => kD e3 wv fun v => match keyOf b with
  | some k => ∃ kvs, e3.ob[n]? = some (.dic kvs) ∧ kvs.length ≤ 100000 ∧ match findD kvs k with
    | some d => Q (.dat d) e3
    | none => Q (.dat v) ⟨e3.sl, e3.ob.set n (.dic (putD kvs k v))⟩
  | none => False
def pKeysL (p : PTE) : PTE := fun X e Q => p X e fun w e1 => kO e1 w fun n o => match o with
  | .dic kvs => Q (.ref e1.ob.length) ⟨e1.sl, e1.ob ++ [.lst (kvs.map fun z => keyD z.1)]⟩
  | _ => False
def pItemsL (p : PTE) : PTE := fun X e Q => p X e fun w e1 => kO e1 w fun n o => match o with
  | .dic kvs => Q (.dat (.list (kvs.map fun z => .tuple [keyD z.1, z.2]))) e1
  | _ => False
section
variable {K : PySem.W.Frag} {E : XK} {td ty tv te : TE} {pd pk pv p : PTE}
theorem kVD {G : Hp} (k : Key) : Dp K G (kV k) (keyD k) := by
  cases k with
  | inl i => exact Dp.int i
  | inr s => exact Dp.str s
theorem snd_setd (hd : SndE K E td pd) (hk : SndE K E ty pk) (hv : SndE K E tv pv) : SndE K E (tDSetd td ty tv) (pSetd pd pk pv) := ⟨fun H0 iv as e σ H X Q R S h kk l => by
  refine hd.run H0 iv as e σ H X _ _ S h (fun u w as1 e1 H1 h1 S1 l1 w1 => ?_) l
  obtain ⟨j, o, rfl, ho, ⟨kv0, rfl⟩, h2⟩ := kO_elim h1
  obtain ⟨a, ha, rfl⟩ := w1
  obtain ⟨ys0, q0, _⟩ := S1.obs j a _ ha ho
  refine ⟨a, rfl, .inl ⟨ys0, .inl q0⟩, ?_⟩
  refine hk.run H0 iv as1 e1 σ H1 X _ _ S1 h2 (fun y wk as2 e2 H2 h2 S2 l2 w2 => ?_) (l.on l1)
  refine hv.run H0 iv as2 e2 σ H2 X _ _ S2 h2 (fun z wv as3 e3 H3 h3 S3 l3 w3 => ?_) (l.on (l1.trans l2))
  obtain ⟨dk, ek, h4⟩ := kD_elim h3
  obtain ⟨dv, ev, h5⟩ := kD_elim h4
  split at h5
  · rename_i kx hkx
    obtain ⟨kvs, ho3, hz, h6⟩ := h5
    have ha3 : as3[j]? = some a := by
      obtain ⟨t2, rfl⟩ := l2.1
      obtain ⟨t3, rfl⟩ := l3.1
      rw [List.append_assoc, List.getElem?_append_left (List.getElem?_eq_some_iff.mp ha).1]
      exact ha
    have eb := keyOf_some hkx
    subst eb
    obtain ⟨ys, q1, q2⟩ := S3.obs j a _ ha3 ho3
    have ey : y = kV kx := keyV (.inl (asD_wr S3 (l3.wr w2) ek) : RV K _ H3 y (keyD kx))
    have dpv := asD_wr S3 w3 ev
    have ll := (l1.trans l2).trans l3
    obtain ⟨lk1, lk2⟩ := look_al kx q2
    refine ⟨ys, kx, q1, ey, ?_, fun v hv => ?_, fun hn => ?_⟩
    · rw [q2.1]; exact fits_lt (by omega)
    · split at h6
      · rename_i d hf
        obtain ⟨v', e1, e2⟩ := lk1 d hf
        rw [hv] at e1; cases e1
        exact kk _ _ as3 e3 H3 h6 S3 ll e2
      · rename_i hf
        rw [lk2 hf] at hv; cases hv
    · split at h6
      · rename_i d hf
        obtain ⟨v', e1, e2⟩ := lk1 d hf
        rw [hn] at e1; cases e1
      · obtain ⟨S4, l4⟩ := S3.mut (o' := .dic (putD kvs kx dv)) (u := .dK (putK ys kx z)) ha3 ho3 rfl rfl ⟨_, upd_same, put_al (R := Dp K _) q2 dpv⟩
        exact kk _ _ as3 _ _ h6 S4 (ll.trans l4) (l4.dp dpv)
  · exact h5.elim⟩
theorem snd_keysL (h : SndE K E te p) : SndE K E (tCB rListD (tCons te tNil)) (pKeysL p) := ⟨fun H0 iv as e σ H X Q R S hq k l => by
  refine h.run H0 iv as e σ H X _ _ S hq (fun u w as1 e1 H1 h1 S1 l1 w1 => ?_) l
  obtain ⟨j, o, rfl, ho, h2⟩ := kO_elim h1
  split at h2
  · rename_i kvs
    obtain ⟨a, ha, rfl⟩ := w1
    obtain ⟨ys, q1, q2⟩ := S1.obs j a _ ha ho
    refine ⟨a, ys, rfl, q1, fun q hp => ?_⟩
    obtain ⟨S2, l2⟩ := S1.newO (o := .lst (kvs.map fun z => keyD z.1)) (u := .lst (ys.map fun kv => kV kv.1)) hp rfl ⟨_, upd_same, by
      refine ⟨by simp [q2.1], fun i x y p q => ?_⟩
      rw [List.getElem?_map] at p q
      cases hx : ys[i]? with
      | none => rw [hx] at p; cases p
      | some x0 =>
        obtain ⟨y0, hy0, r1, r2⟩ := q2.get' hx
        rw [hx] at p; rw [hy0] at q
        cases p; cases q
        simp only [r1]
        exact kVD _⟩
    exact k _ _ _ _ _ h2 S2 (l1.trans l2) ⟨q, by rw [← S1.len]; simp, rfl⟩
  · exact h2.elim⟩
theorem pair_at {α β : Type} {F : α → β → Prop} : ∀ {ts : List α} {ys : List β}, Paired F ts ys → ts.length = ys.length ∧ ∀ (i : Nat) t y, ts[i]? = some t → ys[i]? = some y → F t y
  | _, _, .nil => ⟨rfl, fun i t y a _ => by simp at a⟩
  | _, _, .cons r h => by
    obtain ⟨h1, h2⟩ := pair_at h
    refine ⟨by simp [h1], fun i t y a b => ?_⟩
    cases i with
    | zero => simp at a b; subst a; subst b; exact r
    | succ i => exact h2 i t y (by simpa using a) (by simpa using b)
theorem snd_itemsL (h : SndE K E te p) : SndE K E (LiI.tListItems te) (pItemsL p) := ⟨fun H0 iv as e σ H X Q R S hq k l => by
  refine h.run H0 iv as e σ H X _ _ S hq (fun u w as1 e1 H1 h1 S1 l1 w1 => ?_) l
  obtain ⟨j, o, rfl, ho, h2⟩ := kO_elim h1
  split at h2
  · rename_i kvs
    obtain ⟨a, ha, rfl⟩ := w1
    obtain ⟨ys, q1, q2⟩ := S1.obs j a _ ha ho
    refine ⟨a, ys, rfl, q1, fun H' q ts hg hn hns _ hl hp => ?_⟩
    obtain ⟨S2, l2⟩ := S1.grow hg
    obtain ⟨pl, pa⟩ := pair_at hp
    refine k _ _ as1 e1 H' h2 S2 (l1.trans l2) (Dp.lst (.inl (.inl (S1.seen hn hl))) (dpAll_al.mpr ⟨by simp [pl, q2.1], fun i x y p q => ?_⟩))
    rw [List.getElem?_map] at p q
    cases ht : ts[i]? with
    | none => rw [ht] at p; cases p
    | some t =>
      rw [ht] at p; cases p
      cases hz : kvs[i]? with
      | none => rw [hz] at q; cases q
      | some z =>
        rw [hz] at q; cases q
        obtain ⟨y, hy, r1, r2⟩ := q2.get hz
        have ft := pa i t y ht hy
        refine Dp.tup (.inl (.inl (S1.seen (hns t (List.mem_of_getElem? ht)) ft))) (dpAll_al.mpr (Al.cons ?_ (Al.cons ?_ Al.nil)))
        · rw [r1]; exact kVD _
        · exact l2.dp r2
  · exact h2.elim⟩
end
section
variable {X : Cx} {E : XK} {a b c f : Expr} {ta tb tc te : TE} {pa pb pc p : PTE} {pos p2 apos cpos : Pos} {es : List Expr}
theorem pd_setd (ha : PD X E a ta pa) (hb : PD X E b tb pb) (hc : PD X E c tc pc) (m : M2 X a "setdefault" apos b c cpos) : PD X E (.Call (.Attribute a "setdefault" apos) [b, c] [] cpos) (tDSetd ta tb tc) (pSetd pa pb pc) := ⟨pe_dsetd ha.a hb.a hc.a m, snd_setd ha.b hb.b hc.b⟩
theorem pd_keysL (hc : X.calm = true) (hg : Gl X "list") (hm : X.mg "list" = none) (ha : PD X E a ta pa) (he : starEach [a] X.env = (false, eval a X.env) :: starEach [] X.env := by rfl) (hpl : (backTo pos (starEach [] X.env)).any (·.1) = false := by rfl) :
    PD X E (.Call (.Name "list" p2) [a] [] pos) (tCB rListD (tCons ta tNil)) (pKeysL pa) := ⟨pe_callTy (call_list_dK hc) hg hm (by decide +kernel) (pa_cons ha.a pa_nil he) (by decide) (by decide) he hpl, snd_keysL ha.b⟩
theorem pd_itemsL (hc : X.calm = true) (hg : Gl X "list") (hm : X.mg "list" = none) (ha : PD X E a ta pa) (hbase : attributeBase a "items" X.env (eval a X.env) = eval a X.env := by rfl) (hline : (apos.endLine == cpos.line) = true := by rfl)
    (hs : starEach [.Call (.Attribute a "items" apos) [] [] cpos] X.env = (false, eval (.Call (.Attribute a "items" apos) [] [] cpos) X.env) :: starEach [] X.env := by rfl) :
    PD X E (.Call (.Name "list" p2) [.Call (.Attribute a "items" apos) [] [] cpos] [] pos) (LiI.tListItems ta) (pItemsL pa) := ⟨LiI.pe_listItems hc ha.a hg hm (by decide +kernel) hbase hline hs, snd_itemsL ha.b⟩
end
end PL

/-! First words: found by going on from what was met, and by going through all words in their order. -/
namespace PL
open PySem PySem.Spec PyProof.Rows L2

abbrev Fst := List (Nat × List Nat)
def keyIn (S : Fst) (v : Nat) : Bool := S.any fun p => p.1 == v
def ins (S : Fst) (v : Nat) (w : List Nat) : Fst := if keyIn S v = true then S else S ++ [(v, w)]
theorem keyIn_mem {S : Fst} {v : Nat} : keyIn S v = true ↔ ∃ p ∈ S, p.1 = v := by simp [keyIn]
theorem ins_in {S : Fst} {v : Nat} {w : List Nat} (h : keyIn S v = true) : ins S v w = S := if_pos h
theorem ins_out {S : Fst} {v : Nat} {w : List Nat} (h : keyIn S v = false) : ins S v w = S ++ [(v, w)] := if_neg (by rw [h]; exact Bool.false_ne_true)
theorem ins_pre (S : Fst) (v : Nat) (w : List Nat) : S <+: ins S v w := by
  cases h : keyIn S v with
  | true => rw [ins_in h]; exact List.prefix_refl S
  | false => rw [ins_out h]; exact List.prefix_append S _
theorem ins_key (S : Fst) (v : Nat) (w : List Nat) : keyIn (ins S v w) v = true := by
  cases h : keyIn S v with
  | true => rw [ins_in h]; exact h
  | false => rw [ins_out h]; simp [keyIn]
theorem keyIn_pre {S S' : Fst} {v : Nat} (h : S <+: S') (hk : keyIn S v = true) : keyIn S' v = true := by
  obtain ⟨p, hp, e⟩ := keyIn_mem.mp hk
  exact keyIn_mem.mpr ⟨p, h.subset hp, e⟩
/-- each value once, each below n -/
structure Once (n : Nat) (S : Fst) : Prop where
  nd : (S.map (·.1)).Nodup
  lt : ∀ p ∈ S, p.1 < n
theorem Once.nil {n : Nat} : Once n [] := ⟨by simp, by simp⟩
theorem Once.ins {n : Nat} {S : Fst} {v : Nat} {w : List Nat} (h : Once n S) (hv : v < n) : Once n (ins S v w) := by
  cases hk : keyIn S v with
  | true => rw [ins_in hk]; exact h
  | false =>
    rw [ins_out hk]
    refine ⟨?_, fun p hp => ?_⟩
    · rw [List.map_append, List.nodup_append]
      refine ⟨h.nd, by simp, fun a ha b hb e => ?_⟩
      simp at hb; subst hb; subst e
      obtain ⟨p, hp, e⟩ := List.mem_map.mp ha
      rw [keyIn_mem.mpr ⟨p, hp, e⟩] at hk; cases hk
    · rcases List.mem_append.mp hp with hp | hp
      · exact h.lt p hp
      · simp at hp; subst hp; exact hv
theorem nodup_le : ∀ {n : Nat} {xs : List Nat}, xs.Nodup → (∀ x ∈ xs, x < n) → xs.length ≤ n
  | 0, [], _, _ => Nat.le_refl _
  | 0, x :: _, _, h => absurd (h x (by simp)) (Nat.not_lt_zero _)
  | n + 1, xs, hn, h => by
    have q := nodup_le (n := n) (xs := xs.erase n) (hn.erase n) fun x hx => by
      have h1 := (hn.mem_erase_iff.mp hx)
      have := h x h1.2
      have := h1.1
      omega
    have := List.length_erase (a := n) (l := xs)
    split at this <;> omega
theorem Once.len {n : Nat} {S : Fst} (h : Once n S) : S.length ≤ n := by
  have q := nodup_le h.nd fun x hx => by
    obtain ⟨p, hp, rfl⟩ := List.mem_map.mp hx
    exact h.lt p hp
  simpa using q
theorem Once.find {n : Nat} {S : Fst} {v : Nat} {w : List Nat} (h : Once n S) (hm : (v, w) ∈ S) : S.find? (fun p => p.1 == v) = some (v, w) := by
  have nd := h.nd
  clear h
  induction S with
  | nil => simp at hm
  | cons p S ih =>
    rw [List.map_cons, List.nodup_cons] at nd
    rcases List.mem_cons.mp hm with rfl | hm
    · simp
    · have : p.1 ≠ v := fun z => nd.1 (List.mem_map.mpr ⟨_, hm, z.symm⟩)
      rw [List.find?_cons_of_neg (by simpa using this)]
      exact ih hm nd.2
theorem find_none {S : Fst} {v : Nat} (h : keyIn S v = false) : S.find? (fun p => p.1 == v) = none := by
  rw [List.find?_eq_none]
  intro p hp z
  rw [keyIn_mem.mpr ⟨p, hp, by simpa using z⟩] at h; cases h
section
variable (T : List (List Nat)) (L : List Nat)
def startF (k : Nat) : Fst := (List.range k).foldl (fun S l => ins S (L.getD l 0) [l]) []
def expF (S : Fst) (v : Nat) (w : List Nat) (k : Nat) : Fst := (List.range k).foldl (fun S l => ins S (mulT T v (L.getD l 0)) (w ++ [l])) S
def expd (S : Fst) (v : Nat) (w : List Nat) : Fst := expF T L S v w L.length
def bfs : Nat → Fst
  | 0 => startF L L.length
  | j + 1 => match (bfs j)[j]? with
    | some p => expd T L (bfs j) p.1 p.2
    | none => bfs j
def valW (w : List Nat) : Nat := (valueOf T L w).getD 0
def insW (S : Fst) (w : List Nat) : Fst := ins S (valW T L w) w
def expW (S : Fst) (w : List Nat) : Fst := expd T L S (valW T L w) w
def extW (c : Nat) (w : List Nat) : List (List Nat) := (List.range c).map fun l => w ++ [l]
def wordsOf (c : Nat) : Nat → List (List Nat)
  | 0 => [[]]
  | n + 1 => (wordsOf c n).flatMap (extW c)
def dueF : Nat → Fst
  | 0 => []
  | n + 1 => (wordsOf L.length (n + 1)).foldl (insW T L) (dueF n)
end
section
variable {T : List (List Nat)} {L : List Nat}
theorem foldl_pre {α : Type} {f : Fst → α → Fst} (h : ∀ S a, S <+: f S a) : ∀ (xs : List α) (S : Fst), S <+: xs.foldl f S
  | [], S => List.prefix_refl S
  | x :: xs, S => (h S x).trans (foldl_pre h xs (f S x))
theorem foldl_once {α : Type} {f : Fst → α → Fst} {n : Nat} : ∀ {xs : List α} {S : Fst}, (∀ S, ∀ a ∈ xs, Once n S → Once n (f S a)) → Once n S → Once n (xs.foldl f S)
  | [], S, _, h => h
  | x :: xs, S, hf, h => foldl_once (xs := xs) (fun S a ha => hf S a (List.mem_cons_of_mem _ ha)) (hf S x (by simp) h)
theorem expF_succ {S : Fst} {v k : Nat} {w : List Nat} : expF T L S v w (k + 1) = ins (expF T L S v w k) (mulT T v (L.getD k 0)) (w ++ [k]) := by
  unfold expF
  rw [List.range_succ, List.foldl_append]; rfl
theorem startF_succ {k : Nat} : startF L (k + 1) = ins (startF L k) (L.getD k 0) [k] := by
  unfold startF
  rw [List.range_succ, List.foldl_append]; rfl
theorem expF_pre {S : Fst} {v k : Nat} {w : List Nat} : S <+: expF T L S v w k := foldl_pre (fun S _ => ins_pre S _ _) _ S
theorem bfs_pre1 (j : Nat) : bfs T L j <+: bfs T L (j + 1) := by
  simp only [bfs]
  split
  · exact expF_pre
  · exact List.prefix_refl _
theorem bfs_pre (j : Nat) : ∀ m, bfs T L j <+: bfs T L (j + m)
  | 0 => List.prefix_refl _
  | m + 1 => (bfs_pre j m).trans (bfs_pre1 (j + m))
theorem bfs_stop1 {j : Nat} (h : (bfs T L j).length ≤ j) : bfs T L (j + 1) = bfs T L j := by
  simp only [bfs]
  rw [List.getElem?_eq_none h]
theorem bfs_stop {j : Nat} (h : (bfs T L j).length ≤ j) : ∀ m, bfs T L (j + m) = bfs T L j
  | 0 => rfl
  | m + 1 => by
    have q := bfs_stop h m
    have : (bfs T L (j + m)).length ≤ j + m := by rw [q]; omega
    exact (bfs_stop1 this).trans q
theorem bfs_uniq {i j : Nat} (h : (bfs T L i).length ≤ i) (h2 : (bfs T L j).length ≤ j) : bfs T L i = bfs T L j := by
  rcases Nat.le_total i j with q | q
  · have := bfs_stop h (j - i); rw [show i + (j - i) = j by omega] at this; exact this.symm
  · have := bfs_stop h2 (i - j); rw [show j + (i - j) = i by omega] at this; exact this
theorem expF_once (s : Sg T L) {S : Fst} {v k : Nat} {w : List Nat} (h : Once T.length S) (hv : v < T.length) (hk : k ≤ L.length) : Once T.length (expF T L S v w k) :=
  foldl_once (fun S a ha q => q.ins (s.mul hv (s.let (by have := List.mem_range.mp ha; omega)))) h
theorem startF_once (s : Sg T L) {k : Nat} (hk : k ≤ L.length) : Once T.length (startF L k) :=
  foldl_once (fun S a ha q => q.ins (s.let (by have := List.mem_range.mp ha; omega))) .nil
theorem bfs_once (s : Sg T L) : ∀ j, Once T.length (bfs T L j)
  | 0 => startF_once s (Nat.le_refl _)
  | j + 1 => by
    have q := bfs_once s j
    simp only [bfs]
    split
    · rename_i p hp
      exact expF_once s q (q.lt p (List.mem_of_getElem? hp)) (Nat.le_refl _)
    · exact q
theorem expF_has {S : Fst} {v l : Nat} {w : List Nat} : ∀ {k : Nat}, l < k → keyIn (expF T L S v w k) (mulT T v (L.getD l 0)) = true
  | 0, h => absurd h (Nat.not_lt_zero _)
  | k + 1, h => by
    rw [expF_succ]
    rcases Nat.lt_or_ge l k with q | q
    · exact keyIn_pre (ins_pre _ _ _) (expF_has q)
    · have : l = k := by omega
      subst this
      exact ins_key _ _ _
theorem expF_same {S : Fst} {v : Nat} {w : List Nat} : ∀ {k : Nat}, (∀ l < k, keyIn S (mulT T v (L.getD l 0)) = true) → expF T L S v w k = S
  | 0, _ => rfl
  | k + 1, h => by
    rw [expF_succ, expF_same fun l hl => h l (by omega)]
    exact ins_in (h k (by omega))
theorem bfs_closed : ∀ (k : Nat), ∀ p ∈ (bfs T L k).take k, ∀ l < L.length, keyIn (bfs T L k) (mulT T p.1 (L.getD l 0)) = true
  | 0, p, hp, _, _ => by simp at hp
  | k + 1, p, hp, l, hl => by
    have hpre := bfs_pre1 (T := T) (L := L) k
    cases hk : (bfs T L k)[k]? with
    | none =>
      have hle := List.getElem?_eq_none_iff.mp hk
      have e := bfs_stop1 hle
      rw [e] at hp ⊢
      refine bfs_closed k p ?_ l hl
      rw [List.take_of_length_le hle]
      exact List.mem_of_mem_take hp
    | some q =>
      have e : (bfs T L (k + 1)).take (k + 1) = (bfs T L k).take k ++ [q] := by
        obtain ⟨t, ht⟩ := hpre
        have hlt := (List.getElem?_eq_some_iff.mp hk).1
        rw [← ht, List.take_append_of_le_length (by omega), List.take_add_one, hk]; rfl
      rw [e] at hp
      rcases List.mem_append.mp hp with hp | hp
      · exact keyIn_pre hpre (bfs_closed k p hp l hl)
      · simp at hp; subst hp
        simp only [bfs, hk]
        exact expF_has hl
theorem insW_pre (S : Fst) (w : List Nat) : S <+: insW T L S w := ins_pre _ _ _
theorem level {D : Fst} : ∀ {ws : List (List Nat)} {k : Nat}, D <+: bfs T L k → ws.foldl (insW T L) (D.take k) = D → k ≤ D.length → ws.foldl (expW T L) (bfs T L k) = bfs T L D.length
  | [], k, _, h2, h3 => by
    have q := congrArg List.length h2
    simp at q
    have : k = D.length := by omega
    rw [List.foldl_nil, this]
  | w :: ws, k, h1, h2, h3 => by
    rw [List.foldl_cons] at h2 ⊢
    have htk : D.take k = (bfs T L k).take k := by
      obtain ⟨t, ht⟩ := h1
      rw [← ht, List.take_append_of_le_length h3]
    cases hk : keyIn (D.take k) (valW T L w) with
    | true =>
      rw [insW, ins_in hk] at h2
      have hs : expW T L (bfs T L k) w = bfs T L k := by
        obtain ⟨p, hp, e⟩ := keyIn_mem.mp hk
        rw [htk] at hp
        refine expF_same fun l hl => ?_
        rw [← e]
        exact bfs_closed k p hp l hl
      rw [hs]
      exact level h1 h2 h3
    | false =>
      rw [insW, ins_out hk] at h2
      have hp := foldl_pre (f := insW T L) insW_pre ws (D.take k ++ [(valW T L w, w)])
      rw [h2] at hp
      obtain ⟨t, ht⟩ := hp
      have hl : (D.take k).length = k := by rw [List.length_take]; omega
      have hat : D[k]? = some (valW T L w, w) := by
        rw [← ht, List.append_assoc, List.getElem?_append_right (by omega), hl]; simp
      have hlt := (List.getElem?_eq_some_iff.mp hat).1
      have hb : (bfs T L k)[k]? = some (valW T L w, w) := by
        obtain ⟨t2, ht2⟩ := h1
        rw [← ht2, List.getElem?_append_left hlt]; exact hat
      have hs : expW T L (bfs T L k) w = bfs T L (k + 1) := by
        show _ = (match (bfs T L k)[k]? with | some p => expd T L (bfs T L k) p.1 p.2 | none => bfs T L k)
        rw [hb]; rfl
      rw [hs]
      refine level (h1.trans (bfs_pre1 k)) ?_ hlt
      rw [List.take_add_one, hat]
      exact h2
theorem val_one {l : Nat} : valW T L [l] = L.getD l 0 := rfl
theorem valueOf_snoc {w : List Nat} {l : Nat} : valueOf T L (w ++ [l]) = vstep T L (valueOf T L w) l := by
  unfold valueOf; rw [List.foldl_append]; rfl
theorem valueOf_some : ∀ {w : List Nat}, w ≠ [] → valueOf T L w = some (valW T L w) := by
  intro w h
  unfold valW
  cases hv : valueOf T L w with
  | some v => rfl
  | none =>
    exfalso
    have key : ∀ (w : List Nat) (a : Nat), w.foldl (vstep T L) (some a) ≠ none := by
      intro w
      induction w with
      | nil => intro a z; cases z
      | cons x w ih => intro a; exact ih _
    cases w with
    | nil => exact h rfl
    | cons x w => exact key w _ hv
theorem val_snoc {w : List Nat} {l : Nat} (h : w ≠ []) : valW T L (w ++ [l]) = mulT T (valW T L w) (L.getD l 0) := by
  have q := valueOf_some (T := T) (L := L) h
  unfold valW at q ⊢
  rw [valueOf_snoc, q]; rfl
theorem words_ne {c : Nat} : ∀ {n : Nat}, ∀ w ∈ wordsOf c (n + 1), w ≠ [] := by
  intro n w hw
  obtain ⟨u, _, hu⟩ := List.mem_flatMap.mp hw
  obtain ⟨l, _, rfl⟩ := List.mem_map.mp hu
  simp
theorem words_lt {c : Nat} : ∀ {n : Nat}, ∀ w ∈ wordsOf c n, ∀ a ∈ w, a < c
  | 0, w, hw, a, ha => by simp [wordsOf] at hw; subst hw; simp at ha
  | n + 1, w, hw, a, ha => by
    obtain ⟨u, hu1, hu⟩ := List.mem_flatMap.mp hw
    obtain ⟨l, hl, rfl⟩ := List.mem_map.mp hu
    rcases List.mem_append.mp ha with ha | ha
    · exact words_lt u hu1 a ha
    · simp at ha; subst ha; exact List.mem_range.mp hl
theorem flat_len {α : Type} {m : Nat} {f : α → List α} (hf : ∀ x, (f x).length = m) : ∀ xs : List α, (xs.flatMap f).length = xs.length * m
  | [] => by simp
  | x :: xs => by
    rw [List.flatMap_cons, List.length_append, flat_len hf xs, hf, List.length_cons, Nat.succ_mul, Nat.add_comm]
theorem words_len {c : Nat} : ∀ n, (wordsOf c n).length = c ^ n
  | 0 => rfl
  | n + 1 => by
    show ((wordsOf c n).flatMap (extW c)).length = _
    rw [flat_len (m := c) (fun x => by simp [extW]), words_len n, Nat.pow_succ]
theorem ext_fold {ws : List (List Nat)} {S : Fst} (h : ∀ w ∈ ws, w ≠ []) : (ws.flatMap (extW L.length)).foldl (insW T L) S = ws.foldl (expW T L) S := by
  induction ws generalizing S with
  | nil => rfl
  | cons w ws ih =>
    rw [List.flatMap_cons, List.foldl_append, List.foldl_cons]
    have e : (extW L.length w).foldl (insW T L) S = expW T L S w := by
      unfold extW expW expd expF
      rw [List.foldl_map]
      congr 1
      funext S l
      unfold insW
      rw [val_snoc (h w (by simp))]
    rw [e]
    exact ih fun u hu => h u (List.mem_cons_of_mem _ hu)
theorem due_one : dueF T L 1 = bfs T L 0 := by
  show (([[]] : List (List Nat)).flatMap (extW L.length)).foldl (insW T L) [] = startF L L.length
  simp only [List.flatMap_cons, List.flatMap_nil, List.append_nil]
  unfold extW startF
  rw [List.foldl_map]
  rfl
theorem due_pre (n : Nat) : dueF T L n <+: dueF T L (n + 1) := foldl_pre insW_pre _ _
theorem due_bfs : ∀ n, dueF T L (n + 1) = bfs T L (dueF T L n).length
  | 0 => due_one
  | n + 1 => by
    have ih := due_bfs n
    show ((wordsOf L.length (n + 1)).flatMap (extW L.length)).foldl (insW T L) (dueF T L (n + 1)) = _
    rw [ext_fold words_ne]
    have hp := due_pre (T := T) (L := L) n
    have q := level (T := T) (L := L) (D := dueF T L (n + 1)) (ws := wordsOf L.length (n + 1)) (k := (dueF T L n).length) (by rw [ih]; exact List.prefix_refl _) (by
      have : (dueF T L (n + 1)).take (dueF T L n).length = dueF T L n := by
        obtain ⟨t, ht⟩ := hp
        rw [← ht, List.take_left']
        rfl
      rw [this]; rfl) hp.length_le
    rw [← q, ← ih]
theorem bfs_due (s : Sg T L) (h4 : T.length ≤ 4) (hL : 1 ≤ L.length) {j : Nat} (hj : (bfs T L j).length ≤ j) : bfs T L j = dueF T L 4 := by
  have e2 := due_bfs (T := T) (L := L) 1
  have e3 := due_bfs (T := T) (L := L) 2
  have e4 := due_bfs (T := T) (L := L) 3
  have one : 1 ≤ (dueF T L 1).length := by
    rw [due_one]
    have hp := foldl_pre (f := fun S l => ins S (L.getD l 0) [l]) (fun S l => ins_pre S _ _)
    obtain ⟨m, hm⟩ : ∃ m, L.length = m + 1 := ⟨L.length - 1, by omega⟩
    show 1 ≤ (startF L L.length).length
    rw [hm, startF_succ]
    have k1 := ins_key (startF L m) (L.getD m 0) [m]
    obtain ⟨p, hp, _⟩ := keyIn_mem.mp k1
    exact List.length_pos_of_mem hp
  have l4 : (dueF T L 4).length ≤ 4 := by rw [e4]; exact Nat.le_trans (bfs_once s _).len h4
  by_cases c1 : (dueF T L 2).length ≤ (dueF T L 1).length
  · have st : (bfs T L (dueF T L 1).length).length ≤ (dueF T L 1).length := by rw [← e2]; exact c1
    have p12 : (dueF T L 1).length ≤ (dueF T L 2).length := (due_pre (T := T) (L := L) 1).length_le
    have p23 : (dueF T L 2).length ≤ (dueF T L 3).length := (due_pre (T := T) (L := L) 2).length_le
    have z := bfs_stop st ((dueF T L 3).length - (dueF T L 1).length)
    rw [show (dueF T L 1).length + ((dueF T L 3).length - (dueF T L 1).length) = (dueF T L 3).length by omega] at z
    rw [e4, z]
    exact bfs_uniq hj st
  by_cases c2 : (dueF T L 3).length ≤ (dueF T L 2).length
  · have st : (bfs T L (dueF T L 2).length).length ≤ (dueF T L 2).length := by rw [← e3]; exact c2
    have p23 : (dueF T L 2).length ≤ (dueF T L 3).length := (due_pre (T := T) (L := L) 2).length_le
    have z := bfs_stop st ((dueF T L 3).length - (dueF T L 2).length)
    rw [show (dueF T L 2).length + ((dueF T L 3).length - (dueF T L 2).length) = (dueF T L 3).length by omega] at z
    rw [e4, z]
    exact bfs_uniq hj st
  by_cases c3 : (dueF T L 4).length ≤ (dueF T L 3).length
  · have st : (bfs T L (dueF T L 3).length).length ≤ (dueF T L 3).length := by rw [← e4]; exact c3
    rw [e4]
    exact bfs_uniq hj st
  have e5 : bfs T L ((dueF T L 3).length + 1) = dueF T L 4 := by
    have hp : dueF T L 4 <+: bfs T L ((dueF T L 3).length + 1) := by
      rw [e4]; exact bfs_pre1 _
    have := (bfs_once s ((dueF T L 3).length + 1)).len
    exact (hp.eq_of_length_le (by omega)).symm
  rw [← e5]
  refine bfs_uniq hj ?_
  rw [e5]; omega
end
end PL

/-! enumerate of a list or of a tuple. -/
namespace PL
open PySem PySem.Spec PyProof.Rows L2

/-- each item of the tuple at a, in a new pair with its number -/
def ItT (K : PySem.W.Frag) (a : Addr) : It where
  go i H := ∃ (ys : List V) (y : V), SqT K H a ys ∧ ys[i]? = some y
  yld i H v H' := ∃ c y, v = .ref c ∧ H c = none ∧ H' = upd H c (.tup [.int (i : Nat), y]) ∧ ∀ ys, SqT K H a ys → ys[i]? = some y
  stop i H := ∃ ys : List V, SqT K H a ys ∧ ys.length ≤ i
theorem enum_tup {h : Heap} {c it a : Addr} {i : Int} {old : Value} {xs : Array Value} (he : IsEnum h c it i old) (ht : h.IsTuple a xs) : c ≠ a := fun z => by
  subst z
  obtain ⟨o, e, k, _⟩ := ht
  have q := he.symm.trans e
  cases q
  simp at k
theorem iter_tup {h : Heap} {it a b : Addr} {i : Nat} {xs : Array Value} (hi : h.IsTupleIter it b i) (ht : h.IsTuple a xs) : a ≠ it := fun z => by
  subst z
  obtain ⟨o, e, k, _⟩ := ht
  obtain ⟨o', e', k', _⟩ := hi
  rw [e] at e'; cases e'
  rw [k] at k'
  simp at k'
theorem enum_over {P : Program} {w : World} {A : Around} {E : Value → Shared → Prop} {s : Shared} {c it a : Addr} {i : Nat} {xs : Array Value} {old : Value} {Q : Option Value → Shared → Prop} (hc : IsEnum s.heap c it i old) (hi : s.heap.IsTupleIter it a i) (ht : s.heap.IsTuple a xs)
    (hh : A.handled = none) (hx : xs[i]? = none) (hQ : ∀ h', Heap.ExtBut it s.heap h' → Q none { s with heap := h' }) : wpAny (model P w) A (pyNext (.ref c)) Q E s := by
  have ty : s.TypeIs (.ref c) "enumerate" := ⟨_, hc, rfl⟩
  unfold pyNext
  refine wpAny_bind (wpAny_attempt (wpAny_callSpecial?_slot (name := Str.ofString "__next__") ty F.slot_enumerate_next (wpAny_call_entry F.slot_enumerate_next ty F.entry_enumerate_next (wpAny_bind (m := field (.ref c) 2) (wpAny_field hc rfl (x := .ref it) rfl ?_)) (F.args_enumerate_next_1 _))))
  refine wpAny_bind (wpAny_nextOf_tuple_end hh hi ht hx fun h' x eb hs => ?_)
  obtain ⟨o, ho, k⟩ := hs
  exact wpAny_bind (wpAny_isInstance (T := "StopIteration") (b := true) ⟨o, ho, k⟩ isSubtype_stop (wpAny_pure (hQ _ eb)))
theorem turnT {P : Program} {w : World} {K : PySem.W.Frag} {elts : List Expr} {kk : Nat} {tpos : Pos} (a c it : Addr) :
    Turn P w K (.Tuple elts kk tpos) (ItT K a) [c, it] c (fun i h => (∃ old, IsEnum h c it ((i : Nat) : Int) old) ∧ h.IsTupleIter it a i ∧ c ≠ it) where
  mem := by simp
  obj := fun i h st b hb => by
    obtain ⟨⟨old, hc⟩, ⟨ob, ho, _, hd⟩, _⟩ := st
    simp only [List.mem_cons, List.not_mem_nil, or_false] at hb
    rcases hb with rfl | rfl
    · exact ⟨_, hc, fun v z => nomatch z⟩
    · exact ⟨ob, ho, fun v z => by rw [hd] at z; cases z⟩
  keep := fun i h h' st k => ⟨st.1.elim fun old hc => ⟨old, k c (by simp) _ hc⟩, st.2.1.at fun o z => k it (by simp) o z, st.2.2⟩
  item := by
    intro X hP hw hK calm i pins s σ H E I hf st hg
    subst hP; subst hw; subst hK
    obtain ⟨⟨old, hc⟩, hit, hne⟩ := st
    obtain ⟨ys, y, hys, hy⟩ := hg
    obtain ⟨its, rv, pt, hz⟩ := I.tuple hys
    obtain ⟨u, hu, ru⟩ := rv.get hy
    have isT : s.heap.IsTuple a its.toArray := pt
    have hcl : c < s.heap.objs.size := Heap.lt_size hc
    have hil : it < s.heap.objs.size := hit.elim fun o z => Heap.lt_size z.1
    have hlt : i < its.toArray.size := by
      have := (List.getElem?_eq_some_iff.mp hu).1
      simpa using this
    refine wpAny_pyNext_enum_itemD (Draws.tuple (A := X.A.in1) (I.ok.hd calm) it a (iter_tup hit isT) its.toArray) hc ⟨hit, isT⟩ hlt hne
      (by simp only [List.mem_cons, List.not_mem_nil, or_false, not_or]; exact ⟨hne, enum_tup hc isT⟩) fun x h' tk hx ho hst hT hsz hk => ?_
    have hxu : x = u := by
      simp at hx
      rw [hu] at hx
      exact (Option.some.inj hx).symm
    subst hxu
    refine ⟨_, rfl, wpAny_letOwnedTupleGo_enum (s := { s with heap := h', toks := tk + 1 }) ho fun h2 hc2 sb => ?_⟩
    have at2 : h2.get? s.heap.objs.size = some { cls := .type "tuple", data := .seq #[.int i tk, x] } := (sb.2 _ (Nat.ne_of_gt hcl)).trans hT
    have fresh : H s.heap.objs.size = none := I.hok.fresh (Nat.le_refl _)
    have I1 : Inv X pins σ (upd H s.heap.objs.size (.tup [.int (i : Nat), y])) { s with heap := h2, toks := tk + 1 } := by
      refine I.turnedNew (ch := [c, it]) (fun b ob hb z => ?_) hf (Nat.le_refl _) ?_
      · simp only [List.mem_cons, List.not_mem_nil, or_false, not_or] at hb
        exact (sb.2 b hb.1).trans (hk b ob hb.1 hb.2 z)
      · exact ⟨show 2 ≤ sizeLine by decide, [.int i tk, x], .cons ⟨_, rfl⟩ (.cons ru .nil), ⟨_, at2, rfl, _, rfl⟩⟩
    refine ⟨.ref s.heap.objs.size, _, I1, rfl, ⟨_, y, rfl, fresh, rfl, fun zs hzs => by rw [I.tuple_inj hzs hys]; exact hy⟩, ⟨⟨x, ?_⟩, hst.1.at fun o z => (sb.2 it (Ne.symm hne)).trans z, hne⟩, fun b hb => ?_⟩
    · rw [show ((i + 1 : Nat) : Int) = (i : Int) + 1 by omega]
      exact hc2
    · have hb2 := hb
      simp only [List.mem_cons, List.not_mem_nil, or_false] at hb2
      have lt : b < s.heap.objs.size := by rcases hb2 with rfl | rfl <;> assumption
      rw [upd_ne (Nat.ne_of_lt lt)]
      exact (hf b hb).1
  done := by
    intro X hP hw hK calm i pins s σ H E I hf st hg
    subst hP; subst hw; subst hK
    obtain ⟨⟨old, hc⟩, hit, hne⟩ := st
    obtain ⟨ys, hys, hy⟩ := hg
    obtain ⟨its, rv, pt, hz⟩ := I.tuple hys
    have isT : s.heap.IsTuple a its.toArray := pt
    obtain ⟨f0, f1, f2, f3, f4, f5⟩ := hf it (by simp)
    have hl := rv.length
    have none : its.toArray[i]? = none := by simp; omega
    refine enum_over hc hit isT (I.ok.hd calm) none fun h' eb => ⟨rfl, ?_⟩
    exact I.turned (t' := s.toks) (fun b o hb z => eb b o hb z) f0 f1 f3 f4 f5
  self := fun A i s Q E st h => st.1.elim fun old hc => wpAny_pyIter_enum hc h
/-- enumerate(v), v an iterator's making told -/
theorem new_enum {v : Value} {o : Obj} {G : Heap → Prop} (B : Begins v o G) : Meets (Builtin.«enumerate.__new__» ⟨[.type "enumerate", v], []⟩) (fun _ R s => G s.heap ∧
    R (.ok (.ret (.ref (s.heap.push o).objs.size))) { s with heap := (s.heap.push o).push { cls := .type "enumerate", data := .fields #[.none, .bool false, .ref s.heap.objs.size, rawInt 0, .none, .none] } }) :=
  .of_wp fun prog w A R s h => by
    obtain ⟨hp, gs, dr, tk, os⟩ := s
    obtain ⟨hg, h⟩ := h
    have hsub := sub_enumerate
    have begun : ∀ {A' : Around} {E : Value → Shared → Prop} {Q : Value → Shared → Prop}, Q (.ref hp.objs.size) ⟨hp.push o, gs, dr, tk, os⟩ → wpAny (model prog w) A' (pyIter v) Q E ⟨hp, gs, dr, tk, os⟩ := fun z => B.iter prog w _ _ ⟨hp, gs, dr, tk, os⟩ _ hg z
    wp_walk using begun
    refine wpAny_stack_any fun st => wpAny_pure ?_
    split
    · rename_i cl _ _ _ _ _
      cases (cl == Value.type "enumerate") <;>
      · wp_walk using begun
        exact ⟨_, rfl, h⟩
    · wp_walk using begun
      exact ⟨_, rfl, h⟩
theorem call_enum {P : Program} {w : World} {A : Around} {E : Value → Shared → Prop} {s : Shared} {v : Value} {o : Obj} {G : Heap → Prop} {Q : Value → Shared → Prop} (B : Begins v o G) (hg : G s.heap)
    (h : ∀ h', IsEnum h' (s.heap.objs.size + 1) s.heap.objs.size 0 .none → h'.get? s.heap.objs.size = some o → (∀ b ob, s.heap.get? b = some ob → h'.get? b = some ob) → Q (.ref (s.heap.objs.size + 1)) { s with heap := h' }) :
    wpAny (model P w) A (call (.type "enumerate") [v]) Q E s := by
  refine callType_new F.called_enumerate (by decide) (F.typeCall_enumerate_1 _) (F.newCall_enumerate_1 _) (fun ob => F.args_object_init_2 ob _) F.entry_enumerate_new (new_enum B) ⟨hg, ?_⟩
  have hz : (s.heap.push o).objs.size = s.heap.objs.size + 1 := Heap.size_push ..
  have he := Heap.get?_push_size (s.heap.push o) (o := { cls := .type "enumerate", data := .fields #[.none, .bool false, .ref s.heap.objs.size, rawInt 0, .none, .none] }) rfl
  show _ ∧ _
  rw [hz] at he ⊢
  exact ⟨⟨_, he, rfl⟩, h _ he (Heap.get?_push_of_some _ (Heap.get?_push_size _ B.free)) fun b ob z => Heap.get?_push_of_some _ (Heap.get?_push_of_some _ z)⟩
def iEnA (K : PySem.W.Frag) (ta : TA) : TI := fun σ H R => ta σ H fun vs H1 => ∃ a, vs = [.ref a] ∧ ((∃ xs, SqL K H1 a xs) ∧ R (Ite K a) H1 ∨ (∃ xs, SqT K H1 a xs) ∧ R (ItT K a) H1)
theorem pi_enA {X : Cx} {e : Expr} {ta : TA} {p pos tpos : Pos} {elts : List Expr} {kk : Nat} (hg : Gl X "enumerate") (hm : X.mg "enumerate" = none) (ha : PA X [e] ta) (hs : starEach [e] X.env = [(false, eval e X.env)] := by rfl) :
    PI X (.Tuple elts kk tpos) (.Call (.Name "enumerate" p) [e] [] pos) (iEnA X.K ta) := by
  refine ⟨fun pins s σ H R I h => Call_ (ld_blt I hg hm boot_enumerate (PyProof.Rows.callWith_type1 (thn (ha.run pos pins s σ H _ I h) fun us s1 ⟨vs, H1, I1, r1, a, ex, q⟩ => ?_) hs rfl))⟩
  subst ex
  cases r1 with
  | cons r rr =>
    cases rr
    cases r
    have above : ∀ b ∈ [s1.heap.objs.size + 1, s1.heap.objs.size], s1.heap.objs.size ≤ b := fun b hb => by
      simp only [List.mem_cons, List.not_mem_nil, or_false] at hb
      rcases hb with rfl | rfl
      · exact Nat.le_succ _
      · exact Nat.le_refl _
    rcases q with ⟨⟨xs, hq⟩, q⟩ | ⟨⟨xs, hq⟩, q⟩
    · obtain ⟨its, rv, pl, hz⟩ := I1.list hq
      refine call_enum (begins_list a its.toArray) pl.isList fun h' he hit hk => wpAny_pyIter_enum he ⟨s1.heap.objs.size + 1, [s1.heap.objs.size + 1, s1.heap.objs.size], _, _, H1, rfl, I1.kept (t' := s1.toks) hk, turn_enum a (s1.heap.objs.size + 1) s1.heap.objs.size, ⟨⟨.none, he⟩, ⟨_, hit, rfl, rfl⟩, Nat.succ_ne_self _⟩, fun b hb => I1.fpOk (above b hb) (I1.hok.fresh (above b hb)), q⟩
    · obtain ⟨its, rv, pl, hz⟩ := I1.tuple hq
      refine call_enum (begins_tuple a its.toArray) pl fun h' he hit hk => wpAny_pyIter_enum he ⟨s1.heap.objs.size + 1, [s1.heap.objs.size + 1, s1.heap.objs.size], _, _, H1, rfl, I1.kept (t' := s1.toks) hk, turnT a (s1.heap.objs.size + 1) s1.heap.objs.size, ⟨⟨.none, he⟩, ⟨_, hit, rfl, rfl⟩, Nat.succ_ne_self _⟩, fun b hb => I1.fpOk (above b hb) (I1.hok.fresh (above b hb)), q⟩
def pEnA (p : PTA) : PTI := fun X e Q => p X e fun ws e1 => kDs e1 ws fun ds => match ds with
  | [.list xs] => Q (nums xs) e1
  | [.tuple xs] => Q (nums xs) e1
  | _ => False
section
variable {K : PySem.W.Frag} {E : XK} {ta : TA} {pa : PTA}
theorem feeds_eT {a : Addr} {ds : List D} : Feeds K (ItT K a) (nums ds) (fun G => Dp K G (.ref a) (.tuple ds)) := by
  refine ⟨fun G G' h s => dp_sub s _ _ h, fun i G H h s => ?_⟩
  obtain ⟨b, xs, e, hs, al⟩ := dp_tuple h
  cases e
  refine ⟨fun d hd => ?_, fun hl => ⟨xs, sqt_sub s hs, by rw [al.1]; rw [nums_len] at hl; exact hl⟩⟩
  obtain ⟨y, hy, rfl⟩ := nums_at.mp hd
  obtain ⟨v, e1, r1⟩ := al.get hy
  refine ⟨⟨xs, v, sqt_sub s hs, e1⟩, fun x H' hx => ?_⟩
  obtain ⟨c, z, rfl, hc, rfl, hz⟩ := hx
  refine ⟨Sub.new hc, fun G' g nw => ?_⟩
  have e2 := hz xs (sqt_sub s hs)
  rw [e1] at e2
  cases e2
  exact Dp.tup (.inl (.inl (nw c _ hc upd_same))) (.cons (.int _) (.cons (dp_sub g _ _ r1) .nil))
theorem si_enA (h : SndA K E ta pa) : SndI K E (iEnA K ta) (pEnA pa) := ⟨fun H0 iv as e σ H X Q R S hq k l => by
  refine h.run H0 iv as e σ H X _ _ S hq (fun vs ws as1 e1 H1 h1 S1 l1 w1 => ?_) l
  obtain ⟨ds, ed, h2⟩ := kDs_elim h1
  split at h2
  · obtain ⟨v, rfl, dp⟩ := al_one (asDs_wr S1 w1 ed)
    obtain ⟨a, ys, rfl, hs, al⟩ := dp_list dp
    exact ⟨a, rfl, .inl ⟨⟨ys, sql_sub hid_sub hs⟩, k _ _ _ as1 e1 H1 h2 S1 l1 feeds_e dp⟩⟩
  · obtain ⟨v, rfl, dp⟩ := al_one (asDs_wr S1 w1 ed)
    obtain ⟨a, ys, rfl, hs, al⟩ := dp_tuple dp
    exact ⟨a, rfl, .inr ⟨⟨ys, sqt_sub hid_sub hs⟩, k _ _ _ as1 e1 H1 h2 S1 l1 feeds_eT dp⟩⟩
  · exact h2.elim⟩
theorem id_enA {K : PySem.W.Frag} {X : Cx} {E : XK} {a : Expr} {tr : TA} {pr : PTA} {pos p2 tpos : Pos} {elts : List Expr} {kk : Nat} (hg : Gl X "enumerate") (hm : X.mg "enumerate" = none) (h : AD X E [a] tr pr) (hs : starEach [a] X.env = [(false, eval a X.env)] := by rfl) (hK : X.K = K := by rfl) :
    ID X E (.Tuple elts kk tpos) (.Call (.Name "enumerate" p2) [a] [] pos) (iEnA K tr) (pEnA pr) := by
  subst hK
  exact ⟨pi_enA hg hm h.a hs, si_enA h.b⟩
end
/-! ### first words as plain data -/
def pairD (p : Nat × List Nat) : D := .tuple [nD p.1, wdD p.2]
def fstD (S : Fst) : D := .list (S.map pairD)
def dicF (S : Fst) : List (Key × D) := S.map fun p => (.inl (p.1 : Int), wdD p.2)
def keysF (S : Fst) : List D := S.map fun p => nD p.1
theorem look_dic {v : Nat} : ∀ {S : Fst}, lookD ((dicF S).map fun z => (keyD z.1, z.2)) (.int (v : Int)) = (S.find? fun p => p.1 == v).map fun p => wdD p.2
  | [] => rfl
  | p :: S => by
    have e : keq (.int (p.1 : Int)) (.int (v : Int)) = (p.1 == v) := by
      rw [show keq (.int (p.1 : Int)) (.int (v : Int)) = decide ((.inl (p.1 : Int) : Key) = .inl (v : Int)) from keq_key (.inl _) (.inl _)]
      by_cases h : p.1 = v
      · simp [h]
      · have : ¬ (p.1 : Int) = (v : Int) := by omega
        simp [h, this]
    show (if keq (.int (p.1 : Int)) (.int (v : Int)) = true then some (wdD p.2) else lookD ((dicF S).map fun z => (keyD z.1, z.2)) (.int (v : Int))) = _
    rw [e, List.find?_cons]
    cases h : p.1 == v with
    | true => rfl
    | false => simpa using look_dic (S := S)
theorem look_in {S : Fst} {v : Nat} : (lookD ((dicF S).map fun z => (keyD z.1, z.2)) (.int (v : Int))).isSome = keyIn S v := by
  rw [look_dic, Option.isSome_map]
  cases h : keyIn S v with
  | false => rw [find_none h]; rfl
  | true =>
    obtain ⟨p, hp, e⟩ := keyIn_mem.mp h
    rw [List.find?_isSome]
    exact ⟨p, hp, by simp [e]⟩
theorem put_dic {S : Fst} {v : Nat} {w : List Nat} (h : keyIn S v = false) : putD (dicF S) (.inl (v : Int)) (wdD w) = dicF (S ++ [(v, w)]) := by
  unfold putD
  rw [if_neg]
  · simp [dicF]
  · intro z
    simp only [dicF, List.any_map, List.any_eq_true, Function.comp, decide_eq_true_eq, Sum.inl.injEq] at z
    obtain ⟨p, hp, e⟩ := z
    rw [keyIn_mem.mpr ⟨p, hp, by omega⟩] at h
    cases h
theorem keys_dic {S : Fst} : (dicF S).map (fun z => keyD z.1) = keysF S := by simp [dicF, keysF, keyD, nD]
theorem items_dic {S : Fst} : (dicF S).map (fun z => PyData.tuple [keyD z.1, z.2]) = S.map pairD := by simp [dicF, pairD, keyD, nD]
theorem num_at {L : List Nat} {i : Nat} {d : D} (h : (nums (L.map nD))[i]? = some d) : i < L.length ∧ d = .tuple [.int (i : Nat), nD (L.getD i 0)] := by
  obtain ⟨y, hy, rfl⟩ := nums_at.mp h
  obtain ⟨a, ha, rfl⟩ := map_at hy
  exact ⟨(List.getElem?_eq_some_iff.mp ha).1, by rw [getD_some ha]⟩
theorem num_len {L : List Nat} : (nums (L.map nD)).length = L.length := by rw [nums_len, List.length_map]
def s_first_words : Sc := fun ws ob X Q => ∃ T L, Sg T L ∧ 1 ≤ T.length ∧ T.length ≤ 4 ∧ 1 ≤ L.length ∧ L.length ≤ 3 ∧ ws = [.dat (sgD T L)] ∧ ob = [] ∧ ∀ more, Q (fstD (dueF T L 4)) more
def s_has_common_word : Sc := fun ws ob X Q => ∃ T L S S2, Sg T L ∧ 1 ≤ T.length ∧ T.length ≤ 4 ∧ 1 ≤ L.length ∧ L.length ≤ 3 ∧ ws = [.dat (sgD T L), .dat (rowD S), .dat (rowD S2)] ∧ ob = [] ∧ ∀ more, Q (.bool ((dueF T L 4).any fun p => S.contains p.1 && S2.contains p.1)) more
def s__law_due : Sc := fun ws ob X Q => ∃ T L, Sg T L ∧ 1 ≤ T.length ∧ T.length ≤ 4 ∧ 1 ≤ L.length ∧ L.length ≤ 3 ∧ ws = [.dat (sgD T L)] ∧ ob = [] ∧ ∀ more, Q (fstD (dueF T L 4)) more
end PL

/-! Statements that are never reached; a dict of the module. -/
namespace PL
open PySem PySem.Spec PyProof.Rows L2

/-! ### never reached -/
theorem sd_nev {X : Cx} {E : XK} {st : Stmt} : SD X E st (fun _ _ _ => False) (fun _ _ => False) := ⟨⟨fun _ _ _ _ _ _ h => h.elim⟩, ⟨fun _ _ _ _ _ _ _ _ _ h _ _ _ _ _ => h.elim⟩⟩
/-! ### a written dict of the module: texts to numbers -/
def KdAt (K : PySem.W.Frag) (d : Addr) (z : Str) : Option Int → Prop
  | some i => ∃ t, PySem.W.nsIn K d z = some (some (.int i t))
  | none => PySem.W.nsIn K d z = some none
structure KdT (K : PySem.W.Frag) (w : World) (d : Addr) (T : List (Str × Option Int)) : Prop where
  dict : ∃ es n, KDict K w d es n
  at_ : ∀ p ∈ T, KdAt K d p.1 p.2
def pKdIn (T : List (Str × Option Int)) (neg : Bool) (pa : PTE) : PTE := fun X e Q => pa X e fun w e1 => kD e1 w fun a => match a with
  | .str z => ∃ o, (z, o) ∈ T ∧ Q (.dat (.bool (if neg then !o.isSome else o.isSome))) e1
  | _ => False
def pKdGet (T : List (Str × Option Int)) (pa : PTE) : PTE := fun X e Q => pa X e fun w e1 => kD e1 w fun a => match a with
  | .str z => ∃ i, (z, some i) ∈ T ∧ Q (.dat (.int i)) e1
  | _ => False
section
variable {K : PySem.W.Frag} {E : XK} {w : World} {d : Addr} {T : List (Str × Option Int)} {ta : TE} {pa : PTE}
theorem snd_kdIn (D : KdT K w d T) (neg : Bool) (ha : SndE K E ta pa) : SndE K E (tOp (fun x y H Q => ∃ (z : Str) (r : Option Value), x = .str z ∧ y = .ref d ∧ PySem.W.nsIn K d z = some r ∧ Q (.bl (if neg then !r.isSome else r.isSome)) H) ta (tC (.ref d))) (pKdIn T neg pa) := ⟨fun H0 iv as e σ H X Q R S h k l => by
  refine ha.run H0 iv as e σ H X _ _ S h (fun v wv as1 e1 H1 h1 S1 l1 w1 => ?_) l
  obtain ⟨a, ea, h2⟩ := kD_elim h1
  split at h2
  · rename_i z
    obtain ⟨o, hm, h3⟩ := h2
    have q := D.at_ _ hm
    have ev : v = .str z := rv_str (.inl (asD_wr S1 w1 ea) : RV K _ H1 v (.str z))
    cases o with
    | none => exact ⟨z, none, ev, rfl, q, k _ _ as1 e1 H1 h3 S1 l1 (Dp.bl _)⟩
    | some i =>
      obtain ⟨t, q⟩ := q
      exact ⟨z, some _, ev, rfl, q, k _ _ as1 e1 H1 h3 S1 l1 (Dp.bl _)⟩
  · exact h2.elim⟩
theorem snd_kdGet (D : KdT K w d T) (ha : SndE K E ta pa) : SndE K E (tOp (rIxD K w) (tC (.ref d)) ta) (pKdGet T pa) := ⟨fun H0 iv as e σ H X Q R S h k l => by
  refine ha.run H0 iv as e σ H X _ _ S h (fun v wv as1 e1 H1 h1 S1 l1 w1 => ?_) l
  obtain ⟨a, ea, h2⟩ := kD_elim h1
  split at h2
  · rename_i z
    obtain ⟨i, hm, h3⟩ := h2
    obtain ⟨t, q⟩ := D.at_ _ hm
    have ev : v = .str z := rv_str (.inl (asD_wr S1 w1 ea) : RV K _ H1 v (.str z))
    obtain ⟨es, n, Dk⟩ := D.dict
    exact ⟨d, z, .int i, rfl, ev, ⟨es, n, _, Dk.at_, Dk.lit, q, ⟨t, rfl⟩⟩, k _ _ as1 e1 H1 h3 S1 l1 (Dp.int _)⟩
  · exact h2.elim⟩
end
section
variable {X : Cx} {E : XK} {a : Expr} {ta : TE} {pa : PTE} {pos p2 : Pos} {x : Str} {d : Addr} {T : List (Str × Option Int)}
theorem td_kdNin (hg : Gl X x) (hm : X.mg x = some (.ref d)) (D : KdT X.K X.w d T) (ha : PD X E a ta pa) (hd : (x == ("__debug__" : Str)) = false := by decide) (hk : behindInMarks .NotIn (.Name x p2) = false := by rfl) :
    TD X E (.Compare a [.NotIn] [.Name x p2] pos) (tTest (tOp (fun x y H Q => ∃ (z : Str) (r : Option Value), x = .str z ∧ y = .ref d ∧ PySem.W.nsIn X.K d z = some r ∧ Q (.bl (if true then !r.isSome else r.isSome)) H) ta (tC (.ref d)))) (pTst (pKdIn T true pa)) := by
  obtain ⟨es, n, Dk⟩ := D.dict
  exact ⟨pt_cmpR (op_notIn_kd Dk) ha.a (pe_glob hg hm rfl hd) hk, snd_tst (snd_kdIn D true ha.b)⟩
theorem pd_kdGet (hg : Gl X x) (hm : X.mg x = some (.ref d)) (D : KdT X.K X.w d T) (ha : PD X E a ta pa) (hd : (x == ("__debug__" : Str)) = false := by decide) (hs : PlainIx a := by exact fun _ _ => rfl) :
    PD X E (.Subscript (.Name x p2) a pos) (tOp (rIxD X.K X.w) (tC (.ref d)) ta) (pKdGet T pa) := ⟨pe_ix ix_kdict (pe_glob hg hm rfl hd) ha.a hs, snd_kdGet D ha.b⟩
end
end PL

/-! Filters as plain data. -/
namespace PL
open PySem PySem.Spec PyProof.Rows L2

def numsT : List (Str × Option Int) := [("none", some 0), ("empty", some 0), ("letter", some 1), ("or", some 2), ("not", some 1), ("behind", some 2), ("and", none), ("again", none), ("None", none)]
/-- a line: its name, how many numbers the name wants, its numbers -/
structure Raw where
  z : Str
  o : Option Int
  ns : List Int
def rawD (r : Raw) : D := .tuple (.str r.z :: r.ns.map .int)
def linesD (ls : List Raw) : D := .tuple (ls.map rawD)
structure Kn (r : Raw) : Prop where
  mem : (r.z, r.o) ∈ numsT
  few : r.ns.length ≤ 1000
def below (ns : List Int) (m : Int) : Bool := ns.all fun n => decide (0 ≤ n) && decide (n < m)
def lineOk (r : Raw) (k : Nat) : Bool := match r.o with
  | none => false
  | some m => decide (((r.ns.length + 1 : Nat) : Int) = m + 1) && (if r.z = "letter" then below r.ns 3 else below r.ns k)
theorem lineOk_some {z : Str} {m : Int} {ns : List Int} {k : Nat} : lineOk ⟨z, some m, ns⟩ k = (decide (((ns.length + 1 : Nat) : Int) = m + 1) && (if z = "letter" then below ns 3 else below ns k)) := rfl
def badAt (ls : List Raw) (i : Nat) : Bool := match ls[i]? with
  | some r => !lineOk r i
  | none => false
def faultOf (ls : List Raw) : Option Nat :=
  if ls.isEmpty = true then some 0 else match (List.range (ls.take 300).length).find? (badAt (ls.take 300)) with
    | some i => some i
    | none => if 300 < ls.length then some 300 else none
theorem find_first {f : Nat → Bool} {n i : Nat} (hi : i < n) (h : f i = true) (hb : ∀ j < i, f j = false) : (List.range n).find? f = some i := by
  rw [List.find?_eq_some_iff_append]
  refine ⟨h, List.range i, (List.range' (i + 1) (n - (i + 1))), ?_, fun j hj => by rw [hb j (List.mem_range.mp hj)]; rfl⟩
  rw [List.range_eq_range', List.range_eq_range']
  have e : n = i + (1 + (n - (i + 1))) := by omega
  conv => lhs; rw [e, ← List.range'_append_1]
  congr 1
  rw [Nat.add_comm 1, List.range'_succ]
  simp
inductive Ln where
  | none
  | empty
  | letter (a : Nat)
  | or (a b : Nat)
  | not (a : Nat)
  | behind (a b : Nat)
def Ln.raw : Ln → Raw
  | .none => ⟨"none", some 0, []⟩
  | .empty => ⟨"empty", some 0, []⟩
  | .letter a => ⟨"letter", some 1, [a]⟩
  | .or a b => ⟨"or", some 2, [a, b]⟩
  | .not a => ⟨"not", some 1, [a]⟩
  | .behind a b => ⟨"behind", some 2, [a, b]⟩
def Ln.ok (k : Nat) : Ln → Prop
  | .none => True
  | .empty => True
  | .letter a => a < 3
  | .or a b => a < k ∧ b < k
  | .not a => a < k
  | .behind a b => a < k ∧ b < k
theorem Ln.kn : ∀ l : Ln, Kn l.raw
  | .none => ⟨by simp [raw, numsT], by simp [raw]⟩
  | .empty => ⟨by simp [raw, numsT], by simp [raw]⟩
  | .letter a => ⟨by simp [raw, numsT], by simp [raw]⟩
  | .or a b => ⟨by simp [raw, numsT], by simp [raw]⟩
  | .not a => ⟨by simp [raw, numsT], by simp [raw]⟩
  | .behind a b => ⟨by simp [raw, numsT], by simp [raw]⟩
theorem or_l : ¬ (("or" : Str) = "letter") := by decide +kernel
theorem not_l : ¬ (("not" : Str) = "letter") := by decide +kernel
theorem behind_l : ¬ (("behind" : Str) = "letter") := by decide +kernel
theorem none_l : ¬ (("none" : Str) = "letter") := by decide +kernel
theorem empty_l : ¬ (("empty" : Str) = "letter") := by decide +kernel
theorem Ln.good {k : Nat} : ∀ {l : Ln}, l.ok k → lineOk l.raw k = true
  | .none, _ => by simp [lineOk, Ln.raw, none_l, below]
  | .empty, _ => by simp [lineOk, Ln.raw, empty_l, below]
  | .letter a, h => by
    have h : a < 3 := h
    simp [lineOk, Ln.raw, below]; omega
  | .or a b, h => by
    have h : a < k ∧ b < k := h
    simp [lineOk, Ln.raw, or_l, below, h]
  | .not a, h => by
    have h : a < k := h
    simp [lineOk, Ln.raw, not_l, below, h]
  | .behind a b, h => by
    have h : a < k ∧ b < k := h
    simp [lineOk, Ln.raw, behind_l, below, h]
theorem no {c : Bool} {P : Prop} (h : c = true) (hn : c = false) : P := by rw [h] at hn; cases hn
theorem yes {c : Bool} {P : Prop} (h : c = false) (hn : c = true) : P := by rw [h] at hn; cases hn
theorem eq_none : decide (("none" : Str) = "none") = true := decide_eq_true rfl
theorem ne_none_empty : decide (("none" : Str) = "empty") = false := by decide +kernel
theorem ne_none_letter : decide (("none" : Str) = "letter") = false := by decide +kernel
theorem ne_none_or : decide (("none" : Str) = "or") = false := by decide +kernel
theorem ne_none_not : decide (("none" : Str) = "not") = false := by decide +kernel
theorem ne_none_behind : decide (("none" : Str) = "behind") = false := by decide +kernel
theorem eq_empty : decide (("empty" : Str) = "empty") = true := decide_eq_true rfl
theorem ne_empty_none : decide (("empty" : Str) = "none") = false := by decide +kernel
theorem ne_empty_letter : decide (("empty" : Str) = "letter") = false := by decide +kernel
theorem ne_empty_or : decide (("empty" : Str) = "or") = false := by decide +kernel
theorem ne_empty_not : decide (("empty" : Str) = "not") = false := by decide +kernel
theorem ne_empty_behind : decide (("empty" : Str) = "behind") = false := by decide +kernel
theorem eq_letter : decide (("letter" : Str) = "letter") = true := decide_eq_true rfl
theorem ne_letter_none : decide (("letter" : Str) = "none") = false := by decide +kernel
theorem ne_letter_empty : decide (("letter" : Str) = "empty") = false := by decide +kernel
theorem ne_letter_or : decide (("letter" : Str) = "or") = false := by decide +kernel
theorem ne_letter_not : decide (("letter" : Str) = "not") = false := by decide +kernel
theorem ne_letter_behind : decide (("letter" : Str) = "behind") = false := by decide +kernel
theorem eq_or : decide (("or" : Str) = "or") = true := decide_eq_true rfl
theorem ne_or_none : decide (("or" : Str) = "none") = false := by decide +kernel
theorem ne_or_empty : decide (("or" : Str) = "empty") = false := by decide +kernel
theorem ne_or_letter : decide (("or" : Str) = "letter") = false := by decide +kernel
theorem ne_or_not : decide (("or" : Str) = "not") = false := by decide +kernel
theorem ne_or_behind : decide (("or" : Str) = "behind") = false := by decide +kernel
theorem eq_not : decide (("not" : Str) = "not") = true := decide_eq_true rfl
theorem ne_not_none : decide (("not" : Str) = "none") = false := by decide +kernel
theorem ne_not_empty : decide (("not" : Str) = "empty") = false := by decide +kernel
theorem ne_not_letter : decide (("not" : Str) = "letter") = false := by decide +kernel
theorem ne_not_or : decide (("not" : Str) = "or") = false := by decide +kernel
theorem ne_not_behind : decide (("not" : Str) = "behind") = false := by decide +kernel
theorem eq_behind : decide (("behind" : Str) = "behind") = true := decide_eq_true rfl
theorem ne_behind_none : decide (("behind" : Str) = "none") = false := by decide +kernel
theorem ne_behind_empty : decide (("behind" : Str) = "empty") = false := by decide +kernel
theorem ne_behind_letter : decide (("behind" : Str) = "letter") = false := by decide +kernel
theorem ne_behind_or : decide (("behind" : Str) = "or") = false := by decide +kernel
theorem ne_behind_not : decide (("behind" : Str) = "not") = false := by decide +kernel
/-- a filter that is valid -/
structure OkF (ls : List Ln) : Prop where
  ok : ∀ (i : Nat) (l : Ln), ls[i]? = some l → l.ok i
theorem OkF.fault {ls : List Ln} (h : OkF ls) (h1 : 1 ≤ ls.length) (h3 : ls.length ≤ 300) : faultOf (ls.map Ln.raw) = none := by
  unfold faultOf
  have e : (ls.map Ln.raw).take 300 = ls.map Ln.raw := List.take_of_length_le (by simpa using h3)
  rw [e, if_neg (by cases ls <;> simp at h1 ⊢)]
  have none : (List.range (ls.map Ln.raw).length).find? (badAt (ls.map Ln.raw)) = none := by
    rw [List.find?_eq_none]
    intro i _ z
    unfold badAt at z
    rw [List.getElem?_map] at z
    cases hl : ls[i]? with
    | none => rw [hl] at z; simp at z
    | some l => rw [hl] at z; replace z : (!lineOk l.raw i) = true := z; rw [Ln.good (h.ok i l hl)] at z; cases z
  rw [none]
  simp
  omega
def dep (ds : List Nat) : Ln → Nat
  | .none => 0
  | .empty => 1
  | .letter _ => 2
  | .or a b => max (ds.getD a 0) (ds.getD b 0)
  | .not a => ds.getD a 0
  | .behind a b => max (ds.getD a 0) (ds.getD b 0) + 1
def deps (ls : List Ln) : List Nat := ls.foldl (fun ds l => ds ++ [dep ds l]) []
def Ln.parts : Ln → List Nat
  | .none => []
  | .empty => []
  | .letter _ => []
  | .or a b => [a, b]
  | .not a => [a]
  | .behind a b => [a, b]
theorem deps_len : ∀ (ls : List Ln) (ds : List Nat), (ls.foldl (fun ds l => ds ++ [dep ds l]) ds).length = ds.length + ls.length
  | [], ds => rfl
  | l :: ls, ds => by rw [List.foldl_cons, deps_len ls, List.length_append, List.length_cons]; simp; omega
/-! ### promises -/
def s_are_below : Sc := fun ws ob X Q => ∃ (ns : List Int) (m : Int) (d : D), (d = .tuple (ns.map .int) ∨ d = .list (ns.map .int)) ∧ ns.length ≤ 1000 ∧ ws = [.dat d, .dat (.int m)] ∧ ob = [] ∧ ∀ more, Q (.bool (below ns m)) more
def s_is_line : Sc := fun ws ob X Q => ∃ (r : Raw) (k : Nat), Kn r ∧ ws = [.dat (rawD r), .dat (nD k)] ∧ ob = [] ∧ ∀ more, Q (.bool (lineOk r k)) more
def s_filter_fault : Sc := fun ws ob X Q => ∃ ls : List Raw, (∀ r ∈ ls, Kn r) ∧ ls.length ≤ 100000 ∧ ws = [.dat (linesD ls)] ∧ ob = [] ∧ ∀ more, Q (vD (faultOf ls)) more
def s_check_filter : Sc := fun ws ob X Q => ∃ ls : List Raw, (∀ r ∈ ls, Kn r) ∧ ls.length ≤ 100000 ∧ faultOf ls = none ∧ ws = [.dat (linesD ls)] ∧ ob = [] ∧ ∀ more, Q .none more
def s_parts_of : Sc := fun ws ob X Q => ∃ l : Ln, ws = [.dat (rawD l.raw)] ∧ ob = [] ∧ ∀ more, Q (rowD l.parts) more
def s_line_depth : Sc := fun ws ob X Q => ∃ (l : Ln) (ds : List Nat), l.ok ds.length ∧ ws = [.dat (rawD l.raw), .ref 0] ∧ ob = [.lst (ds.map nD)] ∧ ∀ more, Q (nD (dep ds l)) (.lst (ds.map nD) :: more)
def s_depth_of : Sc := fun ws ob X Q => ∃ ls : List Ln, OkF ls ∧ 1 ≤ ls.length ∧ ls.length ≤ 300 ∧ ws = [.dat (linesD (ls.map Ln.raw))] ∧ ob = [] ∧ ∀ more, Q (nD ((deps ls).getD (ls.length - 1) 0)) more
def s__law_lines : Sc := fun ws ob X Q => ∃ size : Nat, 1 ≤ size ∧ size ≤ 300 ∧ ws = [.ref 0, .dat (nD size)] ∧ ob = [.box] ∧ ∀ (ls : List Ln) more, OkF ls → ls.length = size → Q (linesD (ls.map Ln.raw)) (.box :: more)
end PL

/-! Filters with a wrong line. -/
namespace PL
open PySem PySem.Spec PyProof.Rows L2
theorem far_bad {k : Nat} {o : Bool} {far : Int} {ns : List Int} (h : far < 0 ∨ (k : Int) ≤ far) (hm : far ∈ ns) : (o && below ns k) = false := by
  have : below ns k = false := by
    unfold below
    rw [List.all_eq_false]
    refine ⟨far, hm, ?_⟩
    simp
    omega
  rw [this, Bool.and_false]
def OkP (ps : List Raw) : Prop := ∀ (i : Nat) (r : Raw), ps[i]? = some r → lineOk r i = true
theorem OkF.p {ls : List Ln} (h : OkF ls) : OkP (ls.map Ln.raw) := fun i r hr => by
  obtain ⟨l, hl, rfl⟩ := map_at' hr
  exact Ln.good (h.ok i l hl)
where map_at' {α β : Type} {f : α → β} {xs : List α} {i : Nat} {d : β} (h : (xs.map f)[i]? = some d) : ∃ a, xs[i]? = some a ∧ d = f a := map_at h
theorem OkP.take {ps : List Raw} (h : OkP ps) (n : Nat) : OkP (ps.take n) := fun i r hr => h i r (by
  rw [List.getElem?_take] at hr
  split at hr
  · exact hr
  · cases hr)
theorem fault_ins {ps rest : List Raw} {r : Raw} (h : OkP ps) (hl : ps.length < 300) (hb : lineOk r ps.length = false) : faultOf (ps ++ [r] ++ rest) = some ps.length := by
  unfold faultOf
  rw [if_neg (by cases ps <;> simp)]
  have at_ : ∀ i, i < 300 → ((ps ++ [r] ++ rest).take 300)[i]? = (ps ++ [r] ++ rest)[i]? := fun i hi => by rw [List.getElem?_take, if_pos hi]
  have e : (List.range ((ps ++ [r] ++ rest).take 300).length).find? (badAt ((ps ++ [r] ++ rest).take 300)) = some ps.length := by
    refine find_first ?_ ?_ fun j hj => ?_
    · rw [List.length_take, List.length_append, List.length_append, List.length_singleton]; omega
    · unfold badAt
      rw [at_ _ hl, List.append_assoc, List.getElem?_append_right (Nat.le_refl _), Nat.sub_self]
      show (!lineOk r ps.length) = true
      rw [hb]; rfl
    · unfold badAt
      rw [at_ _ (by omega), List.append_assoc, List.getElem?_append_left hj, List.getElem?_eq_getElem hj]
      show (!lineOk ps[j] j) = false
      rw [h j _ (List.getElem?_eq_getElem hj)]; rfl
  rw [e]
theorem fault_good {ps rest : List Raw} (h : OkP ps) (h1 : 1 ≤ ps.length) (h3 : ps.length = 300 ∨ ps.length < 300 ∧ rest = []) : faultOf (ps ++ rest) = if 0 < rest.length then some 300 else none := by
  unfold faultOf
  rw [if_neg (by cases ps <;> simp at h1 ⊢)]
  have e0 : (ps ++ rest).take 300 = ps := by
    rcases h3 with h3 | ⟨h3, rfl⟩
    · rw [← h3, List.take_left']; rfl
    · rw [List.append_nil, List.take_of_length_le (by omega)]
  have e : (List.range ((ps ++ rest).take 300).length).find? (badAt ((ps ++ rest).take 300)) = none := by
    rw [e0, List.find?_eq_none]
    intro i hi z
    have hi := List.mem_range.mp hi
    unfold badAt at z
    rw [List.getElem?_eq_getElem hi] at z
    replace z : (!lineOk ps[i] i) = true := z
    rw [h i _ (List.getElem?_eq_getElem hi)] at z
    cases z
  rw [e, List.length_append]
  rcases h3 with h3 | ⟨h3, rfl⟩
  · simp [h3]
  · simp; omega
theorem okp_rep {n : Nat} {l : Ln} (h : ∀ k, l.ok k) : OkP (List.replicate n l.raw) := fun i r hr => by
  rw [List.getElem?_replicate] at hr
  split at hr
  · cases hr; exact Ln.good (h i)
  · cases hr
theorem kn_rep {n : Nat} {l : Ln} : ∀ r ∈ List.replicate n l.raw, Kn r := fun r hr => by
  rw [List.eq_of_mem_replicate hr]; exact l.kn
theorem kn_app {a b : List Raw} (h1 : ∀ r ∈ a, Kn r) (h2 : ∀ r ∈ b, Kn r) : ∀ r ∈ a ++ b, Kn r := fun r hr => (List.mem_append.mp hr).elim (h1 r) (h2 r)
theorem kn_one {a : Raw} (h1 : Kn a) : ∀ r ∈ [a], Kn r := fun r hr => by simp at hr; subst hr; exact h1
theorem cut_take {xs : List D} {k : Nat} (h : k ≤ xs.length) : cutD xs none (some (k : Int)) = xs.take k := by
  unfold cutD
  rw [HT.sIx_nat]
  simp [HT.sIx_none, Nat.min_eq_left h]
theorem cut_drop {xs : List D} {k : Nat} (h : k ≤ xs.length) : cutD xs (some (k : Int)) none = xs.drop k := by
  unfold cutD
  rw [HT.sIx_nat]
  rw [HT.sIx_none, Nat.min_eq_left h]
  exact List.take_of_length_le (by rw [List.length_drop]; exact Nat.le_refl _)
def s__law_wrong : Sc := fun ws ob X Q => ∃ k : Nat, k ≤ 100000 ∧ ws = [.ref 0, .dat (nD k)] ∧ ob = [.box] ∧ ∀ r more, Kn r → lineOk r k = false → Q (rawD r) (.box :: more)
end PL

/-! sorted(set(t)) of a tuple of numbers. -/
namespace PL
open PySem PySem.Spec PyProof.Rows L2

def rSetT (K : PySem.W.Frag) (w : World) : List V → Hp → VK → Prop := fun xs H Q => ∃ (p : Addr) (ns : List Int), xs = [.ref p] ∧ SqT K H p (ns.map V.int) ∧ ns.length ≤ 1000 ∧ ∀ (a : Addr) (c : Nat), H a = none → c ≤ ns.length → Q (.ref a) (upd H a (SetO w a (fun k => decide (k ∈ ns)) c))
theorem cr_setT {X : Cx} (hc : X.calm = true) : CallR X (.type "set") (rSetT X.K X.w) := by
  intro pins s σ H xs us Q I r h
  obtain ⟨p, ns, rfl, hq, hl, q⟩ := h
  rw [Vals.ref1 r]
  obtain ⟨its, rv, pt, hz⟩ := I.tuple hq
  have isT : s.heap.IsTuple p its.toArray := pt
  refine call_set_tupI ns (I.ok.hd hc) isT (ints_of_vals rv) (by unfold scanBound; omega) fun h' tk c R hcn k => ?_
  exact ⟨.ref _, upd H s.heap.objs.size (SetO X.w s.heap.objs.size (fun j => decide (j ∈ ns)) c), I.laid (t' := tk) k (Nat.le_refl _) (setO_new R), rfl, q _ c (I.hok.fresh (Nat.le_refl _)) hcn⟩
/-- sorted(set(..)): the numbers, ascending, each once -/
def pSS (pa : PTE) : PTE := fun X e Q => pa X e fun w e1 => kD e1 w fun d => match d with
  | .tuple ds => ∃ ns : List Int, ds = ns.map .int ∧ ns.length < 60 ∧ ∀ ms : List Int, ms.Pairwise (· < ·) → (∀ k, k ∈ ms ↔ k ∈ ns) → Q (.dat (.list (ms.map .int))) e1
  | _ => False
section
variable {K : PySem.W.Frag} {E : XK} {w : World} {ta : TE} {pa : PTE}
theorem snd_ss (ha : SndE K E ta pa) : SndE K E (tCB (rSortedSet w) (tCons (tCB (rSetT K w) (tCons ta tNil)) tNil)) (pSS pa) := ⟨fun H0 iv as e σ H X Q R S h k l => by
  refine ha.run H0 iv as e σ H X _ _ S h (fun v wv as1 e1 H1 h1 S1 l1 w1 => ?_) l
  obtain ⟨d, ed, h2⟩ := kD_elim h1
  split at h2
  · obtain ⟨ns, rfl, hl, h3⟩ := h2
    obtain ⟨a, xs, rfl, hs, al⟩ := dp_tuple (asD_wr S1 w1 ed)
    have ex : xs = ns.map V.int := al_ints_eq al
    subst ex
    refine ⟨a, ns, rfl, sqt_sub hid_sub hs, by omega, fun b c hb hc => ?_⟩
    refine ⟨b, _, c, rfl, upd_same, by omega, fun ms p up mem len hp => ?_⟩
    have g : Sub H1 (upd (upd H1 b (SetO w b (fun j => decide (j ∈ ns)) c)) p (.lst (ms.map V.int))) := (Sub.new hb).trans (Sub.new hp)
    obtain ⟨S2, l2⟩ := S1.grow g
    have hp1 : H1 p = none := by
      have : p ≠ b := fun z => by rw [z, upd_same] at hp; cases hp
      rw [upd_ne this] at hp; exact hp
    exact k _ _ as1 e1 _ (h3 ms up fun j => (mem j).trans (by simp)) S2 (l1.trans l2) (Dp.lst (.inl (.inl (S1.seen hp1 upd_same))) (dpAll_al.mpr (al_of_ints ms)))
  · exact h2.elim⟩
where al_ints_eq {G : Hp} {xs : List V} {ns : List Int} (al : Al (Dp K G) xs (ns.map .int)) : xs = ns.map V.int := al_intsL al
end
theorem pd_sortedSet {K : PySem.W.Frag} {X : Cx} {E : XK} {a : Expr} {ta : TE} {pa : PTE} {pos p2 p3 p4 : Pos} (hc : X.calm = true) (hg : Gl X "sorted") (hm : X.mg "sorted" = none) (hg2 : Gl X "set") (hm2 : X.mg "set" = none) (ha : PD X E a ta pa)
    (he : starEach [a] X.env = (false, eval a X.env) :: starEach [] X.env := by rfl) (hpl : (backTo p4 (starEach [] X.env)).any (·.1) = false := by rfl)
    (he2 : starEach [.Call (.Name "set" p3) [a] [] p4] X.env = (false, eval (.Call (.Name "set" p3) [a] [] p4) X.env) :: starEach [] X.env := by rfl) (hpl2 : (backTo pos (starEach [] X.env)).any (·.1) = false := by rfl) (hK : X.K = K := by rfl) :
    PD X E (.Call (.Name "sorted" p2) [.Call (.Name "set" p3) [a] [] p4] [] pos) (tCB (rSortedSet X.w) (tCons (tCB (rSetT K X.w) (tCons ta tNil)) tNil)) (pSS pa) := by
  subst hK
  exact ⟨pe_callB (cr_sortedSet hc) hg hm (by decide +kernel) (pa_cons (pe_callTy (cr_setT hc) hg2 hm2 (by decide +kernel) (pa_cons ha.a pa_nil he) (by decide) (by decide) he hpl) pa_nil he2) (by decide) (by decide) he2 hpl2, snd_ss ha.b⟩
/-! ### a, b, c, d = t -/
def pTup4 (i j m n : Nat) : PTG := fun w e Q => kD e w fun d => match d with
  | .tuple [a, b, c, f] => Q ⟨(((e.sl.set i (some (.dat a))).set j (some (.dat b))).set m (some (.dat c))).set n (some (.dat f)), e.ob⟩
  | _ => False
section
variable {K : PySem.W.Frag} {i j m n : Nat}
theorem sg_tup4 : SndG K [i, j, m, n] (gTup K 4 (gCons (gName i) (gCons (gName j) (gCons (gName m) (gCons (gName n) gNil))))) (pTup4 i j m n) := ⟨fun H0 iv as e σ H v w Q R S hw h k => by
  obtain ⟨d, ed, h1⟩ := kD_elim h
  split at h1
  · rename_i a b c f
    obtain ⟨p, xs, rfl, hs, al⟩ := dp_tuple (asD_wr S hw ed)
    obtain ⟨x1, r1, rfl, d1, al⟩ := al.cons_inv
    obtain ⟨x2, r2, rfl, d2, al⟩ := al.cons_inv
    obtain ⟨x3, r3, rfl, d3, al⟩ := al.cons_inv
    obtain ⟨x4, r4, rfl, d4, al⟩ := al.cons_inv
    have e0 := al.nil_inv
    subst e0
    refine ⟨p, [x1, x2, x3, x4], rfl, sqt_sub hid_sub hs, rfl, x1, _, rfl, x2, _, rfl, x3, _, rfl, x4, [], rfl, rfl, ?_⟩
    have S1 := S.set (i := i) (v := x1) (w := .dat a) d1
    have S2 := S1.set (i := j) (v := x2) (w := .dat b) d2
    have S3 := S2.set (i := m) (v := x3) (w := .dat c) d3
    have S4 := S3.set (i := n) (v := x4) (w := .dat f) d4
    refine k _ _ h1 S4 rfl (by simp) fun q hq => ?_
    simp only [List.mem_cons, not_or, List.not_mem_nil] at hq
    rw [List.getElem?_set_ne (Ne.symm hq.2.2.2.1), List.getElem?_set_ne (Ne.symm hq.2.2.1), List.getElem?_set_ne (Ne.symm hq.2.1), List.getElem?_set_ne (Ne.symm hq.1)]
  · exact h1.elim⟩
end
theorem gd_tup4 {K : PySem.W.Frag} {X : Cx} {x y z u : Str} {px py pz pu pos : Pos} {k : Nat} (i j m n : Nat) (hc : X.calm = true) (hN : X.N.Nodup) (hi : X.N[i]? = some x := by rfl) (hj : X.N[j]? = some y := by rfl) (hm : X.N[m]? = some z := by rfl) (hn : X.N[n]? = some u := by rfl)
    (hx : Loc X.env.scope x := by first | exact .inl rfl | exact .inr rfl) (hy : Loc X.env.scope y := by first | exact .inl rfl | exact .inr rfl) (hz : Loc X.env.scope z := by first | exact .inl rfl | exact .inr rfl) (hu : Loc X.env.scope u := by first | exact .inl rfl | exact .inr rfl)
    (fx : X.fn x = true ∨ X.env.scope.names.lookup x = some .local := by first | exact .inl rfl | exact .inr rfl) (fy : X.fn y = true ∨ X.env.scope.names.lookup y = some .local := by first | exact .inl rfl | exact .inr rfl) (fz : X.fn z = true ∨ X.env.scope.names.lookup z = some .local := by first | exact .inl rfl | exact .inr rfl) (fu : X.fn u = true ∨ X.env.scope.names.lookup u = some .local := by first | exact .inl rfl | exact .inr rfl) (hK : X.K = K := by rfl) :
    GD X [i, j, m, n] (.Tuple [.Name x px, .Name y py, .Name z pz, .Name u pu] k pos) (gTup K 4 (gCons (gName i) (gCons (gName j) (gCons (gName m) (gCons (gName n) gNil))))) (pTup4 i j m n) := by
  subst hK
  exact ⟨pg_tup hc (pgs_cons (pg_name hN hi hx fx) (pgs_cons (pg_name hN hj hy fy) (pgs_cons (pg_name hN hm hz fz) (pgs_cons (pg_name hN hn hu fu) pgs_nil)))), sg_tup4⟩
end PL

/-! Machines as plain data. -/
namespace PL
open PySem PySem.Spec PyProof.Rows L2

def rowI (r : List Int) : D := .tuple (r.map .int)
def machD (l : Int) (rows : List (List Int)) (f : Int) (ls : List Int) : D := .tuple [.int l, .tuple (rows.map rowI), .int f, rowI ls]
def wordD : Option Str → D
  | none => .none
  | some z => .str z
def upI (ls : List Int) : Bool := decide (ls.Pairwise (· < ·))
def risOk (ls : List Int) (m : Int) : Bool := upI ls && below ls m
def rowsOk (rows : List (List Int)) (size m : Int) : Bool := rows.all fun r => decide ((r.length : Int) = size) && below r m
def machFault (l : Int) (rows : List (List Int)) (f : Int) (ls : List Int) : Option Str :=
  if (decide (1 ≤ l) && decide (l ≤ 3)) = false then some "letters"
  else if (decide (1 ≤ (rows.length : Int)) && decide ((rows.length : Int) ≤ 4)) = false ∨ rowsOk rows l rows.length = false then some "rows"
  else if below [f] rows.length = false then some "first"
  else if risOk ls rows.length = false then some "lasts" else none
theorem up_uniq : ∀ {xs ys : List Int}, xs.Pairwise (· < ·) → ys.Pairwise (· < ·) → (∀ k, k ∈ xs ↔ k ∈ ys) → xs = ys
  | [], [], _, _, _ => rfl
  | [], y :: ys, _, _, h => absurd ((h y).mpr (by simp)) (by simp)
  | x :: xs, [], _, _, h => absurd ((h x).mp (by simp)) (by simp)
  | x :: xs, y :: ys, h1, h2, h => by
    rw [List.pairwise_cons] at h1 h2
    have exy : x = y := by
      have a := (h x).mp (by simp)
      have b := (h y).mpr (by simp)
      rcases List.mem_cons.mp a with rfl | a
      · rfl
      · rcases List.mem_cons.mp b with rfl | b
        · rfl
        · have := h1.1 y b; have := h2.1 x a; omega
    subst exy
    congr 1
    refine up_uniq h1.2 h2.2 fun k => ⟨fun hk => ?_, fun hk => ?_⟩
    · have lt := h1.1 k hk
      rcases List.mem_cons.mp ((h k).mp (List.mem_cons_of_mem _ hk)) with rfl | q
      · omega
      · exact q
    · have lt := h2.1 k hk
      rcases List.mem_cons.mp ((h k).mpr (List.mem_cons_of_mem _ hk)) with rfl | q
      · omega
      · exact q
theorem up_same {ls ms : List Int} (h : ms.Pairwise (· < ·)) (hm : ∀ k, k ∈ ms ↔ k ∈ ls) : ls = ms ↔ upI ls = true := by
  unfold upI
  rw [decide_eq_true_eq]
  exact ⟨fun e => e ▸ h, fun q => up_uniq q h fun k => (hm k).symm⟩
def s_are_rows : Sc := fun ws ob X Q => ∃ (rows : List (List Int)) (size m : Int), rows.length ≤ 1000 ∧ (∀ r ∈ rows, r.length ≤ 1000) ∧ ws = [.dat (.tuple (rows.map rowI)), .dat (.int size), .dat (.int m)] ∧ ob = [] ∧ ∀ more, Q (.bool (rowsOk rows size m)) more
def s_is_rising_set : Sc := fun ws ob X Q => ∃ (ls : List Int) (m : Int), ls.length < 60 ∧ ws = [.dat (rowI ls), .dat (.int m)] ∧ ob = [] ∧ ∀ more, Q (.bool (risOk ls m)) more
def s_machine_fault : Sc := fun ws ob X Q => ∃ (l : Int) (rows : List (List Int)) (f : Int) (ls : List Int), rows.length ≤ 1000 ∧ (∀ r ∈ rows, r.length ≤ 1000) ∧ ls.length < 60 ∧ ws = [.dat (machD l rows f ls)] ∧ ob = [] ∧ ∀ more, Q (wordD (machFault l rows f ls)) more
/-! ### a machine that is valid -/
structure Mc (c : Nat) (R : List (List Nat)) (f : Nat) (S : List Nat) : Prop where
  rows : ∀ r ∈ R, r.length = c ∧ ∀ v ∈ r, v < R.length
  first : f < R.length
  lasts : VS R.length S
def mcD (c : Nat) (R : List (List Nat)) (f : Nat) (S : List Nat) : D := .tuple [nD c, tblD R, nD f, rowD S]
def lead (R : List (List Nat)) (s : Nat) (w : List Nat) : Nat := w.foldl (fun s a => (R.getD s []).getD a 0) s
theorem lead_lt {c : Nat} {R : List (List Nat)} (h : ∀ r ∈ R, r.length = c ∧ ∀ v ∈ r, v < R.length) : ∀ {w : List Nat} {s : Nat}, s < R.length → (∀ a ∈ w, a < c) → lead R s w < R.length
  | [], s, hs, _ => hs
  | a :: w, s, hs, hw => by
    refine lead_lt h (w := w) ?_ fun b hb => hw b (List.mem_cons_of_mem _ hb)
    have q := h _ (getD_mem (d := []) hs)
    exact q.2 _ (getD_mem (by rw [q.1]; exact hw a (by simp)))
theorem rowI_nat {r : List Nat} : rowI (r.map fun n : Nat => (n : Int)) = rowD r := by simp [rowI, rowD, nD]
theorem mcD_machD {c f : Nat} {R : List (List Nat)} {S : List Nat} : machD c (R.map fun r => r.map fun n : Nat => (n : Int)) f (S.map fun n : Nat => (n : Int)) = mcD c R f S := by
  have e : ((R.map fun r => r.map fun n : Nat => (n : Int)).map rowI) = R.map rowD := by
    rw [List.map_map]
    exact List.map_congr_left fun r _ => rowI_nat
  unfold machD mcD tblD
  rw [rowI_nat, e]
  rfl
theorem below_nat {r : List Nat} {m : Nat} (h : ∀ v ∈ r, v < m) : below (r.map fun n : Nat => (n : Int)) m = true := by
  unfold below
  rw [List.all_map, List.all_eq_true]
  intro v hv
  simp [h v hv]
theorem Mc.fault {c f : Nat} {R : List (List Nat)} {S : List Nat} (h : Mc c R f S) (h1 : 1 ≤ c) (h3 : c ≤ 3) (h4 : 1 ≤ R.length) (h5 : R.length ≤ 4) : machFault c (R.map fun r => r.map fun n : Nat => (n : Int)) f (S.map fun n : Nat => (n : Int)) = none := by
  unfold machFault
  rw [if_neg (by simp; omega), if_neg, if_neg, if_neg]
  · have : upI (S.map fun n : Nat => (n : Int)) = true := by
      unfold upI
      rw [decide_eq_true_eq, List.pairwise_map]
      exact h.lasts.up.imp fun q => by omega
    rw [risOk, this, List.length_map, below_nat h.lasts.lt]; simp
  · have := below_nat (r := [f]) (m := R.length) (fun v hv => by simp at hv; subst hv; exact h.first)
    rw [List.length_map]
    simpa using this
  · rw [List.length_map]
    have : rowsOk (R.map fun r => r.map fun n : Nat => (n : Int)) c R.length = true := by
      unfold rowsOk
      rw [List.all_map, List.all_eq_true]
      intro r hr
      have q := h.rows r hr
      simp only [Function.comp, List.length_map, q.1, below_nat q.2]
      simp
    rw [this]; simp; omega
def s_machine_takes : Sc := fun ws ob X Q => ∃ (c : Nat) (R : List (List Nat)) (f : Nat) (S : List Nat) (w : List Nat), Mc c R f S ∧ (∀ a ∈ w, a < c) ∧ ws = [.dat (mcD c R f S), .dat (wdD w)] ∧ ob = [] ∧ ∀ more, Q (.bool (S.contains (lead R f w))) more
def s__law_machine : Sc := fun ws ob X Q => ws = [.ref 0] ∧ ob = [.box] ∧ ∀ c R f S more, Mc c R f S → 1 ≤ c → c ≤ 3 → 1 ≤ R.length → R.length ≤ 4 → Q (mcD c R f S) (.box :: more)
end PL

/-! Comprehensions of several clauses. -/
namespace PL
open PySem PySem.Spec PyProof.Rows L2

abbrev FE : Value → Shared → Prop := fun _ _ => False
theorem thnX {α : Type} {t : Sem α} {Q Q' : α → Shared → Prop} {M : Model} {A : Around} {E E' : Value → Shared → Prop} {s : Shared} (h : wpAny M A t Q E' s) (hx : ∀ e s, E' e s → False) (hQ : ∀ a s, Q a s → Q' a s) : wpAny M A t Q' E s := wpAny_mono h hQ fun _ _ z => (hx _ _ z).elim
theorem thnE {α : Type} {t : Sem α} {Q Q' : α → Shared → Prop} {M : Model} {A : Around} {E : Value → Shared → Prop} {s : Shared} (h : wpAny M A t Q FE s) (hQ : ∀ a s, Q a s → Q' a s) : wpAny M A t Q' E s := wpAny_mono h hQ fun _ _ z => z.elim
/-- a clause's loop: Z is what stands behind its tests -/
structure LoopOf (M : Model) (A : Around) (Ex : Expr) (k : Nat) (t : Expr) (ifs : List Expr) (env : Env) (acc : Value) (Z : (Shared → Prop) → Shared → Prop) : Prop where
  run : ∀ (it : Value) (R : Result → Shared → Prop) (I : Nat → Shared → Prop),
    (∀ n s, I n s → wpAny M A (pyNext it) (fun r s₁ => match r with
      | none => R (.ok .next) s₁
      | some v => wpAny M A (letOwnedTupleGo t it v) (fun _ s₁' => wpAny M A (assign t env v) (fun _ s₂ =>
          wpAny M A (forIn ifs true fun c r => if r = true then do let ok ← isTrue c env (eval c env); pure (ForInStep.yield ok) else pure (ForInStep.yield r)) (fun ok s₃ =>
            if ok = true then Z (fun s' => ∃ m, m < n ∧ I m s') s₃ else ∃ m, m < n ∧ I m s₃) FE s₂) FE s₁') FE s₁) FE s) →
    ∀ n s, I n s → codeAny M A (.compLoop Ex k it acc env) R s
def zApp (M : Model) (A : Around) (elt : Expr) (env : Env) (acc : Value) (post : Shared → Prop) (s : Shared) : Prop :=
  wpAny M A (eval elt env) (fun x s4 => wpAny M A (call (.builtin "list.append") [acc, x]) (fun _ s5 => post s5) FE s4) FE s
def zAdd (M : Model) (A : Around) (elt : Expr) (env : Env) (acc : Value) (post : Shared → Prop) (s : Shared) : Prop :=
  wpAny M A (eval elt env) (fun x s4 => wpAny M A (call (.builtin "set.add") [acc, x]) (fun _ s5 => post s5) FE s4) FE s
def zMid (M : Model) (A : Around) (Ex : Expr) (k : Nat) (iter : Expr) (env : Env) (acc : Value) (post : Shared → Prop) (s : Shared) : Prop :=
  wpAny M A (eval iter env) (fun x s4 => wpAny M A (pyIter x) (fun it1 s5 => codeAny M A (.compStart Ex k it1 acc env) (fun r s' => match r with
    | .ok _ => post s'
    | .error _ => False) s5) FE s4) FE s
structure StartOf (M : Model) (A : Around) (Ex : Expr) (k : Nat) (env : Env) (acc : Value) : Prop where
  run : ∀ (it : Value) (R : Result → Shared → Prop) (s : Shared), codeAny M A (.compLoop Ex k it acc env) R s → wpAny M A (pyIter it) (fun it' s' => codeAny M A (.compLoop Ex k it' acc env) R s') FE s → codeAny M A (.compStart Ex k it acc env) R s


section
variable {prog : Program} {w : World} {A : Around} {elt : Expr} {gs : List Comprehension} {scope : Scope} {pos : Pos} {k : Nat} {t i i1 : Expr} {ifs : List Expr} {env : Env} {acc : Value}
theorem loopEndL (ht : ∀ it, compTurn (.ListComp elt gs scope pos) k it acc env = (do
      standAt i.pos
      match ← pyNext it with
      | none => pure (.done .next)
      | some v =>
        letOwnedTupleGo t it v
        assign t env v
        let mut ok := true
        for c in ifs do
          if ok then ok ← isTrue c env (eval c env)
        if ok then
          (do let _ ← call (.builtin "list.append") [acc, ← eval elt env])
        again (.compLoop (.ListComp elt gs scope pos) k it acc env))) : LoopOf (model prog w) A (.ListComp elt gs scope pos) k t ifs env acc (zApp (model prog w) A elt env acc) := ⟨fun it R I turn n s h => by
  refine codeAny_loop rfl I (fun n s hI => ?_) n h
  show wpAny _ A ((compTurn (.ListComp elt gs scope pos) k it acc env).onRaise (fun x => do noteFrame x env; theTreesLotGoes x)) _ _ s
  refine wpAny_noted ?_
  rw [ht]
  refine wpAny_bind (wpAny_standAt (wpAny_bind (thnE (turn n s hI) (fun r s₁ h₁ => ?_))))
  cases r with
  | none => exact wpAny_pure h₁
  | some v =>
    refine wpAny_bind (thnE h₁ (fun _ s₁' h₁' => ?_))
    refine wpAny_bind (thnE h₁' (fun _ s₂ h₂ => wpAny_bind (thnE h₂ (fun ok s₃ h₃ => ?_))))
    cases ok with
    | false => exact wpAny_pure ⟨rfl, h₃⟩
    | true =>
      exact wpAny_bind (wpAny_bind (thnE h₃ (fun x s₄ h₄ => wpAny_bind (thnE h₄ (fun _ s₅ h₅ => wpAny_pure (wpAny_pure ⟨rfl, h₅⟩))))))⟩
theorem loopMidL (ht : ∀ it, compTurn (.ListComp elt gs scope pos) k it acc env = (do
      standAt i.pos
      match ← pyNext it with
      | none => pure (.done .next)
      | some v =>
        letOwnedTupleGo t it v
        assign t env v
        let mut ok := true
        for c in ifs do
          if ok then ok ← isTrue c env (eval c env)
        if ok then
          let x ← eval i1 env
          standAt i1.pos
          let x ← foldedSetIterable i1 env x
          let _ ← runOwn (.compStart (.ListComp elt gs scope pos) (k + 1) (← holding [x] (pyIter x)) acc env) env
        again (.compLoop (.ListComp elt gs scope pos) k it acc env))) (hs : ∀ x, foldedSetIterable i1 env x = pure x) : LoopOf (model prog w) A (.ListComp elt gs scope pos) k t ifs env acc (zMid (model prog w) A (.ListComp elt gs scope pos) (k + 1) i1 env acc) := ⟨fun it R I turn n s h => by
  refine codeAny_loop rfl I (fun n s hI => ?_) n h
  show wpAny _ A ((compTurn (.ListComp elt gs scope pos) k it acc env).onRaise (fun x => do noteFrame x env; theTreesLotGoes x)) _ _ s
  refine wpAny_noted ?_
  rw [ht]
  refine wpAny_bind (wpAny_standAt (wpAny_bind (thnE (turn n s hI) (fun r s₁ h₁ => ?_))))
  cases r with
  | none => exact wpAny_pure h₁
  | some v =>
    refine wpAny_bind (thnE h₁ (fun _ s₁' h₁' => ?_))
    refine wpAny_bind (thnE h₁' (fun _ s₂ h₂ => wpAny_bind (thnE h₂ (fun ok s₃ h₃ => ?_))))
    cases ok with
    | false => exact wpAny_pure ⟨rfl, h₃⟩
    | true =>
      refine wpAny_bind (thnE h₃ (fun x s₄ h₄ => ?_))
      refine wpAny_bind (wpAny_standAt (wpAny_bind (wpAny_of_eq (hs x) (wpAny_bind (wpAny_holding (thnE h₄ (fun it1 s₅ h₅ => ?_)))))))
      refine wpAny_bind (wpAny_runOwn ?_)
      rw [Around.mark_none]
      refine codeAny_mono h₅ fun r s' hr => ?_
      cases r with
      | ok f =>
        first
          | exact wpAny_pure ⟨rfl, hr⟩
          | exact wpAny_bind (wpAny_pure (wpAny_pure ⟨rfl, hr⟩))
      | error e => exact hr.elim⟩
end


section
variable {prog : Program} {w : World} {A : Around} {elt : Expr} {gs : List Comprehension} {scope : Scope} {pos : Pos} {k : Nat} {t i i1 : Expr} {ifs : List Expr} {env : Env} {acc : Value}
theorem loopEndS (ht : ∀ it, compTurn (.SetComp elt gs scope pos) k it acc env = (do
      standAt i.pos
      match ← pyNext it with
      | none => pure (.done .next)
      | some v =>
        letOwnedTupleGo t it v
        assign t env v
        let mut ok := true
        for c in ifs do
          if ok then ok ← isTrue c env (eval c env)
        if ok then
          (do let v ← eval elt env; standAt elt.pos; let _ ← call (.builtin "set.add") [acc, v])
        again (.compLoop (.SetComp elt gs scope pos) k it acc env))) : LoopOf (model prog w) A (.SetComp elt gs scope pos) k t ifs env acc (zAdd (model prog w) A elt env acc) := ⟨fun it R I turn n s h => by
  refine codeAny_loop rfl I (fun n s hI => ?_) n h
  show wpAny _ A ((compTurn (.SetComp elt gs scope pos) k it acc env).onRaise (fun x => do noteFrame x env; theTreesLotGoes x)) _ _ s
  refine wpAny_noted ?_
  rw [ht]
  refine wpAny_bind (wpAny_standAt (wpAny_bind (thnE (turn n s hI) (fun r s₁ h₁ => ?_))))
  cases r with
  | none => exact wpAny_pure h₁
  | some v =>
    refine wpAny_bind (thnE h₁ (fun _ s₁' h₁' => ?_))
    refine wpAny_bind (thnE h₁' (fun _ s₂ h₂ => wpAny_bind (thnE h₂ (fun ok s₃ h₃ => ?_))))
    cases ok with
    | false => exact wpAny_pure ⟨rfl, h₃⟩
    | true =>
      exact wpAny_bind (wpAny_bind (thnE h₃ (fun x s₄ h₄ => wpAny_bind (wpAny_standAt (wpAny_bind (thnE h₄ (fun _ s₅ h₅ => wpAny_pure (wpAny_pure ⟨rfl, h₅⟩))))))))⟩
theorem loopMidS (ht : ∀ it, compTurn (.SetComp elt gs scope pos) k it acc env = (do
      standAt i.pos
      match ← pyNext it with
      | none => pure (.done .next)
      | some v =>
        letOwnedTupleGo t it v
        assign t env v
        let mut ok := true
        for c in ifs do
          if ok then ok ← isTrue c env (eval c env)
        if ok then
          let x ← eval i1 env
          standAt i1.pos
          let x ← foldedSetIterable i1 env x
          let _ ← runOwn (.compStart (.SetComp elt gs scope pos) (k + 1) (← holding [x] (pyIter x)) acc env) env
        again (.compLoop (.SetComp elt gs scope pos) k it acc env))) (hs : ∀ x, foldedSetIterable i1 env x = pure x) : LoopOf (model prog w) A (.SetComp elt gs scope pos) k t ifs env acc (zMid (model prog w) A (.SetComp elt gs scope pos) (k + 1) i1 env acc) := ⟨fun it R I turn n s h => by
  refine codeAny_loop rfl I (fun n s hI => ?_) n h
  show wpAny _ A ((compTurn (.SetComp elt gs scope pos) k it acc env).onRaise (fun x => do noteFrame x env; theTreesLotGoes x)) _ _ s
  refine wpAny_noted ?_
  rw [ht]
  refine wpAny_bind (wpAny_standAt (wpAny_bind (thnE (turn n s hI) (fun r s₁ h₁ => ?_))))
  cases r with
  | none => exact wpAny_pure h₁
  | some v =>
    refine wpAny_bind (thnE h₁ (fun _ s₁' h₁' => ?_))
    refine wpAny_bind (thnE h₁' (fun _ s₂ h₂ => wpAny_bind (thnE h₂ (fun ok s₃ h₃ => ?_))))
    cases ok with
    | false => exact wpAny_pure ⟨rfl, h₃⟩
    | true =>
      refine wpAny_bind (thnE h₃ (fun x s₄ h₄ => ?_))
      refine wpAny_bind (wpAny_standAt (wpAny_bind (wpAny_of_eq (hs x) (wpAny_bind (wpAny_holding (thnE h₄ (fun it1 s₅ h₅ => ?_)))))))
      refine wpAny_bind (wpAny_runOwn ?_)
      rw [Around.mark_none]
      refine codeAny_mono h₅ fun r s' hr => ?_
      cases r with
      | ok f =>
        first
          | exact wpAny_pure ⟨rfl, hr⟩
          | exact wpAny_bind (wpAny_pure (wpAny_pure ⟨rfl, hr⟩))
      | error e => exact hr.elim⟩
end


theorem startL2_1 {prog : Program} {w : World} {A : Around} {elt : Expr} {scope : Scope} {pos : Pos} {t0 i0 : Expr} {ifs0 : List Expr} {t1 i1 : Expr} {ifs1 : List Expr} {env : Env} {acc : Value} : StartOf (model prog w) A (.ListComp elt [⟨t0, i0, ifs0, 0⟩, ⟨t1, i1, ifs1, 0⟩] scope pos) 1 env acc := ⟨fun it R s h0 h => by
  refine codeAny_of_tree ?_
  show wpAny _ _ ((compStart (.ListComp elt [⟨t0, i0, ifs0, 0⟩, ⟨t1, i1, ifs1, 0⟩] scope pos) 1 it acc env).onRaise (fun x => do noteFrame x env; standAt theWindowsPlace)) _ _ s
  refine wpAny_notedAt ?_
  unfold compStart
  show wpAny _ _ (ask >>= _) _ _ s
  refine wpAny_bind (wpAny_askSetting (wpAny_ite ?_))
  have h : wpAny (model prog w) A (pyIter it) (fun it' s' => codeAny (model prog w) A (.compLoop (.ListComp elt [⟨t0, i0, ifs0, 0⟩, ⟨t1, i1, ifs1, 0⟩] scope pos) 1 it' acc env) R s') (notedBy (model prog w) A env fun x s' => R (.error x) s') s := thnE h fun _ _ q => q
  split
  · first
      | exact wpAny_bind (wpAny_pure (wpAny_pure (And.intro rfl h0)))
      | exact wpAny_pure (And.intro rfl h0)
  · first
      | exact wpAny_bind (wpAny_rule (wpAny_bind (wpAny_standAt (wpAny_bind (wpAny_mono h (fun it' s' h' => wpAny_pure (And.intro rfl h')) fun _ _ x => x)))))
      | (refine wpAny_bind (wpAny_rule ?_); show wpAny _ _ (standAt i1.pos >>= _) _ _ s; exact wpAny_bind (wpAny_standAt (wpAny_bind (wpAny_mono h (fun it' s' h' => wpAny_pure (And.intro rfl h')) fun _ _ x => x))))⟩


theorem startL3_1 {prog : Program} {w : World} {A : Around} {elt : Expr} {scope : Scope} {pos : Pos} {t0 i0 : Expr} {ifs0 : List Expr} {t1 i1 : Expr} {ifs1 : List Expr} {t2 i2 : Expr} {ifs2 : List Expr} {env : Env} {acc : Value} : StartOf (model prog w) A (.ListComp elt [⟨t0, i0, ifs0, 0⟩, ⟨t1, i1, ifs1, 0⟩, ⟨t2, i2, ifs2, 0⟩] scope pos) 1 env acc := ⟨fun it R s h0 h => by
  refine codeAny_of_tree ?_
  show wpAny _ _ ((compStart (.ListComp elt [⟨t0, i0, ifs0, 0⟩, ⟨t1, i1, ifs1, 0⟩, ⟨t2, i2, ifs2, 0⟩] scope pos) 1 it acc env).onRaise (fun x => do noteFrame x env; standAt theWindowsPlace)) _ _ s
  refine wpAny_notedAt ?_
  unfold compStart
  show wpAny _ _ (ask >>= _) _ _ s
  refine wpAny_bind (wpAny_askSetting (wpAny_ite ?_))
  have h : wpAny (model prog w) A (pyIter it) (fun it' s' => codeAny (model prog w) A (.compLoop (.ListComp elt [⟨t0, i0, ifs0, 0⟩, ⟨t1, i1, ifs1, 0⟩, ⟨t2, i2, ifs2, 0⟩] scope pos) 1 it' acc env) R s') (notedBy (model prog w) A env fun x s' => R (.error x) s') s := thnE h fun _ _ q => q
  split
  · first
      | exact wpAny_bind (wpAny_pure (wpAny_pure (And.intro rfl h0)))
      | exact wpAny_pure (And.intro rfl h0)
  · first
      | exact wpAny_bind (wpAny_rule (wpAny_bind (wpAny_standAt (wpAny_bind (wpAny_mono h (fun it' s' h' => wpAny_pure (And.intro rfl h')) fun _ _ x => x)))))
      | (refine wpAny_bind (wpAny_rule ?_); show wpAny _ _ (standAt i1.pos >>= _) _ _ s; exact wpAny_bind (wpAny_standAt (wpAny_bind (wpAny_mono h (fun it' s' h' => wpAny_pure (And.intro rfl h')) fun _ _ x => x))))⟩


theorem startL3_2 {prog : Program} {w : World} {A : Around} {elt : Expr} {scope : Scope} {pos : Pos} {t0 i0 : Expr} {ifs0 : List Expr} {t1 i1 : Expr} {ifs1 : List Expr} {t2 i2 : Expr} {ifs2 : List Expr} {env : Env} {acc : Value} : StartOf (model prog w) A (.ListComp elt [⟨t0, i0, ifs0, 0⟩, ⟨t1, i1, ifs1, 0⟩, ⟨t2, i2, ifs2, 0⟩] scope pos) 2 env acc := ⟨fun it R s h0 h => by
  refine codeAny_of_tree ?_
  show wpAny _ _ ((compStart (.ListComp elt [⟨t0, i0, ifs0, 0⟩, ⟨t1, i1, ifs1, 0⟩, ⟨t2, i2, ifs2, 0⟩] scope pos) 2 it acc env).onRaise (fun x => do noteFrame x env; standAt theWindowsPlace)) _ _ s
  refine wpAny_notedAt ?_
  unfold compStart
  show wpAny _ _ (ask >>= _) _ _ s
  refine wpAny_bind (wpAny_askSetting (wpAny_ite ?_))
  have h : wpAny (model prog w) A (pyIter it) (fun it' s' => codeAny (model prog w) A (.compLoop (.ListComp elt [⟨t0, i0, ifs0, 0⟩, ⟨t1, i1, ifs1, 0⟩, ⟨t2, i2, ifs2, 0⟩] scope pos) 2 it' acc env) R s') (notedBy (model prog w) A env fun x s' => R (.error x) s') s := thnE h fun _ _ q => q
  split
  · first
      | exact wpAny_bind (wpAny_pure (wpAny_pure (And.intro rfl h0)))
      | exact wpAny_pure (And.intro rfl h0)
  · first
      | exact wpAny_bind (wpAny_rule (wpAny_bind (wpAny_standAt (wpAny_bind (wpAny_mono h (fun it' s' h' => wpAny_pure (And.intro rfl h')) fun _ _ x => x)))))
      | (refine wpAny_bind (wpAny_rule ?_); show wpAny _ _ (standAt i2.pos >>= _) _ _ s; exact wpAny_bind (wpAny_standAt (wpAny_bind (wpAny_mono h (fun it' s' h' => wpAny_pure (And.intro rfl h')) fun _ _ x => x))))⟩


theorem startS2_1 {prog : Program} {w : World} {A : Around} {elt : Expr} {scope : Scope} {pos : Pos} {t0 i0 : Expr} {ifs0 : List Expr} {t1 i1 : Expr} {ifs1 : List Expr} {env : Env} {acc : Value} : StartOf (model prog w) A (.SetComp elt [⟨t0, i0, ifs0, 0⟩, ⟨t1, i1, ifs1, 0⟩] scope pos) 1 env acc := ⟨fun it R s h0 h => by
  refine codeAny_of_tree ?_
  show wpAny _ _ ((compStart (.SetComp elt [⟨t0, i0, ifs0, 0⟩, ⟨t1, i1, ifs1, 0⟩] scope pos) 1 it acc env).onRaise (fun x => do noteFrame x env; standAt theWindowsPlace)) _ _ s
  refine wpAny_notedAt ?_
  unfold compStart
  show wpAny _ _ (ask >>= _) _ _ s
  refine wpAny_bind (wpAny_askSetting (wpAny_ite ?_))
  have h : wpAny (model prog w) A (pyIter it) (fun it' s' => codeAny (model prog w) A (.compLoop (.SetComp elt [⟨t0, i0, ifs0, 0⟩, ⟨t1, i1, ifs1, 0⟩] scope pos) 1 it' acc env) R s') (notedBy (model prog w) A env fun x s' => R (.error x) s') s := thnE h fun _ _ q => q
  split
  · first
      | exact wpAny_bind (wpAny_pure (wpAny_pure (And.intro rfl h0)))
      | exact wpAny_pure (And.intro rfl h0)
  · first
      | exact wpAny_bind (wpAny_rule (wpAny_bind (wpAny_standAt (wpAny_bind (wpAny_mono h (fun it' s' h' => wpAny_pure (And.intro rfl h')) fun _ _ x => x)))))
      | (refine wpAny_bind (wpAny_rule ?_); show wpAny _ _ (standAt i1.pos >>= _) _ _ s; exact wpAny_bind (wpAny_standAt (wpAny_bind (wpAny_mono h (fun it' s' h' => wpAny_pure (And.intro rfl h')) fun _ _ x => x))))⟩


/-! ### what stands behind a clause's tests -/
abbrev TB := Addr → L2.St → Hp → (Hp → Prop) → Prop
def tbApp (te : TE) : TB := fun D σ H Nx => te σ H fun y H4 => ∃ acc, H4 D = some (.lst acc) ∧ acc.length < sizeLine ∧ Nx (upd H4 D (.lst (acc ++ [y])))
def tbAdd (w : World) (te : TE) : TB := fun D σ H Nx => te σ H fun y H4 => ∃ (c : Int) (S : Int → Bool) (n : Nat), y = .int c ∧ H4 D = some (SetO w D S n) ∧ n + 1 < scanBound ∧ Nx (upd H4 D (SetO w D (fun j => S j || decide (j = c)) (if S c = true then n else n + 1)))
def tbFor (wi : TI) (g : TG) (tt : TT) (vs : List Nat) (tb : TB) : TB := fun D σ H Nx => wi σ H fun J H4 => ∃ W : Nat → Nat → Hp → Prop, (∃ m, W 0 m H4) ∧ ∀ j k H, W j k H →
  (J.stop j H ∧ Nx H) ∨ (J.go j H ∧ ∃ Nx1 : Hp → Prop, (∀ H', Nx1 H' → ∃ k', k' < k ∧ W (j + 1) k' H') ∧ ∀ x H', J.yld j H x H' → g x (wipe σ vs) H' fun σ3 H5 => wipe σ3 vs = wipe σ vs ∧ tt σ3 H5 fun b H6 =>
    if b = true then tb D σ3 H6 Nx1 else Nx1 H6)
/-- the whole: o the new object -/
def tLcB (o : Addr → HO) (wi : TI) (g : TG) (tt : TT) (vs : List Nat) (tb : TB) : TE := fun σ H Q => wi σ H fun J H1 => ∀ D, H1 D = none → ∃ W : Nat → Nat → Hp → Prop, (∃ m, W 0 m (upd H1 D (o D))) ∧ ∀ i m H, W i m H →
  (J.stop i H ∧ Q (.ref D) H) ∨ (J.go i H ∧ ∃ Nx : Hp → Prop, (∀ H', Nx H' → ∃ m', m' < m ∧ W (i + 1) m' H') ∧ ∀ x H', J.yld i H x H' → g x (wipe σ vs) H' fun σ2 H2 => wipe σ2 vs = wipe σ vs ∧ tt σ2 H2 fun b H3 =>
    if b = true then tb D σ2 H3 Nx else Nx H3)
/-- (in a block) -/
structure PB (Y : Cx) (vs : List Nat) (Z : (Shared → Prop) → Shared → Prop) (tb : L2.St → Hp → (Hp → Prop) → Prop) : Prop where
  run : ∀ (pins : List (Addr × Obj)) (s : Shared) (σ : L2.St) (H : Hp) (Nx : Hp → Prop) (post : Shared → Prop), Inv Y pins σ H s → tb σ H Nx →
    (∀ (s' : Shared) (σ' : L2.St) (H' : Hp), Inv Y pins σ' H' s' → σ'.length = σ.length → (∀ (j : Nat) v, (wipe σ vs)[j]? = some (some v) → σ'[j]? = some (some v)) → Nx H' → post s') → Z post s
section
variable {Y : Cx} {te : TE} {elt : Expr} {D : Addr} {vs vsb : List Nat} {t iter Ex : Expr} {ifs : List Expr} {wi : TI} {g : TG} {tt : TT} {tb : TB} {k : Nat} {Z : (Shared → Prop) → Shared → Prop}
theorem pb_app (hx : ∀ e s, Y.xe e s → False) (he : PE Y elt te) : PB Y [] (zApp (model Y.prog Y.w) Y.A elt Y.env (.ref D)) (tbApp te D) := ⟨fun pins s σ H Nx post I h k => by
  refine thnX (he.run pins s σ H _ I h) hx fun z s1 ⟨yv, H1, I1, r1, acc, hD, hz, nx⟩ => ?_
  exact app_ok I1 hD hz r1 fun s2 I2 => k s2 σ _ I2 rfl (fun j v e => e) nx⟩
theorem pb_add (hx : ∀ e s, Y.xe e s → False) (he : PE Y elt te) : PB Y [] (zAdd (model Y.prog Y.w) Y.A elt Y.env (.ref D)) (tbAdd Y.w te D) := ⟨fun pins s σ H Nx post I h k => by
  refine thnX (he.run pins s σ H _ I h) hx fun z s1 ⟨yv, H1, I1, r1, c, S, n, ey, hD, hz, nx⟩ => ?_
  subst ey
  obtain ⟨tk, rfl⟩ := r1
  refine setR_add (setO_get I1 hD) hz fun h' sb new => ?_
  have he : ∃ u, h'.get? D = some u := by
    have ⟨o, _, _, _, ho, _⟩ := new
    exact ⟨o, ho⟩
  exact k _ σ _ (I1.write (e := D) (t' := s1.toks + 1) (by rw [hD]; trivial) (.inl rfl) (fun b u hb hu => (sb.2 b hb).trans hu) he (setO_new new)) rfl (fun j v e => e) nx⟩
theorem pb_for (hx : ∀ e s, Y.xe e s → False) (hc : Y.calm = true) (L : LoopOf (model Y.prog Y.w) Y.A Ex k t ifs Y.env (.ref D) Z) (S : StartOf (model Y.prog Y.w) Y.A Ex k Y.env (.ref D)) (hi : PI Y t iter wi) (hg : PG Y t g) (ht : PTs Y ifs tt) (hb : PB Y vsb Z (tb D)) (hv : ∀ i ∈ vsb, i ∈ vs) :
    PB Y vs (zMid (model Y.prog Y.w) Y.A Ex k iter Y.env (.ref D)) (tbFor wi g tt vs tb D) := ⟨fun pins s σ H Nx post I h kk => by
  refine thnX (hi.run pins s σ H _ I h) hx fun xv s1 hx1 => thnX hx1 hx fun itv s2 h2 => ?_
  obtain ⟨it, fp, tn, J, H2, e1, I2, T, st2, f2, W, ⟨m0, w0⟩, turn⟩ := h2
  subst e1
  have stat : ∀ {H' : Hp}, (∀ b ∈ fp, H' b = none) → ∀ b ∈ fp, FpOk Y pins H' b := fun hn b hb => ⟨hn b hb, (f2 b hb).2⟩
  have loop : codeAny (model Y.prog Y.w) Y.A (.compLoop Ex k (.ref it) (.ref D) Y.env) (fun r s' => match r with
      | .ok _ => post s'
      | .error _ => False) s2 := by
    refine L.run _ _ (fun n s' => ∃ j H', Inv Y pins (wipe σ vs) H' s' ∧ tn j s'.heap ∧ (∀ b ∈ fp, H' b = none) ∧ W j n H') ?_ m0 s2 ⟨0, H2, I2.weak (wipe_length _ _) (fun j v e => (wipe_some e).1), st2, fun b hb => (f2 b hb).1, w0⟩
    rintro n s3 ⟨j, H3, I3, st3, n3, w3⟩
    rcases turn j n H3 w3 with ⟨stop, nx⟩ | ⟨go, Nx1, hNx1, step⟩
    · refine thnF (T.done Y rfl rfl rfl hc j _ s3 (wipe σ vs) H3 (fun _ _ => False) I3 (stat n3) st3 stop) fun r s4 ⟨hr, I4⟩ => ?_
      subst hr
      exact kk s4 _ H3 I4 (wipe_length _ _) (fun j v e => e) nx
    · refine thnF (T.item Y rfl rfl rfl hc j _ s3 (wipe σ vs) H3 (fun _ _ => False) I3 (stat n3) st3 go) fun r s4 ⟨u, hr, h4⟩ => ?_
      subst hr
      refine thnF h4 fun _ s5 ⟨x, H5, I5, r5, y5, st5, n5⟩ => ?_
      have I5' := I5.pinned (stat n5) (T.obj _ _ st5)
      refine thnX (hg.run _ s5 (wipe σ vs) H5 x u _ I5' r5 (step x H5 y5)) hx fun _ s6 ⟨σ6, H6, I6, hw6, q6⟩ => ?_
      refine thnX (ht.run _ s6 σ6 H6 _ I6 q6) hx fun b s7 ⟨H7, I7, q7⟩ => ?_
      have fin : ∀ {s' : Shared} {σ' : L2.St} {H' : Hp}, Inv Y (pins ++ pinsAt fp s5.heap) σ' H' s' → σ'.length = σ6.length → (∀ (j : Nat) v, (wipe σ6 vsb)[j]? = some (some v) → σ'[j]? = some (some v)) → Nx1 H' →
          ∃ m, m < n ∧ ∃ j H', Inv Y pins (wipe σ vs) H' s' ∧ tn j s'.heap ∧ (∀ b ∈ fp, H' b = none) ∧ W j m H' := fun {s' σ' H'} I' hl hk nx => by
        obtain ⟨m', hm, w'⟩ := hNx1 H' nx
        have pin' : ∀ b ∈ fp, ∀ o, s5.heap.get? b = some o → s'.heap.get? b = some o ∧ H' b = none := fun b hb o e =>
          let z := I'.pin (b, o) (List.mem_append_right _ (List.mem_append_right _ (mem_pinsAt hb e)))
          ⟨z.1, z.2.1⟩
        refine ⟨m', hm, j + 1, H', I'.unpinned.weak ?_ (fun j v e => ?_), T.keep _ _ _ st5 fun b hb o e => (pin' b hb o e).1, fun b hb => ?_, w'⟩
        · rw [hl, ← hw6, wipe_length]
        · rw [← hw6] at e
          obtain ⟨e1, e2⟩ := wipe_some e
          refine hk j v ?_
          rw [wipe_out fun z => e2 (hv j z)]
          exact e1
        · obtain ⟨o, e, _⟩ := T.obj _ _ st5 b hb
          exact (pin' b hb o e).2
      cases b with
      | false =>
        simp only [Bool.false_eq_true, if_false] at q7 ⊢
        exact fin I7 rfl (fun j v e => (wipe_some e).1) q7
      | true =>
        simp only [if_true] at q7 ⊢
        exact hb.run _ s7 σ6 H7 Nx1 _ I7 q7 fun s' σ' H' I' hl hk nx => fin I' hl hk nx
  exact S.run _ _ _ loop (T.self Y.A 0 _ _ _ st2 loop)⟩
end
section
variable {X : Cx}
/-- the outer clause -/
theorem lcB_core {pins : List (Addr × Obj)} {s : Shared} {σ : L2.St} {H : Hp} {Q : VK} {Ex tg iter : Expr} {ifs : List Expr} {gs : List Comprehension} {scope : Scope} {own : List (Str × Nat)} {pos' : Pos} {wi : TI} {g : TG} {tt : TT} {tb : TB} {vsb : List Nat} {use : Option (Value → Sem Unit)} {Qf : Value → Shared → Prop} {mk : Sem Value} {ob : Obj} {o : Addr → HO} {Z : Env → Value → (Shared → Prop) → Shared → Prop}
    (hcl : clausesOf Ex = ⟨tg, iter, ifs, 0⟩ :: gs)
    (hmk : ∀ {s : Shared} {Q : Value → Shared → Prop}, Q (.ref s.heap.objs.size) { s with heap := s.heap.push ob } → wpAny (model X.prog X.w) X.A mk Q X.xe s)
    (hnew : ∀ (H : Hp) (h : Heap), sysModules < h.objs.size → ObjOk X.prog X.w H (h.push ob) h.objs.size (o h.objs.size))
    (hst : ∀ {env : Env} {it acc : Value} {R : Result → Shared → Prop} {s : Shared}, codeAny (model X.prog X.w) X.A (.compLoop Ex 0 it acc env) R s → wpAny (model X.prog X.w) X.A (pyIter it) (fun it' s' => codeAny (model X.prog X.w) X.A (.compLoop Ex 0 it' acc env) R s') (notedBy (model X.prog X.w) X.A env fun x s' => R (.error x) s') s → codeAny (model X.prog X.w) X.A (.compStart Ex 0 it acc env) R s)
    (hL : ∀ (C : Addr) (cl : List (Str × Addr)) (acc : Value), LoopOf (model X.prog X.w) X.A Ex 0 tg ifs (compEnvC scope cl C X.env) acc (Z (compEnvC scope cl C X.env) acc))
    (hc : X.calm = true) (hN : X.N.Nodup) (I : Inv X pins σ H s) (hi : PI X tg iter wi) (ok : BlkOk X.N X.env.scope scope own) (hv : ∀ i ∈ vsb, i ∈ own.map (·.2))
    (hg : ∀ (s : Shared) (H : Hp) (C : Addr) (cl : List (Str × Addr)) (fp : List Addr), PG (X.blk s H scope (compEnvC scope cl C X.env) fp) tg g) (ht : ∀ (s : Shared) (H : Hp) (C : Addr) (cl : List (Str × Addr)) (fp : List Addr), PTs (X.blk s H scope (compEnvC scope cl C X.env) fp) ifs tt)
    (hb : ∀ (s : Shared) (H : Hp) (C : Addr) (cl : List (Str × Addr)) (fp : List Addr) (D : Addr), PB (X.blk s H scope (compEnvC scope cl C X.env) fp) vsb (Z (compEnvC scope cl C X.env) (.ref D)) (tb D)) (hs : ∀ x, foldedSetIterable iter X.env x = pure x)
    (h : tLcB o wi g tt (own.map (·.2)) tb σ H Q)
    (hRR : ∀ D C s' m H', Inv X pins σ H' s' → Q (.ref D) H' → s'.heap.Ns C m → FpOk X pins H' C → compPost (model X.prog X.w) X.A X.xe use Qf (.ref D) C (.ok .next) s') :
    wpAny (model X.prog X.w) X.A (comprehension Ex scope X.env pos' mk false (eval iter X.env) use) Qf X.xe s := by
  have hfree : ∀ y ∈ scope.names, y.2 = .free → ∃ c, X.env.cells.lookup y.1 = some c := fun y hy e => by
    rcases ok.free y hy e with k | k
    · exact I.ok.has _ (.inl k)
    · exact I.ok.has _ (.inr k)
  refine wpAny_comprehension_free (use := use) hcl hs (closure_ok hfree) ok.kind (fun y hy e => by rw [ok.uniq y hy, e])
    (thn (hi.run pins s σ H _ I h) fun xv s1 hx => thn hx fun itv s2 h2 => ?_)
  obtain ⟨it, fp, tn, J, H2, e, I2, T, st2, f2, q⟩ := h2
  subst e
  refine hmk (newEnv_comp ?_)
  generalize hD : s2.heap.objs.size = D
  have hDn : H2 D = none := I2.hok.fresh (Nat.le_of_eq hD)
  obtain ⟨W, ⟨m0, w0⟩, turn⟩ := q D hDn
  generalize hs3 : ({ s2 with heap := s2.heap.push ob } : Shared) = s3
  have I3 : Inv X pins σ (upd H2 D (o D)) s3 := by
    rw [← hs3]
    refine I2.laid (t' := s2.toks) (fun b o e => Heap.get?_push_of_some _ e) (Nat.le_of_eq hD) ?_
    rw [← hD]
    exact hnew _ _ I2.big
  have h3 : s3.heap = s2.heap.push ob := by rw [← hs3]
  have sz : ∀ b ∈ fp, b < s2.heap.objs.size := fun b hb => by
    obtain ⟨o, e, _⟩ := T.obj _ _ st2 b hb
    exact Heap.lt_size e
  have f3 : ∀ b ∈ fp, FpOk X pins (upd H2 D (o D)) b ∧ b < s3.heap.objs.size := fun b hb => by
    have hlt := sz b hb
    refine ⟨⟨?_, (f2 b hb).2⟩, by rw [h3, Heap.size_push]; exact Nat.lt_succ_of_lt hlt⟩
    rw [upd_ne (by rw [← hD]; exact Nat.ne_of_lt hlt)]
    exact (f2 b hb).1
  have st3 : tn 0 s3.heap := T.keep _ _ _ st2 fun b _ o e => by rw [h3]; exact Heap.get?_push_of_some _ e
  have I4 := block_start I3 ok hN f3
  have pg := hg s3 (upd H2 D (o D)) s3.heap.objs.size (cellsFrom (s3.heap.objs.size + 1) scope.names (cloFrom X.env.cells scope.names [])) fp
  have pt := ht s3 (upd H2 D (o D)) s3.heap.objs.size (cellsFrom (s3.heap.objs.size + 1) scope.names (cloFrom X.env.cells scope.names [])) fp
  have pb := hb s3 (upd H2 D (o D)) s3.heap.objs.size (cellsFrom (s3.heap.objs.size + 1) scope.names (cloFrom X.env.cells scope.names [])) fp D
  have lp := hL s3.heap.objs.size (cellsFrom (s3.heap.objs.size + 1) scope.names (cloFrom X.env.cells scope.names [])) (.ref D)
  show codeAny _ _ (.compStart Ex 0 (.ref it) (.ref D) (compEnvC scope (cellsFrom (s3.heap.objs.size + 1) scope.names (cloFrom X.env.cells scope.names [])) s3.heap.objs.size X.env)) (compPost (model X.prog X.w) X.A X.xe use Qf (.ref D) s3.heap.objs.size) { s3 with heap := pushCells (s3.heap.push { cls := .type "dict", data := .dict #[] }) scope.names }
  have nfp : ∀ b ∈ fp, (upd H2 D (o D)) b = none := fun b hb => (f3 b hb).1.1
  generalize hce : compEnvC scope (cellsFrom (s3.heap.objs.size + 1) scope.names (cloFrom X.env.cells scope.names [])) s3.heap.objs.size X.env = ce at I4 pg pt pb lp ⊢
  have cL : ce.locals = s3.heap.objs.size := by subst hce; rfl
  generalize hH3 : upd H2 D (o D) = H3 at I3 I4 pg pt pb w0 nfp f3
  generalize hs4 : ({ s3 with heap := pushCells (s3.heap.push { cls := .type "dict", data := .dict #[] }) scope.names } : Shared) = s4 at I4 ⊢
  have st4 : tn 0 s4.heap := T.keep _ _ _ st3 fun b _ o e => by rw [← hs4]; exact pushCells_keeps _ _ _ _ (Heap.get?_push_of_some _ e)
  have stat : ∀ {σ' : L2.St} {H' : Hp} {s' : Shared}, Inv (X.blk s3 H3 scope ce fp) [] σ' H' s' → (∀ b ∈ fp, H' b = none) → ∀ b ∈ fp, FpOk (X.blk s3 H3 scope ce fp) [] H' b := fun {σ' H' s'} I' hn b hb =>
    ⟨hn b hb, (I'.ok.exf b hb).1, I'.ok.exfs b hb, .inl hb, fun x c e => (I'.ok.exf b hb).2 x c e, fun p hp => absurd (show p ∈ ([] : List (Addr × Obj)) ++ [] from hp) (by simp)⟩
  have loop : codeAny (model X.prog X.w) X.A (.compLoop Ex 0 (.ref it) (.ref D) ce) (compPost (model X.prog X.w) X.A X.xe use Qf (.ref D) s3.heap.objs.size) s4 := by
    refine lp.run _ _ (fun n s' => ∃ i H', Inv (X.blk s3 H3 scope ce fp) [] (wipe σ (own.map (·.2))) H' s' ∧ tn i s'.heap ∧ (∀ b ∈ fp, H' b = none) ∧ W i n H') ?_ m0 s4 ⟨0, H3, I4, st4, nfp, w0⟩
    rintro n s5 ⟨i, H5, I5, st5, n5, w5⟩
    rcases turn i n H5 w5 with ⟨stop, qq⟩ | ⟨go, Nx, hNx, step⟩
    · have td := T.done (X.blk s3 H3 scope ce fp) rfl rfl rfl hc i [] s5 _ H5 (fun _ _ => False) I5 (stat I5 n5) st5 stop
      refine thnF td fun r s6 ⟨hr, I6⟩ => ?_
      subst hr
      have I7 : Inv X pins σ H5 s6 := I3.call' (ch := fp) I6.os I6.base I6.hok I6.bare fun b hb => ⟨(f3 b hb).1.2.2.2.1, (f3 b hb).1.2.1, (f3 b hb).1.2.2.2.2.1, (f3 b hb).1.2.2.2.2.2⟩
      have nC : H5 s3.heap.objs.size = none := by
        have z : H5 ce.locals = none := I6.free
        rw [cL] at z
        exact z
      obtain ⟨m, hn, _⟩ := I6.loc
      have hn : s6.heap.Ns ce.locals m := hn
      rw [cL] at hn
      exact hRR D s3.heap.objs.size s6 m H5 I7 qq hn (I3.fpOk (Nat.le_refl _) nC)
    · have ti := T.item (X.blk s3 H3 scope ce fp) rfl rfl rfl hc i [] s5 _ H5 (fun _ _ => False) I5 (stat I5 n5) st5 go
      refine thnF ti fun r s6 ⟨u, hr, h6⟩ => ?_
      subst hr
      refine thnF h6 fun _ s7 ⟨x, H7, I7, r7, y7, st7, n7⟩ => ?_
      have I7' := I7.pinned (stat I7 n7) (T.obj _ _ st7)
      refine thnF (pg.run _ s7 _ H7 x u _ I7' r7 (step x H7 y7)) fun _ s8 ⟨σ8, H8, I8, hw8, q8⟩ => ?_
      refine thnF (pt.run _ s8 σ8 H8 _ I8 q8) fun b s9 ⟨H9, I9, q9⟩ => ?_
      have fin : ∀ {σ9 : L2.St} {s' : Shared} {H' : Hp}, Inv (X.blk s3 H3 scope ce fp) ([] ++ pinsAt fp s7.heap) σ9 H' s' → σ9.length = σ8.length → (∀ (j : Nat) v, (wipe σ8 vsb)[j]? = some (some v) → σ9[j]? = some (some v)) → Nx H' →
          ∃ m, m < n ∧ ∃ i H', Inv (X.blk s3 H3 scope ce fp) [] (wipe σ (own.map (·.2))) H' s' ∧ tn i s'.heap ∧ (∀ b ∈ fp, H' b = none) ∧ W i m H' := fun {σ9 s' H'} I' hl hk nx => by
        obtain ⟨m', hm, w'⟩ := hNx H' nx
        have pin' : ∀ b ∈ fp, ∀ o, s7.heap.get? b = some o → s'.heap.get? b = some o ∧ H' b = none := fun b hb o e =>
          let z := I'.pin (b, o) (List.mem_append_right _ (List.mem_append_right _ (mem_pinsAt hb e)))
          ⟨z.1, z.2.1⟩
        refine ⟨m', hm, i + 1, H', (I'.unpinned (pins := [])).weak ?_ (fun j v e => ?_), T.keep _ _ _ st7 fun b hb o e => (pin' b hb o e).1, fun b hb => ?_, w'⟩
        · rw [hl, ← hw8, wipe_length]
        · rw [← hw8] at e
          obtain ⟨e1, e2⟩ := wipe_some e
          refine hk j v ?_
          rw [wipe_out fun z => e2 (hv j z)]
          exact e1
        · obtain ⟨o, e, _⟩ := T.obj _ _ st7 b hb
          exact (pin' b hb o e).2
      cases b with
      | false =>
        simp only [Bool.false_eq_true, if_false] at q9 ⊢
        exact fin I9 rfl (fun j v e => (wipe_some e).1) q9
      | true =>
        simp only [if_true] at q9 ⊢
        exact pb.run _ s9 σ8 H9 Nx _ I9 q9 fun s' σ' H' I' hl hk nx => fin I' hl hk nx
  exact hst loop (T.self X.A 0 _ _ _ st4 loop)
end
end PL

/-! Comprehensions of several clauses, by plain data; ranges as values. -/
namespace PL
open PySem PySem.Spec PyProof.Rows L2

section
variable {K : PySem.W.Frag} {H0 H H' : Hp} {iv : Addr → Prop} {as as' : List Addr} {e e' : En} {σ σ' : L2.St}
theorem SR.back2 (S : SR K H0 iv as e σ H) (S' : SR K H0 iv as e' σ' H') (ho : e'.ob = e.ob) (s : Sub (hid iv as e.ob H) (hid iv as e.ob H')) : SR K H0 iv as e σ H' := by
  obtain ⟨sl, ob⟩ := e
  obtain ⟨sl', ob'⟩ := e'
  simp only at ho
  subst ho
  exact ⟨S'.ext, S'.ivs, S'.len, S'.inj, S'.tr, S'.niv, S'.fr, S'.obs, S.slen, fun i w q => by
    obtain ⟨v, h1, h2⟩ := S.sls i w q
    exact ⟨v, h1, h2.sub0 s⟩⟩
theorem as_eq (S : SR K H0 iv as e σ H) (S' : SR K H0 iv as' e' σ' H') (l : Ltr iv as e.ob H as' e'.ob H') (ho : e'.ob = e.ob) : as' = as := by
  obtain ⟨t, ht⟩ := l.1
  have q : as'.length = as.length := by rw [S'.len, S.len, ho]
  subst ht
  have : t = [] := by simpa using q
  subst this; simp
end
/-- what stands at the new object's place -/
structure AccR (AR : Hp → Hp → Addr → List D → Prop) : Prop where
  some : ∀ {G H Dl acc}, AR G H Dl acc → ∃ u, H Dl = some u
  keep : ∀ {G H G' H' Dl acc}, AR G H Dl acc → H' Dl = H Dl → Sub G G' → AR G' H' Dl acc
def arL (K : PySem.W.Frag) : Hp → Hp → Addr → List D → Prop := fun G H Dl acc => ∃ xs, H Dl = some (.lst xs) ∧ Al (Dp K G) xs acc
def arS (w : World) : Hp → Hp → Addr → List D → Prop := fun G H Dl acc => ∃ (ns : List Int) (c : Nat), acc = ns.map .int ∧ H Dl = some (SetO w Dl (fun k => decide (k ∈ ns)) c) ∧ c ≤ ns.length
theorem acc_l {K : PySem.W.Frag} : AccR (arL K) := ⟨fun ⟨xs, h, _⟩ => ⟨_, h⟩, fun ⟨xs, h, al⟩ e s => ⟨xs, e.trans h, al.mono fun _ _ z => dp_sub s _ _ z⟩⟩
theorem acc_s {w : World} : AccR (arS w) := ⟨fun ⟨ns, c, _, h, _⟩ => ⟨_, h⟩, fun ⟨ns, c, a, h, b⟩ e s => ⟨ns, c, a, e.trans h, b⟩⟩

/-- at one turn -/
def FeedAt (K : PySem.W.Frag) (J : It) (ds : List D) (i : Nat) (G H : Hp) : Prop :=
  (∀ d, ds[i]? = some d → J.go i H ∧ ∀ x H', J.yld i H x H' → Sub H H' ∧ ∀ G', Sub G G' → (∀ b o, H b = none → H' b = some o → G' b = some o) → Dp K G' x d) ∧ (ds.length ≤ i → J.stop i H)
/-- what is walked, while the objects stay as they are -/
structure SndJ (K : PySem.W.Frag) (E : XK) (ti : TI) (p : PTI) : Prop where
  run : ∀ H0 iv as e σ H X Q R, SR K H0 iv as e σ H → p X e Q → (∀ J ds as' e' H', Q ds e' → SR K H0 iv as' e' σ H' → Ltr iv as e.ob H as' e'.ob H' →
    (∀ iv' i e2 σ2 H2, e2.ob = e'.ob → SR K H0 iv' as' e2 σ2 H2 → Sub (hid iv as' e'.ob H') (hid iv' as' e'.ob H2) → FeedAt K J ds i (hid iv' as' e'.ob H2) H2) → R J H') → LX K H0 iv as e σ H X E → ti σ H R
theorem SndI.j {K : PySem.W.Frag} {E : XK} {ti : TI} {p : PTI} (h : SndI K E ti p) : SndJ K E ti p := ⟨fun H0 iv as e σ H X Q R S hq k l =>
  h.run H0 iv as e σ H X Q R S hq (fun J ds Z as' e' H' q S' l' fd z => k J ds as' e' H' q S' l' fun iv' i e2 σ2 H2 _ _ s => fd.2 i _ H2 (fd.1 _ _ z s) hid_sub) l⟩
def pItO (p : PTE) : PTI := fun X e Q => p X e fun w e1 => ∃ n ds, w = .ref n ∧ e1.ob[n]? = some (.lst ds) ∧ Q ds e1
theorem feed_own {K : PySem.W.Frag} {a : Addr} {xs : List V} {ds : List D} {i : Nat} {G H : Hp} (h : H a = some (.lst xs)) (al : Al (Dp K G) xs ds) : FeedAt K (Itl K a) ds i G H := by
  have hs : SqL K H a xs := .inl (.inl h)
  refine ⟨fun d hd => ?_, fun hl => ⟨xs, hs, by rw [al.1]; exact hl⟩⟩
  obtain ⟨v, e1, r1⟩ := al.get hd
  refine ⟨⟨xs, v, hs, e1⟩, fun x H' hy => ?_⟩
  obtain ⟨rfl, hx⟩ := hy
  refine ⟨Sub.refl _, fun G' g _ => ?_⟩
  have e2 := hx xs hs
  rw [e1] at e2
  cases e2
  exact dp_sub g _ _ r1
/-- over a list of the def's own -/
theorem sj_own {K : PySem.W.Frag} {E : XK} {te : TE} {p : PTE} (h : SndE K E te p) : SndJ K E (iList K te) (pItO p) := ⟨fun H0 iv as e σ H X Q R S hq k l => by
  refine h.run H0 iv as e σ H X _ _ S hq (fun v w as1 e1 H1 h1 S1 l1 w1 => ?_) l
  obtain ⟨n, ds, rfl, ho, q⟩ := h1
  obtain ⟨a, ha, rfl⟩ := w1
  obtain ⟨xs, hx, al⟩ := S1.obs n a _ ha ho
  refine ⟨a, rfl, ⟨xs, .inl (.inl hx)⟩, k _ ds as1 e1 H1 q S1 l1 fun iv' i e2 σ2 H2 eo S2 s => ?_⟩
  obtain ⟨xs2, hx2, al2⟩ := S2.obs n a _ ha (by rw [eo]; exact ho)
  rw [eo] at al2
  exact feed_own hx2 al2⟩
/-! ### readings -/
abbrev PTB := List Ob → En → List D → (List D → Prop) → Prop
def pbElt (te : PTE) : PTB := fun ob e acc N => acc.length ≤ 1000000 ∧ te noX e fun w e4 => e4.ob = ob ∧ kD e4 w fun y => N (acc ++ [y])
/-- the element an int -/
def pbEltI (te : PTE) : PTB := fun ob e acc N => acc.length ≤ 1000 ∧ te noX e fun w e4 => e4.ob = ob ∧ kD e4 w fun y => match y with
  | .int i => N (acc ++ [.int i])
  | _ => False
def pbFor (vs : List Nat) (p : PTI) (g : PTG) (tt : PTT) (b : PTB) : PTB := fun ob e acc N => p noX e fun ds e1 => e1.ob = ob ∧ ∃ I : Nat → List D → Prop, I 0 acc ∧
  (∀ i d acc, ds[i]? = some d → I i acc → g (.dat d) ⟨wipeE e1.sl vs, e1.ob⟩ fun e2 => tt noX e2 fun c e3 => (c = true → e3.ob = ob ∧ b ob e3 acc (I (i + 1))) ∧ (c = false → e3.ob = ob ∧ I (i + 1) acc)) ∧ ∀ acc, I ds.length acc → N acc
def pLcB (vs : List Nat) (p : PTI) (g : PTG) (tt : PTT) (b : PTB) (fin : List D → En → (Wv → En → Prop) → Prop) : PTE := fun X e Q => p X e fun ds e1 => ∃ I : Nat → List D → Prop, I 0 [] ∧
  (∀ i d acc, ds[i]? = some d → I i acc → g (.dat d) ⟨wipeE e1.sl vs, e1.ob⟩ fun e2 => tt noX e2 fun c e3 => (c = true → e3.ob = e1.ob ∧ b e1.ob e3 acc (I (i + 1))) ∧ (c = false → e3.ob = e1.ob ∧ I (i + 1) acc)) ∧ ∀ acc, I ds.length acc → fin acc e1 Q
def finL : List D → En → (Wv → En → Prop) → Prop := fun acc e Q => Q (.dat (.list acc)) e
/-- sorted(..) of the set -/
def finSS : List D → En → (Wv → En → Prop) → Prop := fun acc e Q => ∃ ns : List Int, acc = ns.map .int ∧ ns.length < 60 ∧ ∀ ms : List Int, ms.Pairwise (· < ·) → (∀ k, k ∈ ms ↔ k ∈ ns) → Q (.dat (.list (ms.map .int))) e

/-! ### they serve -/
structure SndB (K : PySem.W.Frag) (AR : Hp → Hp → Addr → List D → Prop) (tb : TB) (pb : PTB) : Prop where
  run : ∀ (H0 : Hp) (iv : Addr → Prop) as e σ H Dl acc (N : List D → Prop) (R : Hp → Prop), iv Dl → H0 Dl = none → SR K H0 iv as e σ H → AR (hid iv as e.ob H) H Dl acc → pb e.ob e acc N →
    (∀ acc' H', N acc' → SR K H0 iv as e σ H' → Sub (hid iv as e.ob H) (hid iv as e.ob H') → (∀ b, iv b → b ≠ Dl → H' b = H b) → AR (hid iv as e.ob H') H' Dl acc' → R H') → tb Dl σ H R
section
variable {K : PySem.W.Frag} {E : XK} {w : World} {te : TE} {p : PTE} {wi : TI} {pi : PTI} {g : TG} {pg : PTG} {tt : TT} {pt : PTT} {vs : List Nat} {AR : Hp → Hp → Addr → List D → Prop} {tb : TB} {pb : PTB}
theorem sndB_elt (he : SndE K E te p) : SndB K (arL K) (tbApp te) (pbElt p) := ⟨fun H0 iv as e σ H Dl acc N R hD h0 S ar h k => by
  obtain ⟨hl, h⟩ := h
  obtain ⟨xs, hx, al⟩ := ar
  refine he.run H0 iv as e σ H noX _ _ S h (fun v w as6 e6 H6 h6 S6 l6 w6 => ?_) (fun x cls d as' e' H' z => z.elim)
  obtain ⟨eo6, h7⟩ := h6
  obtain ⟨yd, ey, hN⟩ := kD_elim h7
  have hx6 : H6 Dl = some (.lst xs) := by rw [l6.2.2 Dl hD]; exact hx
  have has := as_eq S S6 l6 eo6
  subst has
  refine ⟨xs, hx6, by rw [al.1]; exact Nat.lt_of_le_of_lt hl (by decide), ?_⟩
  have s6 : Sub (hid iv as6 e.ob H) (hid iv as6 e.ob H6) := by
    have q := l6.2.1
    rw [eo6] at q; exact q
  have SB : SR K H0 iv as6 e σ H6 := S.back2 S6 eo6 s6
  obtain ⟨SP, eP⟩ := SB.poke (p := Dl) (u := .lst (xs ++ [v])) hD h0
  refine k _ _ hN SP (by rw [eP]; exact s6) (fun b hb hne => by rw [upd_ne hne]; exact l6.2.2 b hb) ⟨_, upd_same, ?_⟩
  rw [eP]
  refine Al.app (al.mono fun a b r => dp_sub s6 _ _ r) ?_
  have q := asD_wr S6 w6 ey
  rw [eo6] at q; exact q⟩
theorem sndB_eltI (he : SndE K E te p) : SndB K (arS w) (tbAdd w te) (pbEltI p) := ⟨fun H0 iv as e σ H Dl acc N R hD h0 S ar h k => by
  obtain ⟨hl, h⟩ := h
  obtain ⟨ns, c, rfl, hx, hc⟩ := ar
  refine he.run H0 iv as e σ H noX _ _ S h (fun v wv as6 e6 H6 h6 S6 l6 w6 => ?_) (fun x cls d as' e' H' z => z.elim)
  obtain ⟨eo6, h7⟩ := h6
  obtain ⟨yd, ey, hN⟩ := kD_elim h7
  have has := as_eq S S6 l6 eo6
  subst has
  split at hN
  · rename_i i
    have hv := dp_int (asD_wr S6 w6 ey)
    subst hv
    have hx6 : H6 Dl = some (SetO w Dl (fun k => decide (k ∈ ns)) c) := by rw [l6.2.2 Dl hD]; exact hx
    rw [List.length_map] at hl
    refine ⟨i, _, c, rfl, hx6, by unfold scanBound; omega, ?_⟩
    have s6 : Sub (hid iv as6 e.ob H) (hid iv as6 e.ob H6) := by
      have q := l6.2.1
      rw [eo6] at q; exact q
    have SB : SR K H0 iv as6 e σ H6 := S.back2 S6 eo6 s6
    have ef : (fun j : Int => decide (j ∈ ns) || decide (j = i)) = fun k => decide (k ∈ ns ++ [i]) := by
      funext j
      rw [Bool.eq_iff_iff]
      simp
    rw [ef]
    obtain ⟨SP, eP⟩ := SB.poke (p := Dl) (u := SetO w Dl (fun k => decide (k ∈ ns ++ [i])) (if decide (i ∈ ns) = true then c else c + 1)) hD h0
    refine k _ _ hN SP (by rw [eP]; exact s6) (fun b hb hne => by rw [upd_ne hne]; exact l6.2.2 b hb) ⟨ns ++ [i], _, by rw [List.map_append]; rfl, upd_same, ?_⟩
    rw [List.length_append, List.length_singleton]
    split <;> omega
  · exact hN.elim⟩
/-- a clause's loop -/
theorem clause_run {H0 : Hp} {iv : Addr → Prop} {as : List Addr} {e1 : En} {σ : L2.St} {H1 : Hp} {Dl : Addr} {E1 : XK} (A : AccR AR) (hg : SndG K vs g pg) (ht : SndT K E1 tt pt) (hb : SndB K AR tb pb) {J : It} {ds : List D} (hD : iv Dl) (h0 : H0 Dl = none)
    (S1 : SR K H0 iv as e1 σ H1) (fd : ∀ i H', SR K H0 iv as e1 σ H' → Sub (hid iv as e1.ob H1) (hid iv as e1.ob H') → FeedAt K J ds i (hid iv as e1.ob H') H') {acc0 : List D} (ar : AR (hid iv as e1.ob H1) H1 Dl acc0) (I : Nat → List D → Prop) (i0 : I 0 acc0)
    (hs : ∀ i d acc, ds[i]? = some d → I i acc → pg (.dat d) ⟨wipeE e1.sl vs, e1.ob⟩ fun e2 => pt noX e2 fun c e3 => (c = true → e3.ob = e1.ob ∧ pb e1.ob e3 acc (I (i + 1))) ∧ (c = false → e3.ob = e1.ob ∧ I (i + 1) acc)) {R : Hp → Prop}
    (k : ∀ acc H', I ds.length acc → SR K H0 iv as e1 σ H' → Sub (hid iv as e1.ob H1) (hid iv as e1.ob H') → (∀ b, iv b → b ≠ Dl → H' b = H1 b) → AR (hid iv as e1.ob H') H' Dl acc → R H') :
    ∃ W : Nat → Nat → Hp → Prop, (∃ m, W 0 m H1) ∧ ∀ j m H, W j m H →
      (J.stop j H ∧ R H) ∨ (J.go j H ∧ ∃ Nx1 : Hp → Prop, (∀ H', Nx1 H' → ∃ k', k' < m ∧ W (j + 1) k' H') ∧ ∀ x H', J.yld j H x H' → g x (wipe σ vs) H' fun σ3 H5 => wipe σ3 vs = wipe σ vs ∧ tt σ3 H5 fun b H6 =>
        if b = true then tb Dl σ3 H6 Nx1 else Nx1 H6) := by
  let St : Nat → Hp → Prop := fun i H' => ∃ acc, I i acc ∧ SR K H0 iv as e1 σ H' ∧ Sub (hid iv as e1.ob H1) (hid iv as e1.ob H') ∧ (∀ b, iv b → b ≠ Dl → H' b = H1 b) ∧ AR (hid iv as e1.ob H') H' Dl acc
  refine ⟨fun i m H' => m = ds.length - i ∧ i ≤ ds.length ∧ St i H', ⟨ds.length, by simp, Nat.zero_le _, acc0, i0, S1, Sub.refl _, fun _ _ _ => rfl, ar⟩, ?_⟩
  rintro i m H2 ⟨rfl, hle, acc, hI, S2, s2, hv2, ar2⟩
  obtain ⟨f1, f2⟩ := fd i H2 S2 s2
  by_cases hlt : i < ds.length
  · obtain ⟨go, yl⟩ := f1 ds[i] (List.getElem?_eq_getElem hlt)
    refine .inr ⟨go, St (i + 1), fun H' z => ⟨ds.length - (i + 1), by omega, rfl, hlt, z⟩, fun y H3 hy => ?_⟩
    obtain ⟨g3, dp3⟩ := yl y H3 hy
    obtain ⟨S3, l3⟩ := S2.grow g3
    have w3 : WR K (hid iv as e1.ob H3) as y (.dat ds[i]) := dp3 _ l3.2.1 fun b o n1 n2 => S2.seen n1 n2
    have T := hs i ds[i] acc (List.getElem?_eq_getElem hlt) hI
    refine hg.run H0 iv as ⟨wipeE e1.sl vs, e1.ob⟩ (wipe σ vs) H3 y _ _ _ (S3.wipe vs) w3 T fun e4 σ4 h4 S4 eo hlen hout => ?_
    refine ⟨(wipe_eq hlen hout).trans (wipe_eq (wipe_length σ vs) fun i hi => by rw [wipe_at, if_neg (fun z => hi z.1)]), ?_⟩
    have l4 : Ltr iv as e1.ob H3 as e4.ob H3 := by rw [eo]; exact Ltr.refl
    refine ht.run H0 iv as e4 σ4 H3 noX _ _ S4 h4 (fun b as5 e5 H5 h5 S5 l5 => ?_) (fun x cls d as' e' H' z => z.elim)
    have l35 := l4.trans l5
    -- behind the tests: any later state that keeps the objects
    have fin : ∀ (eo5 : e5.ob = e1.ob) {H' : Hp} {e' : En} {σ' : L2.St} {acc' : List D}, as5 = as → I (i + 1) acc' → SR K H0 iv as e' σ' H' → e'.ob = e1.ob → Sub (hid iv as e1.ob H5) (hid iv as e1.ob H') → (∀ b, iv b → b ≠ Dl → H' b = H5 b) → AR (hid iv as e1.ob H') H' Dl acc' → St (i + 1) H' :=
      fun eo5 {H' e' σ' acc'} has hI' S' eo' s' hv' ar' => by
        subst has
        have s35 : Sub (hid iv as5 e1.ob H3) (hid iv as5 e1.ob H5) := by
          have q := l35.2.1
          rw [eo5] at q; exact q
        have sAll := (s35.trans s')
        exact ⟨acc', hI', S3.back2 S' eo' sAll, (s2.trans l3.2.1).trans sAll, fun b hb hne => by rw [hv' b hb hne, l35.2.2 b hb, l3.2.2 b hb, hv2 b hb hne], ar'⟩
    have arAt : e5.ob = e1.ob → as5 = as → AR (hid iv as e1.ob H5) H5 Dl acc := fun eo5 has => by
      subst has
      have s35 : Sub (hid iv as5 e1.ob H2) (hid iv as5 e1.ob H5) := by
        have q := l35.2.1
        rw [eo5] at q; exact l3.2.1.trans q
      exact A.keep ar2 (by rw [l35.2.2 Dl hD, l3.2.2 Dl hD]) s35
    cases b with
    | true =>
      rw [if_pos rfl]
      obtain ⟨eo5, h6⟩ := h5.1 rfl
      have has : as5 = as := as_eq S3 S5 l35 eo5
      have ar5 := arAt eo5 has
      have F := fun {H' e' σ' acc'} => @fin eo5 H' e' σ' acc' has
      subst has
      rw [← eo5] at h6 ar5
      refine hb.run H0 iv as5 e5 σ4 H5 Dl acc _ _ hD h0 S5 ar5 h6 fun acc' H' hI' S' s' hv' ar' => ?_
      rw [eo5] at s' ar'
      exact F hI' S' eo5 s' hv' ar'
    | false =>
      rw [if_neg Bool.false_ne_true]
      obtain ⟨eo5, hI'⟩ := h5.2 rfl
      have has : as5 = as := as_eq S3 S5 l35 eo5
      have ar5 := arAt eo5 has
      have F := fun {H' e' σ' acc'} => @fin eo5 H' e' σ' acc' has
      subst has
      exact F hI' S5 eo5 (Sub.refl _) (fun _ _ _ => rfl) ar5
  · have hi : i = ds.length := by omega
    subst hi
    exact .inl ⟨f2 (Nat.le_refl _), k acc H2 hI S2 s2 hv2 ar2⟩
theorem sndB_for {E1 : XK} (A : AccR AR) (hi : SndJ K E wi pi) (hg : SndG K vs g pg) (ht : SndT K E1 tt pt) (hb : SndB K AR tb pb) : SndB K AR (tbFor wi g tt vs tb) (pbFor vs pi pg pt pb) := ⟨fun H0 iv as e σ H Dl acc N R hD h0 S ar h k => by
  refine hi.run H0 iv as e σ H noX _ _ S h (fun J ds as1 e1 H1 h1 S1 l1 fd => ?_) (fun x cls d as' e' H' z => z.elim)
  obtain ⟨eo1, I, i0, hs, hd⟩ := h1
  have has : as1 = as := as_eq S S1 l1 eo1
  subst has
  have s1 : Sub (hid iv as1 e.ob H) (hid iv as1 e.ob H1) := by
    have q := l1.2.1
    rw [eo1] at q; exact q
  have ar1 : AR (hid iv as1 e1.ob H1) H1 Dl acc := by
    rw [eo1]
    exact A.keep ar (l1.2.2 Dl hD) s1
  refine clause_run A hg ht hb hD h0 S1 (fun i H' S' s' => fd iv i e1 σ H' rfl S' s') ar1 I i0 (fun i d acc hd hI => by rw [← eo1] at hs; exact hs i d acc hd hI) fun acc' H' hI' S' s' hv' ar' => ?_
  rw [eo1] at s' ar'
  exact k acc' H' (hd acc' hI') (S.back2 S' eo1 (s1.trans s')) (s1.trans s') (fun b hb hne => by rw [hv' b hb hne, l1.2.2 b hb]) ar'⟩
/-- the whole -/
theorem lcB_run {E1 : XK} {o : Addr → HO} (A : AccR AR) (hg : SndG K vs g pg) (ht : SndT K E1 tt pt) (hb : SndB K AR tb pb) {J : It} {ds : List D} {H0 H1 : Hp} {iv : Addr → Prop} {as1 : List Addr} {e1 : En} {σ : L2.St} (S1 : SR K H0 iv as1 e1 σ H1) (fd : ∀ iv' i e2 σ2 H2, e2.ob = e1.ob → SR K H0 iv' as1 e2 σ2 H2 → Sub (hid iv as1 e1.ob H1) (hid iv' as1 e1.ob H2) → FeedAt K J ds i (hid iv' as1 e1.ob H2) H2)
    (I : Nat → List D → Prop) (i0 : I 0 []) (hs : ∀ i d acc, ds[i]? = some d → I i acc → pg (.dat d) ⟨wipeE e1.sl vs, e1.ob⟩ fun e2 => pt noX e2 fun c e3 => (c = true → e3.ob = e1.ob ∧ pb e1.ob e3 acc (I (i + 1))) ∧ (c = false → e3.ob = e1.ob ∧ I (i + 1) acc)) {R : VK} {Dl : Addr} (hD : H1 Dl = none) (ar0 : ∀ G, AR G (upd H1 Dl (o Dl)) Dl [])
    (k : ∀ acc H', I ds.length acc → SR K H0 (ivp iv Dl) as1 e1 σ H' → Sub (hid iv as1 e1.ob H1) (hid (ivp iv Dl) as1 e1.ob H') → (∀ b, iv b → H' b = H1 b) → AR (hid (ivp iv Dl) as1 e1.ob H') H' Dl acc → R (.ref Dl) H') :
    ∃ W : Nat → Nat → Hp → Prop, (∃ m, W 0 m (upd H1 Dl (o Dl))) ∧ ∀ i m H, W i m H →
      (J.stop i H ∧ R (.ref Dl) H) ∨ (J.go i H ∧ ∃ Nx : Hp → Prop, (∀ H', Nx H' → ∃ m', m' < m ∧ W (i + 1) m' H') ∧ ∀ x H', J.yld i H x H' → g x (wipe σ vs) H' fun σ2 H2 => wipe σ2 vs = wipe σ vs ∧ tt σ2 H2 fun b H3 =>
        if b = true then tb Dl σ2 H3 Nx else Nx H3) := by
  have s0 : Sub (hid iv as1 e1.ob H1) (hid (ivp iv Dl) as1 e1.ob (upd H1 Dl (o Dl))) := hid_ivp_new hD
  have hne : ∀ b, iv b → b ≠ Dl := fun b hb z => by
    subst z
    obtain ⟨o, q⟩ := S1.ivs _ hb
    rw [hD] at q; cases q
  refine clause_run (R := R (.ref Dl)) A hg ht hb (.inr rfl) (S1.h0 hD) (S1.hide hD) (fun i H' S' s' => fd _ i e1 σ H' rfl S' (s0.trans s')) (ar0 _) I i0 hs fun acc H' hI S' s' hv' ar' => ?_
  exact k acc H' hI S' (s0.trans s') (fun b hb => by rw [hv' b (.inl hb) (hne b hb), upd_ne (hne b hb)]) ar'
theorem snd_lcB {E1 : XK} (hi : SndJ K E wi pi) (hg : SndG K vs g pg) (ht : SndT K E1 tt pt) (hb : SndB K (arL K) tb pb) : SndE K E (tLcB (fun _ => .lst []) wi g tt vs tb) (pLcB vs pi pg pt pb finL) := ⟨fun H0 iv as e σ H X Q R S h k l => by
  refine hi.run H0 iv as e σ H X _ _ S h (fun J ds as1 e1 H1 h1 S1 l1 fd => ?_) l
  obtain ⟨I, i0, hs, hd⟩ := h1
  refine fun Dl hD => lcB_run (o := fun _ => .lst []) acc_l hg ht hb S1 fd I i0 hs hD (fun G => ⟨[], upd_same, Al.nil⟩) fun acc H' hI S' s' hv ar => ?_
  obtain ⟨xs, hx, al⟩ := ar
  have SS := S'.show
  have up : Sub (hid (ivp iv Dl) as1 e1.ob H') (hid iv as1 e1.ob H') := hid_ivp rfl
  have see : hid iv as1 e1.ob H' Dl = some (.lst xs) := hid_some.mpr ⟨S1.fresh hD, hx⟩
  refine k _ _ as1 e1 H' (hd acc hI) SS (l1.trans ⟨⟨[], by simp⟩, s'.trans up, hv⟩) (Dp.lst (.inl (.inl see)) (dpAll_al.mpr (al.mono fun a b r => dp_sub up _ _ r)))⟩
/-- the list an object of the def's own -/
def finLO : List D → En → (Wv → En → Prop) → Prop := fun acc e Q => Q (.ref e.ob.length) ⟨e.sl, e.ob ++ [.lst acc]⟩
theorem snd_lcBO {E1 : XK} (hi : SndJ K E wi pi) (hg : SndG K vs g pg) (ht : SndT K E1 tt pt) (hb : SndB K (arL K) tb pb) : SndE K E (tLcB (fun _ => .lst []) wi g tt vs tb) (pLcB vs pi pg pt pb finLO) := ⟨fun H0 iv as e σ H X Q R S h k l => by
  refine hi.run H0 iv as e σ H X _ _ S h (fun J ds as1 e1 H1 h1 S1 l1 fd => ?_) l
  obtain ⟨I, i0, hs, hd⟩ := h1
  refine fun Dl hD => lcB_run (o := fun _ => .lst []) acc_l hg ht hb S1 fd I i0 hs hD (fun G => ⟨[], upd_same, Al.nil⟩) fun acc H' hI S' s' hv ar => ?_
  obtain ⟨xs, hx, al⟩ := ar
  obtain ⟨SS, lS⟩ := S'.own (iv := iv) (h0 := S1.h0 hD) (hn := (S1.fresh hD).1) (o := .lst acc) rfl ⟨xs, hx, al⟩
  exact k _ _ _ _ H' (hd acc hI) SS (l1.trans ⟨⟨[Dl], rfl⟩, s'.trans lS, hv⟩) ⟨Dl, by rw [← S1.len]; simp, rfl⟩⟩
/-- sorted({..}) -/
theorem snd_ssB {E1 : XK} (hi : SndJ K E wi pi) (hg : SndG K vs g pg) (ht : SndT K E1 tt pt) (hb : SndB K (arS w) tb pb) : SndE K E (tCB (rSortedSet w) (tCons (tLcB (fun Dl => SetO w Dl (fun _ => false) 0) wi g tt vs tb) tNil)) (pLcB vs pi pg pt pb finSS) := ⟨fun H0 iv as e σ H X Q R S h k l => by
  refine hi.run H0 iv as e σ H X _ _ S h (fun J ds as1 e1 H1 h1 S1 l1 fd => ?_) l
  obtain ⟨I, i0, hs, hd⟩ := h1
  refine fun Dl hD => lcB_run (R := fun x H1 => tNil σ H1 fun xs H2 => rSortedSet w (x :: xs) H2 R) (o := fun Dl => SetO w Dl (fun _ => false) 0) acc_s hg ht hb S1 fd I i0 hs hD (fun G => ⟨[], 0, rfl, by rw [upd_same]; exact congrArg (fun f => some (SetO w Dl f 0)) (funext fun k => by simp), Nat.le_refl _⟩) fun acc H' hI S' s' hv ar => ?_
  obtain ⟨ns, c, rfl, hx, hc⟩ := ar
  obtain ⟨ns', en, hl, fin⟩ := hd _ hI
  have en : ns' = ns := by
    have inj : ∀ (a b : List Int), a.map PyData.int = b.map PyData.int → a = b := fun a => by
      induction a with
      | nil => intro b h; cases b with
        | nil => rfl
        | cons _ _ => cases h
      | cons x a ih => intro b h; cases b with
        | nil => cases h
        | cons y b => simp only [List.map_cons, List.cons.injEq, PyData.int.injEq] at h; rw [h.1, ih b h.2]
    exact (inj _ _ en).symm
  subst en
  refine ⟨Dl, _, c, rfl, hx, by omega, fun ms p up mem len hp => ?_⟩
  have SS := S'.show
  have upS : Sub (hid (ivp iv Dl) as1 e1.ob H') (hid iv as1 e1.ob H') := hid_ivp rfl
  obtain ⟨S2, l2⟩ := SS.grow (Sub.new (o := .lst (ms.map V.int)) hp)
  exact k _ _ as1 e1 _ (fin ms up fun j => (mem j).trans (by simp)) S2 ((l1.trans ⟨⟨[], by simp⟩, s'.trans upS, hv⟩).trans l2) (Dp.lst (.inl (.inl (SS.seen hp upd_same))) (dpAll_al.mpr (al_of_ints ms)))⟩
/-- for .. in a list of the def's own that the turns leave as it is -/
def pForO (p : PTE) (g : PTG) (b : PTS) : PTS := fun P e => p P.xe e fun w e1 => ∃ n ds, w = .ref n ∧ e1.ob[n]? = some (.lst ds) ∧ ∃ (vs : List Nat) (I : Nat → En → Prop), I 0 (wp vs e1) ∧
  (∀ i d e', ds[i]? = some d → I i e' → e'.ob[n]? = some (.lst ds) ∧ g (.dat d) e' fun e2 => b { P with nx := fun e3 => I (i + 1) (wp vs e3), ct := fun e3 => I (i + 1) (wp vs e3), bk := P.nx } e2) ∧ ∀ e', I ds.length e' → e'.ob[n]? = some (.lst ds) ∧ P.nx e'
theorem snd_forO {ts : TS} {ps : PTS} (hi : SndE K E te p) (hg : SndG K vs g pg) (hb : SndS K E ts ps) : SndS K E (tFor (iList K te) g ts) (pForO p pg ps) := ⟨fun H0 iv as e σ H P F S h n b c r x => by
  refine hi.run H0 iv as e σ H P.xe _ _ S h (fun v w as1 e1 H1 h1 S1 l1 w1 => ?_) x.lx
  obtain ⟨nn, ds, rfl, ho, ws, I, i0, hs, hd⟩ := h1
  obtain ⟨a, ha, rfl⟩ := w1
  obtain ⟨xs, hx, al⟩ := S1.obs nn a _ ha ho
  refine ⟨a, rfl, ⟨xs, .inl (.inl hx)⟩, ?_⟩
  refine ⟨fun i m σ' H' => m = ds.length - i ∧ i ≤ ds.length ∧ ∃ as' e', I i e' ∧ SR K H0 iv as' e' σ' H' ∧ Ltr iv as1 e1.ob H1 as' e'.ob H', ⟨ds.length, by simp, Nat.zero_le _, as1, wp ws e1, i0, S1.forg ws, Ltr.refl⟩, ?_⟩
  rintro i m σ2 H2 ⟨rfl, hle, as2, e2, hI, S2, l2⟩
  have ha2 : as2[nn]? = some a := by
    obtain ⟨t, rfl⟩ := l2.1
    rw [List.getElem?_append_left (List.getElem?_eq_some_iff.mp ha).1]; exact ha
  by_cases hlt : i < ds.length
  · obtain ⟨ho2, hs2⟩ := hs i ds[i] e2 (List.getElem?_eq_getElem hlt) hI
    obtain ⟨xs2, hx2, al2⟩ := S2.obs nn a _ ha2 ho2
    obtain ⟨f1, f2⟩ := feed_own (i := i) hx2 al2
    obtain ⟨go, yl⟩ := f1 ds[i] (List.getElem?_eq_getElem hlt)
    refine .inr ⟨go, fun σ' H' => ∃ as' e', I (i + 1) e' ∧ SR K H0 iv as' e' σ' H' ∧ Ltr iv as1 e1.ob H1 as' e'.ob H', fun σ' H' ⟨as', e', z⟩ => ⟨ds.length - (i + 1), by omega, rfl, hlt, as', e', z⟩, fun y H3 hy => ?_⟩
    obtain ⟨g3, dp3⟩ := yl y H3 hy
    obtain ⟨S3, l3⟩ := S2.grow g3
    have w3 : WR K (hid iv as2 e2.ob H3) as2 y (.dat ds[i]) := dp3 _ l3.2.1 fun b o n1 n2 => S2.seen n1 n2
    refine hg.run H0 iv as2 e2 σ2 H3 y _ _ _ S3 w3 hs2 fun e4 σ4 h4 S4 eo _ _ => ?_
    have l4 : Ltr iv as1 e1.ob H1 as2 e4.ob H3 := by rw [eo]; exact l2.trans l3
    have back : KN K H0 iv as2 e4 H3 (fun e3 => I (i + 1) (wp ws e3)) (fun σ' H' => ∃ as' e', I (i + 1) e' ∧ SR K H0 iv as' e' σ' H' ∧ Ltr iv as1 e1.ob H1 as' e'.ob H') :=
      fun as5 e5 σ5 H5 hi5 S5 l5 => ⟨as5, wp ws e5, hi5, S5.forg ws, l4.trans l5⟩
    have l := l1.trans l4
    exact hb.run H0 iv as2 e4 σ4 H3 _ { F with nx := _, ct := _, bk := F.nx } S4 h4 back (n.on l) back (r.on l) (x.on l)
  · have hi : i = ds.length := by omega
    subst hi
    obtain ⟨ho2, hn⟩ := hd e2 hI
    obtain ⟨xs2, hx2, al2⟩ := S2.obs nn a _ ha2 ho2
    exact .inl ⟨(feed_own (i := ds.length) hx2 al2).2 (Nat.le_refl _), n as2 e2 σ2 H2 hn S2 (l1.trans l2)⟩⟩
end
end PL

/-! Rules: comprehensions of several clauses, ranges as values. -/
namespace PL
open PySem PySem.Spec PyProof.Rows L2

/-! ### ranges as values -/
abbrev rRng1 : List V → Hp → VK → Prop := fun vs H Q => ∃ j, vs = [V.int j] ∧ ∀ p, H p = none → Q (.ref p) (upd H p (.rng 0 j))
theorem cr_range1 {X : Cx} : CallR X (.type "range") rRng1 := by
  intro pins s σ H vs us Q I r h
  obtain ⟨j, rfl, q⟩ := h
  cases r with
  | cons r rr =>
    cases rr
    obtain ⟨t, rfl⟩ := r
    refine call_range_1 ⟨.ref s.heap.objs.size, upd H s.heap.objs.size (.rng 0 j), I.laid (t' := s.toks + 2) (fun b o e => Heap.get?_push_of_some _ e) (Nat.le_refl _) ?_, rfl, q _ (I.hok.fresh (Nat.le_refl _))⟩
    exact ⟨_, _, _, Heap.get?_push_size _ rfl⟩
def pRngV (pr : PTA) : PTE := fun X e Q => pr X e fun ws e1 => kDs e1 ws fun ds => match ds with
  | [.int n] => Q (.ref e1.ob.length) ⟨e1.sl, e1.ob ++ [.rng 0 n]⟩
  | _ => False
theorem snd_rngV {K : PySem.W.Frag} {E : XK} {tr : TA} {pr : PTA} (ha : SndA K E tr pr) : SndE K E (tCB rRng1 tr) (pRngV pr) := ⟨fun H0 iv as e σ H X Q R S h k l => by
  refine ha.run H0 iv as e σ H X _ _ S h (fun vs ws as1 e1 H1 h1 S1 l1 w1 => ?_) l
  obtain ⟨ds, ed, h2⟩ := kDs_elim h1
  split at h2
  · rename_i n
    rw [al_ints1 (asDs_wr S1 w1 ed)]
    refine ⟨n, rfl, fun p hp => ?_⟩
    obtain ⟨S2, l2⟩ := S1.newO (o := .rng 0 n) (u := .rng 0 n) hp rfl upd_same
    exact k _ _ _ _ _ h2 S2 (l1.trans l2) ⟨p, by rw [← S1.len]; simp, rfl⟩
  · exact h2.elim⟩
theorem pd_rngV {X : Cx} {E : XK} {a : Expr} {tr : TA} {pr : PTA} {pos p2 : Pos} (hg : Gl X "range") (hm : X.mg "range" = none) (ha : AD X E [a] tr pr) (he : starEach [a] X.env = (false, eval a X.env) :: starEach [] X.env := by rfl) (hpl : (backTo pos (starEach [] X.env)).any (·.1) = false := by rfl) :
    PD X E (.Call (.Name "range" p2) [a] [] pos) (tCB rRng1 tr) (pRngV pr) := ⟨pe_callTy cr_range1 hg hm (by decide +kernel) ha.a (by decide) (by decide) he hpl, snd_rngV ha.b⟩
def iRv (tl : TE) : TI := fun σ H R => tl σ H fun x H1 => ∃ a lo hi, x = .ref a ∧ H1 a = some (.rng lo hi) ∧ (-(2 ^ 62) ≤ lo ∧ lo < 2 ^ 62 ∧ -(2 ^ 62) ≤ hi ∧ hi < 2 ^ 62) ∧ R (Itr lo (hi - lo).toNat) H1
theorem pi_rv {X : Cx} {tg a : Expr} {ta : TE} (h : PE X a ta) : PI X tg a (iRv ta) := by
  refine ⟨fun pins s σ H R I hq => ?_⟩
  refine thn (h.run pins s σ H _ I hq) fun v s1 ⟨x, H1, I1, r1, q1⟩ => ?_
  obtain ⟨l, lo, hi, e, hl, ⟨h1, h2, h3, h4⟩, q⟩ := q1
  subst e
  cases r1
  obtain ⟨t, u, v, ho⟩ := I1.hok l _ hl
  refine wpAny_pyIter_range (r := l) ho (small_one h1 h2 h3 h4) ?_
  refine ⟨s1.heap.objs.size, [s1.heap.objs.size], _, _, H1, rfl, I1.kept (t' := s1.toks) fun b o e => Heap.get?_push_of_some _ e, turn_range _ lo (hi - lo).toNat, ?_, fun b hb => ?_, q⟩
  · have e1 : lo + ((0 : Nat) : Int) * 1 = lo := by simp
    have e2 : (((hi - lo).toNat : Nat) : Int) - ((0 : Nat) : Int) = Builtin.Range.rangeSize lo hi 1 := by rw [rangeSize_one]; split <;> omega
    show IsRangeIter _ _ (lo + ((0 : Nat) : Int) * 1) ((((hi - lo).toNat : Nat) : Int) - ((0 : Nat) : Int)) 1
    rw [e1, e2]
    exact Heap.get?_push_size _ rfl
  · rw [show b = s1.heap.objs.size by simpa using hb]
    exact I1.fpOk (Nat.le_refl _) (I1.hok.fresh (Nat.le_refl _))
def pItR (p : PTE) : PTI := fun X e Q => p X e fun w e1 => ∃ n lo hi, w = .ref n ∧ e1.ob[n]? = some (.rng lo hi) ∧ (-(2 ^ 62) ≤ lo ∧ lo < 2 ^ 62 ∧ -(2 ^ 62) ≤ hi ∧ hi < 2 ^ 62) ∧ Q (intsD lo (hi - lo).toNat) e1
theorem si_rv {K : PySem.W.Frag} {E : XK} {te : TE} {p : PTE} (h : SndE K E te p) : SndI K E (iRv te) (pItR p) := ⟨fun H0 iv as e σ H X Q R S hq k l => by
  refine h.run H0 iv as e σ H X _ _ S hq (fun v w as1 e1 H1 h1 S1 l1 w1 => ?_) l
  obtain ⟨n, lo, hi, rfl, ho, hb, q⟩ := h1
  obtain ⟨a, ha, rfl⟩ := w1
  exact ⟨a, lo, hi, rfl, S1.obs n a _ ha ho, hb, k _ _ (fun _ => True) as1 e1 H1 q S1 l1 feeds_r trivial⟩⟩
theorem id_rv {X : Cx} {E : XK} {tg a : Expr} {ta : TE} {pa : PTE} (h : PD X E a ta pa) : ID X E tg a (iRv ta) (pItR pa) := ⟨pi_rv h.a, si_rv h.b⟩
/-- what is walked, in a comprehension -/
structure JD (X : Cx) (E : XK) (tg ex : Expr) (te : TI) (p : PTI) : Prop where
  a : PI X tg ex te
  b : SndJ X.K E te p
theorem ID.j {X : Cx} {E : XK} {tg ex : Expr} {te : TI} {p : PTI} (h : ID X E tg ex te p) : JD X E tg ex te p := ⟨h.a, h.b.j⟩
theorem jd_own {K : PySem.W.Frag} {X : Cx} {E : XK} {tg a : Expr} {ta : TE} {pa : PTE} (h : PD X E a ta pa) (hK : X.K = K := by rfl) : JD X E tg a (iList K ta) (pItO pa) := by
  subst hK
  exact ⟨pi_list h.a, sj_own h.b⟩
theorem sd_forO {K : PySem.W.Frag} {X : Cx} {E : XK} {tg iter : Expr} {ta : TE} {pa : PTE} {g : TG} {pg : PTG} {vs : List Nat} {body : List Stmt} {ts : TS} {ps : PTS} {pos : Pos} (hp : PassesOwn (model X.prog X.w) X.A X.env X.xe) (hc : X.calm = true) (hi : PD X E iter ta pa) (hg : GD X vs tg g pg) (hb : BD X E body ts ps)
    (hs : ∀ x, foldedSetIterable iter X.env x = pure x := by intro _; rfl) (hK : X.K = K := by rfl) : SD X E (.For tg iter body [] pos) (tFor (iList K ta) g ts) (pForO pa pg ps) := by
  subst hK
  exact ⟨ps_for hp hc (pi_list hi.a) hg.a hb.a hs, snd_forO hi.b hg.b hb.b⟩

theorem pe_lB1 {X : Cx} {elt tg0 it0 : Expr} {ifs0 : List Expr} {scope : Scope} {own : List (Str × Nat)} {pos : Pos} {te : TE} {wi0 : TI} {g0 : TG} {tt0 : TT} (hc : X.calm = true) (hN : X.N.Nodup) (hi0 : PI X tg0 it0 wi0) (ok : BlkOk X.N X.env.scope scope own)
    (hg0 : ∀ (s : Shared) (H : Hp) (C : Addr) (cl : List (Str × Addr)) (fp : List Addr), PG (X.blk s H scope (compEnvC scope cl C X.env) fp) tg0 g0) (ht0 : ∀ (s : Shared) (H : Hp) (C : Addr) (cl : List (Str × Addr)) (fp : List Addr), PTs (X.blk s H scope (compEnvC scope cl C X.env) fp) ifs0 tt0)
    (he : ∀ (s : Shared) (H : Hp) (C : Addr) (cl : List (Str × Addr)) (fp : List Addr), PE (X.blk s H scope (compEnvC scope cl C X.env) fp) elt te) (hs0 : ∀ x, foldedSetIterable it0 X.env x = pure x) :
    PE X (.ListComp elt [⟨tg0, it0, ifs0, 0⟩] scope pos) (tLcB (fun _ => .lst []) wi0 g0 tt0 (own.map (·.2)) (tbApp te)) := by
  refine ⟨fun pins s σ H Q I h => ?_⟩
  rw [eval_ListComp]
  refine lcB_core (mk := (newList [])) (ob := { cls := .type "list", data := .seq ([] : List Value).toArray }) (o := fun _ => .lst []) (Z := fun env acc => zApp (model X.prog X.w) X.A elt env acc) (vsb := []) rfl (fun {s Q} q => wpAny_newObj_type q (by show 0 ≤ sizeLine; decide)) (fun H h _ => ⟨Nat.zero_le _, [], 0, .nil, Heap.get?_push_size _ rfl⟩) (fun a b => codeAny_compStart_list a b) (fun C cl acc => loopEndL (fun _ => rfl)) hc hN I hi0 ok (by intro _ z; cases z) hg0 ht0
    (fun s H C cl fp D => pb_app (fun _ _ z => z) (he s H C cl fp)) hs0 h fun D C s' m H' I' q hn f => ⟨m, hn, fun h'' sb => ?_⟩
  obtain ⟨f0, f1, f2, f3, f4, f5⟩ := f
  exact ⟨.ref D, H', I'.turned (t' := s'.toks) (fun b o hb e => (sb.2 b hb).trans e) f0 f1 f3 f4 f5, rfl, q⟩

theorem pd_lB1 {X : Cx} {E : XK} {elt tg0 it0 : Expr} {ifs0 : List Expr} {scope : Scope} {own : List (Str × Nat)} {pos : Pos} {te : TE} {p : PTE} {wi0 : TI} {g0 : TG} {tt0 : TT} {pi0 : PTI} {pg0 : PTG} {pt0 : PTT} {vg0 : List Nat} (hc : X.calm = true) (hN : X.N.Nodup) (hi0 : JD X E tg0 it0 wi0 pi0) (ok : BlkOk X.N X.env.scope scope own)
    (hg0 : ∀ (s : Shared) (H : Hp) (C : Addr) (cl : List (Str × Addr)) (fp : List Addr), GD (X.blk s H scope (compEnvC scope cl C X.env) fp) vg0 tg0 g0 pg0) (ht0 : ∀ (s : Shared) (H : Hp) (C : Addr) (cl : List (Str × Addr)) (fp : List Addr), QD (X.blk s H scope (compEnvC scope cl C X.env) fp) E0 ifs0 tt0 pt0)
    (he : ∀ (s : Shared) (H : Hp) (C : Addr) (cl : List (Str × Addr)) (fp : List Addr), PD (X.blk s H scope (compEnvC scope cl C X.env) fp) E0 elt te p) (hw0 : ∀ i ∈ vg0, i ∈ own.map (·.2) := by decide) (hs0 : ∀ x, foldedSetIterable it0 X.env x = pure x := by intro _; rfl) :
    PD X E (.ListComp elt [⟨tg0, it0, ifs0, 0⟩] scope pos) (tLcB (fun _ => .lst []) wi0 g0 tt0 (own.map (·.2)) (tbApp te)) (pLcB (own.map (·.2)) pi0 pg0 pt0 (pbElt p) finL) :=
  ⟨pe_lB1 hc hN hi0.a ok (fun s H C cl fp => (hg0 s H C cl fp).a) (fun s H C cl fp => (ht0 s H C cl fp).a) (fun s H C cl fp => (he s H C cl fp).a)  hs0 ,
    snd_lcB hi0.b ((hg0 X.s_0 X.H_0 0 [] []).b.wide hw0) (ht0 X.s_0 X.H_0 0 [] []).b (sndB_elt (he X.s_0 X.H_0 0 [] []).b)⟩
theorem pd_lOB1 {X : Cx} {E : XK} {elt tg0 it0 : Expr} {ifs0 : List Expr} {scope : Scope} {own : List (Str × Nat)} {pos : Pos} {te : TE} {p : PTE} {wi0 : TI} {g0 : TG} {tt0 : TT} {pi0 : PTI} {pg0 : PTG} {pt0 : PTT} {vg0 : List Nat} (hc : X.calm = true) (hN : X.N.Nodup) (hi0 : JD X E tg0 it0 wi0 pi0) (ok : BlkOk X.N X.env.scope scope own)
    (hg0 : ∀ (s : Shared) (H : Hp) (C : Addr) (cl : List (Str × Addr)) (fp : List Addr), GD (X.blk s H scope (compEnvC scope cl C X.env) fp) vg0 tg0 g0 pg0) (ht0 : ∀ (s : Shared) (H : Hp) (C : Addr) (cl : List (Str × Addr)) (fp : List Addr), QD (X.blk s H scope (compEnvC scope cl C X.env) fp) E0 ifs0 tt0 pt0)
    (he : ∀ (s : Shared) (H : Hp) (C : Addr) (cl : List (Str × Addr)) (fp : List Addr), PD (X.blk s H scope (compEnvC scope cl C X.env) fp) E0 elt te p) (hw0 : ∀ i ∈ vg0, i ∈ own.map (·.2) := by decide) (hs0 : ∀ x, foldedSetIterable it0 X.env x = pure x := by intro _; rfl) :
    PD X E (.ListComp elt [⟨tg0, it0, ifs0, 0⟩] scope pos) (tLcB (fun _ => .lst []) wi0 g0 tt0 (own.map (·.2)) (tbApp te)) (pLcB (own.map (·.2)) pi0 pg0 pt0 (pbElt p) finLO) :=
  ⟨pe_lB1 hc hN hi0.a ok (fun s H C cl fp => (hg0 s H C cl fp).a) (fun s H C cl fp => (ht0 s H C cl fp).a) (fun s H C cl fp => (he s H C cl fp).a)  hs0 ,
    snd_lcBO hi0.b ((hg0 X.s_0 X.H_0 0 [] []).b.wide hw0) (ht0 X.s_0 X.H_0 0 [] []).b (sndB_elt (he X.s_0 X.H_0 0 [] []).b)⟩

theorem pe_lB2 {X : Cx} {elt tg0 it0 tg1 it1 : Expr} {ifs0 ifs1 : List Expr} {scope : Scope} {own : List (Str × Nat)} {pos : Pos} {te : TE} {wi0 : TI} {g0 : TG} {tt0 : TT} {wi1 : TI} {g1 : TG} {tt1 : TT} {vs1 : List Nat} (hc : X.calm = true) (hN : X.N.Nodup) (hi0 : PI X tg0 it0 wi0) (ok : BlkOk X.N X.env.scope scope own)
    (hg0 : ∀ (s : Shared) (H : Hp) (C : Addr) (cl : List (Str × Addr)) (fp : List Addr), PG (X.blk s H scope (compEnvC scope cl C X.env) fp) tg0 g0) (ht0 : ∀ (s : Shared) (H : Hp) (C : Addr) (cl : List (Str × Addr)) (fp : List Addr), PTs (X.blk s H scope (compEnvC scope cl C X.env) fp) ifs0 tt0)
    (hi1 : ∀ (s : Shared) (H : Hp) (C : Addr) (cl : List (Str × Addr)) (fp : List Addr), PI (X.blk s H scope (compEnvC scope cl C X.env) fp) tg1 it1 wi1)
    (hg1 : ∀ (s : Shared) (H : Hp) (C : Addr) (cl : List (Str × Addr)) (fp : List Addr), PG (X.blk s H scope (compEnvC scope cl C X.env) fp) tg1 g1) (ht1 : ∀ (s : Shared) (H : Hp) (C : Addr) (cl : List (Str × Addr)) (fp : List Addr), PTs (X.blk s H scope (compEnvC scope cl C X.env) fp) ifs1 tt1)
    (he : ∀ (s : Shared) (H : Hp) (C : Addr) (cl : List (Str × Addr)) (fp : List Addr), PE (X.blk s H scope (compEnvC scope cl C X.env) fp) elt te) (hv1 : ∀ i ∈ vs1, i ∈ own.map (·.2)) (hs0 : ∀ x, foldedSetIterable it0 X.env x = pure x) (hs1 : ∀ env x, foldedSetIterable it1 env x = pure x) :
    PE X (.ListComp elt [⟨tg0, it0, ifs0, 0⟩, ⟨tg1, it1, ifs1, 0⟩] scope pos) (tLcB (fun _ => .lst []) wi0 g0 tt0 (own.map (·.2)) (tbFor wi1 g1 tt1 vs1 (tbApp te))) := by
  refine ⟨fun pins s σ H Q I h => ?_⟩
  rw [eval_ListComp]
  refine lcB_core (mk := (newList [])) (ob := { cls := .type "list", data := .seq ([] : List Value).toArray }) (o := fun _ => .lst []) (Z := fun env acc => zMid (model X.prog X.w) X.A (.ListComp elt [⟨tg0, it0, ifs0, 0⟩, ⟨tg1, it1, ifs1, 0⟩] scope pos) 1 it1 env acc) (vsb := vs1) rfl (fun {s Q} q => wpAny_newObj_type q (by show 0 ≤ sizeLine; decide)) (fun H h _ => ⟨Nat.zero_le _, [], 0, .nil, Heap.get?_push_size _ rfl⟩) (fun a b => codeAny_compStart_list a b) (fun C cl acc => loopMidL (fun _ => rfl) (hs1 _)) hc hN I hi0 ok hv1 hg0 ht0
    (fun s H C cl fp D => pb_for (fun _ _ z => z) hc (loopEndL (fun _ => rfl)) startL2_1 (hi1 s H C cl fp) (hg1 s H C cl fp) (ht1 s H C cl fp) (pb_app (fun _ _ z => z) (he s H C cl fp)) (by intro _ z; cases z)) hs0 h fun D C s' m H' I' q hn f => ⟨m, hn, fun h'' sb => ?_⟩
  obtain ⟨f0, f1, f2, f3, f4, f5⟩ := f
  exact ⟨.ref D, H', I'.turned (t' := s'.toks) (fun b o hb e => (sb.2 b hb).trans e) f0 f1 f3 f4 f5, rfl, q⟩

theorem pd_lB2 {X : Cx} {E : XK} {elt tg0 it0 tg1 it1 : Expr} {ifs0 ifs1 : List Expr} {scope : Scope} {own : List (Str × Nat)} {pos : Pos} {te : TE} {p : PTE} {wi0 : TI} {g0 : TG} {tt0 : TT} {pi0 : PTI} {pg0 : PTG} {pt0 : PTT} {vg0 : List Nat} {wi1 : TI} {g1 : TG} {tt1 : TT} {pi1 : PTI} {pg1 : PTG} {pt1 : PTT} {vg1 : List Nat} (vs1 : List Nat) (hc : X.calm = true) (hN : X.N.Nodup) (hi0 : JD X E tg0 it0 wi0 pi0) (ok : BlkOk X.N X.env.scope scope own)
    (hg0 : ∀ (s : Shared) (H : Hp) (C : Addr) (cl : List (Str × Addr)) (fp : List Addr), GD (X.blk s H scope (compEnvC scope cl C X.env) fp) vg0 tg0 g0 pg0) (ht0 : ∀ (s : Shared) (H : Hp) (C : Addr) (cl : List (Str × Addr)) (fp : List Addr), QD (X.blk s H scope (compEnvC scope cl C X.env) fp) E0 ifs0 tt0 pt0)
    (hi1 : ∀ (s : Shared) (H : Hp) (C : Addr) (cl : List (Str × Addr)) (fp : List Addr), JD (X.blk s H scope (compEnvC scope cl C X.env) fp) E0 tg1 it1 wi1 pi1)
    (hg1 : ∀ (s : Shared) (H : Hp) (C : Addr) (cl : List (Str × Addr)) (fp : List Addr), GD (X.blk s H scope (compEnvC scope cl C X.env) fp) vg1 tg1 g1 pg1) (ht1 : ∀ (s : Shared) (H : Hp) (C : Addr) (cl : List (Str × Addr)) (fp : List Addr), QD (X.blk s H scope (compEnvC scope cl C X.env) fp) E0 ifs1 tt1 pt1)
    (he : ∀ (s : Shared) (H : Hp) (C : Addr) (cl : List (Str × Addr)) (fp : List Addr), PD (X.blk s H scope (compEnvC scope cl C X.env) fp) E0 elt te p) (hw0 : ∀ i ∈ vg0, i ∈ own.map (·.2) := by decide) (hw1 : ∀ i ∈ vg1, i ∈ vs1 := by decide) (hv1 : ∀ i ∈ vs1, i ∈ own.map (·.2) := by decide) (hs0 : ∀ x, foldedSetIterable it0 X.env x = pure x := by intro _; rfl) (hs1 : ∀ env x, foldedSetIterable it1 env x = pure x := by intro _ _; rfl) :
    PD X E (.ListComp elt [⟨tg0, it0, ifs0, 0⟩, ⟨tg1, it1, ifs1, 0⟩] scope pos) (tLcB (fun _ => .lst []) wi0 g0 tt0 (own.map (·.2)) (tbFor wi1 g1 tt1 vs1 (tbApp te))) (pLcB (own.map (·.2)) pi0 pg0 pt0 (pbFor vs1 pi1 pg1 pt1 (pbElt p)) finL) :=
  ⟨pe_lB2 hc hN hi0.a ok (fun s H C cl fp => (hg0 s H C cl fp).a) (fun s H C cl fp => (ht0 s H C cl fp).a) (fun s H C cl fp => (hi1 s H C cl fp).a) (fun s H C cl fp => (hg1 s H C cl fp).a) (fun s H C cl fp => (ht1 s H C cl fp).a) (fun s H C cl fp => (he s H C cl fp).a) hv1 hs0 hs1,
    snd_lcB hi0.b ((hg0 X.s_0 X.H_0 0 [] []).b.wide hw0) (ht0 X.s_0 X.H_0 0 [] []).b (sndB_for acc_l (hi1 X.s_0 X.H_0 0 [] []).b ((hg1 X.s_0 X.H_0 0 [] []).b.wide hw1) (ht1 X.s_0 X.H_0 0 [] []).b (sndB_elt (he X.s_0 X.H_0 0 [] []).b))⟩
theorem pd_lOB2 {X : Cx} {E : XK} {elt tg0 it0 tg1 it1 : Expr} {ifs0 ifs1 : List Expr} {scope : Scope} {own : List (Str × Nat)} {pos : Pos} {te : TE} {p : PTE} {wi0 : TI} {g0 : TG} {tt0 : TT} {pi0 : PTI} {pg0 : PTG} {pt0 : PTT} {vg0 : List Nat} {wi1 : TI} {g1 : TG} {tt1 : TT} {pi1 : PTI} {pg1 : PTG} {pt1 : PTT} {vg1 : List Nat} (vs1 : List Nat) (hc : X.calm = true) (hN : X.N.Nodup) (hi0 : JD X E tg0 it0 wi0 pi0) (ok : BlkOk X.N X.env.scope scope own)
    (hg0 : ∀ (s : Shared) (H : Hp) (C : Addr) (cl : List (Str × Addr)) (fp : List Addr), GD (X.blk s H scope (compEnvC scope cl C X.env) fp) vg0 tg0 g0 pg0) (ht0 : ∀ (s : Shared) (H : Hp) (C : Addr) (cl : List (Str × Addr)) (fp : List Addr), QD (X.blk s H scope (compEnvC scope cl C X.env) fp) E0 ifs0 tt0 pt0)
    (hi1 : ∀ (s : Shared) (H : Hp) (C : Addr) (cl : List (Str × Addr)) (fp : List Addr), JD (X.blk s H scope (compEnvC scope cl C X.env) fp) E0 tg1 it1 wi1 pi1)
    (hg1 : ∀ (s : Shared) (H : Hp) (C : Addr) (cl : List (Str × Addr)) (fp : List Addr), GD (X.blk s H scope (compEnvC scope cl C X.env) fp) vg1 tg1 g1 pg1) (ht1 : ∀ (s : Shared) (H : Hp) (C : Addr) (cl : List (Str × Addr)) (fp : List Addr), QD (X.blk s H scope (compEnvC scope cl C X.env) fp) E0 ifs1 tt1 pt1)
    (he : ∀ (s : Shared) (H : Hp) (C : Addr) (cl : List (Str × Addr)) (fp : List Addr), PD (X.blk s H scope (compEnvC scope cl C X.env) fp) E0 elt te p) (hw0 : ∀ i ∈ vg0, i ∈ own.map (·.2) := by decide) (hw1 : ∀ i ∈ vg1, i ∈ vs1 := by decide) (hv1 : ∀ i ∈ vs1, i ∈ own.map (·.2) := by decide) (hs0 : ∀ x, foldedSetIterable it0 X.env x = pure x := by intro _; rfl) (hs1 : ∀ env x, foldedSetIterable it1 env x = pure x := by intro _ _; rfl) :
    PD X E (.ListComp elt [⟨tg0, it0, ifs0, 0⟩, ⟨tg1, it1, ifs1, 0⟩] scope pos) (tLcB (fun _ => .lst []) wi0 g0 tt0 (own.map (·.2)) (tbFor wi1 g1 tt1 vs1 (tbApp te))) (pLcB (own.map (·.2)) pi0 pg0 pt0 (pbFor vs1 pi1 pg1 pt1 (pbElt p)) finLO) :=
  ⟨pe_lB2 hc hN hi0.a ok (fun s H C cl fp => (hg0 s H C cl fp).a) (fun s H C cl fp => (ht0 s H C cl fp).a) (fun s H C cl fp => (hi1 s H C cl fp).a) (fun s H C cl fp => (hg1 s H C cl fp).a) (fun s H C cl fp => (ht1 s H C cl fp).a) (fun s H C cl fp => (he s H C cl fp).a) hv1 hs0 hs1,
    snd_lcBO hi0.b ((hg0 X.s_0 X.H_0 0 [] []).b.wide hw0) (ht0 X.s_0 X.H_0 0 [] []).b (sndB_for acc_l (hi1 X.s_0 X.H_0 0 [] []).b ((hg1 X.s_0 X.H_0 0 [] []).b.wide hw1) (ht1 X.s_0 X.H_0 0 [] []).b (sndB_elt (he X.s_0 X.H_0 0 [] []).b))⟩

theorem pe_lB3 {X : Cx} {elt tg0 it0 tg1 it1 tg2 it2 : Expr} {ifs0 ifs1 ifs2 : List Expr} {scope : Scope} {own : List (Str × Nat)} {pos : Pos} {te : TE} {wi0 : TI} {g0 : TG} {tt0 : TT} {wi1 : TI} {g1 : TG} {tt1 : TT} {wi2 : TI} {g2 : TG} {tt2 : TT} {vs1 vs2 : List Nat} (hc : X.calm = true) (hN : X.N.Nodup) (hi0 : PI X tg0 it0 wi0) (ok : BlkOk X.N X.env.scope scope own)
    (hg0 : ∀ (s : Shared) (H : Hp) (C : Addr) (cl : List (Str × Addr)) (fp : List Addr), PG (X.blk s H scope (compEnvC scope cl C X.env) fp) tg0 g0) (ht0 : ∀ (s : Shared) (H : Hp) (C : Addr) (cl : List (Str × Addr)) (fp : List Addr), PTs (X.blk s H scope (compEnvC scope cl C X.env) fp) ifs0 tt0)
    (hi1 : ∀ (s : Shared) (H : Hp) (C : Addr) (cl : List (Str × Addr)) (fp : List Addr), PI (X.blk s H scope (compEnvC scope cl C X.env) fp) tg1 it1 wi1)
    (hg1 : ∀ (s : Shared) (H : Hp) (C : Addr) (cl : List (Str × Addr)) (fp : List Addr), PG (X.blk s H scope (compEnvC scope cl C X.env) fp) tg1 g1) (ht1 : ∀ (s : Shared) (H : Hp) (C : Addr) (cl : List (Str × Addr)) (fp : List Addr), PTs (X.blk s H scope (compEnvC scope cl C X.env) fp) ifs1 tt1)
    (hi2 : ∀ (s : Shared) (H : Hp) (C : Addr) (cl : List (Str × Addr)) (fp : List Addr), PI (X.blk s H scope (compEnvC scope cl C X.env) fp) tg2 it2 wi2)
    (hg2 : ∀ (s : Shared) (H : Hp) (C : Addr) (cl : List (Str × Addr)) (fp : List Addr), PG (X.blk s H scope (compEnvC scope cl C X.env) fp) tg2 g2) (ht2 : ∀ (s : Shared) (H : Hp) (C : Addr) (cl : List (Str × Addr)) (fp : List Addr), PTs (X.blk s H scope (compEnvC scope cl C X.env) fp) ifs2 tt2)
    (he : ∀ (s : Shared) (H : Hp) (C : Addr) (cl : List (Str × Addr)) (fp : List Addr), PE (X.blk s H scope (compEnvC scope cl C X.env) fp) elt te) (hv1 : ∀ i ∈ vs1, i ∈ own.map (·.2)) (hv2 : ∀ i ∈ vs2, i ∈ vs1) (hs0 : ∀ x, foldedSetIterable it0 X.env x = pure x) (hs1 : ∀ env x, foldedSetIterable it1 env x = pure x) (hs2 : ∀ env x, foldedSetIterable it2 env x = pure x) :
    PE X (.ListComp elt [⟨tg0, it0, ifs0, 0⟩, ⟨tg1, it1, ifs1, 0⟩, ⟨tg2, it2, ifs2, 0⟩] scope pos) (tLcB (fun _ => .lst []) wi0 g0 tt0 (own.map (·.2)) (tbFor wi1 g1 tt1 vs1 (tbFor wi2 g2 tt2 vs2 (tbApp te)))) := by
  refine ⟨fun pins s σ H Q I h => ?_⟩
  rw [eval_ListComp]
  refine lcB_core (mk := (newList [])) (ob := { cls := .type "list", data := .seq ([] : List Value).toArray }) (o := fun _ => .lst []) (Z := fun env acc => zMid (model X.prog X.w) X.A (.ListComp elt [⟨tg0, it0, ifs0, 0⟩, ⟨tg1, it1, ifs1, 0⟩, ⟨tg2, it2, ifs2, 0⟩] scope pos) 1 it1 env acc) (vsb := vs1) rfl (fun {s Q} q => wpAny_newObj_type q (by show 0 ≤ sizeLine; decide)) (fun H h _ => ⟨Nat.zero_le _, [], 0, .nil, Heap.get?_push_size _ rfl⟩) (fun a b => codeAny_compStart_list a b) (fun C cl acc => loopMidL (fun _ => rfl) (hs1 _)) hc hN I hi0 ok hv1 hg0 ht0
    (fun s H C cl fp D => pb_for (fun _ _ z => z) hc (loopMidL (fun _ => rfl) (hs2 _)) startL3_1 (hi1 s H C cl fp) (hg1 s H C cl fp) (ht1 s H C cl fp) (pb_for (fun _ _ z => z) hc (loopEndL (fun _ => rfl)) startL3_2 (hi2 s H C cl fp) (hg2 s H C cl fp) (ht2 s H C cl fp) (pb_app (fun _ _ z => z) (he s H C cl fp)) (by intro _ z; cases z)) hv2) hs0 h fun D C s' m H' I' q hn f => ⟨m, hn, fun h'' sb => ?_⟩
  obtain ⟨f0, f1, f2, f3, f4, f5⟩ := f
  exact ⟨.ref D, H', I'.turned (t' := s'.toks) (fun b o hb e => (sb.2 b hb).trans e) f0 f1 f3 f4 f5, rfl, q⟩

theorem pd_lB3 {X : Cx} {E : XK} {elt tg0 it0 tg1 it1 tg2 it2 : Expr} {ifs0 ifs1 ifs2 : List Expr} {scope : Scope} {own : List (Str × Nat)} {pos : Pos} {te : TE} {p : PTE} {wi0 : TI} {g0 : TG} {tt0 : TT} {pi0 : PTI} {pg0 : PTG} {pt0 : PTT} {vg0 : List Nat} {wi1 : TI} {g1 : TG} {tt1 : TT} {pi1 : PTI} {pg1 : PTG} {pt1 : PTT} {vg1 : List Nat} {wi2 : TI} {g2 : TG} {tt2 : TT} {pi2 : PTI} {pg2 : PTG} {pt2 : PTT} {vg2 : List Nat} (vs1 vs2 : List Nat) (hc : X.calm = true) (hN : X.N.Nodup) (hi0 : JD X E tg0 it0 wi0 pi0) (ok : BlkOk X.N X.env.scope scope own)
    (hg0 : ∀ (s : Shared) (H : Hp) (C : Addr) (cl : List (Str × Addr)) (fp : List Addr), GD (X.blk s H scope (compEnvC scope cl C X.env) fp) vg0 tg0 g0 pg0) (ht0 : ∀ (s : Shared) (H : Hp) (C : Addr) (cl : List (Str × Addr)) (fp : List Addr), QD (X.blk s H scope (compEnvC scope cl C X.env) fp) E0 ifs0 tt0 pt0)
    (hi1 : ∀ (s : Shared) (H : Hp) (C : Addr) (cl : List (Str × Addr)) (fp : List Addr), JD (X.blk s H scope (compEnvC scope cl C X.env) fp) E0 tg1 it1 wi1 pi1)
    (hg1 : ∀ (s : Shared) (H : Hp) (C : Addr) (cl : List (Str × Addr)) (fp : List Addr), GD (X.blk s H scope (compEnvC scope cl C X.env) fp) vg1 tg1 g1 pg1) (ht1 : ∀ (s : Shared) (H : Hp) (C : Addr) (cl : List (Str × Addr)) (fp : List Addr), QD (X.blk s H scope (compEnvC scope cl C X.env) fp) E0 ifs1 tt1 pt1)
    (hi2 : ∀ (s : Shared) (H : Hp) (C : Addr) (cl : List (Str × Addr)) (fp : List Addr), JD (X.blk s H scope (compEnvC scope cl C X.env) fp) E0 tg2 it2 wi2 pi2)
    (hg2 : ∀ (s : Shared) (H : Hp) (C : Addr) (cl : List (Str × Addr)) (fp : List Addr), GD (X.blk s H scope (compEnvC scope cl C X.env) fp) vg2 tg2 g2 pg2) (ht2 : ∀ (s : Shared) (H : Hp) (C : Addr) (cl : List (Str × Addr)) (fp : List Addr), QD (X.blk s H scope (compEnvC scope cl C X.env) fp) E0 ifs2 tt2 pt2)
    (he : ∀ (s : Shared) (H : Hp) (C : Addr) (cl : List (Str × Addr)) (fp : List Addr), PD (X.blk s H scope (compEnvC scope cl C X.env) fp) E0 elt te p) (hw0 : ∀ i ∈ vg0, i ∈ own.map (·.2) := by decide) (hw1 : ∀ i ∈ vg1, i ∈ vs1 := by decide) (hw2 : ∀ i ∈ vg2, i ∈ vs2 := by decide) (hv1 : ∀ i ∈ vs1, i ∈ own.map (·.2) := by decide) (hv2 : ∀ i ∈ vs2, i ∈ vs1 := by decide) (hs0 : ∀ x, foldedSetIterable it0 X.env x = pure x := by intro _; rfl) (hs1 : ∀ env x, foldedSetIterable it1 env x = pure x := by intro _ _; rfl) (hs2 : ∀ env x, foldedSetIterable it2 env x = pure x := by intro _ _; rfl) :
    PD X E (.ListComp elt [⟨tg0, it0, ifs0, 0⟩, ⟨tg1, it1, ifs1, 0⟩, ⟨tg2, it2, ifs2, 0⟩] scope pos) (tLcB (fun _ => .lst []) wi0 g0 tt0 (own.map (·.2)) (tbFor wi1 g1 tt1 vs1 (tbFor wi2 g2 tt2 vs2 (tbApp te)))) (pLcB (own.map (·.2)) pi0 pg0 pt0 (pbFor vs1 pi1 pg1 pt1 (pbFor vs2 pi2 pg2 pt2 (pbElt p))) finL) :=
  ⟨pe_lB3 hc hN hi0.a ok (fun s H C cl fp => (hg0 s H C cl fp).a) (fun s H C cl fp => (ht0 s H C cl fp).a) (fun s H C cl fp => (hi1 s H C cl fp).a) (fun s H C cl fp => (hg1 s H C cl fp).a) (fun s H C cl fp => (ht1 s H C cl fp).a) (fun s H C cl fp => (hi2 s H C cl fp).a) (fun s H C cl fp => (hg2 s H C cl fp).a) (fun s H C cl fp => (ht2 s H C cl fp).a) (fun s H C cl fp => (he s H C cl fp).a) hv1 hv2 hs0 hs1 hs2,
    snd_lcB hi0.b ((hg0 X.s_0 X.H_0 0 [] []).b.wide hw0) (ht0 X.s_0 X.H_0 0 [] []).b (sndB_for acc_l (hi1 X.s_0 X.H_0 0 [] []).b ((hg1 X.s_0 X.H_0 0 [] []).b.wide hw1) (ht1 X.s_0 X.H_0 0 [] []).b (sndB_for acc_l (hi2 X.s_0 X.H_0 0 [] []).b ((hg2 X.s_0 X.H_0 0 [] []).b.wide hw2) (ht2 X.s_0 X.H_0 0 [] []).b (sndB_elt (he X.s_0 X.H_0 0 [] []).b)))⟩
theorem pd_lOB3 {X : Cx} {E : XK} {elt tg0 it0 tg1 it1 tg2 it2 : Expr} {ifs0 ifs1 ifs2 : List Expr} {scope : Scope} {own : List (Str × Nat)} {pos : Pos} {te : TE} {p : PTE} {wi0 : TI} {g0 : TG} {tt0 : TT} {pi0 : PTI} {pg0 : PTG} {pt0 : PTT} {vg0 : List Nat} {wi1 : TI} {g1 : TG} {tt1 : TT} {pi1 : PTI} {pg1 : PTG} {pt1 : PTT} {vg1 : List Nat} {wi2 : TI} {g2 : TG} {tt2 : TT} {pi2 : PTI} {pg2 : PTG} {pt2 : PTT} {vg2 : List Nat} (vs1 vs2 : List Nat) (hc : X.calm = true) (hN : X.N.Nodup) (hi0 : JD X E tg0 it0 wi0 pi0) (ok : BlkOk X.N X.env.scope scope own)
    (hg0 : ∀ (s : Shared) (H : Hp) (C : Addr) (cl : List (Str × Addr)) (fp : List Addr), GD (X.blk s H scope (compEnvC scope cl C X.env) fp) vg0 tg0 g0 pg0) (ht0 : ∀ (s : Shared) (H : Hp) (C : Addr) (cl : List (Str × Addr)) (fp : List Addr), QD (X.blk s H scope (compEnvC scope cl C X.env) fp) E0 ifs0 tt0 pt0)
    (hi1 : ∀ (s : Shared) (H : Hp) (C : Addr) (cl : List (Str × Addr)) (fp : List Addr), JD (X.blk s H scope (compEnvC scope cl C X.env) fp) E0 tg1 it1 wi1 pi1)
    (hg1 : ∀ (s : Shared) (H : Hp) (C : Addr) (cl : List (Str × Addr)) (fp : List Addr), GD (X.blk s H scope (compEnvC scope cl C X.env) fp) vg1 tg1 g1 pg1) (ht1 : ∀ (s : Shared) (H : Hp) (C : Addr) (cl : List (Str × Addr)) (fp : List Addr), QD (X.blk s H scope (compEnvC scope cl C X.env) fp) E0 ifs1 tt1 pt1)
    (hi2 : ∀ (s : Shared) (H : Hp) (C : Addr) (cl : List (Str × Addr)) (fp : List Addr), JD (X.blk s H scope (compEnvC scope cl C X.env) fp) E0 tg2 it2 wi2 pi2)
    (hg2 : ∀ (s : Shared) (H : Hp) (C : Addr) (cl : List (Str × Addr)) (fp : List Addr), GD (X.blk s H scope (compEnvC scope cl C X.env) fp) vg2 tg2 g2 pg2) (ht2 : ∀ (s : Shared) (H : Hp) (C : Addr) (cl : List (Str × Addr)) (fp : List Addr), QD (X.blk s H scope (compEnvC scope cl C X.env) fp) E0 ifs2 tt2 pt2)
    (he : ∀ (s : Shared) (H : Hp) (C : Addr) (cl : List (Str × Addr)) (fp : List Addr), PD (X.blk s H scope (compEnvC scope cl C X.env) fp) E0 elt te p) (hw0 : ∀ i ∈ vg0, i ∈ own.map (·.2) := by decide) (hw1 : ∀ i ∈ vg1, i ∈ vs1 := by decide) (hw2 : ∀ i ∈ vg2, i ∈ vs2 := by decide) (hv1 : ∀ i ∈ vs1, i ∈ own.map (·.2) := by decide) (hv2 : ∀ i ∈ vs2, i ∈ vs1 := by decide) (hs0 : ∀ x, foldedSetIterable it0 X.env x = pure x := by intro _; rfl) (hs1 : ∀ env x, foldedSetIterable it1 env x = pure x := by intro _ _; rfl) (hs2 : ∀ env x, foldedSetIterable it2 env x = pure x := by intro _ _; rfl) :
    PD X E (.ListComp elt [⟨tg0, it0, ifs0, 0⟩, ⟨tg1, it1, ifs1, 0⟩, ⟨tg2, it2, ifs2, 0⟩] scope pos) (tLcB (fun _ => .lst []) wi0 g0 tt0 (own.map (·.2)) (tbFor wi1 g1 tt1 vs1 (tbFor wi2 g2 tt2 vs2 (tbApp te)))) (pLcB (own.map (·.2)) pi0 pg0 pt0 (pbFor vs1 pi1 pg1 pt1 (pbFor vs2 pi2 pg2 pt2 (pbElt p))) finLO) :=
  ⟨pe_lB3 hc hN hi0.a ok (fun s H C cl fp => (hg0 s H C cl fp).a) (fun s H C cl fp => (ht0 s H C cl fp).a) (fun s H C cl fp => (hi1 s H C cl fp).a) (fun s H C cl fp => (hg1 s H C cl fp).a) (fun s H C cl fp => (ht1 s H C cl fp).a) (fun s H C cl fp => (hi2 s H C cl fp).a) (fun s H C cl fp => (hg2 s H C cl fp).a) (fun s H C cl fp => (ht2 s H C cl fp).a) (fun s H C cl fp => (he s H C cl fp).a) hv1 hv2 hs0 hs1 hs2,
    snd_lcBO hi0.b ((hg0 X.s_0 X.H_0 0 [] []).b.wide hw0) (ht0 X.s_0 X.H_0 0 [] []).b (sndB_for acc_l (hi1 X.s_0 X.H_0 0 [] []).b ((hg1 X.s_0 X.H_0 0 [] []).b.wide hw1) (ht1 X.s_0 X.H_0 0 [] []).b (sndB_for acc_l (hi2 X.s_0 X.H_0 0 [] []).b ((hg2 X.s_0 X.H_0 0 [] []).b.wide hw2) (ht2 X.s_0 X.H_0 0 [] []).b (sndB_elt (he X.s_0 X.H_0 0 [] []).b)))⟩

theorem pe_sB1 {X : Cx} {elt tg0 it0 : Expr} {ifs0 : List Expr} {scope : Scope} {own : List (Str × Nat)} {pos : Pos} {te : TE} {wi0 : TI} {g0 : TG} {tt0 : TT} (hc : X.calm = true) (hN : X.N.Nodup) (hi0 : PI X tg0 it0 wi0) (ok : BlkOk X.N X.env.scope scope own)
    (hg0 : ∀ (s : Shared) (H : Hp) (C : Addr) (cl : List (Str × Addr)) (fp : List Addr), PG (X.blk s H scope (compEnvC scope cl C X.env) fp) tg0 g0) (ht0 : ∀ (s : Shared) (H : Hp) (C : Addr) (cl : List (Str × Addr)) (fp : List Addr), PTs (X.blk s H scope (compEnvC scope cl C X.env) fp) ifs0 tt0)
    (he : ∀ (s : Shared) (H : Hp) (C : Addr) (cl : List (Str × Addr)) (fp : List Addr), PE (X.blk s H scope (compEnvC scope cl C X.env) fp) elt te) (hs0 : ∀ x, foldedSetIterable it0 X.env x = pure x) :
    PE X (.SetComp elt [⟨tg0, it0, ifs0, 0⟩] scope pos) (tLcB (fun Dl => SetO X.w Dl (fun _ => false) 0) wi0 g0 tt0 (own.map (·.2)) (tbAdd X.w te)) := by
  refine ⟨fun pins s σ H Q I h => ?_⟩
  rw [PpSet.eval_SetComp]
  refine lcB_core (mk := (newSet (.type "set"))) (ob := { cls := .type "set", dict := none, data := .set #[] 0 (.fresh 0 0 (!X.w.params.followText "set-order")) }) (o := fun Dl => SetO X.w Dl (fun _ => false) 0) (Z := fun env acc => zAdd (model X.prog X.w) X.A elt env acc) (vsb := []) rfl (fun {s Q} q => PpSet.newSet_ok q) (fun H h _ => setO_new (setR_fresh X.w)) (fun a b => PpSet.codeAny_compStart_set a b) (fun C cl acc => loopEndS (fun _ => rfl)) hc hN I hi0 ok (by intro _ z; cases z) hg0 ht0
    (fun s H C cl fp D => pb_add (fun _ _ z => z) (he s H C cl fp)) hs0 h fun D C s' m H' I' q hn f => ⟨m, hn, fun h'' sb => ?_⟩
  obtain ⟨f0, f1, f2, f3, f4, f5⟩ := f
  exact ⟨.ref D, H', I'.turned (t' := s'.toks) (fun b o hb e => (sb.2 b hb).trans e) f0 f1 f3 f4 f5, rfl, q⟩

theorem pd_sB1 {X : Cx} {E : XK} {elt tg0 it0 : Expr} {ifs0 : List Expr} {scope : Scope} {own : List (Str × Nat)} {pos : Pos} {te : TE} {p : PTE} {wi0 : TI} {g0 : TG} {tt0 : TT} {pi0 : PTI} {pg0 : PTG} {pt0 : PTT} {vg0 : List Nat} (hc : X.calm = true) (hN : X.N.Nodup) (hg : Gl X "sorted") (hm : X.mg "sorted" = none) (hi0 : JD X E tg0 it0 wi0 pi0) (ok : BlkOk X.N X.env.scope scope own)
    (hg0 : ∀ (s : Shared) (H : Hp) (C : Addr) (cl : List (Str × Addr)) (fp : List Addr), GD (X.blk s H scope (compEnvC scope cl C X.env) fp) vg0 tg0 g0 pg0) (ht0 : ∀ (s : Shared) (H : Hp) (C : Addr) (cl : List (Str × Addr)) (fp : List Addr), QD (X.blk s H scope (compEnvC scope cl C X.env) fp) E0 ifs0 tt0 pt0)
    (he : ∀ (s : Shared) (H : Hp) (C : Addr) (cl : List (Str × Addr)) (fp : List Addr), PD (X.blk s H scope (compEnvC scope cl C X.env) fp) E0 elt te p) (hw0 : ∀ i ∈ vg0, i ∈ own.map (·.2) := by decide) (hs0 : ∀ x, foldedSetIterable it0 X.env x = pure x := by intro _; rfl) {p2 p3 : Pos} (he2 : starEach [.SetComp elt [⟨tg0, it0, ifs0, 0⟩] scope pos] X.env = (false, eval (.SetComp elt [⟨tg0, it0, ifs0, 0⟩] scope pos) X.env) :: starEach [] X.env := by rfl) (hpl : (backTo p3 (starEach [] X.env)).any (·.1) = false := by rfl) :
    PD X E (.Call (.Name "sorted" p2) [.SetComp elt [⟨tg0, it0, ifs0, 0⟩] scope pos] [] p3) (tCB (rSortedSet X.w) (tCons (tLcB (fun Dl => SetO X.w Dl (fun _ => false) 0) wi0 g0 tt0 (own.map (·.2)) (tbAdd X.w te)) tNil)) (pLcB (own.map (·.2)) pi0 pg0 pt0 (pbEltI p) finSS) :=
  ⟨pe_callB (cr_sortedSet hc) hg hm (by decide +kernel) (pa_cons (pe_sB1 hc hN hi0.a ok (fun s H C cl fp => (hg0 s H C cl fp).a) (fun s H C cl fp => (ht0 s H C cl fp).a) (fun s H C cl fp => (he s H C cl fp).a)  hs0 ) pa_nil he2) (by decide) (by decide) he2 hpl,
    snd_ssB hi0.b ((hg0 X.s_0 X.H_0 0 [] []).b.wide hw0) (ht0 X.s_0 X.H_0 0 [] []).b (sndB_eltI (he X.s_0 X.H_0 0 [] []).b)⟩

theorem pe_sB2 {X : Cx} {elt tg0 it0 tg1 it1 : Expr} {ifs0 ifs1 : List Expr} {scope : Scope} {own : List (Str × Nat)} {pos : Pos} {te : TE} {wi0 : TI} {g0 : TG} {tt0 : TT} {wi1 : TI} {g1 : TG} {tt1 : TT} {vs1 : List Nat} (hc : X.calm = true) (hN : X.N.Nodup) (hi0 : PI X tg0 it0 wi0) (ok : BlkOk X.N X.env.scope scope own)
    (hg0 : ∀ (s : Shared) (H : Hp) (C : Addr) (cl : List (Str × Addr)) (fp : List Addr), PG (X.blk s H scope (compEnvC scope cl C X.env) fp) tg0 g0) (ht0 : ∀ (s : Shared) (H : Hp) (C : Addr) (cl : List (Str × Addr)) (fp : List Addr), PTs (X.blk s H scope (compEnvC scope cl C X.env) fp) ifs0 tt0)
    (hi1 : ∀ (s : Shared) (H : Hp) (C : Addr) (cl : List (Str × Addr)) (fp : List Addr), PI (X.blk s H scope (compEnvC scope cl C X.env) fp) tg1 it1 wi1)
    (hg1 : ∀ (s : Shared) (H : Hp) (C : Addr) (cl : List (Str × Addr)) (fp : List Addr), PG (X.blk s H scope (compEnvC scope cl C X.env) fp) tg1 g1) (ht1 : ∀ (s : Shared) (H : Hp) (C : Addr) (cl : List (Str × Addr)) (fp : List Addr), PTs (X.blk s H scope (compEnvC scope cl C X.env) fp) ifs1 tt1)
    (he : ∀ (s : Shared) (H : Hp) (C : Addr) (cl : List (Str × Addr)) (fp : List Addr), PE (X.blk s H scope (compEnvC scope cl C X.env) fp) elt te) (hv1 : ∀ i ∈ vs1, i ∈ own.map (·.2)) (hs0 : ∀ x, foldedSetIterable it0 X.env x = pure x) (hs1 : ∀ env x, foldedSetIterable it1 env x = pure x) :
    PE X (.SetComp elt [⟨tg0, it0, ifs0, 0⟩, ⟨tg1, it1, ifs1, 0⟩] scope pos) (tLcB (fun Dl => SetO X.w Dl (fun _ => false) 0) wi0 g0 tt0 (own.map (·.2)) (tbFor wi1 g1 tt1 vs1 (tbAdd X.w te))) := by
  refine ⟨fun pins s σ H Q I h => ?_⟩
  rw [PpSet.eval_SetComp]
  refine lcB_core (mk := (newSet (.type "set"))) (ob := { cls := .type "set", dict := none, data := .set #[] 0 (.fresh 0 0 (!X.w.params.followText "set-order")) }) (o := fun Dl => SetO X.w Dl (fun _ => false) 0) (Z := fun env acc => zMid (model X.prog X.w) X.A (.SetComp elt [⟨tg0, it0, ifs0, 0⟩, ⟨tg1, it1, ifs1, 0⟩] scope pos) 1 it1 env acc) (vsb := vs1) rfl (fun {s Q} q => PpSet.newSet_ok q) (fun H h _ => setO_new (setR_fresh X.w)) (fun a b => PpSet.codeAny_compStart_set a b) (fun C cl acc => loopMidS (fun _ => rfl) (hs1 _)) hc hN I hi0 ok hv1 hg0 ht0
    (fun s H C cl fp D => pb_for (fun _ _ z => z) hc (loopEndS (fun _ => rfl)) startS2_1 (hi1 s H C cl fp) (hg1 s H C cl fp) (ht1 s H C cl fp) (pb_add (fun _ _ z => z) (he s H C cl fp)) (by intro _ z; cases z)) hs0 h fun D C s' m H' I' q hn f => ⟨m, hn, fun h'' sb => ?_⟩
  obtain ⟨f0, f1, f2, f3, f4, f5⟩ := f
  exact ⟨.ref D, H', I'.turned (t' := s'.toks) (fun b o hb e => (sb.2 b hb).trans e) f0 f1 f3 f4 f5, rfl, q⟩

theorem pd_sB2 {X : Cx} {E : XK} {elt tg0 it0 tg1 it1 : Expr} {ifs0 ifs1 : List Expr} {scope : Scope} {own : List (Str × Nat)} {pos : Pos} {te : TE} {p : PTE} {wi0 : TI} {g0 : TG} {tt0 : TT} {pi0 : PTI} {pg0 : PTG} {pt0 : PTT} {vg0 : List Nat} {wi1 : TI} {g1 : TG} {tt1 : TT} {pi1 : PTI} {pg1 : PTG} {pt1 : PTT} {vg1 : List Nat} (vs1 : List Nat) (hc : X.calm = true) (hN : X.N.Nodup) (hg : Gl X "sorted") (hm : X.mg "sorted" = none) (hi0 : JD X E tg0 it0 wi0 pi0) (ok : BlkOk X.N X.env.scope scope own)
    (hg0 : ∀ (s : Shared) (H : Hp) (C : Addr) (cl : List (Str × Addr)) (fp : List Addr), GD (X.blk s H scope (compEnvC scope cl C X.env) fp) vg0 tg0 g0 pg0) (ht0 : ∀ (s : Shared) (H : Hp) (C : Addr) (cl : List (Str × Addr)) (fp : List Addr), QD (X.blk s H scope (compEnvC scope cl C X.env) fp) E0 ifs0 tt0 pt0)
    (hi1 : ∀ (s : Shared) (H : Hp) (C : Addr) (cl : List (Str × Addr)) (fp : List Addr), JD (X.blk s H scope (compEnvC scope cl C X.env) fp) E0 tg1 it1 wi1 pi1)
    (hg1 : ∀ (s : Shared) (H : Hp) (C : Addr) (cl : List (Str × Addr)) (fp : List Addr), GD (X.blk s H scope (compEnvC scope cl C X.env) fp) vg1 tg1 g1 pg1) (ht1 : ∀ (s : Shared) (H : Hp) (C : Addr) (cl : List (Str × Addr)) (fp : List Addr), QD (X.blk s H scope (compEnvC scope cl C X.env) fp) E0 ifs1 tt1 pt1)
    (he : ∀ (s : Shared) (H : Hp) (C : Addr) (cl : List (Str × Addr)) (fp : List Addr), PD (X.blk s H scope (compEnvC scope cl C X.env) fp) E0 elt te p) (hw0 : ∀ i ∈ vg0, i ∈ own.map (·.2) := by decide) (hw1 : ∀ i ∈ vg1, i ∈ vs1 := by decide) (hv1 : ∀ i ∈ vs1, i ∈ own.map (·.2) := by decide) (hs0 : ∀ x, foldedSetIterable it0 X.env x = pure x := by intro _; rfl) (hs1 : ∀ env x, foldedSetIterable it1 env x = pure x := by intro _ _; rfl) {p2 p3 : Pos} (he2 : starEach [.SetComp elt [⟨tg0, it0, ifs0, 0⟩, ⟨tg1, it1, ifs1, 0⟩] scope pos] X.env = (false, eval (.SetComp elt [⟨tg0, it0, ifs0, 0⟩, ⟨tg1, it1, ifs1, 0⟩] scope pos) X.env) :: starEach [] X.env := by rfl) (hpl : (backTo p3 (starEach [] X.env)).any (·.1) = false := by rfl) :
    PD X E (.Call (.Name "sorted" p2) [.SetComp elt [⟨tg0, it0, ifs0, 0⟩, ⟨tg1, it1, ifs1, 0⟩] scope pos] [] p3) (tCB (rSortedSet X.w) (tCons (tLcB (fun Dl => SetO X.w Dl (fun _ => false) 0) wi0 g0 tt0 (own.map (·.2)) (tbFor wi1 g1 tt1 vs1 (tbAdd X.w te))) tNil)) (pLcB (own.map (·.2)) pi0 pg0 pt0 (pbFor vs1 pi1 pg1 pt1 (pbEltI p)) finSS) :=
  ⟨pe_callB (cr_sortedSet hc) hg hm (by decide +kernel) (pa_cons (pe_sB2 hc hN hi0.a ok (fun s H C cl fp => (hg0 s H C cl fp).a) (fun s H C cl fp => (ht0 s H C cl fp).a) (fun s H C cl fp => (hi1 s H C cl fp).a) (fun s H C cl fp => (hg1 s H C cl fp).a) (fun s H C cl fp => (ht1 s H C cl fp).a) (fun s H C cl fp => (he s H C cl fp).a) hv1 hs0 hs1) pa_nil he2) (by decide) (by decide) he2 hpl,
    snd_ssB hi0.b ((hg0 X.s_0 X.H_0 0 [] []).b.wide hw0) (ht0 X.s_0 X.H_0 0 [] []).b (sndB_for acc_s (hi1 X.s_0 X.H_0 0 [] []).b ((hg1 X.s_0 X.H_0 0 [] []).b.wide hw1) (ht1 X.s_0 X.H_0 0 [] []).b (sndB_eltI (he X.s_0 X.H_0 0 [] []).b))⟩

end PL
/-! Products of sets, as plain lists. -/
namespace PL
open PySem PySem.Spec PyProof.Rows L2

/-- a table of at most four values -/
def prodS (T : List (List Nat)) (A B : List Nat) : List Nat := (List.range T.length).filter fun k => A.any fun a => B.any fun b => mulT T a b == k
section
variable {T : List (List Nat)} {A B C : List Nat}
theorem mem_prod : ∀ {k : Nat}, k ∈ prodS T A B ↔ k < T.length ∧ ∃ a ∈ A, ∃ b ∈ B, mulT T a b = k := by
  intro k
  unfold prodS
  simp only [List.mem_filter, List.mem_range, List.any_eq_true, beq_iff_eq]
theorem mem_prod' (t : Tb T) (hA : ∀ a ∈ A, a < T.length) (hB : ∀ b ∈ B, b < T.length) {k : Nat} : k ∈ prodS T A B ↔ ∃ a ∈ A, ∃ b ∈ B, mulT T a b = k := by
  rw [mem_prod]
  constructor
  · exact fun h => h.2
  · rintro ⟨a, ha, b, hb, rfl⟩
    exact ⟨t.mul (hA a ha) (hB b hb), a, ha, b, hb, rfl⟩
theorem range_up : ∀ n : Nat, (List.range n).Pairwise (· < ·) := fun n => List.pairwise_lt_range
theorem prod_vs : VS T.length (prodS T A B) := ⟨fun v hv => (mem_prod.mp hv).1, (range_up _).filter _⟩
end
theorem up_nat {xs ys : List Nat} (h1 : xs.Pairwise (· < ·)) (h2 : ys.Pairwise (· < ·)) (h : ∀ k, k ∈ xs ↔ k ∈ ys) : xs = ys := by
  have key : xs.map (fun n : Nat => (n : Int)) = ys.map (fun n : Nat => (n : Int)) := by
    refine up_uniq ?_ ?_ fun k => ?_
    · rw [List.pairwise_map]; exact h1.imp fun z => by omega
    · rw [List.pairwise_map]; exact h2.imp fun z => by omega
    · simp only [List.mem_map]
      constructor
      · rintro ⟨a, ha, e⟩; exact ⟨a, (h a).mp ha, e⟩
      · rintro ⟨a, ha, e⟩; exact ⟨a, (h a).mpr ha, e⟩
  have inj : ∀ (a b : List Nat), a.map (fun n : Nat => (n : Int)) = b.map (fun n : Nat => (n : Int)) → a = b := fun a => by
    induction a with
    | nil => intro b h; cases b with
      | nil => rfl
      | cons _ _ => cases h
    | cons x a ih => intro b h; cases b with
      | nil => cases h
      | cons y b =>
        simp only [List.map_cons, List.cons.injEq] at h
        rw [show x = y by omega, ih b h.2]
  exact inj _ _ key
theorem VS.ext {n m : Nat} {A B : List Nat} (h1 : VS n A) (h2 : VS m B) (h : ∀ k, k ∈ A ↔ k ∈ B) : A = B := up_nat h1.up h2.up h
/-- sorted ints that are exactly the members of a list of values -/
theorem sorted_nat {ms : List Int} {n : Nat} {A : List Nat} (up : ms.Pairwise (· < ·)) (hA : VS n A) (h : ∀ k : Int, k ∈ ms ↔ ∃ a ∈ A, (a : Int) = k) : ms = A.map fun a : Nat => (a : Int) := by
  refine up_uniq up ?_ fun k => ?_
  · rw [List.pairwise_map]; exact hA.up.imp fun z => by omega
  · rw [h k, List.mem_map]
theorem set_range {α : Type} {n m : Nat} {f : Nat → α} {v : α} : ((List.range n).map f).set m v = (List.range n).map fun k => if k = m then v else f k := by
  apply List.ext_getElem?
  intro i
  rw [List.getElem?_set, List.getElem?_map, List.getElem?_map]
  by_cases hi : i < n
  · rw [List.getElem?_range hi]
    by_cases hm : m = i
    · subst hm; simp [hi]
    · simp [hm, Ne.symm hm]
  · rw [List.getElem?_eq_none (l := List.range n) (by simpa using hi)]
    by_cases hm : m = i
    · subst hm; simp [hi]
    · simp [hm]
theorem mapI {r : List Nat} : (r.map fun n : Nat => (n : Int)).map PyData.int = r.map nD := by simp [nD]
/-! ### promises -/
def s_product_of : Sc := fun ws ob X Q => ∃ T A B, Tb T ∧ T.length ≤ 4 ∧ VS T.length A ∧ VS T.length B ∧ ws = [.dat (tblD T), .dat (rowD A), .dat (rowD B)] ∧ ob = [] ∧ ∀ more, Q (rowD (prodS T A B)) more
def s__law_product : Sc := s_product_of
theorem VS.len {n : Nat} {A : List Nat} (h : VS n A) : A.length ≤ n := by
  have key : ∀ (m : Nat) (l : List Nat), l.Pairwise (· < ·) → (∀ v ∈ l, v < m) → l.length ≤ m := by
    intro m
    induction m with
    | zero => intro l _ h; cases l with
      | nil => exact Nat.le_refl _
      | cons x l => exact absurd (h x (by simp)) (by omega)
    | succ m ih =>
      intro l up h
      by_cases hl : l = []
      · subst hl; simp
      · have e := List.dropLast_concat_getLast hl
        have up' : (l.dropLast ++ [l.getLast hl]).Pairwise (· < ·) := by rw [e]; exact up
        rw [List.pairwise_append] at up'
        have q := ih l.dropLast up'.1 fun v hv => by
          have a := up'.2.2 v hv (l.getLast hl) (by simp)
          have b := h (l.getLast hl) (List.getLast_mem hl)
          omega
        rw [← e, List.length_append]
        simpa using q
  exact key n A h.up h.lt
end PL
namespace PL
open PySem PySem.Spec PyProof.Rows L2
theorem q_row {Q : D → List Ob → Prop} {S : List Nat} {ms : List Int} {more : List Ob} (hq : Q (rowD S) more) (e : ms = S.map fun a : Nat => (a : Int)) : Q (.tuple (ms.map .int)) more := by
  subst e
  rw [mapI]
  exact hq
end PL
namespace PL
theorem flat_len' {α β : Type} {f : α → List β} {m : Nat} (h : ∀ x, (f x).length = m) : ∀ {l : List α}, (l.flatMap f).length = l.length * m
  | [] => by simp
  | x :: l => by rw [List.flatMap_cons, List.length_append, h x, flat_len' h, List.length_cons, Nat.succ_mul]; omega
end PL

/-! Repeated sets: they settle. -/
namespace PL
open PySem PySem.Spec PyProof.Rows L2

/-! ### pigeons -/
theorem pigeon : ∀ (n : Nat) (l : List Nat), (∀ x ∈ l, x < n) → l.Nodup → l.length ≤ n
  | 0, l, h, _ => by
    cases l with
    | nil => exact Nat.le_refl _
    | cons x l => exact absurd (h x (by simp)) (by omega)
  | n + 1, l, h, nd => by
    by_cases hn : n ∈ l
    · have q := pigeon n (l.erase n) (fun x hx => by
        have := (nd.mem_erase_iff).mp hx
        have := h x this.2
        omega) (nd.erase n)
      rw [List.length_erase_of_mem hn] at q
      omega
    · have q := pigeon n l (fun x hx => by
        have := h x hx
        have : x ≠ n := fun z => hn (z ▸ hx)
        omega) nd
      omega
theorem twice {n : Nat} {f : Nat → Nat} (h : ∀ i, f i < n) : ∃ i j, i < j ∧ j ≤ n ∧ f i = f j := by
  refine Classical.byContradiction fun hc => ?_
  have inj : ∀ i j, i < j → j ≤ n → f i ≠ f j := fun i j h1 h2 z => hc ⟨i, j, h1, h2, z⟩
  have q := pigeon n ((List.range (n + 1)).map f) (fun x hx => by
    obtain ⟨i, _, rfl⟩ := List.mem_map.mp hx
    exact h i) (by
    unfold List.Nodup
    rw [List.pairwise_map]
    refine List.Pairwise.imp_of_mem ?_ (List.pairwise_lt_range (n := n + 1))
    intro a b _ hb hab
    exact inj a b hab (by have := List.mem_range.mp hb; omega))
  rw [List.length_map, List.length_range] at q
  omega
/-- a set of values below 4 as a number -/
def bits (S : List Nat) : Nat := (if 0 ∈ S then 1 else 0) + (if 1 ∈ S then 2 else 0) + (if 2 ∈ S then 4 else 0) + (if 3 ∈ S then 8 else 0)
theorem bits_lt (S : List Nat) : bits S < 16 := by unfold bits; split <;> split <;> split <;> split <;> omega
theorem bits_inj {n m : Nat} {A B : List Nat} (h1 : VS n A) (h2 : VS m B) (hn : n ≤ 4) (hm : m ≤ 4) (e : bits A = bits B) : A = B := by
  have key : (0 ∈ A ↔ 0 ∈ B) ∧ (1 ∈ A ↔ 1 ∈ B) ∧ (2 ∈ A ↔ 2 ∈ B) ∧ (3 ∈ A ↔ 3 ∈ B) := by
    unfold bits at e
    by_cases a0 : 0 ∈ A <;> by_cases a1 : 1 ∈ A <;> by_cases a2 : 2 ∈ A <;> by_cases a3 : 3 ∈ A <;>
    by_cases b0 : 0 ∈ B <;> by_cases b1 : 1 ∈ B <;> by_cases b2 : 2 ∈ B <;> by_cases b3 : 3 ∈ B <;>
    simp only [a0, a1, a2, a3, b0, b1, b2, b3, if_true, if_false] at e ⊢ <;> first | omega | (exfalso; omega) | simp
  refine VS.ext h1 h2 fun k => ?_
  by_cases hk : k < 4
  · match k, hk with
    | 0, _ => exact key.1
    | 1, _ => exact key.2.1
    | 2, _ => exact key.2.2.1
    | 3, _ => exact key.2.2.2
  · exact ⟨fun z => absurd (h1.lt k z) (by omega), fun z => absurd (h2.lt k z) (by omega)⟩

section
variable {T : List (List Nat)} {A B C : List Nat}
theorem prod_assoc (t : Tb T) (ha : Assoc T) (hA : ∀ a ∈ A, a < T.length) (hB : ∀ b ∈ B, b < T.length) (hC : ∀ c ∈ C, c < T.length) : prodS T (prodS T A B) C = prodS T A (prodS T B C) := by
  refine VS.ext prod_vs prod_vs fun k => ?_
  rw [mem_prod' t (fun a h => (mem_prod.mp h).1) hC, mem_prod' t hA (fun a h => (mem_prod.mp h).1)]
  constructor
  · rintro ⟨x, hx, c, hc, rfl⟩
    obtain ⟨a, hai, b, hb, rfl⟩ := (mem_prod' t hA hB).mp hx
    exact ⟨a, hai, mulT T b c, (mem_prod' t hB hC).mpr ⟨b, hb, c, hc, rfl⟩, (ha a b c (hA a hai) (hB b hb) (hC c hc)).symm⟩
  · rintro ⟨a, hai, x, hx, rfl⟩
    obtain ⟨b, hb, c, hc, rfl⟩ := (mem_prod' t hB hC).mp hx
    exact ⟨mulT T a b, (mem_prod' t hA hB).mpr ⟨a, hai, b, hb, rfl⟩, c, hc, ha a b c (hA a hai) (hB b hb) (hC c hc)⟩
/-- the set j + 1 times -/
def pwS (T : List (List Nat)) (A : List Nat) : Nat → List Nat
  | 0 => A
  | j + 1 => prodS T (pwS T A j) A
theorem pw_vs (hA : VS T.length A) : ∀ j, VS T.length (pwS T A j)
  | 0 => hA
  | _ + 1 => prod_vs
theorem pw_add (t : Tb T) (ha : Assoc T) (hA : VS T.length A) (i : Nat) : ∀ j, prodS T (pwS T A i) (pwS T A j) = pwS T A (i + j + 1)
  | 0 => rfl
  | j + 1 => by
    show prodS T (pwS T A i) (prodS T (pwS T A j) A) = prodS T (pwS T A (i + j + 1)) A
    rw [← prod_assoc t ha (pw_vs hA i).lt (pw_vs hA j).lt hA.lt, pw_add t ha hA i j]
theorem pw_per {i d : Nat} (h : pwS T A i = pwS T A (i + d)) : ∀ k, i ≤ k → pwS T A k = pwS T A (k + d) := fun k hk => by
  obtain ⟨r, rfl⟩ := Nat.le.dest hk
  clear hk
  induction r with
  | zero => exact h
  | succ r ih =>
    show prodS T (pwS T A (i + r)) A = pwS T A (i + (r + 1) + d)
    rw [ih, show i + (r + 1) + d = (i + r + d) + 1 by omega]; rfl
theorem pw_many {i d : Nat} (h : pwS T A i = pwS T A (i + d)) (k : Nat) (hk : i ≤ k) : ∀ m, pwS T A k = pwS T A (k + d * m)
  | 0 => rfl
  | m + 1 => by
    rw [pw_many h k hk m, pw_per h (k + d * m) (by omega), Nat.mul_succ, Nat.add_assoc]
def stlB (T : List (List Nat)) (A : List Nat) (j : Nat) : Bool := prodS T (pwS T A j) (pwS T A j) == pwS T A j
theorem settles (t : Tb T) (ha : Assoc T) (h4 : T.length ≤ 4) (hA : VS T.length A) : ∃ a, a ≤ 15 ∧ stlB T A a = true := by
  obtain ⟨i, j, hij, hj, e⟩ := twice (f := fun i => bits (pwS T A i)) fun i => bits_lt _
  have e := bits_inj (pw_vs hA i) (pw_vs hA j) h4 h4 e
  have hd : 0 < j - i := by omega
  have h : pwS T A i = pwS T A (i + (j - i)) := by rw [e]; congr 1; omega
  have hm : (j - i) * (i / (j - i)) ≤ i := Nat.mul_div_le i (j - i)
  have hm2 : i < (j - i) * (i / (j - i) + 1) := by
    have := Nat.lt_mul_div_succ i hd
    omega
  have hm3 : (j - i) * (i / (j - i) + 1) = (j - i) * (i / (j - i)) + (j - i) := Nat.mul_succ _ _
  refine ⟨(j - i) * (i / (j - i) + 1) - 1, by omega, ?_⟩
  generalize hD : (j - i) * (i / (j - i) + 1) = D at hm2 hm3
  have q := pw_many h (D - 1) (by omega) (i / (j - i) + 1)
  rw [hD] at q
  unfold stlB
  rw [beq_iff_eq, pw_add t ha hA]
  rw [show D - 1 + (D - 1) + 1 = D - 1 + D by omega]
  exact q.symm
def stl (T : List (List Nat)) (A : List Nat) : Nat := ((List.range 16).find? (stlB T A)).getD 0
theorem stl_ok (t : Tb T) (ha : Assoc T) (h4 : T.length ≤ 4) (hA : VS T.length A) : stl T A ≤ 15 ∧ stlB T A (stl T A) = true ∧ ∀ i < stl T A, stlB T A i = false := by
  obtain ⟨a, ha15, hs⟩ := settles t ha h4 hA
  have hsome : ((List.range 16).find? (stlB T A)).isSome = true := by
    rw [List.find?_isSome]
    exact ⟨a, List.mem_range.mpr (by omega), hs⟩
  obtain ⟨i, hi⟩ := Option.isSome_iff_exists.mp hsome
  have e : stl T A = i := by unfold stl; rw [hi]; rfl
  obtain ⟨h1, h2, h3⟩ := List.find?_range_eq_some.mp hi
  rw [e]
  exact ⟨by have := List.mem_range.mp h2; omega, h1, fun j hj => by simpa using h3 j hj⟩
def setS (T : List (List Nat)) (A : List Nat) : List Nat := pwS T A (stl T A)
def turnS (T : List (List Nat)) (A : List Nat) : List Nat := (List.range T.length).filter fun k => (setS T A).contains k || (prodS T (setS T A) A).contains k
theorem set_vs (hA : VS T.length A) : VS T.length (setS T A) := pw_vs hA _
theorem turn_vs : VS T.length (turnS T A) := ⟨fun v hv => List.mem_range.mp (List.mem_filter.mp hv).1, (range_up _).filter _⟩
theorem mem_turn (hA : VS T.length A) {k : Nat} : k ∈ turnS T A ↔ k ∈ setS T A ∨ k ∈ prodS T (setS T A) A := by
  unfold turnS
  rw [List.mem_filter, List.mem_range, Bool.or_eq_true, List.contains_iff_mem, List.contains_iff_mem]
  exact ⟨fun h => h.2, fun h => ⟨h.elim (fun z => (set_vs hA).lt k z) fun z => (mem_prod.mp z).1, h⟩⟩
end
/-! ### promises -/
/-- a table as the laws draw it, a set of its values -/
structure TA (T : List (List Nat)) (A : List Nat) : Prop where
  tb : Tb T
  as : Assoc T
  few : T.length ≤ 4
  vs : VS T.length A
theorem TA.st {T : List (List Nat)} {A : List Nat} (h : TA T A) : stl T A ≤ 15 ∧ stlB T A (stl T A) = true ∧ ∀ i < stl T A, stlB T A i = false := stl_ok h.tb h.as h.few h.vs
def s_repeated_until_settled : Sc := fun ws ob X Q => ∃ T A, TA T A ∧ ws = [.dat (tblD T), .dat (rowD A)] ∧ ob = [] ∧ ∀ more, Q (.tuple [nD (stl T A + 1), rowD (setS T A)]) more
def s_settling : Sc := fun ws ob X Q => ∃ T A, TA T A ∧ ws = [.dat (tblD T), .dat (rowD A)] ∧ ob = [] ∧ ∀ more, Q (nD (stl T A + 1)) more
def s_settled : Sc := fun ws ob X Q => ∃ T A, TA T A ∧ ws = [.dat (tblD T), .dat (rowD A)] ∧ ob = [] ∧ ∀ more, Q (rowD (setS T A)) more
def s_turned : Sc := fun ws ob X Q => ∃ T A, TA T A ∧ ws = [.dat (tblD T), .dat (rowD A)] ∧ ob = [] ∧ ∀ more, Q (rowD (turnS T A)) more
def s__law_power : Sc := fun ws ob X Q => ∃ T A j, TA T A ∧ j ≤ 1000 ∧ ws = [.dat (tblD T), .dat (rowD A), .dat (nD (j + 1))] ∧ ob = [] ∧ ∀ more, Q (rowD (pwS T A j)) more
def s__law_settling : Sc := s_settling
def s__law_turned : Sc := s_turned
end PL

/-! Faults of semigroups, as plain lists. -/
namespace PL
open PySem PySem.Spec PyProof.Rows L2

def tstA (T : List (List Nat)) (a b c : Nat) : Bool := decide ((mulT T (mulT T a b) c : Int) = (mulT T a (mulT T b c) : Int))
def bsA (T : List (List Nat)) : List Bool := (List.range T.length).flatMap fun a => (List.range T.length).flatMap fun b => (List.range T.length).map fun c => tstA T a b c
def assocB (T : List (List Nat)) : Bool := (bsA T).all id
theorem assocB_iff {T : List (List Nat)} : assocB T = true ↔ Assoc T := by
  unfold assocB bsA
  rw [List.all_eq_true]
  constructor
  · intro h a b c ha hb hc
    have q := h (tstA T a b c) (List.mem_flatMap.mpr ⟨a, List.mem_range.mpr ha, List.mem_flatMap.mpr ⟨b, List.mem_range.mpr hb, List.mem_map.mpr ⟨c, List.mem_range.mpr hc, rfl⟩⟩⟩)
    have q : decide ((mulT T (mulT T a b) c : Int) = (mulT T a (mulT T b c) : Int)) = true := q
    have := of_decide_eq_true q
    omega
  · intro h x hx
    obtain ⟨a, ha, hx⟩ := List.mem_flatMap.mp hx
    obtain ⟨b, hb, hx⟩ := List.mem_flatMap.mp hx
    obtain ⟨c, hc, rfl⟩ := List.mem_map.mp hx
    have q := h a b c (List.mem_range.mp ha) (List.mem_range.mp hb) (List.mem_range.mp hc)
    show decide ((mulT T (mulT T a b) c : Int) = (mulT T a (mulT T b c) : Int)) = true
    exact decide_eq_true (by rw [q])
def sgDI (rows : List (List Int)) (ls : List Int) : D := .tuple [.tuple (rows.map rowI), rowI ls]
def toT (rows : List (List Int)) : List (List Nat) := rows.map fun r => r.map Int.toNat
def sgFault (rows : List (List Int)) (ls : List Int) : Option Str :=
  if (decide (1 ≤ (rows.length : Int)) && decide ((rows.length : Int) ≤ 4)) = false ∨ rowsOk rows rows.length rows.length = false then some "table" else
  if (decide (1 ≤ (ls.length : Int)) && decide ((ls.length : Int) ≤ 3)) = false ∨ below ls rows.length = false then some "letters" else
  if assocB (toT rows) = false then some "associative" else none
def castT (T : List (List Nat)) : List (List Int) := T.map fun r => r.map fun n : Nat => (n : Int)
def castL (L : List Nat) : List Int := L.map fun n : Nat => (n : Int)
theorem sgDI_nat {T : List (List Nat)} {L : List Nat} : sgDI (castT T) (castL L) = sgD T L := by
  unfold sgDI sgD castT castL tblD
  rw [List.map_map, rowI_nat]
  congr 3
  exact List.map_congr_left fun r _ => rowI_nat
theorem below_pos {r : List Int} {m : Int} (h : below r m = true) : (r.map Int.toNat).map (fun n : Nat => (n : Int)) = r := by
  rw [List.map_map]
  conv => rhs; rw [← List.map_id r]
  refine List.map_congr_left fun v hv => ?_
  simp only [below, List.all_eq_true, Bool.and_eq_true, decide_eq_true_eq] at h
  have := h v hv
  show ((v.toNat : Nat) : Int) = v
  omega
theorem rows_tb {rows : List (List Int)} (h : rowsOk rows rows.length rows.length = true) : Tb (toT rows) ∧ castT (toT rows) = rows := by
  simp only [rowsOk, List.all_eq_true, Bool.and_eq_true, decide_eq_true_eq] at h
  refine ⟨⟨fun r hr => ?_, fun r hr v hv => ?_⟩, ?_⟩
  · obtain ⟨r0, h0, rfl⟩ := List.mem_map.mp hr
    have := (h r0 h0).1
    rw [toT, List.length_map, List.length_map]; omega
  · obtain ⟨r0, h0, rfl⟩ := List.mem_map.mp hr
    obtain ⟨v0, hv0, rfl⟩ := List.mem_map.mp hv
    have q := (h r0 h0).2
    simp only [below, List.all_eq_true, Bool.and_eq_true, decide_eq_true_eq] at q
    have := q v0 hv0
    rw [toT, List.length_map]; omega
  · unfold castT toT
    rw [List.map_map]
    conv => rhs; rw [← List.map_id rows]
    exact List.map_congr_left fun r hr => below_pos (h r hr).2
theorem toT_cast {T : List (List Nat)} : toT (castT T) = T := by
  unfold toT castT
  rw [List.map_map]
  conv => rhs; rw [← List.map_id T]
  refine List.map_congr_left fun r _ => ?_
  show (r.map fun n : Nat => (n : Int)).map Int.toNat = r
  rw [List.map_map]
  conv => rhs; rw [← List.map_id r]
  exact List.map_congr_left fun v _ => by simp
theorem rowsOk_cast {T : List (List Nat)} (h : Tb T) : rowsOk (castT T) (castT T).length (castT T).length = true := by
  have el : (castT T).length = T.length := by simp [castT]
  rw [el]
  simp only [rowsOk, List.all_eq_true, Bool.and_eq_true, decide_eq_true_eq]
  intro r hr
  obtain ⟨r0, h0, rfl⟩ := List.mem_map.mp hr
  exact ⟨by have := h.rows r0 h0; simp; omega, below_nat (h.vals r0 h0)⟩
theorem sg_good {T : List (List Nat)} {L : List Nat} (h : Sg T L) (hA : Assoc T) (h1 : 1 ≤ T.length) (h4 : T.length ≤ 4) (h5 : 1 ≤ L.length) (h6 : L.length ≤ 3) : sgFault (castT T) (castL L) = none := by
  have el : (castT T).length = T.length := by simp [castT]
  have el2 : (castL L).length = L.length := by simp [castL]
  unfold sgFault
  rw [rowsOk_cast h.tb, el, el2, toT_cast, assocB_iff.mpr hA, show below (castL L) (T.length : Int) = true from below_nat h.lets]
  rw [decide_eq_true (show (1 : Int) ≤ (T.length : Int) by omega), decide_eq_true (show (T.length : Int) ≤ 4 by omega), decide_eq_true (show (1 : Int) ≤ (L.length : Int) by omega), decide_eq_true (show (L.length : Int) ≤ 3 by omega)]
  simp
/-! ### promises -/
def s_is_associative : Sc := fun ws ob X Q => ∃ T, Tb T ∧ T.length ≤ 4 ∧ ws = [.dat (tblD T)] ∧ ob = [] ∧ ∀ more, Q (.bool (assocB T)) more
def s_fault_of : Sc := fun ws ob X Q => ∃ (rows : List (List Int)) (ls : List Int), rows.length ≤ 1000 ∧ (∀ r ∈ rows, r.length ≤ 1000) ∧ ls.length ≤ 1000 ∧ ws = [.dat (sgDI rows ls)] ∧ ob = [] ∧ ∀ more, Q (wordD (sgFault rows ls)) more
end PL

/-! Families of sets, as plain lists. -/
namespace PL
open PySem PySem.Spec PyProof.Rows L2

inductive Mk where
  | letter (a : Nat)
  | turn (k : Nat)
  | both (i j : Nat)
def Mk.d : Mk → D
  | .letter a => .tuple [.str "letter", nD a]
  | .turn k => .tuple [.str "turn", nD k]
  | .both i j => .tuple [.str "both", nD i, nD j]
abbrev Fam := List (Mk × List Nat)
def prD (p : Mk × List Nat) : D := .tuple [p.1.d, rowD p.2]
def famL (F : Fam) : List D := F.map prD
def hasF (F : Fam) (S : List Nat) : Bool := F.any fun p => p.2 == S
def putF (F : Fam) (m : Mk) (S : List Nat) : Fam := if hasF F S = true then F else F ++ [(m, S)]
def atF (F : Fam) (k : Nat) : List Nat := ((F[k]?).map (·.2)).getD []
def stepJ (T : List (List Nat)) (S : List Nat) (k : Nat) (F : Fam) (j : Nat) : Fam := putF (putF F (.both k j) (prodS T S (atF F j))) (.both j k) (prodS T (atF F j) S)
def stepI (T : List (List Nat)) (F : Fam) (k i : Nat) : Fam := (List.range i).foldl (stepJ T (atF F k) k) (putF F (.turn k) (turnS T (atF F k)))
def stepF (T : List (List Nat)) (F : Fam) (k : Nat) : Fam := stepI T F k (k + 1)
def F0 (L : List Nat) (i : Nat) : Fam := (List.range i).foldl (fun F l => putF F (.letter l) [L.getD l 0]) []
def fam (T : List (List Nat)) (L : List Nat) : Nat → Fam
  | 0 => F0 L L.length
  | k + 1 => if k < (fam T L k).length then stepF T (fam T L k) k else fam T L k
structure Fm (n : Nat) (F : Fam) : Prop where
  vs : ∀ p ∈ F, VS n p.2
  nd : (F.map (·.2)).Nodup
theorem hasF_iff {F : Fam} {S : List Nat} : hasF F S = true ↔ S ∈ F.map (·.2) := by
  unfold hasF
  simp only [List.any_eq_true, List.mem_map, beq_iff_eq]
theorem Fm.put {n : Nat} {F : Fam} (h : Fm n F) {m : Mk} {S : List Nat} (hS : VS n S) : Fm n (putF F m S) := by
  unfold putF
  split
  · exact h
  · rename_i hn
    refine ⟨fun p hp => ?_, ?_⟩
    · rcases List.mem_append.mp hp with hp | hp
      · exact h.vs p hp
      · simp at hp; subst hp; exact hS
    · rw [List.map_append]
      refine List.nodup_append.mpr ⟨h.nd, by simp, fun a ha b hb => ?_⟩
      simp at hb; subst hb
      intro e
      subst e
      exact hn (hasF_iff.mpr ha)
theorem Fm.len {n : Nat} {F : Fam} (h : Fm n F) (hn : n ≤ 4) : F.length ≤ 16 := by
  have q := pigeon 16 ((F.map (·.2)).map bits) (fun x hx => by
    obtain ⟨S, _, rfl⟩ := List.mem_map.mp hx
    exact bits_lt S) (by
    unfold List.Nodup
    rw [List.pairwise_map]
    refine List.Pairwise.imp_of_mem ?_ h.nd
    intro a b ha hb hab e
    obtain ⟨p, hp, rfl⟩ := List.mem_map.mp ha
    obtain ⟨q, hq, rfl⟩ := List.mem_map.mp hb
    exact hab (bits_inj (h.vs p hp) (h.vs q hq) hn hn e))
  rw [List.length_map, List.length_map] at q
  exact q
theorem put_pre {F : Fam} {m : Mk} {S : List Nat} : F <+: putF F m S := by
  unfold putF
  split
  · exact List.prefix_refl _
  · exact List.prefix_append _ _
theorem atF_pre {F G : Fam} (h : F <+: G) {k : Nat} (hk : k < F.length) : atF G k = atF F k := by
  obtain ⟨t, rfl⟩ := h
  unfold atF
  rw [List.getElem?_append_left hk]
theorem atF_vs {n : Nat} {F : Fam} (h : Fm n F) {k : Nat} : VS n (atF F k) := by
  unfold atF
  cases hk : F[k]? with
  | none => exact ⟨by simp, by simp⟩
  | some p => exact h.vs p (List.mem_of_getElem? hk)
section
variable {T : List (List Nat)} {L : List Nat}
theorem Fm.stepJ {F : Fam} (h : Fm T.length F) {S : List Nat} {k j : Nat} : Fm T.length (stepJ T S k F j) := (h.put prod_vs).put prod_vs
theorem stepJ_pre {F : Fam} {S : List Nat} {k j : Nat} : F <+: PL.stepJ T S k F j := put_pre.trans put_pre
theorem fold_pre {S : List Nat} {k : Nat} : ∀ {js : List Nat} {F : Fam}, F <+: js.foldl (PL.stepJ T S k) F
  | [], F => List.prefix_refl _
  | j :: js, F => stepJ_pre.trans fold_pre
theorem Fm.fold {S : List Nat} {k : Nat} : ∀ {js : List Nat} {F : Fam}, Fm T.length F → Fm T.length (js.foldl (PL.stepJ T S k) F)
  | [], F, h => h
  | j :: js, F, h => Fm.fold (js := js) h.stepJ
theorem Fm.stepI {F : Fam} (h : Fm T.length F) {k i : Nat} : Fm T.length (stepI T F k i) := Fm.fold (h.put turn_vs)
theorem stepI_pre {F : Fam} {k i : Nat} : F <+: stepI T F k i := put_pre.trans fold_pre
theorem stepI_succ {F : Fam} {k i : Nat} : stepI T F k (i + 1) = PL.stepJ T (atF F k) k (stepI T F k i) i := by
  unfold stepI
  rw [List.range_succ, List.foldl_append]; rfl
theorem one_vs {n v : Nat} (h : v < n) : VS n [v] := ⟨fun u hu => by simp at hu; omega, List.pairwise_singleton _ _⟩
theorem F0_succ {i : Nat} : F0 L (i + 1) = putF (F0 L i) (.letter i) [L.getD i 0] := by
  unfold F0
  rw [List.range_succ, List.foldl_append]; rfl
theorem Fm.F0 (s : Sg T L) : ∀ {i : Nat}, i ≤ L.length → Fm T.length (F0 L i)
  | 0, _ => ⟨by simp [PL.F0], by simp [PL.F0]⟩
  | i + 1, h => by
    rw [F0_succ]
    exact (Fm.F0 s (by omega)).put (one_vs (s.let (by omega)))
theorem Fm.fam (s : Sg T L) : ∀ k, Fm T.length (fam T L k)
  | 0 => Fm.F0 s (Nat.le_refl _)
  | k + 1 => by
    simp only [PL.fam]
    split
    · exact (Fm.fam s k).stepI
    · exact Fm.fam s k
theorem fam_stop {k : Nat} (h : (fam T L k).length ≤ k) : ∀ {m : Nat}, k ≤ m → fam T L m = fam T L k := fun {m} hm => by
  obtain ⟨d, rfl⟩ := Nat.le.dest hm
  clear hm
  induction d with
  | zero => rfl
  | succ d ih =>
    show (if k + d < (fam T L (k + d)).length then stepF T (fam T L (k + d)) (k + d) else fam T L (k + d)) = _
    rw [ih, if_neg (by omega)]
end
theorem any_sets {S : List Nat} {F : Fam} : ((F.map fun p => rowD p.2).any fun z => PyData.eqv z (rowD S)) = hasF F S := by
  unfold hasF
  rw [List.any_map]
  congr 1
  funext p
  rw [Bool.eq_iff_iff]
  simp only [Function.comp, beq_iff_eq]
  exact tell_row p.2 S
theorem at_fam {F : Fam} {k : Nat} (h : k < F.length) : ∃ m, atI (famL F) (k : Int) = some (.tuple [m, rowD (atF F k)]) := by
  refine ⟨(F[k]).1.d, at_nat ?_⟩
  unfold famL atF
  rw [List.getElem?_map, List.getElem?_eq_getElem h]
  rfl
theorem lay_str {s : Str} (h : (PyData.str s).canLay0 = true) : Lay 0 (.str s) := ⟨h, by simp [PyData.depth]⟩
theorem lay_mk {m : Mk} : Lay 1 m.d := by
  cases m <;> refine lay_tuple fun d hd => ?_ <;> simp at hd <;> rcases hd with rfl | rfl | rfl <;> first | exact lay_nD | exact lay_str (by decide +kernel)
theorem lay_pr {p : Mk × List Nat} : Lay 2 (prD p) := lay_tuple fun d hd => by
  simp at hd
  rcases hd with rfl | rfl
  · exact lay_mk
  · exact lay_row
theorem lay_fam {F : Fam} : Lay 3 (.list (famL F)) := lay_list (lay_map fun _ => lay_pr)
/-! ### promises -/
structure SgA (T : List (List Nat)) (L : List Nat) : Prop where
  sg : Sg T L
  as : Assoc T
  n1 : 1 ≤ T.length
  n4 : T.length ≤ 4
  l1 : 1 ≤ L.length
  l3 : L.length ≤ 3
def s_check_semigroup : Sc := fun ws ob X Q => ∃ T L, SgA T L ∧ ws = [.dat (sgD T L)] ∧ ob = [] ∧ ∀ more, Q .none more
def s_add_set : Sc := fun ws ob X Q => ∃ (n : Nat) (F : Fam) (m : Mk) (S : List Nat), Fm n F ∧ n ≤ 4 ∧ ws = [.ref 0, .dat m.d, .dat (rowD S)] ∧ ob = [.lst (famL F)] ∧ ∀ more, Q .none (.lst (famL (putF F m S)) :: more)
def s_add_made_of : Sc := fun ws ob X Q => ∃ T L F k, SgA T L ∧ Fm T.length F ∧ k < F.length ∧ ws = [.dat (tblD T), .ref 0, .dat (nD k)] ∧ ob = [.lst (famL F)] ∧ ∀ more, Q .none (.lst (famL (stepF T F k)) :: more)
def s_family_of : Sc := fun ws ob X Q => ∃ T L, SgA T L ∧ ws = [.dat (sgD T L)] ∧ ob = [] ∧ ∀ F more, F = fam T L 16 → Q (.list (famL F)) more
def s__law_put : Sc := fun ws ob X Q => ∃ (n : Nat) (F : Fam) (m : Mk) (S : List Nat), Fm n F ∧ n ≤ 4 ∧ ws = [.ref 0, .dat m.d, .dat (rowD S)] ∧ ob = [.lst (famL F)] ∧ ∀ i more, Q (.int i) (.lst (famL (putF F m S)) :: more)
def s__law_family : Sc := s_family_of
end PL

/-! max of a tuple of ints. -/
namespace PL
open PySem PySem.Spec PyProof.Rows L2

theorem readsAll_ints {h : Heap} : ∀ {ns : List Int} {us : List Value}, Vals (ns.map V.int) us → ReadsAll h us (ns.map PyData.int) []
  | [], us, r => by cases r; exact .nil
  | n :: ns, us, r => by
    cases r with
    | cons r rr =>
      obtain ⟨t, rfl⟩ := r
      exact .cons (as := []) (bs := []) (.int n t) (readsAll_ints rr)
theorem max_fold : ∀ (xs : List Int) (x : Int), W.maxOf x xs ∈ x :: xs ∧ ∀ y ∈ x :: xs, y ≤ W.maxOf x xs
  | [], x => ⟨by simp [W.maxOf], fun y hy => by simp at hy; subst hy; exact Int.le_refl _⟩
  | z :: xs, x => by
    have e : W.maxOf x (z :: xs) = W.maxOf (if decide (x < z) = true then z else x) xs := rfl
    obtain ⟨h1, h2⟩ := max_fold xs (if decide (x < z) = true then z else x)
    rw [← e] at h1 h2
    by_cases hz : x < z
    · rw [if_pos (decide_eq_true hz)] at h1 h2
      refine ⟨List.mem_cons_of_mem _ h1, fun y hy => ?_⟩
      rcases List.mem_cons.mp hy with rfl | hy
      · have := h2 z (by simp); omega
      · exact h2 y hy
    · rw [if_neg (by simpa using hz)] at h1 h2
      refine ⟨?_, fun y hy => ?_⟩
      · rcases List.mem_cons.mp h1 with h1 | h1
        · rw [h1]; simp
        · exact List.mem_cons_of_mem _ (List.mem_cons_of_mem _ h1)
      · rcases List.mem_cons.mp hy with rfl | hy
        · exact h2 y (by simp)
        · rcases List.mem_cons.mp hy with rfl | hy
          · have := h2 x (by simp); omega
          · exact h2 y (List.mem_cons_of_mem _ hy)
def rMaxT (K : PySem.W.Frag) : List V → Hp → VK → Prop := fun vs H Q => ∃ (a : Addr) (ns : List Int), vs = [V.ref a] ∧ SqT K H a (ns.map V.int) ∧ 0 < ns.length ∧ ∀ m, m ∈ ns → (∀ y, y ∈ ns → y ≤ m) → Q (.int m) H
theorem cr_maxT {X : Cx} (hc : X.calm = true) (hu : X.A.units + 65 < cLine) : CallR X (.builtin "max") (rMaxT X.K) := by
  intro pins s σ H vs us Q I r h
  obtain ⟨a, ns, rfl, hs, hne, q⟩ := h
  obtain ⟨its, rv, pl, _⟩ := I.tuple hs
  rw [Vals.ref1 r]
  cases ns with
  | nil => cases hne
  | cons n ns =>
    have isT : s.heap.IsTuple a its.toArray := pl
    refine W.max_tuple_datum (α := Int) (x := n) (xs := ns) (I.ok.hd hc) isT ⟨[], readsAll_ints rv⟩ (by show X.A.units + 1 + 0 < cLine; omega) fun i v h' tk hi hv hk => ?_
    obtain ⟨m1, m2⟩ := max_fold ns n
    obtain ⟨as, hr⟩ := hv
    have ev : ∃ t, v = Value.int (W.maxOf n ns) t := by
      have hr : Reads h' v (.int (W.maxOf n ns)) as := hr
      cases hr with
      | int j t => exact ⟨t, rfl⟩
    obtain ⟨t, rfl⟩ := ev
    exact ⟨.int _, H, I.kept hk, ⟨_, rfl⟩, q _ m1 m2⟩
def bMaxT : List D → (D → Prop) → Prop := fun ds k => match ds with
  | [.tuple xs] => ∃ ns : List Int, xs = ns.map .int ∧ 0 < ns.length ∧ ∀ m, m ∈ ns → (∀ y, y ∈ ns → y ≤ m) → k (.int m)
  | _ => False
theorem ra_maxT {K : PySem.W.Frag} : RA K (rMaxT K) bMaxT := fun G H vs ds k R s h hk hR => by
  unfold bMaxT at hk
  split at hk
  · obtain ⟨ns, rfl, hl, hk⟩ := hk
    obtain ⟨v, rfl, r⟩ := al1 h
    obtain ⟨a, xs, rfl, hs, al⟩ := rv_tuple s r
    rw [al_intsL al] at hs
    exact ⟨a, ns, rfl, hs, hl, fun m hm hy => hR _ _ H (hk m hm hy) (Sub.refl _) fun _ _ _ => Dp.int _⟩
  · exact hk.elim
theorem pd_maxT {K : PySem.W.Frag} {X : Cx} {E : XK} {a : Expr} {es : List Expr} {tr : L2.TA} {pr : PTA} {pos p2 : Pos} (hc : X.calm = true) (hu : X.A.units + 65 < cLine) (hg : Gl X "max") (hm : X.mg "max" = none) (ha : AD X E (a :: es) tr pr) (he : starEach (a :: es) X.env = (false, eval a X.env) :: starEach es X.env := by rfl) (hpl : (backTo pos (starEach es X.env)).any (·.1) = false := by rfl) (hK : X.K = K := by rfl) :
    PD X E (.Call (.Name "max" p2) (a :: es) [] pos) (tCB (rMaxT K) tr) (pApp bMaxT pr) := by
  subst hK
  exact pd_cb (cr_maxT hc hu) ra_maxT hg hm (by decide +kernel) ha (by decide) (by decide) he hpl
end PL

/-! The family is closed, and made as it is told. -/
namespace PL
open PySem PySem.Spec PyProof.Rows L2

abbrev setsF (F : Fam) : List (List Nat) := F.map (·.2)
def MkOk (T : List (List Nat)) (L : List Nat) (F : Fam) (i : Nat) (m : Mk) (S : List Nat) : Prop := match m with
  | .letter a => a < L.length ∧ S = [L.getD a 0]
  | .turn k => k < i ∧ S = turnS T (atF F k)
  | .both a b => (a < i ∧ b < i) ∧ S = prodS T (atF F a) (atF F b)
def Made (T : List (List Nat)) (L : List Nat) (F : Fam) : Prop := ∀ i p, F[i]? = some p → MkOk T L F i p.1 p.2
section
variable {T : List (List Nat)} {L : List Nat} {F G : Fam}
theorem MkOk.pre (h : F <+: G) {i : Nat} (hi : i ≤ F.length) {m : Mk} {S : List Nat} (q : MkOk T L F i m S) : MkOk T L G i m S := by
  cases m with
  | letter a => exact q
  | turn k =>
    obtain ⟨q1, q2⟩ := q
    exact ⟨q1, by rw [atF_pre h (show k < F.length by omega)]; exact q2⟩
  | both a b =>
    obtain ⟨⟨q1, q2⟩, q3⟩ := q
    exact ⟨⟨q1, q2⟩, by rw [atF_pre h (show a < F.length by omega), atF_pre h (show b < F.length by omega)]; exact q3⟩
theorem sets_pre (h : F <+: G) {S : List Nat} (q : S ∈ setsF F) : S ∈ setsF G := by
  obtain ⟨t, rfl⟩ := h
  rw [setsF, List.map_append]
  exact List.mem_append_left _ q
theorem put_mem {m : Mk} {S : List Nat} : S ∈ setsF (putF F m S) := by
  unfold putF
  split
  · rename_i h; exact hasF_iff.mp h
  · rw [setsF, List.map_append]; exact List.mem_append_right _ (by simp)
theorem Made.put (h : Made T L F) {m : Mk} {S : List Nat} (hm : MkOk T L F F.length m S) : Made T L (putF F m S) := by
  have hpre : F <+: putF F m S := put_pre
  intro i p hp
  by_cases hi : i < F.length
  · have e : F[i]? = some p := by
      obtain ⟨t, ht⟩ := hpre
      rw [← ht, List.getElem?_append_left hi] at hp
      exact hp
    exact (h i p e).pre hpre (by omega)
  · unfold putF at hp
    split at hp
    · exact absurd (List.getElem?_eq_some_iff.mp hp).1 hi
    · rw [List.getElem?_append_right (by omega)] at hp
      have h0 : i - F.length = 0 := by
        have := (List.getElem?_eq_some_iff.mp hp).1
        simp at this; omega
      have hi' : i = F.length := by omega
      subst hi'
      rw [h0] at hp
      simp at hp
      subst hp
      exact hm.pre hpre (Nat.le_refl _)
/-- what the set of this number makes is there, with the sets below i -/
structure Done (T : List (List Nat)) (G : Fam) (k i : Nat) : Prop where
  turn : turnS T (atF G k) ∈ setsF G
  both : ∀ j < i, prodS T (atF G k) (atF G j) ∈ setsF G ∧ prodS T (atF G j) (atF G k) ∈ setsF G
theorem Done.pre (h : F <+: G) {k i : Nat} (hk : k < F.length) (hi : i ≤ F.length) (q : Done T F k i) : Done T G k i := by
  refine ⟨?_, fun j hj => ?_⟩
  · rw [atF_pre h hk]; exact sets_pre h q.turn
  · rw [atF_pre h hk, atF_pre h (show j < F.length by omega)]
    exact ⟨sets_pre h (q.both j hj).1, sets_pre h (q.both j hj).2⟩
theorem stepI_made (h : Made T L F) {k : Nat} (hk : k < F.length) : ∀ i, i ≤ k + 1 → Made T L (stepI T F k i) ∧ Done T (stepI T F k i) k i
  | 0, _ => by
    have hpre : F <+: putF F (.turn k) (turnS T (atF F k)) := put_pre
    refine ⟨h.put ⟨hk, rfl⟩, ?_, fun j hj => absurd hj (by omega)⟩
    show turnS T (atF (putF F (.turn k) (turnS T (atF F k))) k) ∈ setsF (putF F (.turn k) (turnS T (atF F k)))
    rw [atF_pre hpre hk]
    exact put_mem
  | i + 1, hi => by
    obtain ⟨m1, d1⟩ := stepI_made h hk i (by omega)
    have p0 : F <+: stepI T F k i := stepI_pre
    have ek : atF F k = atF (stepI T F k i) k := (atF_pre p0 hk).symm
    rw [stepI_succ]
    have hl := p0.length_le
    generalize hG : stepI T F k i = G at m1 d1 p0 ek hl
    rw [ek]
    unfold PL.stepJ
    have q1 : G <+: putF G (.both k i) (prodS T (atF G k) (atF G i)) := put_pre
    have q2 : putF G (.both k i) (prodS T (atF G k) (atF G i)) <+: putF (putF G (.both k i) (prodS T (atF G k) (atF G i))) (.both i k) (prodS T (atF G i) (atF G k)) := put_pre
    have q3 := q1.trans q2
    have hl1 := q1.length_le
    have mm := (m1.put (m := .both k i) ⟨⟨show k < G.length by omega, show i < G.length by omega⟩, rfl⟩).put (m := .both i k) (S := prodS T (atF G i) (atF G k)) ⟨⟨by omega, by omega⟩, by
      rw [atF_pre q1 (show i < G.length by omega), atF_pre q1 (show k < G.length by omega)]⟩
    refine ⟨mm, ?_, fun j hj => ?_⟩
    · exact (d1.pre q3 (show k < G.length by omega) (show i ≤ G.length by omega)).turn
    · by_cases hji : j < i
      · exact (d1.pre q3 (show k < G.length by omega) (show i ≤ G.length by omega)).both j hji
      · have : j = i := by omega
        subst this
        rw [atF_pre q3 (show k < G.length by omega), atF_pre q3 (show j < G.length by omega)]
        exact ⟨sets_pre q2 put_mem, put_mem⟩
theorem F0_made : ∀ i, i ≤ L.length → Made T L (F0 L i) ∧ ∀ l < i, [L.getD l 0] ∈ setsF (F0 L i)
  | 0, _ => ⟨fun i p hp => by simp [F0] at hp, fun l hl => absurd hl (by omega)⟩
  | i + 1, hi => by
    obtain ⟨m1, d1⟩ := F0_made i (by omega)
    rw [F0_succ]
    refine ⟨m1.put ⟨by omega, rfl⟩, fun l hl => ?_⟩
    by_cases hli : l < i
    · exact sets_pre put_pre (d1 l hli)
    · have : l = i := by omega
      subst this
      exact put_mem
theorem fam_made (s : Sg T L) : ∀ k, Made T L (fam T L k) ∧ F0 L L.length <+: fam T L k ∧ ∀ k' < k, k' < (fam T L k).length → Done T (fam T L k) k' (k' + 1)
  | 0 => ⟨(F0_made _ (Nat.le_refl _)).1, List.prefix_refl _, fun k' h => absurd h (by omega)⟩
  | k + 1 => by
    obtain ⟨m1, p1, d1⟩ := fam_made s k
    by_cases hk : k < (fam T L k).length
    · have e : fam T L (k + 1) = stepF T (fam T L k) k := if_pos hk
      rw [e]
      obtain ⟨m2, d2⟩ := stepI_made m1 hk (k + 1) (Nat.le_refl _)
      have p2 : fam T L k <+: stepF T (fam T L k) k := stepI_pre
      refine ⟨m2, p1.trans p2, fun k' hk' hl => ?_⟩
      by_cases hkk : k' < k
      · exact (d1 k' hkk (by omega)).pre p2 (by omega) (by omega)
      · have : k' = k := by omega
        subst this
        exact d2
    · have e : fam T L (k + 1) = fam T L k := if_neg hk
      rw [e]
      exact ⟨m1, p1, fun k' hk' hl => d1 k' (by omega) hl⟩
/-- all of it -/
structure Good (T : List (List Nat)) (L : List Nat) (F : Fam) : Prop where
  fm : Fm T.length F
  few : F.length ≤ 16
  made : Made T L F
  lets : ∀ v ∈ L, [v] ∈ setsF F
  turn : ∀ k < F.length, turnS T (atF F k) ∈ setsF F
  both : ∀ k < F.length, ∀ j < F.length, prodS T (atF F k) (atF F j) ∈ setsF F
theorem fam_good (s : SgA T L) (h : F = fam T L 16) : Good T L F := by
  have fm : Fm T.length F := h ▸ Fm.fam s.sg 16
  have few := fm.len s.n4
  have key : Made T L F ∧ F0 L L.length <+: F ∧ ∀ k' < 16, k' < F.length → Done T F k' (k' + 1) := h ▸ fam_made s.sg 16
  obtain ⟨m1, p1, d1⟩ := key
  refine ⟨fm, few, m1, fun v hv => ?_, fun k hk => (d1 k (by omega) hk).turn, fun k hk j hj => ?_⟩
  · obtain ⟨l, hl, rfl⟩ := List.getElem_of_mem hv
    have q := (F0_made (T := T) (L := L) L.length (Nat.le_refl _)).2 l hl
    rw [List.getD_eq_getElem?_getD, List.getElem?_eq_getElem hl] at q
    exact sets_pre p1 q
  · by_cases hjk : j ≤ k
    · exact ((d1 k (by omega) hk).both j (by omega)).1
    · exact ((d1 j (by omega) hj).both k (by omega)).2
end
def setsD (F : Fam) : D := .list (F.map fun p => rowD p.2)
theorem at_sets {F : Fam} {k : Nat} (h : k < F.length) : atI (F.map fun p => rowD p.2) (k : Int) = some (rowD (atF F k)) := at_nat (by
  unfold atF
  rw [List.getElem?_map, List.getElem?_eq_getElem h]
  rfl)
theorem letter_turn : decide (("turn" : Str) = "letter") = false := by decide +kernel
theorem letter_both : decide (("both" : Str) = "letter") = false := by decide +kernel
theorem turn_turn : decide (("turn" : Str) = "turn") = true := by decide +kernel
theorem turn_both : decide (("both" : Str) = "turn") = false := by decide +kernel
theorem in_sets {F : Fam} {S : List Nat} (h : S ∈ setsF F) : ((F.map fun p => rowD p.2).any fun z => PyData.eqv z (rowD S)) = true := by
  rw [any_sets]; exact hasF_iff.mpr h
theorem not_ahead {n : Nat} {F : Fam} (h : Fm n F) {k : Nat} (hk : k < F.length) : (((F.map fun p => rowD p.2).take k).any fun z => PyData.eqv z (rowD (atF F k))) = false := by
  rw [← List.map_take, any_sets]
  cases hc : hasF (F.take k) (atF F k) with
  | false => rfl
  | true =>
    have hm := hasF_iff.mp hc
    obtain ⟨p, hp, e⟩ := List.mem_map.mp hm
    obtain ⟨i, hi, rfl⟩ := List.getElem_of_mem hp
    have hik : i < k := by have := hi; rw [List.length_take] at this; omega
    have q := List.pairwise_iff_getElem.mp h.nd i k (by simp; omega) (by simpa using hk) hik
    refine absurd ?_ q
    rw [List.getElem_map, List.getElem_map]
    rw [List.getElem_take] at e
    rw [e]
    unfold atF
    rw [List.getElem?_eq_getElem hk]
    rfl
def s__law_made : Sc := fun ws ob X Q => ∃ T L F i m S, SgA T L ∧ Fm T.length F ∧ i ≤ F.length ∧ MkOk T L F i m S ∧ ws = [.dat (sgD T L), .dat (setsD F), .dat m.d] ∧ ob = [] ∧ ∀ more, Q (rowD S) more
end PL

/-! Rows of ints that a law changes. -/
namespace PL
open PySem PySem.Spec PyProof.Rows L2

def dI (R : List (List Int)) : List (List D) := R.map fun r => r.map PyData.int
def obI (R : List (List Int)) : List Ob := obT [.box] (dI R)
theorem dI_len {R : List (List Int)} : (dI R).length = R.length := by simp [dI]
theorem obI_last {R : List (List Int)} {n : Nat} (h : R.length = n) : (obI R)[1 + n]? = some (.nst (idx 1 n)) := by
  have q := obT_last (pre := [.box]) (T := dI R)
  rw [dI_len, h] at q
  exact q
theorem obI_row {R : List (List Int)} {a : Nat} (h : a < R.length) : (obI R)[1 + a]? = some (.lst ((R.getD a []).map .int)) :=
  obT_row (pre := [.box]) (T := dI R) (by unfold dI; rw [List.getElem?_map, some_getD (d := []) h]; rfl)
theorem obI_rows {R : List (List Int)} {n : Nat} (h : R.length = n) : ∀ (i : Nat) k d, (idx 1 n)[i]? = some k → (dI R)[i]? = some d → (obI R)[k]? = some (.lst d) := fun i k d h1 h2 => by
  have hi : i < n := by have := (List.getElem?_eq_some_iff.mp h1).1; rw [idx_len] at this; exact this
  rw [idx_at hi] at h1
  cases h1
  exact obT_row (pre := [.box]) h2
theorem obI_set {R : List (List Int)} {a : Nat} {r : List Int} (h : a < R.length) : (obI R).set (1 + a) (.lst (r.map .int)) = obI (R.set a r) := by
  unfold obI
  have q := obT_set (pre := [.box]) (T := dI R) (x := a) (r := r.map .int) (by rw [dI_len]; exact h)
  refine q.trans (congrArg (obT [.box]) ?_)
  unfold dI
  rw [List.map_set]
theorem obI_box {R : List (List Int)} {n : Nat} : ∃ t, frzN (obI R) (1 + n) (idx 1 n) (dI R) = .box :: t := frzIn_zero rfl (by rw [mem_idx]; omega) (by omega)
theorem tblI {T : List (List Nat)} : tblD T = .tuple ((castT T).map rowI) := by
  have q := sgDI_nat (T := T) (L := [])
  simp only [sgDI, sgD, castL, PyData.tuple.injEq, List.cons.injEq] at q
  exact q.1.symm
theorem bad_tab {R : List (List Int)} {ls : List Int} (h : R.length = 0 ∨ 5 ≤ R.length ∨ ∃ r ∈ R, r.length ≠ R.length ∨ ∃ v ∈ r, v < 0 ∨ (R.length : Int) ≤ v) : sgFault R ls = some ("table" : Str) := by
  unfold sgFault
  refine if_pos ?_
  rcases h with h | h | ⟨r, hr, h⟩
  · left; rw [Bool.and_eq_false_iff]; left; exact decide_eq_false (by omega)
  · left; rw [Bool.and_eq_false_iff]; right; exact decide_eq_false (by omega)
  · right
    rw [← Bool.not_eq_true, rowsOk, List.all_eq_true]
    intro hc
    have q := hc r hr
    rw [Bool.and_eq_true, decide_eq_true_eq] at q
    rcases h with h | ⟨v, hv, h⟩
    · omega
    · have q2 := q.2
      simp only [below, List.all_eq_true, Bool.and_eq_true, decide_eq_true_eq] at q2
      have := q2 v hv
      omega
theorem bad_let {T : List (List Nat)} {ls : List Int} (t : Tb T) (h1 : 1 ≤ T.length) (h4 : T.length ≤ 4) (h : ls.length = 0 ∨ 4 ≤ ls.length ∨ ∃ v ∈ ls, v < 0 ∨ (T.length : Int) ≤ v) : sgFault (castT T) ls = some ("letters" : Str) := by
  have el : (castT T).length = T.length := by simp [castT]
  unfold sgFault
  rw [if_neg (by rw [rowsOk_cast t, el]; simp; omega)]
  refine if_pos ?_
  rcases h with h | h | ⟨v, hv, h⟩
  · left; rw [Bool.and_eq_false_iff]; left; exact decide_eq_false (by omega)
  · left; rw [Bool.and_eq_false_iff]; right; exact decide_eq_false (by omega)
  · right
    rw [el, ← Bool.not_eq_true, below, List.all_eq_true]
    intro hc
    have q := hc v hv
    simp only [Bool.and_eq_true, decide_eq_true_eq] at q
    omega
theorem fine {T : List (List Nat)} {L : List Nat} (s : Sg T L) (h1 : 1 ≤ T.length) (h4 : T.length ≤ 4) (h5 : 1 ≤ L.length) (h6 : L.length ≤ 3) : sgFault (castT T) (castL L) = if assocB T = false then some ("associative" : Str) else none := by
  have el : (castT T).length = T.length := by simp [castT]
  have el2 : (castL L).length = L.length := by simp [castL]
  unfold sgFault
  rw [if_neg (by rw [rowsOk_cast s.tb, el]; simp; omega), if_neg (by rw [el, el2, show below (castL L) (T.length : Int) = true from below_nat s.lets]; simp; omega), toT_cast]
/-- three numbers to choose from -/
theorem three {k : Nat} (h : (k : Int) < 3) {α : Type} {a b c : α} {P : α → Prop} (h0 : P a) (h1 : P b) (h2 : P c) : ∃ d, atI [a, b, c] (k : Int) = some d ∧ P d := by
  have : k = 0 ∨ k = 1 ∨ k = 2 := by omega
  rcases this with rfl | rfl | rfl
  · exact ⟨a, rfl, h0⟩
  · exact ⟨b, rfl, h1⟩
  · exact ⟨c, rfl, h2⟩
theorem four {k : Nat} (h : (k : Int) < 4) {α : Type} {a b c e : α} {P : α → Prop} (h0 : P a) (h1 : P b) (h2 : P c) (h3 : P e) : ∃ d, atI [a, b, c, e] (k : Int) = some d ∧ P d := by
  have : k = 0 ∨ k = 1 ∨ k = 2 ∨ k = 3 := by omega
  rcases this with rfl | rfl | rfl | rfl
  · exact ⟨a, rfl, h0⟩
  · exact ⟨b, rfl, h1⟩
  · exact ⟨c, rfl, h2⟩
  · exact ⟨e, rfl, h3⟩
/-! ### promises of k02 -/
def s2_changed : Sc := fun ws ob X Q => ∃ (T : List (List Nat)) (L : List Nat) (c : Nat), SgA T L ∧ ws = [.ref 0, .dat (sgD T L), .dat (nD c)] ∧ ob = [.box] ∧ ∀ (R : List (List Int)) (ls : List Int) (w : Str) more, R.length ≤ 1000 → (∀ r ∈ R, r.length ≤ 1000) → ls.length ≤ 1000 → sgFault R ls = some w → Q (.tuple [sgDI R ls, .str w]) (.box :: more)
def s__law_drawn : Sc := fun ws ob X Q => ws = [.ref 0] ∧ ob = [.box] ∧ ∀ T more, Tb T → 1 ≤ T.length → T.length ≤ 4 → Q (tblD T) (.box :: more)
end PL
namespace PL
open PySem PySem.Spec PyProof.Rows L2
theorem kO_in {e : En} {n : Nat} {o : Ob} {k : Nat → Ob → Prop} (h : e.ob[n]? = some o) (hk : k n o) : kO e (.ref n) k := by
  unfold kO
  dsimp only
  rw [h]
  exact hk
end PL
namespace PL
open PySem PySem.Spec PyProof.Rows L2
theorem kL_in {ds : List D} {k : Prop} (h : k) : kL (.lst ds) k := h
theorem kDs_in {e : En} {ws : List Wv} {ds : List D} {k : List D → Prop} (h : asDs e.ob ws = some ds) (hk : k ds) : kDs e ws k := by
  unfold kDs
  rw [h]
  exact hk
end PL

/-! insert; the length of a list of lists; machines with a fault. -/
namespace PL
open PySem PySem.Spec PyProof.Rows L2

/-! ### insert -/
abbrev rIns : V → List V → Hp → VK → Prop := fun x vs H Q => ∃ (l : Addr) (xs : List V) (i : Int) (y : V), x = .ref l ∧ vs = [.int i, y] ∧ H l = some (.lst xs) ∧ xs.length < sizeLine ∧ 0 ≤ i ∧ i < 2 ^ 63 ∧ Q .non (upd H l (.lst (xs.take i.toNat ++ [y] ++ xs.drop i.toNat)))
def mInsert : Ob → List D → (Ob → D → Prop) → Prop := fun o ds k => match o, ds with
  | .lst xs, [.int i, d] => xs.length ≤ 1000000 ∧ 0 ≤ i ∧ i ≤ 1000000 ∧ k (.lst (xs.take i.toNat ++ [d] ++ xs.drop i.toNat)) .none
  | _, _ => False
theorem rm_insert {K : PySem.W.Frag} : RM K rIns mInsert := fun G H a o as vs ds kk R s ho al h hR => by
  unfold mInsert at h
  split at h
  · rename_i ys i d
    obtain ⟨hz, h0, h1, hk⟩ := h
    obtain ⟨xs, q, r⟩ := ho
    obtain ⟨v1, v2, rfl, d1, d2⟩ := al2 al
    rw [dp_int d1]
    exact ⟨rfl, a, xs, i, v2, rfl, rfl, q, by rw [r.1]; exact fits_lt hz, h0, by omega, hR _ _ _ _ rfl hk (fun H' h' => ⟨_, h', ((r.take _).app d2).appL (r.drop _)⟩) Dp.non⟩
  · exact h.elim
theorem pd_insert {K : PySem.W.Frag} {X : Cx} {E : XK} {a b : Expr} {es : List Expr} {ta : TE} {pa : PTE} {tr : L2.TA} {pr : PTA} {apos cpos : Pos} (ha : PD X E a ta pa) (hr : AD X E (b :: es) tr pr)
    (hbase : attributeBase a "insert" X.env (eval a X.env) = eval a X.env := by rfl)
    (hfew : ((backTo cpos (starEach (b :: es) X.env)).all (fun x => !x.1) && (backToKw cpos (keywordEach [] X.env)).all (fun x => x.1.isSome)
      && decide ((b :: es).length + ([] : List Keyword).length + (if ([] : List Keyword).isEmpty then 0 else 1) < 30)) = true := by rfl)
    (hline : (apos.endLine == cpos.line) = true := by rfl) (hs : starEach (b :: es) X.env = (false, eval b X.env) :: starEach es X.env := by rfl) (hplain : (backTo cpos (starEach es X.env)).any (·.1) = false := by rfl) (hK : X.K = K := by rfl) :
    PD X E (.Call (.Attribute a "insert" apos) (b :: es) [] cpos) (tBM K "list" rIns ta tr) (pMeth mInsert pa pr) := by
  subst hK
  exact ⟨pe_bm PySem.F.plainAttrs_list PySem.F.slot_list_insert PySem.F.type_list_insert mt_insert ha.a hr.a hbase hfew hline hs hplain, snd_bm rm_insert ha.b hr.b⟩
/-! ### len of a list of lists -/
def pLenN (pr : PTA) : PTE := fun X e Q => pr X e fun ws e1 => ∃ n ks, ws = [.ref n] ∧ e1.ob[n]? = some (.nst ks) ∧ Q (.dat (.int (ks.length : Int))) e1
theorem snd_lenN {K : PySem.W.Frag} {E : XK} {tr : L2.TA} {pr : PTA} (ha : SndA K E tr pr) : SndE K E (tCB (cLenR K) tr) (pLenN pr) := ⟨fun H0 iv as e σ H X Q R S h k l => by
  refine ha.run H0 iv as e σ H X _ _ S h (fun vs ws as1 e1 H1 h1 S1 l1 w1 => ?_) l
  obtain ⟨n, ks, rfl, ho, q⟩ := h1
  obtain ⟨v, r, rfl, ⟨a, ha, rfl⟩, hr⟩ := w1.cons_inv
  obtain rfl := hr.nil_inv
  obtain ⟨xs, hx, al⟩ := S1.obs n a _ ha ho
  refine ⟨a, xs, rfl, .inl (.inl (.inl hx)), ?_⟩
  rw [al.1]
  exact k _ _ as1 e1 H1 q S1 l1 (Dp.int _)⟩
theorem pd_lenN {K : PySem.W.Frag} {X : Cx} {E : XK} {a : Expr} {es : List Expr} {tr : L2.TA} {pr : PTA} {pos p2 : Pos} (hg : Gl X "len") (hm : X.mg "len" = none) (ha : AD X E (a :: es) tr pr) (he : starEach (a :: es) X.env = (false, eval a X.env) :: starEach es X.env := by rfl)
    (hpl : (backTo pos (starEach es X.env)).any (·.1) = false := by rfl) (hK : X.K = K := by rfl) : PD X E (.Call (.Name "len" p2) (a :: es) [] pos) (tCB (cLenR K) tr) (pLenN pr) := by
  subst hK
  exact ⟨pe_callB call_len_seq hg hm (by decide +kernel) ha.a (by decide) (by decide) he hpl, snd_lenN ha.b⟩

/-! ### machines -/
section
variable {c : Nat} {R : List (List Nat)} {f : Nat} {S : List Nat}
theorem mf_rows {l : Int} {R' : List (List Int)} {f : Int} {ls : List Int} (h1 : 1 ≤ l) (h3 : l ≤ 3) (h : R'.length = 0 ∨ 5 ≤ R'.length ∨ ∃ r ∈ R', (r.length : Int) ≠ l ∨ ∃ v ∈ r, v < 0 ∨ (R'.length : Int) ≤ v) : machFault l R' f ls = some ("rows" : Str) := by
  unfold machFault
  rw [if_neg (by rw [decide_eq_true h1, decide_eq_true h3]; simp)]
  refine if_pos ?_
  rcases h with h | h | ⟨r, hr, h⟩
  · left; rw [Bool.and_eq_false_iff]; left; exact decide_eq_false (by omega)
  · left; rw [Bool.and_eq_false_iff]; right; exact decide_eq_false (by omega)
  · right
    rw [← Bool.not_eq_true, rowsOk, List.all_eq_true]
    intro hc
    have q := hc r hr
    rw [Bool.and_eq_true, decide_eq_true_eq] at q
    rcases h with h | ⟨v, hv, h⟩
    · exact h q.1
    · have q2 := q.2
      simp only [below, List.all_eq_true, Bool.and_eq_true, decide_eq_true_eq] at q2
      have := q2 v hv
      omega
theorem mf_letters {l : Int} {R' : List (List Int)} {f : Int} {ls : List Int} (h : l < 1 ∨ 3 < l) : machFault l R' f ls = some ("letters" : Str) := by
  unfold machFault
  refine if_pos ?_
  rcases h with h | h
  · rw [Bool.and_eq_false_iff]; left; exact decide_eq_false (by omega)
  · rw [Bool.and_eq_false_iff]; right; exact decide_eq_false (by omega)
theorem castR_ok (hr : ∀ r ∈ R, r.length = c ∧ ∀ v ∈ r, v < R.length) : rowsOk (castT R) c (castT R).length = true := by
  have el : (castT R).length = R.length := by simp [castT]
  rw [el]
  simp only [rowsOk, List.all_eq_true, Bool.and_eq_true, decide_eq_true_eq]
  intro r hr'
  obtain ⟨r0, h0, rfl⟩ := List.mem_map.mp hr'
  exact ⟨by have := (hr r0 h0).1; simp; omega, below_nat (hr r0 h0).2⟩
theorem mf_first {f : Int} {ls : List Int} (hr : ∀ r ∈ R, r.length = c ∧ ∀ v ∈ r, v < R.length) (h1 : 1 ≤ c) (h3 : c ≤ 3) (h4 : 1 ≤ R.length) (h5 : R.length ≤ 4) (h : f < 0 ∨ (R.length : Int) ≤ f) : machFault c (castT R) f ls = some ("first" : Str) := by
  have el : (castT R).length = R.length := by simp [castT]
  unfold machFault
  rw [if_neg (by simp; omega), if_neg (by rw [castR_ok hr, el]; simp; omega)]
  refine if_pos ?_
  rw [el, ← Bool.not_eq_true]
  intro hc
  simp only [below, List.all_cons, List.all_nil, Bool.and_eq_true, decide_eq_true_eq] at hc
  omega
theorem mf_lasts {f : Nat} {ls : List Int} (hr : ∀ r ∈ R, r.length = c ∧ ∀ v ∈ r, v < R.length) (hf : f < R.length) (h1 : 1 ≤ c) (h3 : c ≤ 3) (h4 : 1 ≤ R.length) (h5 : R.length ≤ 4) (h : risOk ls R.length = false) : machFault c (castT R) f ls = some ("lasts" : Str) := by
  have el : (castT R).length = R.length := by simp [castT]
  unfold machFault
  rw [if_neg (by simp; omega), if_neg (by rw [castR_ok hr, el]; simp; omega), if_neg (by rw [el]; simp [below]; omega)]
  refine if_pos ?_
  rw [el]; exact h
theorem ris_out {ls : List Int} {m v : Int} (hv : v ∈ ls) (h : v < 0 ∨ m ≤ v) : risOk ls m = false := by
  unfold risOk
  rw [Bool.and_eq_false_iff]
  right
  rw [← Bool.not_eq_true, below, List.all_eq_true]
  intro hc
  have := hc v hv
  simp only [Bool.and_eq_true, decide_eq_true_eq] at this
  omega
theorem ris_flat {ls : List Int} {m x y : Int} {i : Nat} (hx : ls[i]? = some x) (hy : ls[i + 1]? = some y) (h : y ≤ x) : risOk ls m = false := by
  unfold risOk
  rw [Bool.and_eq_false_iff]
  left
  refine decide_eq_false fun up => ?_
  obtain ⟨h1, e1⟩ := List.getElem?_eq_some_iff.mp hx
  obtain ⟨h2, e2⟩ := List.getElem?_eq_some_iff.mp hy
  have := List.pairwise_iff_getElem.mp up i (i + 1) h1 h2 (by omega)
  omega
end
/-! ### promises of k04 -/
def s__law_rows : Sc := fun ws ob X Q => ∃ (c : Nat) (R : List (List Nat)) (f : Nat) (S : List Nat) (ch : Int), Mc c R f S ∧ 1 ≤ c ∧ c ≤ 3 ∧ 1 ≤ R.length ∧ R.length ≤ 4 ∧ ws = [.ref 0, .dat (mcD c R f S), .dat (.int ch)] ∧ ob = [.box] ∧
  ∀ (R' : List (List Int)) more, R'.length ≤ 1000 → (∀ r ∈ R', r.length ≤ 1000) → (R'.length = 0 ∨ 5 ≤ R'.length ∨ ∃ r ∈ R', (r.length : Int) ≠ c ∨ ∃ v ∈ r, v < 0 ∨ (R'.length : Int) ≤ v) → Q (.tuple (R'.map rowI)) (.box :: more)
def s__law_lasts : Sc := fun ws ob X Q => ∃ (c : Nat) (R : List (List Nat)) (f : Nat) (S : List Nat) (ch : Int), Mc c R f S ∧ 1 ≤ R.length ∧ R.length ≤ 4 ∧ ws = [.ref 0, .dat (mcD c R f S), .dat (.int ch)] ∧ ob = [.box] ∧
  ∀ (ls : List Int) more, ls.length < 60 → risOk ls R.length = false → Q (rowI ls) (.box :: more)
def s4_changed : Sc := fun ws ob X Q => ∃ (c : Nat) (R : List (List Nat)) (f : Nat) (S : List Nat) (ch : Nat), Mc c R f S ∧ 1 ≤ c ∧ c ≤ 3 ∧ 1 ≤ R.length ∧ R.length ≤ 4 ∧ ws = [.ref 0, .dat (mcD c R f S), .dat (nD ch)] ∧ ob = [.box] ∧
  ∀ (l : Int) (R' : List (List Int)) (g : Int) (ls : List Int) (w : Str) more, R'.length ≤ 1000 → (∀ r ∈ R', r.length ≤ 1000) → ls.length < 60 → machFault l R' g ls = some w → Q (.tuple [machD l R' g ls, .str w]) (.box :: more)
end PL
namespace PL
open PySem PySem.Spec PyProof.Rows L2
theorem two {k : Nat} (h : (k : Int) < 2) {α : Type} {a b : α} {P : α → Prop} (h0 : P a) (h1 : P b) : ∃ d, atI [a, b] (k : Int) = some d ∧ P d := by
  have : k = 0 ∨ k = 1 := by omega
  rcases this with rfl | rfl
  · exact ⟨a, rfl, h0⟩
  · exact ⟨b, rfl, h1⟩
end PL

/-! Exceptions: what raises nothing within a def that may raise, raise, try. -/
namespace PL
open PySem PySem.Spec PyProof.Rows L2
def pQuiet (p : PTS) : PTS := fun P e => p ⟨P.nx, P.rt, P.bk, P.ct, noX⟩ e
def pQuietE (p : PTE) : PTE := fun _ e Q => p noX e Q
def pQuietT (p : PTT) : PTT := fun _ e Q => p noX e Q
section
variable {X : Cx} {E : XK} {K : PySem.W.Frag}
theorem ps_quiet {st : Stmt} {t : TS} (h : PS X.nox st t) : PS X st t := ⟨fun pins s σ H D I hw => wpAny_mono (h.run pins s σ H D (I.wish _) hw) (fun f s2 q => SP.unwish q) (fun _ _ z => z.elim)⟩
theorem snd_quiet {ts : TS} {p : PTS} (h : SndS K E0 ts p) : SndS K E ts (pQuiet p) := ⟨fun H0 iv as e σ H P F S hp n b c r x => h.run H0 iv as e σ H ⟨P.nx, P.rt, P.bk, P.ct, noX⟩ F S hp n b c r (fun _ _ _ _ _ _ _ z => z.elim)⟩
theorem snd_quietE {ts : TE} {p : PTE} (h : SndE K E0 ts p) : SndE K E ts (pQuietE p) := ⟨fun H0 iv as e σ H Z Q R S hp k l => h.run H0 iv as e σ H noX Q R S hp k (fun _ _ _ _ _ _ z => z.elim)⟩
theorem snd_quietT {ts : TT} {p : PTT} (h : SndT K E0 ts p) : SndT K E ts (pQuietT p) := ⟨fun H0 iv as e σ H Z Q R S hp k l => h.run H0 iv as e σ H noX Q R S hp k (fun _ _ _ _ _ _ z => z.elim)⟩
theorem sd_quiet {st : Stmt} {t : TS} {p : PTS} (h : SD X.nox E0 st t p) : SD X E st t (pQuiet p) := ⟨ps_quiet h.a, snd_quiet h.b⟩
theorem bd_quiet {st : List Stmt} {t : TS} {p : PTS} (h : BD X.nox E0 st t p) : BD X E st t (pQuiet p) := ⟨h.a.nox, snd_quiet h.b⟩
theorem pd_quiet {ex : Expr} {t : TE} {p : PTE} (h : PD X.nox E0 ex t p) : PD X E ex t (pQuietE p) := ⟨h.a.nox, snd_quietE h.b⟩
theorem td_quiet {ex : Expr} {t : TT} {p : PTT} (h : TD X.nox E0 ex t p) : TD X E ex t (pQuietT p) := ⟨h.a.nox, snd_quietT h.b⟩
theorem passN : Passes (L2.CX X.prog X.w) X E0 := fun _ _ _ _ _ _ _ ⟨_, _, _, _, _, _, _, _, _, _, _, _, z⟩ => z.elim
/-! ### a class of errors -/
structure XO (K : PySem.W.Frag) (mg : Str → Option Value) (x : Str) (C : Addr) : Prop where
  g : mg x = some (.ref C)
  kp : PySem.W.keepIn K (.ref C) = true
  ex : PySem.W.subIn K (.ref C) (.type "BaseException") = some true
  ty : PySem.W.typeIn K (.ref C) = some (.type "type")
/-- what isinstance reads of it -/
structure XI (K : PySem.W.Frag) (C : Addr) : Prop where
  cl : (PySem.W.clsIn K C).isSome = true
  ga : PySem.W.findIn K (.ref C) "__getattribute__" = some (some (.builtin "BaseException.__getattribute__"))
  gg : PySem.W.findIn K (.ref C) "__getattr__" = some none
  ex : PySem.W.subIn K (.ref C) (.type "BaseException") = some true
  dc : PySem.W.findIn K (.ref C) "__class__" = some (some (.builtin "object.__class__"))
  dg : PySem.W.specialIn K (.builtin "object.__class__") "__get__" = some (some (.builtin "getset_descriptor.__get__"))
  dt : PySem.W.takesIn K (.builtin "object.__class__") = some true
  mo : PySem.W.mroIn K C (.type "object") = some true
abbrev veB : List Value := [.type "ValueError", .type "Exception", .type "BaseException", .type "object"]
/-- raise X('..'), X without an __init__ of its own -/
theorem sd_raiseO {x m : Str} {C : Addr} {j : Nat} {p p2 pos pos' : Pos} (hc : X.calm = true) (tk : Takes X fun cls d _ H => E cls d H) (T : XO X.K X.mg x C) (q : PySem.W.excIn X.K C veB "ValueError.__new__" = true) (hg : Gl X x) (hdb : (x == ("__debug__" : Str)) = false := by decide) :
    SD X E (.Raise (some (.Call (.Name x p) [.Constant (.str m) j p2] [] pos)) none pos') (fun _ σ H => E (.ref C) none H) (fun P e => P.xe ⟨.ref C, none⟩ e) :=
  ⟨ps_raise hc tk (pmk_own PySem.F.excBase_ValueError q T.g T.kp (raises_own T.ex T.ty) hg hdb), ⟨fun H0 iv as e σ H P F S hp n b c r x => x ⟨.ref C, none⟩ _ _ as e σ H hp S Ltr.refl ⟨rfl, rfl⟩⟩⟩
/-! ### a call in a try's body -/
structure SndW (K : PySem.W.Frag) (tb : WX → TS) (p : PTS) : Prop where
  run : ∀ (W : WX) H0 iv as e σ H (P : PEn) (F : Ends), SR K H0 iv as e σ H → p P e → KN K H0 iv as e H P.nx F.nx → KN K H0 iv as e H P.bk F.bk → KN K H0 iv as e H P.ct F.ct → KR K H0 iv as e H P.rt F.rt →
    (∀ x cls d as' e' σ' H', P.xe x e' → SR K H0 iv as' e' σ' H' → Ltr iv as e.ob H as' e'.ob H' → XR K (hid iv as' e'.ob H') H' x cls d → W cls d σ' H') → tb W F σ H
theorem tCallS_eq {sp : Sp} {E' : L2.St → XK} {t : L2.TA} {σ : L2.St} {H : Hp} {Q : VK} (h : tCall sp [] (E' σ) t σ H Q) : tCallS sp E' t σ H Q := by
  have e : (fun vs H1 => sp (vs ++ []) H1 Q (E' σ)) = fun vs H1 => sp vs H1 Q (E' σ) := by funext vs H1; rw [List.append_nil]
  show t σ H fun vs H1 => sp vs H1 Q (E' σ)
  rw [← e]; exact h
theorem sndw_drop {s : Sc} {tr : L2.TA} {pr : PTA} (ha : ∀ E', SndA K E' tr pr) : SndW K (fun W => tDrop (tCallS (toSp K s) (WE W) tr)) (pDrop (pCall s pr)) := ⟨fun W H0 iv as e σ H P F S h n b c r x => by
  refine tCallS_eq ?_
  exact (snd_call (E := WE W σ) (s := s) (ha _)).run H0 iv as e σ H P.xe _ _ S h (fun v w as1 e1 H1 h1 S1 l1 _ => n as1 e1 σ H1 h1 S1 l1) fun x' cls d as' e' H' hx S' l' z => x x' cls d as' e' σ H' hx S' l' z⟩
theorem sndw_set {s : Sc} {tr : L2.TA} {pr : PTA} {i : Nat} (ha : ∀ E', SndA K E' tr pr) : SndW K (fun W => tAsg (tCallS (toSp K s) (WE W) tr) (gName i)) (pAsg (pCall s pr) (pName i)) := ⟨fun W H0 iv as e σ H P F S h n b c r x => by
  refine tCallS_eq ?_
  exact (snd_call (E := WE W σ) (s := s) (ha _)).run H0 iv as e σ H P.xe _ _ S h (fun v w as1 e1 H1 h1 S1 l1 w1 => n as1 _ _ H1 h1 (S1.set w1) l1) fun x' cls d as' e' H' hx S' l' z => x x' cls d as' e' σ H' hx S' l' z⟩
structure WB (X : Cx) (body : List Stmt) (tb : WX → TS) (p : PTS) : Prop where
  a : ∀ (W : WX) (pn : List (Addr × Obj)) (xe : Value → Shared → Prop), Takes (X.tr pn xe) W → PassesOwn (model X.prog X.w) X.A X.env xe → PSs (X.tr pn xe) body (tb W)
  b : SndW X.K tb p
theorem wb_drop {k : Nat} {fa : Addr} {fd : FuncData} {N : List Str} {s : Sc} {x : Str} {a : Expr} {es : List Expr} {tr : L2.TA} {pr : PTA} {p2 pos pos2 : Pos} (F : FnOk X.prog X.w X.K X.mg X.base (L2.CX X.prog X.w) k fa fd N (toSp X.K s)) (hr : Room k X.A) (hg : Gl X x) (hm : X.mg x = some (.ref fa)) (hk : PySem.W.keepIn X.K (.ref fa) = true) (hb : Binds X.K fd N [])
    (ha : ∀ (pn : List (Addr × Obj)) (xe : Value → Shared → Prop) (E' : XK), AD (X.tr pn xe) E' (a :: es) tr pr) (hdb : (x == ("__debug__" : Str)) = false := by decide) (he : starEach (a :: es) X.env = (false, eval a X.env) :: starEach es X.env := by rfl)
    (hpl : (backTo pos (starEach es X.env)).any (·.1) = false := by rfl) (hs : swapsWith (.Call (.Name x p2) (a :: es) [] pos) none pos2.line X.env = pure false := by rfl) : WB X [.Expr (.Call (.Name x p2) (a :: es) [] pos) pos2] (fun W => tDrop (tCallS (toSp X.K s) (WE W) tr)) (pDrop (pCall s pr)) :=
  ⟨fun W pn xe tk _ => pss_one (ps_expr (pe_callS (X := X.tr pn xe) F hr hg hm hk hb (fun σ => passAt tk σ) (ha pn xe E0).a hdb he hpl) hs), sndw_drop fun E' => (ha [] X.xe E').b⟩
theorem wb_set {k : Nat} {fa : Addr} {fd : FuncData} {N : List Str} {s : Sc} {x y : Str} {a : Expr} {es : List Expr} {tr : L2.TA} {pr : PTA} {p2 p3 pos pos2 : Pos} (i : Nat) (hN : X.N.Nodup) (F : FnOk X.prog X.w X.K X.mg X.base (L2.CX X.prog X.w) k fa fd N (toSp X.K s)) (hr : Room k X.A) (hg : Gl X x) (hm : X.mg x = some (.ref fa)) (hk : PySem.W.keepIn X.K (.ref fa) = true) (hb : Binds X.K fd N [])
    (ha : ∀ (pn : List (Addr × Obj)) (xe : Value → Shared → Prop) (E' : XK), AD (X.tr pn xe) E' (a :: es) tr pr) (hdb : (x == ("__debug__" : Str)) = false := by decide) (he : starEach (a :: es) X.env = (false, eval a X.env) :: starEach es X.env := by rfl)
    (hpl : (backTo pos (starEach es X.env)).any (·.1) = false := by rfl) (hi : X.N[i]? = some y := by rfl) (hx : Loc X.env.scope y := by first | exact .inl rfl | exact .inr rfl)
    (hs : swapsWith (.Call (.Name x p2) (a :: es) [] pos) (some (.Name y p3)) pos2.line X.env = pure false := by rfl) (hf : X.fn y = true ∨ X.env.scope.names.lookup y = some .local := by first | exact .inl rfl | exact .inr rfl) :
    WB X [.Assign [.Name y p3] (.Call (.Name x p2) (a :: es) [] pos) pos2] (fun W => tAsg (tCallS (toSp X.K s) (WE W) tr) (gName i)) (pAsg (pCall s pr) (pName i)) :=
  ⟨fun W pn xe tk _ => pss_one (ps_set (X := X.tr pn xe) hN hi hx (pe_callS (X := X.tr pn xe) F hr hg hm hk hb (fun σ => passAt tk σ) (ha pn xe E0).a hdb he hpl) hs hf), sndw_set fun E' => (ha [] X.xe E').b⟩
end
/-! ### a suite: the exception is in slot i -/
abbrev TX := Addr → Value → Option Addr → TE
structure UE (i : Nat) (X : Cx) (ex : Expr) (te : TX) (p : Xc → En → (D → Prop) → Prop) : Prop where
  a : ∀ (a : Addr) (oe : Obj) (cls : Value) (d : Option Addr) (pn : List (Addr × Obj)), Zc cls d oe → (∃ vs, oe.data = .fields vs) → PE (X.suite a ((a, oe) :: pn)) ex (te a cls d)
  b : ∀ a cls d x H0 iv as e σ H (k : D → Prop) (R : VK), SR X.K H0 iv as e σ H → XR X.K (hid iv as e.ob H) H x cls d → σ[i]? = some (some (.ref a)) → p x e k → (∀ dd v, k dd → Dp X.K (hid iv as e.ob H) v dd → R v H) → te a cls d σ H R
structure UA (i : Nat) (X : Cx) (es : List Expr) (te : Addr → Value → Option Addr → L2.TA) (p : Xc → En → (List D → Prop) → Prop) : Prop where
  a : ∀ (a : Addr) (oe : Obj) (cls : Value) (d : Option Addr) (pn : List (Addr × Obj)), Zc cls d oe → (∃ vs, oe.data = .fields vs) → PA (X.suite a ((a, oe) :: pn)) es (te a cls d)
  b : ∀ a cls d x H0 iv as e σ H (k : List D → Prop) (R : List V → Hp → Prop), SR X.K H0 iv as e σ H → XR X.K (hid iv as e.ob H) H x cls d → σ[i]? = some (some (.ref a)) → p x e k → (∀ dd v, k dd → Al (Dp X.K (hid iv as e.ob H)) v dd → R v H) → te a cls d σ H R
structure UT (i : Nat) (X : Cx) (ex : Expr) (te : Addr → Value → Option Addr → TT) (p : Xc → En → (Bool → Prop) → Prop) : Prop where
  a : ∀ (a : Addr) (oe : Obj) (cls : Value) (d : Option Addr) (pn : List (Addr × Obj)), Zc cls d oe → (∃ vs, oe.data = .fields vs) → PT (X.suite a ((a, oe) :: pn)) ex (te a cls d)
  b : ∀ a cls d x H0 iv as e σ H (k : Bool → Prop) (R : Bool → Hp → Prop), SR X.K H0 iv as e σ H → XR X.K (hid iv as e.ob H) H x cls d → σ[i]? = some (some (.ref a)) → p x e k → (∀ dd, k dd → R dd H) → te a cls d σ H R
structure UW (i : Nat) (X : Cx) (ex : Expr) (te : Addr → Value → Option Addr → TT) (p : Xc → En → (Bool → Prop) → Prop) : Prop where
  a : ∀ (a : Addr) (oe : Obj) (cls : Value) (d : Option Addr) (pn : List (Addr × Obj)), Zc cls d oe → (∃ vs, oe.data = .fields vs) → PW (X.suite a ((a, oe) :: pn)) ex (te a cls d)
  b : ∀ a cls d x H0 iv as e σ H (k : Bool → Prop) (R : Bool → Hp → Prop), SR X.K H0 iv as e σ H → XR X.K (hid iv as e.ob H) H x cls d → σ[i]? = some (some (.ref a)) → p x e k → (∀ dd, k dd → R dd H) → te a cls d σ H R
/-- a suite that ends by return -/
structure UD (i : Nat) (X : Cx) (st : List Stmt) (ts : Addr → Value → Option Addr → TS) (p : Xc → En → (D → Prop) → Prop) : Prop where
  a : ∀ (a : Addr) (oe : Obj) (cls : Value) (d : Option Addr) (pn : List (Addr × Obj)), Zc cls d oe → (∃ vs, oe.data = .fields vs) → PSs (X.suite a ((a, oe) :: pn)) st (ts a cls d)
  b : ∀ a cls d x H0 iv as e σ H (k : D → Prop) (F : Ends), SR X.K H0 iv as e σ H → XR X.K (hid iv as e.ob H) H x cls d → σ[i]? = some (some (.ref a)) → p x e k →
    (∀ dd v as' e' H', k dd → e' = e → SR X.K H0 iv as' e' σ H' → Ltr iv as e.ob H as' e'.ob H' → Dp X.K (hid iv as' e'.ob H') v dd → F.rt v H') → ts a cls d F σ H
section
variable {X : Cx} {i : Nat}
/-- isinstance of the caught exception -/
def rIsX (K : PySem.W.Frag) (a : Addr) (cls : Value) (d : Option Addr) (C : Addr) : List V → Hp → VK → Prop := fun xs H Q => ∃ (c : V) (u : Value) (b : Bool), xs = [.ref a, c] ∧ ClsV c u ∧ cls = .ref C ∧ (d = none ∨ ∃ dd fs, d = some dd ∧ H dd = some (.xd fs)) ∧ PySem.W.kitOne K (.ref C) u = some b ∧ Q (.bl b) H
theorem clsv_eq {c : V} {u w : Value} (h : ClsV c u) (r : RelV c w) : w = u := by
  cases h with
  | ty n => exact r
  | own C => exact r
theorem call_isX {a C : Addr} {oe : Obj} {cls : Value} {d : Option Addr} {pn : List (Addr × Obj)} (T : XI X.K C) (hz : Zc cls d oe) (hf : ∃ vs, oe.data = .fields vs) : CallR (X.suite a ((a, oe) :: pn)) (.builtin "isinstance") (rIsX X.K a cls d C) := by
  intro pins s σ H xs us Q I r h
  obtain ⟨c, u, b, rfl, hc, rfl, hd, hk, q⟩ := h
  obtain ⟨u1, r1, hu, rr⟩ := (show ∃ u1 u2 : Value, us = [u1, u2] ∧ RelV (.ref a) u1 ∧ RelV c u2 from by
    cases r with
    | cons r1 r2 =>
      cases r2 with
      | cons r3 r4 => cases r4; exact ⟨_, _, rfl, r1, r3⟩)
  subst hu
  obtain rfl : u1 = Value.ref a := rr.1
  obtain rfl := clsv_eq hc rr.2
  obtain ⟨ha, _⟩ := I.pin (a, oe) (List.mem_append_left _ List.mem_cons_self)
  obtain ⟨vs, hdat⟩ := hf
  have J : ∃ od, PySem.W.InstAt s.heap a oe C od := by
    rcases hd with rfl | ⟨dd, fs, rfl, hx⟩
    · exact ⟨none, ha, hz.1, by unfold PySem.W.notCls; rw [hdat] <;> rfl, by rw [hz.2]; trivial⟩
    · obtain ⟨mA, hns, _⟩ := (show ObjOk X.prog X.w H s.heap dd (.xd fs) from I.hok dd _ hx)
      obtain ⟨od, ho, _⟩ := lookIn_ns hns
      exact ⟨some od, ha, hz.1, by unfold PySem.W.notCls; rw [hdat] <;> rfl, by rw [hz.2]; exact ho⟩
  obtain ⟨od, J⟩ := J
  exact PySem.W.kia_one (PySem.W.kitx_exc T.cl T.ga T.gg T.ex T.dc T.dg T.dt T.mo) I.kIn J hk (by intro z; cases z) fun tk => ⟨.bl b, H, I.tok tk, rfl, q⟩
theorem ue_isX {C : Addr} {n y : Str} {np py p2 pos : Pos} {v : V} {u : Value} {b : Bool} (T : XI X.K C) (hi : X.N[i]? = some n) (hcls : ∀ (a : Addr) (oe : Obj) (pn : List (Addr × Obj)), PE (X.suite a ((a, oe) :: pn)) (.Name y py) (tC v)) (hv : ClsV v u) (hk : PySem.W.kitOne X.K (.ref C) u = some b) (hg : Gl X "isinstance") (hm : X.mg "isinstance" = none)
    (hvs : Vis X.env.scope n := by first | exact .inl rfl | exact .inr (.inl rfl) | exact .inr (.inr rfl)) (hd : (n == ("__debug__" : Str)) = false := by decide) (hcd : (n == ("__classdict__" : Str)) = false := by decide)
    (hs : starEach [.Name n np, .Name y py] X.env = (false, eval (.Name n np) X.env) :: starEach [.Name y py] X.env := by rfl) (hs2 : starEach [.Name y py] X.env = (false, eval (.Name y py) X.env) :: starEach [] X.env := by rfl) (hpl : (backTo pos (starEach [.Name y py] X.env)).any (·.1) = false := by rfl) :
    UE i X (.Call (.Name "isinstance" p2) [.Name n np, .Name y py] [] pos) (fun a cls d => tCB (rIsX X.K a cls d C) (tCons (tVar i) (tCons (tC v) tNil))) (fun x _ k => x.cls = .ref C ∧ k (.bool b)) :=
  ⟨fun a oe cls d pn hz hf => pe_callB (call_isX T hz hf) hg hm (by decide +kernel) (pa_cons (pe_var hi hvs hd hcd) (pa_cons (hcls a oe pn) pa_nil hs2) hs) (by decide) (by decide) hs hpl,
   fun a cls d x H0 iv as e σ H k R S xr hσ hp hk2 => by
    obtain ⟨hc, hkb⟩ := hp
    refine ⟨_, hσ, v, u, b, rfl, hv, xr.1.trans hc, ?_, hk, hk2 _ _ hkb (Dp.bl b)⟩
    have := xr.2
    split at this
    · exact .inl this
    · obtain ⟨a', v', h1, h2, _⟩ := this
      exact .inr ⟨a', _, h1, h2⟩⟩
theorem ue_str {s : Str} {j : Nat} {pos : Pos} : UE i X (.Constant (.str s) j pos) (fun _ _ _ => tC (.str s)) (fun _ _ k => k (.str s)) := ⟨fun _ _ _ _ _ _ _ => pe_str, fun a cls d x H0 iv as e σ H k R S xr hσ hp hk => hk _ _ hp (Dp.str s)⟩
theorem ue_bl {s : Bool} {j : Nat} {pos : Pos} : UE i X (.Constant (.bool s) j pos) (fun _ _ _ => tC (.bl s)) (fun _ _ k => k (.bool s)) := ⟨fun _ _ _ _ _ _ _ => pe_bl, fun a cls d x H0 iv as e σ H k R S xr hσ hp hk => hk _ _ hp (Dp.bl s)⟩
theorem ue_attr {C : Addr} {n f : Str} {np pos : Pos} (T : XfC X.K C) (hno : PySem.W.findIn X.K (.ref C) f = some none) (hi : X.N[i]? = some n)
    (hvs : Vis X.env.scope n := by first | exact .inl rfl | exact .inr (.inl rfl) | exact .inr (.inr rfl)) (hd : (n == ("__debug__" : Str)) = false := by decide) (hcd : (n == ("__classdict__" : Str)) = false := by decide) (hb : attributeBase (.Name n np) f X.env (eval (.Name n np) X.env) = eval (.Name n np) X.env := by rfl) :
    UE i X (.Attribute (.Name n np) f pos) (fun a cls d => tXf a cls d C f (tVar i)) (fun x _ k => x.cls = .ref C ∧ ∃ y, x.att = some (f, y) ∧ k y) :=
  ⟨fun a oe cls d pn hz hf => pe_xf T hno hz hf (pe_var hi hvs hd hcd) hb,
   fun a cls d x H0 iv as e σ H k R S xr hσ hp hk => by
    obtain ⟨hc, y, hy, hkb⟩ := hp
    have z := xr.2
    rw [hy] at z
    obtain ⟨a', v', h1, h2, h3⟩ := z
    exact ⟨_, hσ, rfl, xr.1.trans hc, a', _, v', h1, h2, by simp [List.lookup], hk _ _ hkb h3⟩⟩
theorem ua_nil : UA i X [] (fun _ _ _ => tNil) (fun _ _ k => k []) := ⟨fun _ _ _ _ _ _ _ => pa_nil, fun a cls d x H0 iv as e σ H k R S xr hσ hp hk => hk _ _ hp Al.nil⟩
theorem ua_cons {e0 : Expr} {es : List Expr} {te : TX} {tr : Addr → Value → Option Addr → L2.TA} {p : Xc → En → (D → Prop) → Prop} {q : Xc → En → (List D → Prop) → Prop} (h1 : UE i X e0 te p) (h2 : UA i X es tr q) (hs : starEach (e0 :: es) X.env = (false, eval e0 X.env) :: starEach es X.env := by rfl) :
    UA i X (e0 :: es) (fun a cls d => tCons (te a cls d) (tr a cls d)) (fun x en k => p x en fun y => q x en fun ys => k (y :: ys)) :=
  ⟨fun a oe cls d pn hz hf => pa_cons (h1.a a oe cls d pn hz hf) (h2.a a oe cls d pn hz hf) hs,
   fun a cls d x H0 iv as e σ H k R S xr hσ hp hk => h1.b a cls d x H0 iv as e σ H _ _ S xr hσ hp fun y v hy hv => h2.b a cls d x H0 iv as e σ H _ _ S xr hσ hy fun ys vs hys hvs => hk _ _ hys (Al.cons hv hvs)⟩
theorem ut_val {e0 : Expr} {te : TX} {p : Xc → En → (D → Prop) → Prop} (h : UE i X e0 te p) (he : ∀ whole, isTrue e0 X.env whole = (do let v ← whole; standAt e0.pos; holding [v] (truthy v)) := by intro _; rfl) : UT i X e0 (fun a cls d => tB (te a cls d)) (fun x en k => p x en fun y => ∃ b, y = .bool b ∧ k b) :=
  ⟨fun a oe cls d pn hz hf => pt_val (h.a a oe cls d pn hz hf) he,
   fun a cls d x H0 iv as e σ H k R S xr hσ hp hk => h.b a cls d x H0 iv as e σ H _ _ S xr hσ hp fun y v hy hv => by
    obtain ⟨b, rfl, hb⟩ := hy
    obtain rfl : v = .bl b := dp_bool hv
    exact ⟨b, rfl, hk _ hb⟩⟩
theorem ut_not {e0 : Expr} {te : Addr → Value → Option Addr → TT} {p : Xc → En → (Bool → Prop) → Prop} {pos : Pos} (h : UT i X e0 te p) : UT i X (.UnaryOp .Not e0 pos) (fun a cls d => tNot (te a cls d)) (fun x en k => p x en fun b => k (!b)) :=
  ⟨fun a oe cls d pn hz hf => pt_not (h.a a oe cls d pn hz hf), fun a cls d x H0 iv as e σ H k R S xr hσ hp hk => h.b a cls d x H0 iv as e σ H _ _ S xr hσ hp fun b hb => hk _ hb⟩
theorem uw_and1 {e0 : Expr} {te : Addr → Value → Option Addr → TT} {p : Xc → En → (Bool → Prop) → Prop} {pos : Pos} (h : UT i X e0 te p) : UW i X (.BoolOp .And [e0] pos) te p := ⟨fun a oe cls d pn hz hf => pw_and1 (h.a a oe cls d pn hz hf), h.b⟩
theorem uw_and {e0 e1 : Expr} {es : List Expr} {te tf : Addr → Value → Option Addr → TT} {p q : Xc → En → (Bool → Prop) → Prop} {pos : Pos} (h : UT i X e0 te p) (h2 : UW i X (.BoolOp .And (e1 :: es) pos) tf q) :
    UW i X (.BoolOp .And (e0 :: e1 :: es) pos) (fun a cls d => tAnd (te a cls d) (tf a cls d)) (fun x en k => p x en fun b => (b = true → q x en k) ∧ (b = false → k false)) :=
  ⟨fun a oe cls d pn hz hf => pw_and (h.a a oe cls d pn hz hf) (h2.a a oe cls d pn hz hf),
   fun a cls d x H0 iv as e σ H k R S xr hσ hp hk => h.b a cls d x H0 iv as e σ H _ _ S xr hσ hp fun b hb => by
    cases b with
    | true => rw [if_pos rfl]; exact h2.b a cls d x H0 iv as e σ H _ _ S xr hσ (hb.1 rfl) hk
    | false => rw [if_neg Bool.false_ne_true]; exact hk _ (hb.2 rfl)⟩
theorem ut_w {e0 : Expr} {te : Addr → Value → Option Addr → TT} {p : Xc → En → (Bool → Prop) → Prop} (h : UW i X e0 te p) : UT i X e0 te p := ⟨fun a oe cls d pn hz hf => (h.a a oe cls d pn hz hf).pt, h.b⟩
theorem ue_and1 {e0 : Expr} {te : TX} {p : Xc → En → (D → Prop) → Prop} {pos : Pos} (h : UE i X e0 te p) : UE i X (.BoolOp .And [e0] pos) te p := ⟨fun a oe cls d pn hz hf => pe_one (h.a a oe cls d pn hz hf), h.b⟩
theorem ue_and {e0 e1 : Expr} {es : List Expr} {te tf : TX} {p q : Xc → En → (D → Prop) → Prop} {pos : Pos} (h : UE i X e0 te p) (h2 : UE i X (.BoolOp .And (e1 :: es) pos) tf q) :
    UE i X (.BoolOp .And (e0 :: e1 :: es) pos) (fun a cls d => tAndV (te a cls d) (tf a cls d)) (fun x en k => p x en fun y => ∃ b, y = .bool b ∧ (b = true → q x en k) ∧ (b = false → k (.bool false))) :=
  ⟨fun a oe cls d pn hz hf => pe_and (h.a a oe cls d pn hz hf) (h2.a a oe cls d pn hz hf),
   fun a cls d x H0 iv as e σ H k R S xr hσ hp hk => h.b a cls d x H0 iv as e σ H _ _ S xr hσ hp fun y v hy hv => by
    obtain ⟨b, rfl, h1, h0⟩ := hy
    obtain rfl : v = .bl b := dp_bool hv
    refine ⟨b, rfl, ?_⟩
    cases b with
    | true => rw [if_pos rfl]; exact h2.b a cls d x H0 iv as e σ H _ _ S xr hσ (h1 rfl) hk
    | false => rw [if_neg Bool.false_ne_true]; exact hk _ _ (h0 rfl) (Dp.bl _)⟩
theorem ue_not {e0 : Expr} {te : TX} {p : Xc → En → (D → Prop) → Prop} {pos : Pos} (h : UE i X e0 te p) : UE i X (.UnaryOp .Not e0 pos) (fun a cls d => tNotV (te a cls d)) (fun x en k => p x en fun y => ∃ b, y = .bool b ∧ k (.bool (!b))) :=
  ⟨fun a oe cls d pn hz hf => pe_not (h.a a oe cls d pn hz hf), fun a cls d x H0 iv as e σ H k R S xr hσ hp hk => h.b a cls d x H0 iv as e σ H _ _ S xr hσ hp fun y v hy hv => by
    obtain ⟨b, rfl, hb⟩ := hy
    obtain rfl : v = .bl b := dp_bool hv
    exact ⟨b, rfl, hk _ _ hb (Dp.bl _)⟩⟩
theorem ud_ret {e0 : Expr} {te : TX} {p : Xc → En → (D → Prop) → Prop} {pos : Pos} (h : UE i X e0 te p) : UD i X [.Return (some e0) pos] (fun a cls d => tRet (te a cls d)) p :=
  ⟨fun a oe cls d pn hz hf => pss_one (ps_ret (h.a a oe cls d pn hz hf)), fun a cls d x H0 iv as e σ H k F S xr hσ hp hk => h.b a cls d x H0 iv as e σ H k F.rt S xr hσ hp fun y v hy hv => hk y v as e H hy rfl S Ltr.refl hv⟩
theorem ud_retL {es : List Expr} {te : Addr → Value → Option Addr → L2.TA} {p : Xc → En → (List D → Prop) → Prop} {pos lp : Pos} (h : UA i X es te p) : UD i X [.Return (some (.List es lp)) pos] (fun a cls d => tRet (tLst (te a cls d))) (fun x en k => p x en fun ds => ds.length ≤ 1000 ∧ k (.list ds)) :=
  ⟨fun a oe cls d pn hz hf => pss_one (ps_ret (pe_lst (h.a a oe cls d pn hz hf))), fun a cls d x H0 iv as e σ H k F S xr hσ hp hk => h.b a cls d x H0 iv as e σ H _ _ S xr hσ hp fun ds vs hy al => by
    refine ⟨by rw [al.1]; exact size1000 hy.1, fun q hq => ?_⟩
    obtain ⟨S2, l2⟩ := S.grow (Sub.new (o := .lst vs) hq)
    exact hk _ _ as e _ hy.2 rfl S2 l2 (Dp.lst (.inl (.inl (S.seen hq upd_same))) (dpAll_al.mpr (al.mono fun _ _ z => l2.dp z)))⟩
theorem ud_if {c : Expr} {t : Addr → Value → Option Addr → TT} {q : Xc → En → (Bool → Prop) → Prop} {body rest : List Stmt} {ts us : Addr → Value → Option Addr → TS} {p r : Xc → En → (D → Prop) → Prop} {pos : Pos} (ht : UT i X c t q) (h1 : UD i X body ts p) (h2 : UD i X rest us r) :
    UD i X (.If c body [] pos :: rest) (fun a cls d => tSeq (tIfS (t a cls d) (ts a cls d) tNext) (us a cls d)) (fun x en k => q x en fun b => (b = true → p x en k) ∧ (b = false → r x en k)) :=
  ⟨fun a oe cls d pn hz hf => pss_cons (ps_if (ht.a a oe cls d pn hz hf) (h1.a a oe cls d pn hz hf) pss_nil) (h2.a a oe cls d pn hz hf),
   fun a cls d x H0 iv as e σ H k F S xr hσ hp hk => ht.b a cls d x H0 iv as e σ H _ (fun b H1 => if b = true then ts a cls d { F with nx := us a cls d F } σ H1 else us a cls d F σ H1) S xr hσ hp fun b hb => by
    cases b with
    | true => rw [if_pos rfl]; exact h1.b a cls d x H0 iv as e σ H k _ S xr hσ (hb.1 rfl) hk
    | false => rw [if_neg Bool.false_ne_true]; exact h2.b a cls d x H0 iv as e σ H k F S xr hσ (hb.2 rfl) hk⟩
/-- len(v) > n, v in slot j -/
theorem ue_lenGt {v : Str} {j : Nat} {n : Int} {np p2 pos pos' lpos : Pos} {m : Nat} (hg : Gl X "len") (hm : X.mg "len" = none) (hj : X.N[j]? = some v) (hvs : Vis X.env.scope v := by first | exact .inl rfl | exact .inr (.inl rfl) | exact .inr (.inr rfl)) (hd : (v == ("__debug__" : Str)) = false := by decide) (hcd : (v == ("__classdict__" : Str)) = false := by decide)
    (hs : starEach [.Name v np] X.env = (false, eval (.Name v np) X.env) :: starEach [] X.env := by rfl) (hpl : (backTo lpos (starEach [] X.env)).any (·.1) = false := by rfl) :
    UE i X (.Compare (.Call (.Name "len" p2) [.Name v np] [] lpos) [.Gt] [.Constant (.int n) m pos] pos') (fun _ _ _ => tOp (rI0 fun i j => .bl (decide (j < i))) (tCB (cLenR X.K) (tCons (tVar j) tNil)) (tC (.int n))) (fun _ en k => ∃ ds, en.sl[j]? = some (some (.dat (.list ds))) ∧ k (.bool (decide (n < (ds.length : Int))))) :=
  ⟨fun a oe cls d pn hz hf => (pe_cmpR op_gt (pe_callB call_len_seq hg hm (by decide +kernel) (pa_cons (pe_var hj hvs hd hcd) pa_nil hs) (by decide) (by decide) hs hpl) pe_int (nomark _)),
   fun a cls d x H0 iv as e σ H k R S xr hσ hp hk => by
    obtain ⟨ds, h1, h2⟩ := hp
    obtain ⟨v, hv, dp⟩ := S.sls j _ h1
    obtain ⟨p, xs, rfl, hs, al⟩ := dp_list dp
    refine ⟨_, hv, p, xs, rfl, .inl (sql_sub hid_sub hs), _, _, rfl, rfl, ?_⟩
    rw [al.1]
    exact hk _ _ h2 (Dp.bl _)⟩
theorem SR.unsetv {K : PySem.W.Frag} {H0 H : Hp} {iv : Addr → Prop} {as : List Addr} {e : En} {σ : L2.St} {i : Nat} {v : Option V} (S : SR K H0 iv as e σ H) : SR K H0 iv as ⟨e.sl.set i none, e.ob⟩ (σ.set i v) H := by
  refine ⟨S.ext, S.ivs, S.len, S.inj, S.tr, S.niv, S.fr, S.obs, by simp [S.slen], fun j w q => ?_⟩
  simp only [] at q
  by_cases hj : i = j
  · subst hj
    have hi : i < e.sl.length := by have := (List.getElem?_eq_some_iff.mp q).1; simpa using this
    rw [List.getElem?_set_self hi] at q
    cases q
  · rw [List.getElem?_set_ne hj] at q ⊢
    exact S.sls j w q
/-- try: body except c as n: suite -/
def pTry (K : PySem.W.Frag) (i : Nat) (c : Value) (pb : PTS) (pu : Xc → En → (D → Prop) → Prop) : PTS := fun P e => pb { P with xe := fun x e1 => i < e1.sl.length ∧ PySem.W.exmOne K x.cls c = some true ∧ pu x ⟨e1.sl.set i none, e1.ob⟩ fun d => P.rt (.dat d) ⟨e1.sl.set i none, e1.ob⟩ } e
theorem sd_tryAs {E : XK} {y n : Str} {c : Value} {body suite : List Stmt} {b₀ : Stmt} {np pos pos' : Pos} {tb : WX → TS} {ts : Addr → Value → Option Addr → TS} {pb : PTS} {pu : Xc → En → (D → Prop) → Prop} (hs : X.stack = X.env :: X.outer) (hf : X.env.frame = some X.env.locals) (hN : X.N.Nodup) (hc : Names X y c) (hb : WB X body tb pb) (hu : UD i X (b₀ :: suite) ts pu)
    (hi : X.N[i]? = some n := by rfl) (hln : X.env.kindOf n = some .local := by rfl) : SD X E (.Try body [.ExceptHandler (some (.Name y np)) (some n) (b₀ :: suite) pos'] [] [] pos) (fun D σ H => tb (wAs X.K c i ts (fun _ _ _ _ => False) D) D σ H) (pTry X.K i c pb pu) :=
  ⟨ps_try_as hs hf hN hi hln hc takes_none5 hb.a hu.a, ⟨fun H0 iv as e σ H P F S h n b c' r x => hb.b.run _ H0 iv as e σ H _ F S h n b c' r fun x cls d as' e' σ' H' hx S' l' z => ⟨true, by rw [z.1]; exact hx.2.1, fun _ a ha =>
    hu.b a cls d x H0 iv as' ⟨e'.sl.set i none, e'.ob⟩ (σ'.set i (some (.ref a))) H' _ _ S'.unsetv z (List.getElem?_set_self (by rw [S'.slen]; exact hx.1)) hx.2.2 (fun dd v as2 e2 H2 hk he S2 l2 hv => by
      subst he
      exact r v (.dat dd) as2 _ _ H2 hk S2 (l'.trans l2) hv), fun q => by cases q⟩⟩⟩
end
end PL

/-! What filters take: the program's masks, the law's grids. -/
namespace PL
open PySem PySem.Spec PyProof.Rows L2
section
variable {P : Program} {w : World} {K : PySem.W.Frag} {mg : Str → Option Value} {base : Heap}
/-- a def that may raise, by the rules -/
theorem Fn.mkXB {x qual : Str} {st : Stmt} {f : Addr} {fd : FuncData} {N ps : List Str} {k : Nat} {s : Sc} (F : Fun K x qual st f fd) (S : FnScope N ps (defScope st)) (len : ∀ ws ob X Q, s ws ob X Q → ws.length = ps.length)
    (hb : ∀ (cdv : Value) (A : Around) (outer : List PySem.Env) (s' : Shared) (H : Hp) (E : XK), Room k (A.deeper (envOfC qual (defScope st) s'.heap.objs.size f cdv)) →
      ∃ t p, BD (cxOf (L2.CX P w) P w K mg base N qual (defScope st) f cdv A outer s' H E) E (defBody st) t p ∧ ∀ ws ob X Q, s ws ob X Q → p (fin X Q) ⟨slots N.length ws, ob⟩) : FnOk P w K mg base (L2.CX P w) (k + 1) f fd ps (toSp K s) :=
  Fn.mkX F S len fun cdv A outer s' H E hr => by
    obtain ⟨t, p, h1, h2⟩ := hb cdv A outer s' H E hr
    exact ⟨t, p, h1.a, h1.b, h2⟩
end
theorem bitAnd_nat (a b : Nat) : Builtin.bitAnd (a : Int) (b : Int) = ((a &&& b : Nat) : Int) := by
  unfold Builtin.bitAnd
  have h1 : decide (0 ≤ (a : Int)) = true := decide_eq_true (by omega)
  have h2 : decide (0 ≤ (b : Int)) = true := decide_eq_true (by omega)
  rw [h1, h2]
  simp
theorem bitOr_nat (a b : Nat) : Builtin.bitOr (a : Int) (b : Int) = ((a ||| b : Nat) : Int) := by
  unfold Builtin.bitOr Builtin.bitAnd Builtin.bitNot
  have h1 : decide (0 ≤ -(a : Int) - 1) = false := decide_eq_false (by omega)
  have h2 : decide (0 ≤ -(b : Int) - 1) = false := decide_eq_false (by omega)
  simp only [h1, h2]
  have e1 : (-(-(a : Int) - 1) - 1).toNat = a := by omega
  have e2 : (-(-(b : Int) - 1) - 1).toNat = b := by omega
  first
    | rw [e1, e2]; omega
    | (simp only [e1, e2]; omega)
def maskN (P : Nat → Bool) : Nat → Nat
  | 0 => 0
  | n + 1 => 2 ^ n * (P n).toNat + maskN P n
section
variable {P Q : Nat → Bool} {n s : Nat}
theorem mask_lt : ∀ n, maskN P n < 2 ^ n
  | 0 => by simp [maskN]
  | n + 1 => by
    have := mask_lt n
    unfold maskN
    rw [Nat.pow_succ]
    cases P n <;> simp <;> omega
theorem mask_bit : ∀ n e, (maskN P n).testBit e = (decide (e < n) && P e)
  | 0, e => by simp [maskN]
  | n + 1, e => by
    unfold maskN
    rw [Nat.testBit_two_pow_mul_add _ (mask_lt n)]
    by_cases h : e < n
    · rw [if_pos h, mask_bit n e]
      have : e < n + 1 := by omega
      simp [h, this]
    · rw [if_neg h]
      by_cases h2 : e = n
      · subst h2
        rw [Nat.sub_self]
        cases P e <;> simp
      · have h3 : ¬ e < n + 1 := by omega
        rw [Nat.testBit_lt_two_pow]
        · simp [h3]
        · have : 2 ^ 1 ≤ 2 ^ (e - n) := Nat.pow_le_pow_right (by omega) (by omega)
          cases P n <;> simp <;> omega
theorem mask_ext (h : ∀ e, e < n → P e = Q e) : maskN P n = maskN Q n := Nat.eq_of_testBit_eq fun e => by
  rw [mask_bit, mask_bit]
  by_cases q : e < n
  · rw [h e q]
  · simp [q]
theorem mask_or : maskN P n ||| maskN Q n = maskN (fun e => P e || Q e) n := Nat.eq_of_testBit_eq fun e => by
  rw [Nat.testBit_or, mask_bit, mask_bit, mask_bit]
  cases decide (e < n) <;> simp
theorem mask_no : maskN (fun _ => false) n = 0 := Nat.eq_of_testBit_eq fun e => by rw [mask_bit]; simp
theorem mask_one (h : s < n) : maskN (fun e => decide (e = s)) n = 2 ^ s := Nat.eq_of_testBit_eq fun e => by
  rw [mask_bit, Nat.testBit_two_pow]
  by_cases q : s = e
  · subst q; simp [h]
  · simp [q, Ne.symm q]
theorem mask_not (f : Nat → Bool) : ∀ {n}, s ≤ n → maskN (fun e => decide (s ≤ e) && f e) n + maskN (fun e => decide (s ≤ e) && !f e) n + 2 ^ s = 2 ^ n := by
  intro n h
  induction n with
  | zero => rw [show s = 0 by omega]; simp [maskN]
  | succ n ih =>
    by_cases q : s = n + 1
    · have z : ∀ g : Nat → Bool, maskN (fun e => decide (s ≤ e) && g e) (n + 1) = 0 := fun g => (mask_ext fun e he => by
        have : ¬ s ≤ e := by omega
        simp [this]).trans mask_no
      rw [z, z, q]; omega
    · have ih := ih (by omega)
      unfold maskN
      have : s ≤ n := by omega
      rw [Nat.pow_succ]
      cases f n <;> simp [this] <;> omega
end
theorem bit_test (M p : Nat) : decide (Builtin.bitAnd ((M : Int) / 2 ^ ((p : Int)).toNat) 1 = 1) = M.testBit p := by
  rw [Int.toNat_natCast, show (2 : Int) ^ p = ((2 ^ p : Nat) : Int) by simp, ← Int.natCast_ediv, show (1 : Int) = ((1 : Nat) : Int) from rfl, bitAnd_nat, Nat.and_one_is_mod, Nat.testBit_eq_decide_div_mod_eq]
  congr 1
  exact propext ⟨fun h => by omega, fun h => by omega⟩
abbrev SpF := Nat → Nat → Bool
def noF : SpF := fun _ _ => false
/-- where a line takes, from the lines above -/
def tk (F : List SpF) (w : List Nat) : Ln → SpF
  | .none => noF
  | .empty => fun s e => decide (s = e)
  | .letter a => fun s e => decide (e = s + 1) && decide (s < w.length ∧ w.getD s 0 = a)
  | .or a b => fun s e => F.getD a noF s e || F.getD b noF s e
  | .not a => fun s e => !F.getD a noF s e
  | .behind a b => fun s e => (List.range (e + 1)).any fun m => decide (s ≤ m) && (F.getD a noF s m && F.getD b noF m e)
def spans (ls : List Ln) (w : List Nat) : List SpF := ls.foldl (fun F l => F ++ [tk F w l]) []
def takn (ls : List Ln) (w : List Nat) : Bool := (spans ls w).getD (ls.length - 1) noF 0 w.length
theorem spans_len' (w : List Nat) : ∀ (ls : List Ln) (F : List SpF), (ls.foldl (fun F l => F ++ [tk F w l]) F).length = F.length + ls.length
  | [], F => rfl
  | l :: ls, F => by rw [List.foldl_cons, spans_len' w ls, List.length_append, List.length_cons]; simp; omega
theorem spans_len {ls : List Ln} {w : List Nat} : (spans ls w).length = ls.length := by rw [spans, spans_len']; simp
theorem spans_snoc {ls : List Ln} {w : List Nat} {i : Nat} {l : Ln} (h : ls[i]? = some l) : spans (ls.take (i + 1)) w = spans (ls.take i) w ++ [tk (spans (ls.take i) w) w l] := by
  rw [take_snoc h, spans, List.foldl_append]; rfl
/-! the program's side -/
def endsM (f : SpF) (n s : Nat) : Nat := maskN (fun e => decide (s ≤ e) && f s e) (n + 1)
def rowE (f : SpF) (n : Nat) : List Nat := (List.range (n + 1)).map (endsM f n)
def rowED (f : SpF) (n : Nat) : D := .list ((rowE f n).map nD)
def endsB (M : Nat) (fb : SpF) (n i : Nat) : Nat := maskN (fun e => (List.range i).any fun p => M.testBit p && (decide (p ≤ e) && fb p e)) (n + 1)
theorem rowE_at {f : SpF} {n s : Nat} (h : s < n + 1) : (rowE f n)[s]? = some (endsM f n s) := by
  unfold rowE
  rw [List.getElem?_map, List.getElem?_range h]; rfl
theorem rowED_at {f : SpF} {n s : Nat} (h : s < n + 1) : atI ((rowE f n).map nD) (s : Int) = some (nD (endsM f n s)) := at_nat (by rw [List.getElem?_map, rowE_at h]; rfl)
theorem endsB_zero {M n : Nat} {fb : SpF} : endsB M fb n 0 = 0 := by unfold endsB; simp [mask_no]
theorem endsB_succ {M n i : Nat} {fb : SpF} : endsB M fb n (i + 1) = if M.testBit i = true then endsB M fb n i ||| endsM fb n i else endsB M fb n i := by
  unfold endsB endsM
  split
  · rename_i h
    rw [mask_or]
    refine mask_ext fun e he => ?_
    rw [List.range_succ, List.any_append, List.any_cons, List.any_nil, h]
    simp
  · rename_i h
    refine mask_ext fun e he => ?_
    have h : M.testBit i = false := by simpa using h
    rw [List.range_succ, List.any_append, List.any_cons, List.any_nil, h]
    simp
theorem ends_none {F : List SpF} {w : List Nat} {n s : Nat} : endsM (tk F w .none) n s = 0 := by unfold endsM tk noF; simp [mask_no]
theorem ends_empty {F : List SpF} {w : List Nat} {n s : Nat} (h : s < n + 1) : endsM (tk F w .empty) n s = 2 ^ s := by
  unfold endsM tk
  rw [← mask_one h]
  refine mask_ext fun e he => ?_
  by_cases q : s = e
  · subst q; simp
  · simp [q, Ne.symm q]
theorem ends_letter {F : List SpF} {w : List Nat} {s a : Nat} (h : s < w.length + 1) : endsM (tk F w (.letter a)) w.length s = if s < w.length ∧ w.getD s 0 = a then 2 ^ (s + 1) else 0 := by
  have e0 : ∀ e, tk F w (.letter a) s e = (decide (e = s + 1) && decide (s < w.length ∧ w.getD s 0 = a)) := fun _ => rfl
  unfold endsM
  by_cases q : s < w.length ∧ w.getD s 0 = a
  · rw [if_pos q]
    refine Eq.trans (mask_ext fun e he => ?_) (mask_one (show s + 1 < w.length + 1 by omega))
    rw [e0, decide_eq_true q]
    by_cases z : e = s + 1
    · subst z; simp
    · simp [z]
  · rw [if_neg q]
    refine Eq.trans (mask_ext fun e he => ?_) (mask_no (n := w.length + 1))
    rw [e0, decide_eq_false q]; simp
theorem ends_or {F : List SpF} {w : List Nat} {n s a b : Nat} : endsM (tk F w (.or a b)) n s = endsM (F.getD a noF) n s ||| endsM (F.getD b noF) n s := by
  unfold endsM tk
  rw [mask_or]
  refine mask_ext fun e he => ?_
  cases decide (s ≤ e) <;> simp
theorem ends_not {F : List SpF} {w : List Nat} {n s a : Nat} (h : s < n + 1) : (2 : Int) * 2 ^ ((n : Int)).toNat - 1 * 2 ^ ((s : Int)).toNat - ((endsM (F.getD a noF) n s : Nat) : Int) = ((endsM (tk F w (.not a)) n s : Nat) : Int) := by
  have q := mask_not (s := s) (fun e => F.getD a noF s e) (n := n + 1) (by omega)
  have q' : endsM (F.getD a noF) n s + endsM (tk F w (.not a)) n s + 2 ^ s = 2 * 2 ^ n := by
    unfold endsM tk
    rw [show 2 * 2 ^ n = 2 ^ (n + 1) by rw [Nat.pow_succ]; omega]
    exact q
  rw [Int.toNat_natCast, Int.toNat_natCast, show (2 : Int) ^ n = ((2 ^ n : Nat) : Int) by simp, show (2 : Int) ^ s = ((2 ^ s : Nat) : Int) by simp]
  omega
theorem ends_behind {F : List SpF} {w : List Nat} {n s a b : Nat} : endsM (tk F w (.behind a b)) n s = endsB (endsM (F.getD a noF) n s) (F.getD b noF) n (n + 1) := by
  unfold endsB
  show maskN _ (n + 1) = _
  refine mask_ext fun e he => ?_
  rw [Bool.eq_iff_iff]
  unfold tk
  simp only [Bool.and_eq_true, decide_eq_true_eq, List.any_eq_true, List.mem_range]
  constructor
  · rintro ⟨h1, m, h2, h3, h4, h5⟩
    refine ⟨m, by omega, ?_, by omega, h5⟩
    unfold endsM
    rw [mask_bit]
    simp [h3, h4]; omega
  · rintro ⟨m, h1, h2, h3, h4⟩
    unfold endsM at h2
    rw [mask_bit] at h2
    simp only [Bool.and_eq_true, decide_eq_true_eq] at h2
    exact ⟨by omega, m, by omega, h2.2.1, h2.2.2, h4⟩
/-! the law's side -/
def cellB (f : SpF) (s e : Nat) : D := .bool (decide (s ≤ e) && f s e)
def rowB (f : SpF) (n s : Nat) : D := .list ((List.range (n + 1)).map (cellB f s))
def grid (f : SpF) (n : Nat) : D := .list ((List.range (n + 1)).map (rowB f n))
/-! ### promises -/
def s_ends_behind : Sc := fun ws ob X Q => ∃ (M n : Nat) (fb : SpF), n ≤ 1000 ∧ ws = [.dat (nD M), .dat (rowED fb n)] ∧ ob = [] ∧ ∀ more, Q (nD (endsB M fb n (n + 1))) more
def s_ends_of : Sc := fun ws ob X Q => ∃ (l : Ln) (F : List SpF) (w : List Nat), l.ok F.length ∧ w.length ≤ 40 ∧ ws = [.dat (rawD l.raw), .ref 0, .dat (wdD w)] ∧ ob = [.lst (F.map fun f => rowED f w.length)] ∧ ∀ more, Q (rowED (tk F w l) w.length) (.lst (F.map fun f => rowED f w.length) :: more)
def s_takes (C : Addr) : Sc := fun ws ob X Q => ∃ (ls : List Ln) (w : List Nat), OkF ls ∧ 1 ≤ ls.length ∧ ls.length ≤ 300 ∧ w.length ≤ 1000 ∧ ws = [.dat (linesD (ls.map Ln.raw)), .dat (wdD w)] ∧ ob = [] ∧ (w.length ≤ 20 → ∀ more, Q (.bool (takn ls w)) more) ∧ (20 < w.length → ∀ more, X ⟨.ref C, none⟩ more)
def s__law_spans : Sc := fun ws ob X Q => ∃ (ls : List Ln) (w : List Nat), OkF ls ∧ ls.length ≤ 300 ∧ w.length ≤ 40 ∧ ws = [.dat (linesD (ls.map Ln.raw)), .dat (wdD w)] ∧ ob = [] ∧ ∀ more, Q (.list ((spans ls w).map fun f => grid f w.length)) more
def s__law_taken : Sc := fun ws ob X Q => ∃ (ls : List Ln) (w : List Nat), OkF ls ∧ 1 ≤ ls.length ∧ ls.length ≤ 300 ∧ w.length ≤ 40 ∧ ws = [.dat (linesD (ls.map Ln.raw)), .dat (wdD w)] ∧ ob = [] ∧ ∀ more, Q (.bool (takn ls w)) more
end PL

/-! Errors with a field of their own; index. -/
namespace PL
open PySem PySem.Spec PyProof.Rows L2
/-- what such a class's __init__ does -/
def spInit (C : Addr) (f : Str) : Sp := fun vs H Q E => ∃ a y, vs = [.ref a, y] ∧ H a = some (exo a C none) ∧ ∀ dx, H dx = none → dx ≠ a → Q .non (upd (upd H dx (exd dx [(f, y)])) a (exo a C (some dx)))
section
variable {P : Program} {w : World} {K : PySem.W.Frag} {mg : Str → Option Value} {base : Heap}
theorem ok_init {qual f : Str} {st : Stmt} {fI C : Addr} {fd : FuncData} {p1 p2 p3 p4 : Pos} (F : Fun K "__init__" qual st fI fd) (S : FnScope ["self", f] ["self", f] (defScope st)) (hb : defBody st = [.Assign [.Attribute (.Name "self" p1) f p2] (.Name f p3) p4])
    (T : OexC K C) (nf : PySem.W.findIn K (.ref C) f = some none) (hl : ∀ (cdv : Value) (A : Around) (outer : List PySem.Env) (s' : Shared) (H : Hp) (E : XK), Vis (cxOf CX0 P w K mg base ["self", f] qual (defScope st) fI cdv A outer s' H E).nox.env.scope "self" ∧ Vis (cxOf CX0 P w K mg base ["self", f] qual (defScope st) fI cdv A outer s' H E).nox.env.scope f)
    (hd : (f == ("__debug__" : Str)) = false) (hcd : (f == ("__classdict__" : Str)) = false) (hsw : ∀ env, swapsWith (.Name f p3) (some (.Attribute (.Name "self" p1) f p2)) p4.line env = pure false) : FnOk P w K mg base CX0 1 fI fd ["self", f] (spInit C f) := by
  refine F.ok S (fun vs H Q E h => ?_) fun cdv A outer s' H vs Q E hr h => ?_
  · obtain ⟨_, _, rfl, _⟩ := h; rfl
  · refine ⟨tOst K f (tVar 0) (tVar 1), ?_, ?_⟩
    · rw [hb]
      exact pss_one (ps_ost (pe_var rfl (hl cdv A outer s' H E).1 (by decide) (by decide)) (pe_var rfl (hl cdv A outer s' H E).2 hd hcd) (hsw _))
    · obtain ⟨a, y, rfl, ha, hq⟩ := h
      exact ⟨y, rfl, .ref a, rfl, a, C, rfl, T, nf, .inl ⟨ha, hq⟩⟩
end
section
variable {X : Cx} {E : XK}
theorem sub_made {H1 : Hp} {a dx : Addr} {o1 o2 o3 : HO} {o : HO} (ha : H1 a = none) (hd : H1 dx = none) : Sub H1 (upd (del (upd (upd (upd H1 a o1) dx o2) a o3) a) dx o) := fun b u h => by
  have b1 : b ≠ dx := fun z => by rw [z, hd] at h; cases h
  have b2 : b ≠ a := fun z => by rw [z, ha] at h; cases h
  rw [upd_ne b1, del_ne b2, upd_ne b2, upd_ne b1, upd_ne b2]
  exact h
theorem sd_raiseI {x f : Str} {C fI : Addr} {k : Nat} {fd : FuncData} {a : Expr} {ta : TE} {pa : PTE} {p pos pos' : Pos} (hc : X.calm = true) (tk : Takes X fun cls d _ H => E cls d H) (T : OexC X.K C) (iC : PySem.W.findIn X.K (.ref C) "__init__" = some (some (.ref fI))) (tI : PySem.W.typeIn X.K (.ref fI) = some (.type "function"))
    (F1 : FnOk X.prog X.w X.K X.mg X.base CX0 k fI fd ["self", f] (spInit C f)) (hr : Room (k + 1) X.A) (hb : Binds X.K fd ["self", f] []) (hg : Gl X x) (hm : X.mg x = some (.ref C)) (ha : PD X E a ta pa) (hdb : (x == ("__debug__" : Str)) = false := by decide)
    (he : starEach (a :: []) X.env = (false, eval a X.env) :: starEach [] X.env := by rfl) (hpl : (backTo pos (starEach [] X.env)).any (·.1) = false := by rfl) :
    SD X E (.Raise (some (.Call (.Name x p) [a] [] pos)) none pos') (fun _ σ H => tMkO C (spInit C f) [] (tCons ta tNil) σ H fun cls d H' => E cls d H') (fun P e => pa P.xe e fun w e1 => kD e1 w fun d => P.xe ⟨.ref C, some (f, d)⟩ e1) :=
  ⟨ps_raise hc tk (pmk_oex T iC tI F1 hr hb .nil pass0 hg hm (pa_cons ha.a pa_nil he) hdb he hpl), ⟨fun H0 iv as e σ H P F S h n b c r x => by
    refine ha.b.run H0 iv as e σ H P.xe _ _ S h (fun v w as1 e1 H1 h1 S1 l1 w1 => ?_) x.lx
    obtain ⟨d, ed, h2⟩ := kD_elim h1
    refine ⟨by simp, fun a ha0 => ⟨a, v, rfl, upd_same, fun dx hdx hne => ?_⟩⟩
    rw [upd_ne hne] at hdx
    refine ⟨rfl, dx, [(f, v)], upd_same, by rw [upd_ne hne, upd_same], hdx, ?_⟩
    obtain ⟨S2, l2⟩ := S1.grow (sub_made ha0 hdx)
    exact x ⟨.ref C, some (f, d)⟩ _ _ as1 e1 σ _ h2 S2 (l1.trans l2) ⟨rfl, dx, v, rfl, upd_same, l2.dp (asD_wr S1 w1 ed)⟩⟩⟩
/-! ### index -/
def pIdx (pa pb : PTE) : PTE := fun X e Q => pa X e fun w e1 => kD e1 w fun d => match d with
  | .list ds => pb X e1 fun y e2 => kD e2 y fun z => ∃ (j : Nat) (zz : D), SeqAt.shaped (.list ds) = true ∧ SeqAt.shaped z = true ∧ ds[j]? = some zz ∧ PyData.eqv zz z = true ∧ (∀ (m : Nat) (z' : D), m < j → ds[m]? = some z' → PyData.eqv z' z = false) ∧ Q (.dat (.int (j : Nat))) e2
  | _ => False
theorem snd_idx {K : PySem.W.Frag} {ta tb : TE} {pa pb : PTE} (ha : SndE K E ta pa) (hb : SndE K E tb pb) : SndE K E (tBM K "list" (rIndexD K) ta (tCons tb tNil)) (pIdx pa pb) := ⟨fun H0 iv as e σ H X Q R S h k l => by
  refine ha.run H0 iv as e σ H X _ _ S h (fun x wx as1 e1 H1 h1 S1 l1 w1 => ?_) l
  obtain ⟨d, ed, h2⟩ := kD_elim h1
  have dp1 := asD_wr S1 w1 ed
  cases d with
  | list ds =>
    obtain ⟨a, xs, rfl, hs, al⟩ := dp_list dp1
    refine ⟨.inl ⟨rfl, xs, sql_sub hid_sub hs⟩, hb.run H0 iv as1 e1 σ H1 X _ _ S1 h2 (fun y wy as2 e2 H2 h3 S2 l2 w2 => ?_) (l.on l1)⟩
    obtain ⟨z, ez, h4⟩ := kD_elim h3
    obtain ⟨j, zz, s1, s2, q1, q2, q3, q4⟩ := h4
    exact ⟨a, y, z, ds, j, zz, rfl, rfl, dp_sub hid_sub _ _ (l2.dp dp1), dp_sub hid_sub _ _ (asD_wr S2 w2 ez), s1, s2, q1, q2, q3, k _ _ as2 e2 H2 q4 S2 (l1.trans l2) (Dp.int _)⟩
  | _ => exact h2.elim⟩
theorem pd_index {X : Cx} {E : XK} {K : PySem.W.Frag} {a b : Expr} {ta tb : TE} {pa pb : PTE} {apos cpos : Pos} (hu : X.A.units + 65 < cLine) (ha : PD X E a ta pa) (hr : PD X E b tb pb)
    (hbase : attributeBase a "index" X.env (eval a X.env) = eval a X.env := by rfl)
    (hfew : ((backTo cpos (starEach (b :: []) X.env)).all (fun x => !x.1) && (backToKw cpos (keywordEach [] X.env)).all (fun x => x.1.isSome)
      && decide ((b :: ([] : List Expr)).length + ([] : List Keyword).length + (if ([] : List Keyword).isEmpty then 0 else 1) < 30)) = true := by rfl)
    (hline : (apos.endLine == cpos.line) = true := by rfl) (hs : starEach (b :: []) X.env = (false, eval b X.env) :: starEach [] X.env := by rfl) (hplain : (backTo cpos (starEach [] X.env)).any (·.1) = false := by rfl) (hK : X.K = K := by rfl) :
    PD X E (.Call (.Attribute a "index" apos) [b] [] cpos) (tBM K "list" (rIndexD K) ta (tCons tb tNil)) (pIdx pa pb) := by
  subst hK
  exact ⟨pe_bm PySem.F.plainAttrs_list PySem.F.slot_list_index PySem.F.type_list_index (mt_indexD hu) ha.a (pa_cons hr.a pa_nil hs) hbase hfew hline hs hplain, snd_idx ha.b hr.b⟩
end
end PL

/-! try with several except clauses, named or not. -/
namespace PL
open PySem PySem.Spec PyProof.Rows L2
abbrev UTS := Addr → Value → Option Addr → TS
/-- the ends of a named clause: its name is unbound behind it -/
def gone (i : Nat) (D : Ends) : Ends := { nx := fun τ G => D.nx (τ.set i none) G, rt := D.rt, bk := fun τ G => D.bk (τ.set i none) G, ct := fun τ G => D.ct (τ.set i none) G }
def wCls (K : PySem.W.Frag) (Wo : WX) (D : Ends) : List (Value × Option Nat × UTS) → WX
  | [] => Wo
  | (c, none, ts) :: r => fun cls d τ G => ∃ q, PySem.W.exmOne K cls c = some q ∧ (q = true → ∀ a, G a = none → ts a cls d D τ G) ∧ (q = false → wCls K Wo D r cls d τ G)
  | (c, some i, ts) :: r => fun cls d τ G => ∃ q, PySem.W.exmOne K cls c = some q ∧ (q = true → ∀ a, G a = none → ts a cls d (gone i D) (τ.set i (some (.ref a))) G) ∧ (q = false → wCls K Wo D r cls d τ G)
inductive ClsOk (X : Cx) : List ExceptHandler → List (Value × Option Nat × UTS) → Prop
  | nil : ClsOk X [] []
  | bare {y : Str} {c : Value} {ts : UTS} {st : Stmt} {su : List Stmt} {p1 p2 : Pos} {hs : List ExceptHandler} {l : List (Value × Option Nat × UTS)} (nm : Names X y c)
      (rd : ∀ (a : Addr) (oe : Obj) (cls : Value) (d : Option Addr) (pn : List (Addr × Obj)), Zc cls d oe → (∃ vs, oe.data = .fields vs) → PSs (X.suite a ((a, oe) :: pn)) (st :: su) (ts a cls d)) (r : ClsOk X hs l) : ClsOk X (.ExceptHandler (some (.Name y p1)) none (st :: su) p2 :: hs) ((c, none, ts) :: l)
  | named {y n : Str} {c : Value} {i : Nat} {ts : UTS} {st : Stmt} {su : List Stmt} {p1 p2 : Pos} {hs : List ExceptHandler} {l : List (Value × Option Nat × UTS)} (nd : X.N.Nodup) (hi : X.N[i]? = some n) (lo : X.env.kindOf n = some .local) (nm : Names X y c)
      (rd : ∀ (a : Addr) (oe : Obj) (cls : Value) (d : Option Addr) (pn : List (Addr × Obj)), Zc cls d oe → (∃ vs, oe.data = .fields vs) → PSs (X.suite a ((a, oe) :: pn)) (st :: su) (ts a cls d)) (r : ClsOk X hs l) : ClsOk X (.ExceptHandler (some (.Name y p1)) (some n) (st :: su) p2 :: hs) ((c, some i, ts) :: l)
section
variable {X : Cx} {body : List Stmt} {h0 : ExceptHandler} {hs : List ExceptHandler} {l : List (Value × Option Nat × UTS)} {pos : Pos} {tb : WX → TS} {Wo : WX}
theorem ps_tryCls (stk : X.stack = X.env :: X.outer) (fr : X.env.frame = some X.env.locals) (tko : Takes X Wo)
    (rb : ∀ (W : WX) (pn : List (Addr × Obj)) (xe : Value → Shared → Prop), Takes (X.tr pn xe) W → PassesOwn (model X.prog X.w) X.A X.env xe → PSs (X.tr pn xe) body (tb W)) (hh : ClsOk X (h0 :: hs) l) : PS X (.Try body (h0 :: hs) [] [] pos) (fun D τ G => tb (wCls X.K Wo D l) D τ G) := by
  refine ⟨fun pins z τ G D I hq => ?_⟩
  have ok0 := I.ok
  have frs0 : X.A.frames = some (X.env :: X.outer) := by rw [ok0.frames, stk]
  refine wpAny_Try_except (wpAny_mono ((rb (wCls X.K Wo D l) (X.pn ++ pins) (fun e z1 => wpAny (model X.prog X.w) X.A (noteFrame e X.env) (fun _ z2 => wpAny (model X.prog X.w) X.A (setFlight e none) (fun _ z3 => wpAny (model X.prog X.w) X.A (handleBy e X.env (h0 :: hs)) (SP X pins D) X.xe z3) X.xe z2) X.xe z1) (fun u z' xx => ?_) PassesOwn.looking).run [] z τ G D (I.toTry _) hq) (fun f z1 sp => ?_) fun _ _ he => he)
  · obtain ⟨a, B, zI, pins', τ', G', cls, d, rfl, J', nb, up, sky, na, os, ag, wish⟩ := xx
    have J : Inv X pins τ' G' zI := Inv.ofTry J' ok0
    have sk : Sky B (X.env :: X.outer) a (Zc cls d) X.env.locals z'.heap := by rw [← stk]; exact sky
    show wpAny (model X.prog X.w) X.A (noteFrame (.ref a) X.env) _ _ _
    refine Sky.land Zc.steady frs0 fr sk fun g3 fl up3 => ?_
    have J3 : Inv X pins τ' G' { z' with heap := g3 } := Inv.landed J nb fl.1 (up.trans up3) os ag
    obtain ⟨o3, w3, e3, hz3, d3⟩ := fl.there
    have nfr : a ∉ frs (X.env :: X.outer) := fun hm => by obtain ⟨_, o', e', hnf⟩ := fl.2.2.1.mem hm; rw [e3] at e'; cases e'; exact hnf _ d3
    have nL : a ≠ X.env.locals := fun y => nfr (List.mem_filterMap.mpr ⟨X.env, List.mem_cons_self, by rw [fr, y]⟩)
    have nF : a ∉ X.fs := fun hm => by obtain ⟨e, he, q⟩ := List.mem_filterMap.mp hm; exact nfr (List.mem_filterMap.mpr ⟨e, List.mem_cons_of_mem _ he, q⟩)
    have S3 := Inv.suite J3 e3 d3 na nL nF
    have look : PySem.W.Looks (model X.prog X.w) g3 (typeOf (.ref a)) cls := fun A Q E y k q => wpAny_typeOf_ref (k _ _ e3) (by rw [hz3.1]; exact q)
    have test : ∀ {y : Str} {p1 : Pos} {c : Value} {Q : Value → Shared → Prop} {E : Value → Shared → Prop}, Names X y c → Q c { z' with heap := g3 } → wpAny (model X.prog X.w) (X.A.mark (some (.ref a))) (eval (.Name y p1) X.env) Q E { z' with heap := g3 } := fun {y p1 c Q E} nm q => by
      obtain ⟨hg, hdb, hm | ⟨hm, hv, hn⟩⟩ := nm
      · exact ld_glob (X := X.suite a ((a, o3) :: (X.pn ++ pins))) S3 hg hm q hdb
      · exact ld_blt (X := X.suite a ((a, o3) :: (X.pn ++ pins))) S3 hg hm hv q hn hdb
    have go : ∀ {hs' : List ExceptHandler} {l' : List (Value × Option Nat × UTS)}, ClsOk X hs' l' → wCls X.K Wo D l' cls d τ' G' → wpAny (model X.prog X.w) X.A (handleBy (.ref a) X.env hs') (SP X pins D) X.xe { z' with heap := g3 } := by
      intro hs' l' hk
      induction hk with
      | nil =>
        intro wo
        refine wpAny_handleBy_nil ?_
        obtain ⟨k1, k2, k3, oe, vs, T, oT, ts', he, hz, hd, h1, hr⟩ := id fl
        unfold PySem.passOn
        refine wpAny_bind (wpAny_field he hd h1 ?_)
        rw [if_neg (show ¬ ((Value.ref T == Value.none) = true) from by simp)]
        have last : wpAny (model X.prog X.w) X.A (setFlight (.ref a) X.env.frame) (fun _ z4 => wpAny (model X.prog X.w) X.A (throw (.ref a) : Sem Flow) (SP X pins D) X.xe z4) X.xe { z' with heap := g3 } := by
          rw [fr]
          exact HandSPX.setFlight_upZ fl fun g4 hh4 up4 => wpAny_throw (tko _ _ ⟨a, B, zI, pins, τ', G', cls, d, rfl, J, nb, (up.trans up3).trans up4, .inr (.inr (by rw [stk]; exact hh4)), na, os, ag, wo⟩)
        first | exact wpAny_bind (wpAny_pure (wpAny_bind last)) | exact wpAny_bind last
      | @bare y c ts st su p1 p2 hs2 l2 nm rd r ih =>
        intro wo
        obtain ⟨b, hb1, hyes, hno⟩ := wo
        have LM := PySem.W.exm_one (M := model X.prog X.w) (J3.kIn) look hb1
        refine wpAny_handleBy_cons (codeAny_handlers_test (test nm (LM.here ?_))) (by intro q; cases q)
        cases b with
        | true =>
          refine codeAny_handlers_suite (HandSPX.lands_againZ fl fun g4 fl4 up4 => ?_)
          have J4 : Inv X pins τ' G' { z' with heap := g4 } := Inv.landed J nb fl4.1 ((up.trans up3).trans up4) os ag
          obtain ⟨o4, w4, e4, hz4, d4⟩ := fl4.there
          refine wpAny_mono ((rd a o4 cls d (X.pn ++ pins) hz4 ⟨_, d4⟩).run [] _ _ G' _ (Inv.suite J4 e4 d4 na nL nF) (hyes rfl a na)) (fun f z6 sp => ?_) (fun _ _ y => y.elim)
          cases f with
          | ret u => obtain ⟨v6, τ6, G6, S6, r6, q6⟩ := sp; exact ⟨_, _, _, Inv.unsuite S6 ok0, r6, q6⟩
          | _ => obtain ⟨τ6, G6, S6, q6⟩ := sp; exact ⟨_, _, Inv.unsuite S6 ok0, q6⟩
        | false => exact ih (hno rfl)
      | @named y n c i ts st su p1 p2 hs2 l2 nd hi lo nm rd r ih =>
        intro wo
        obtain ⟨b, hb1, hyes, hno⟩ := wo
        have LM := PySem.W.exm_one (M := model X.prog X.w) (J3.kIn) look hb1
        refine wpAny_handleBy_cons (codeAny_handlers_test (test nm (LM.here ?_))) (by intro q; cases q)
        cases b with
        | true =>
          refine codeAny_handlers_suite_as (HandSPX.lands_againZ fl fun g4 fl4 up4 => ?_)
          have J4 : Inv X pins τ' G' { z' with heap := g4 } := Inv.landed J nb fl4.1 ((up.trans up3).trans up4) os ag
          obtain ⟨o4, w4, e4, hz4, d4⟩ := fl4.there
          refine store_ok (X := X.suite a ((a, o4) :: (X.pn ++ pins))) (v := .ref a) (Inv.suite J4 e4 d4 na nL nF) nd hi (.inl lo) rfl (fun z5 S5 => ?_) (.inr lo)
          refine wpAny_mono ((rd a o4 cls d (X.pn ++ pins) hz4 ⟨_, d4⟩).run [] z5 _ G' _ S5 (hyes rfl a na)) (fun f z6 sp => ?_) (fun _ _ y => y.elim)
          have fin : ∀ {τ6 : L2.St} {G6 : Hp} {Q : Shared → Prop}, Inv (X.suite a ((a, o4) :: (X.pn ++ pins))) [] τ6 G6 z6 → (∀ z7, Inv X pins (τ6.set i none) G6 z7 → Q z7) → wpAny (model X.prog X.w) X.A (do bindName X.env n .none; unbindBehindTheSuite X.env n p2) (fun _ z7 => Q z7) X.xe z6 := fun {τ6 G6 Q} S6 hq => gone_ok (Inv.unsuite S6 ok0) nd hi lo hq
          cases f with
          | ret u => obtain ⟨v6, τ6, G6, S6, r6, q6⟩ := sp; exact fin S6 fun z7 J7 => ⟨_, _, _, J7, r6, q6⟩
          | _ => obtain ⟨τ6, G6, S6, q6⟩ := sp; exact fin S6 fun z7 J7 => ⟨_, _, J7, q6⟩
        | false => exact ih (hno rfl)
    exact go hh wish
  · cases f with
    | next => obtain ⟨τ', G', J', q⟩ := sp; exact wpAny_execs_nil ⟨τ', G', Inv.ofTry J' ok0, q⟩
    | ret u => obtain ⟨v, τ', G', J', r, q⟩ := sp; exact ⟨v, τ', G', Inv.ofTry J' ok0, r, q⟩
    | _ => obtain ⟨τ', G', J', q⟩ := sp; exact ⟨τ', G', Inv.ofTry J' ok0, q⟩
end
structure CLs (X : Cx) (hs : List ExceptHandler) (l : List (Value × Option Nat × UTS)) (p : PEn → Xc → En → Prop) : Prop where
  a : ClsOk X hs l
  b : ∀ x cls d H0 iv as e σ H (P : PEn) (F : Ends), SR X.K H0 iv as e σ H → XR X.K (hid iv as e.ob H) H x cls d → p P x e → KR X.K H0 iv as e H P.rt F.rt → wCls X.K (fun _ _ _ _ => False) F l cls d σ H
def noN : En → Prop := fun _ => False
section
variable {X : Cx} {hs : List ExceptHandler} {l : List (Value × Option Nat × UTS)} {pr : PEn → Xc → En → Prop}
theorem cl_nil : CLs X [] [] (fun _ _ _ => False) := ⟨.nil, fun _ _ _ _ _ _ _ _ _ _ _ _ _ h _ => h.elim⟩
theorem cl_bare {y : Str} {c : Value} {ts : TS} {ps : PTS} {st : Stmt} {su : List Stmt} {p1 p2 : Pos} (nm : Names X y c) (rd : ∀ (a : Addr) (oe : Obj) (pn : List (Addr × Obj)), BD (X.suite a ((a, oe) :: pn)) E0 (st :: su) ts ps) (r : CLs X hs l pr) :
    CLs X (.ExceptHandler (some (.Name y p1)) none (st :: su) p2 :: hs) ((c, none, fun _ _ _ => ts) :: l) (fun P x e => ∃ q, PySem.W.exmOne X.K x.cls c = some q ∧ (q = true → ps ⟨noN, P.rt, noN, noN, noX⟩ e) ∧ (q = false → pr P x e)) :=
  ⟨.bare nm (fun a oe cls d pn _ _ => (rd a oe pn).a) r.a, fun x cls d H0 iv as e σ H P F S xr hp kr => by
    obtain ⟨q, h1, h2, h3⟩ := hp
    refine ⟨q, by rw [xr.1]; exact h1, fun hq a ha => ?_, fun hq => r.b x cls d H0 iv as e σ H P F S xr (h3 hq) kr⟩
    exact (rd 0 ⟨.none, none, .fields #[], #[]⟩ []).b.run H0 iv as e σ H ⟨noN, P.rt, noN, noN, noX⟩ F S (h2 hq) (fun _ _ _ _ z => z.elim) (fun _ _ _ _ z => z.elim) (fun _ _ _ _ z => z.elim) kr (fun _ _ _ _ _ _ _ z => z.elim)⟩
theorem cl_named {y n : Str} {c : Value} {ts : UTS} {pu : Xc → En → (D → Prop) → Prop} {st : Stmt} {su : List Stmt} {p1 p2 : Pos} (i : Nat) (nd : X.N.Nodup) (nm : Names X y c) (hu : UD i X (st :: su) ts pu) (r : CLs X hs l pr) (hi : X.N[i]? = some n := by rfl) (lo : X.env.kindOf n = some .local := by rfl) :
    CLs X (.ExceptHandler (some (.Name y p1)) (some n) (st :: su) p2 :: hs) ((c, some i, ts) :: l) (fun P x e => i < e.sl.length ∧ ∃ q, PySem.W.exmOne X.K x.cls c = some q ∧ (q = true → pu x ⟨e.sl.set i none, e.ob⟩ fun d => P.rt (.dat d) ⟨e.sl.set i none, e.ob⟩) ∧ (q = false → pr P x e)) :=
  ⟨.named nd hi lo nm hu.a r.a, fun x cls d H0 iv as e σ H P F S xr hp kr => by
    obtain ⟨hl, q, h1, h2, h3⟩ := hp
    refine ⟨q, by rw [xr.1]; exact h1, fun hq a ha => ?_, fun hq => r.b x cls d H0 iv as e σ H P F S xr (h3 hq) kr⟩
    refine hu.b a cls d x H0 iv as ⟨e.sl.set i none, e.ob⟩ (σ.set i (some (.ref a))) H _ _ S.unsetv xr (List.getElem?_set_self (by rw [S.slen]; exact hl)) (h2 hq) fun dd v as2 e2 H2 hk he S2 l2 hv => ?_
    subst he
    exact kr v (.dat dd) as2 _ _ H2 hk S2 l2 hv⟩
theorem sd_tryM {E : XK} {body : List Stmt} {h0 : ExceptHandler} {pos : Pos} {tb : WX → TS} {pb : PTS} (stk : X.stack = X.env :: X.outer) (fr : X.env.frame = some X.env.locals) (hb : WB X body tb pb) (hc : CLs X (h0 :: hs) l pr) :
    SD X E (.Try body (h0 :: hs) [] [] pos) (fun D σ H => tb (wCls X.K (fun _ _ _ _ => False) D l) D σ H) (fun P e => pb { P with xe := pr P } e) :=
  ⟨ps_tryCls stk fr takes_none5 hb.a hc.a, ⟨fun H0 iv as e σ H P F S h n b c' r x => hb.b.run _ H0 iv as e σ H _ F S h n b c' r fun x cls d as' e' σ' H' hx S' l' z => hc.b x cls d H0 iv as' e' σ' H' P F S' z hx (r.on l')⟩⟩
end
end PL

/-! Maps of words. -/
namespace PL
open PySem PySem.Spec PyProof.Rows L2
abbrev Mp := List Nat
structure MapOk (n : Nat) (m : Mp) : Prop where
  len : m.length = n
  lt : ∀ v ∈ m, v < n
def cmp (a b : Mp) : Mp := a.map fun s => b.getD s 0
def addM (ms : List Mp) (f : Mp) : Option (List Mp) := if f ∈ ms then some ms else if ms.length = 4 then none else some (ms ++ [f])
def addAll : List Mp → List Mp → Option (List Mp)
  | ms, [] => some ms
  | ms, f :: fs => (addM ms f).bind fun ms' => addAll ms' fs
def genM (lm : List Mp) : Nat → List Mp → Nat → Option (List Mp)
  | 0, ms, _ => some ms
  | k + 1, ms, i => if i < ms.length then (addAll ms (lm.map (cmp (ms.getD i [])))).bind fun ms' => genM lm k ms' (i + 1) else some ms
def mapsOf (lm : List Mp) : Option (List Mp) := (addAll [] lm).bind fun ms => genM lm 5 ms 0
inductive Wd (lm : List Mp) : Mp → Prop
  | one {l : Mp} (h : l ∈ lm) : Wd lm l
  | more {m l : Mp} (h : Wd lm m) (h2 : l ∈ lm) : Wd lm (cmp m l)
theorem cmp_at {a b : Mp} {s : Nat} (h : s < a.length) : (cmp a b).getD s 0 = b.getD (a.getD s 0) 0 := by
  unfold cmp
  rw [List.getD_eq_getElem?_getD, List.getElem?_map, List.getElem?_eq_getElem h, List.getD_eq_getElem?_getD (l := a), List.getElem?_eq_getElem h]; rfl
theorem cmp_ok {n : Nat} {a b : Mp} (ha : MapOk n a) (hb : MapOk n b) : MapOk n (cmp a b) := ⟨by rw [cmp, List.length_map]; exact ha.len, fun v hv => by
  obtain ⟨s, hs, rfl⟩ := List.mem_map.mp hv
  exact hb.lt _ (getD_mem (by rw [hb.len]; exact ha.lt s hs))⟩
theorem cmp_assoc {n : Nat} {a b c : Mp} (ha : MapOk n a) (hb : MapOk n b) : cmp a (cmp b c) = cmp (cmp a b) c := by
  unfold cmp
  rw [List.map_map]
  refine List.map_congr_left fun s hs => ?_
  exact cmp_at (a := b) (b := c) (by rw [hb.len]; exact ha.lt s hs)
theorem Wd.ok {n : Nat} {lm : List Mp} (h : ∀ l ∈ lm, MapOk n l) {m : Mp} (w : Wd lm m) : MapOk n m := by
  induction w with
  | one hl => exact h _ hl
  | more _ hl ih => exact cmp_ok ih (h _ hl)
structure Ad (ms fs ms' : List Mp) : Prop where
  pre : ms <+: ms'
  all : ∀ f ∈ fs, f ∈ ms'
  from_ : ∀ m ∈ ms', m ∈ ms ∨ m ∈ fs
  nd : ms.Nodup → ms'.Nodup
  len : ms.length ≤ 4 → ms'.length ≤ 4
theorem addM_ad {ms ms' : List Mp} {f : Mp} (h : addM ms f = some ms') : Ad ms [f] ms' := by
  unfold addM at h
  split at h
  · rename_i hf
    cases h
    exact ⟨List.prefix_refl _, fun g hg => by simp at hg; subst hg; exact hf, fun m hm => .inl hm, id, id⟩
  · rename_i hf
    split at h
    · cases h
    · rename_i hl
      cases h
      exact ⟨List.prefix_append _ _, fun g hg => by simp at hg; subst hg; simp, fun m hm => by simpa using hm, fun nd => List.nodup_append.mpr ⟨nd, List.nodup_cons.mpr ⟨by simp, List.nodup_nil⟩, fun a ha b hb => by simp at hb; subst hb; exact fun z => hf (z ▸ ha)⟩, fun q => by simp; omega⟩
theorem addAll_ad : ∀ {fs ms ms' : List Mp}, addAll ms fs = some ms' → Ad ms fs ms'
  | [], ms, ms', h => by
    cases h
    exact ⟨List.prefix_refl _, fun g hg => by simp at hg, fun m hm => .inl hm, id, id⟩
  | f :: fs, ms, ms', h => by
    unfold addAll at h
    obtain ⟨m1, h1, h2⟩ := Option.bind_eq_some_iff.mp h
    have a1 := addM_ad h1
    have a2 := addAll_ad h2
    refine ⟨a1.pre.trans a2.pre, fun g hg => ?_, fun m hm => ?_, fun nd => a2.nd (a1.nd nd), fun l => a2.len (a1.len l)⟩
    · rcases List.mem_cons.mp hg with rfl | hg
      · exact a2.pre.subset (a1.all _ (by simp))
      · exact a2.all g hg
    · rcases a2.from_ m hm with q | q
      · rcases a1.from_ m q with q | q
        · exact .inl q
        · simp at q; subst q; exact .inr (by simp)
      · exact .inr (List.mem_cons_of_mem _ q)
theorem pre_getD {ms ms' : List Mp} {i : Nat} (h : ms <+: ms') (hi : i < ms.length) : ms'.getD i [] = ms.getD i [] := by
  obtain ⟨t, rfl⟩ := h
  rw [List.getD_eq_getElem?_getD, List.getElem?_append_left hi, ← List.getD_eq_getElem?_getD]
structure Full (lm ms : List Mp) : Prop where
  lets : ∀ l ∈ lm, l ∈ ms
  gen : ∀ m ∈ ms, Wd lm m
  cl : ∀ m ∈ ms, ∀ l ∈ lm, cmp m l ∈ ms
  nd : ms.Nodup
  len : ms.length ≤ 4
theorem genM_full {lm : List Mp} : ∀ (k : Nat) {ms R : List Mp} {i : Nat}, 5 ≤ k + i → (∀ l ∈ lm, l ∈ ms) → (∀ m ∈ ms, Wd lm m) → (∀ j < i, ∀ l ∈ lm, j < ms.length → cmp (ms.getD j []) l ∈ ms) → ms.Nodup → ms.length ≤ 4 → genM lm k ms i = some R → Full lm R ∧ ms <+: R
  | 0, ms, R, i, hk, h1, h2, h3, h4, h5, h => by
    cases h
    refine ⟨⟨h1, h2, fun m hm l hl => ?_, h4, h5⟩, List.prefix_refl _⟩
    obtain ⟨j, hj, rfl⟩ := List.mem_iff_getElem.mp hm
    have := h3 j (by omega) l hl hj
    rwa [List.getD_eq_getElem?_getD, List.getElem?_eq_getElem hj] at this
  | k + 1, ms, R, i, hk, h1, h2, h3, h4, h5, h => by
    unfold genM at h
    split at h
    · rename_i hi
      obtain ⟨m1, e1, e2⟩ := Option.bind_eq_some_iff.mp h
      have a := addAll_ad e1
      obtain ⟨q1, q2⟩ := genM_full k (by omega) (fun l hl => a.pre.subset (h1 l hl)) (fun m hm => by
        rcases a.from_ m hm with q | q
        · exact h2 m q
        · obtain ⟨l, hl, rfl⟩ := List.mem_map.mp q
          exact .more (h2 _ (getD_mem hi)) hl) (fun j hj l hl hjl => by
        rcases Nat.lt_or_ge j i with q | q
        · rw [pre_getD a.pre (by omega)]
          exact a.pre.subset (h3 j q l hl (by omega))
        · have : j = i := by omega
          subst this
          rw [pre_getD a.pre hi]
          exact a.all _ (List.mem_map_of_mem hl)) (a.nd h4) (a.len h5) e2
      exact ⟨q1, a.pre.trans q2⟩
    · rename_i hi
      cases h
      refine ⟨⟨h1, h2, fun m hm l hl => ?_, h4, h5⟩, List.prefix_refl _⟩
      obtain ⟨j, hj, rfl⟩ := List.mem_iff_getElem.mp hm
      have := h3 j (by omega) l hl hj
      rwa [List.getD_eq_getElem?_getD, List.getElem?_eq_getElem hj] at this
theorem maps_full {lm ms : List Mp} (h : mapsOf lm = some ms) : Full lm ms := by
  unfold mapsOf at h
  obtain ⟨m1, e1, e2⟩ := Option.bind_eq_some_iff.mp h
  have a := addAll_ad e1
  exact (genM_full 5 (by omega) a.all (fun m hm => by
    rcases a.from_ m hm with q | q
    · simp at q
    · exact .one q) (fun j hj => absurd hj (by omega)) (a.nd List.nodup_nil) (a.len (by simp)) e2).1
theorem Full.comp {n : Nat} {lm ms : List Mp} (F : Full lm ms) (h : ∀ l ∈ lm, MapOk n l) {a b : Mp} (ha : a ∈ ms) (hb : b ∈ ms) : cmp a b ∈ ms := by
  have key : ∀ b, Wd lm b → ∀ a ∈ ms, cmp a b ∈ ms := fun b w => by
    induction w with
    | one hl => exact fun a ha => F.cl a ha _ hl
    | more w hl ih =>
      intro a ha
      rw [cmp_assoc ((F.gen a ha).ok h) (w.ok h)]
      exact F.cl _ (ih a ha) _ hl
  exact key b (F.gen b hb) a ha
theorem Full.ok {n : Nat} {lm ms : List Mp} (F : Full lm ms) (h : ∀ l ∈ lm, MapOk n l) : ∀ m ∈ ms, MapOk n m := fun m hm => (F.gen m hm).ok h
/-! ### the semigroup of a machine -/
def lmaps (c : Nat) (T : List (List Nat)) : List Mp := (List.range c).map fun a => T.map fun r => r.getD a 0
def idxM (ms : List Mp) (m : Mp) : Nat := ms.idxOf m
def tabM (ms : List Mp) : List (List Nat) := ms.map fun a => ms.map fun b => idxM ms (cmp a b)
def valsM (ms : List Mp) (f : Nat) (S : List Nat) (i : Nat) : List Nat := (List.range i).filter fun k => S.contains ((ms.getD k []).getD f 0)
def mapsD (ms : List Mp) : D := .list (ms.map rowD)
def sgOf (lm ms : List Mp) (f : Nat) (S : List Nat) : D := .tuple [sgD (tabM ms) (lm.map (idxM ms)), rowD (valsM ms f S ms.length), .bool (S.contains f), mapsD ms]
theorem lmaps_ok {c f : Nat} {T : List (List Nat)} {S : List Nat} (h : Mc c T f S) : ∀ l ∈ lmaps c T, MapOk T.length l := fun l hl => by
  obtain ⟨a, ha, rfl⟩ := List.mem_map.mp hl
  refine ⟨by rw [List.length_map], fun v hv => ?_⟩
  obtain ⟨r, hr, rfl⟩ := List.mem_map.mp hv
  exact (h.rows r hr).2 _ (getD_mem (by rw [(h.rows r hr).1]; exact List.mem_range.mp ha))
theorem lay_maps {ms : List Mp} : Lay 2 (.list (ms.map rowD)) := lay_list (lay_map fun _ => lay_row)
theorem idx_le {x : Mp} : ∀ {ms : List Mp} {j : Nat}, ms[j]? = some x → ms.idxOf x ≤ j
  | [], j, h => by simp at h
  | y :: ms, j, h => by
    rw [List.idxOf_cons]
    by_cases e : y = x
    · simp [e]
    · cases j with
      | zero => simp at h; exact absurd h e
      | succ j =>
        have := idx_le (ms := ms) (j := j) (by simpa using h)
        have ee : (y == x) = false := by simpa using e
        rw [ee]; simp; omega
/-- how index finds a map -/
theorem find_map {ms : List Mp} {m : Mp} (h : m ∈ ms) : (ms.map rowD)[idxM ms m]? = some (rowD m) ∧ PyData.eqv (rowD m) (rowD m) = true ∧ ∀ (j : Nat) (z : D), j < idxM ms m → (ms.map rowD)[j]? = some z → PyData.eqv z (rowD m) = false := by
  have hi : idxM ms m < ms.length := List.idxOf_lt_length_of_mem h
  refine ⟨?_, (tell_row m m).mpr rfl, fun j z hj hz => ?_⟩
  · rw [List.getElem?_map, List.getElem?_eq_getElem hi]
    show some (rowD ms[ms.idxOf m]) = _
    rw [List.getElem_idxOf hi]
  · obtain ⟨x, hx, rfl⟩ := map_at hz
    rw [Bool.eq_false_iff]
    intro q
    have e := (tell_row x m).mp q
    subst e
    have := idx_le hx
    unfold idxM at hj
    omega
theorem any_map {ms : List Mp} {m : Mp} : ((ms.map rowD).any fun z => PyData.eqv z (rowD m)) = decide (m ∈ ms) := by
  rw [Bool.eq_iff_iff, List.any_eq_true, decide_eq_true_eq]
  constructor
  · rintro ⟨z, hz, q⟩
    obtain ⟨x, hx, rfl⟩ := List.mem_map.mp hz
    rw [(tell_row x m).mp q] at hx
    exact hx
  · exact fun h => ⟨rowD m, List.mem_map_of_mem h, (tell_row m m).mpr rfl⟩
def s_map_behind : Sc := fun ws ob X Q => ∃ (n : Nat) (a b : Mp), MapOk n a ∧ MapOk n b ∧ n ≤ 1000 ∧ ws = [.dat (rowD a), .dat (rowD b)] ∧ ob = [] ∧ ∀ more, Q (rowD (cmp a b)) more
def s_add_map (C : Addr) : Sc := fun ws ob X Q => ∃ (ms : List Mp) (m : Mp), ms.length ≤ 4 ∧ ws = [.ref 0, .dat (rowD m)] ∧ ob = [.lst (ms.map rowD)] ∧ (∀ ms', addM ms m = some ms' → ∀ more, Q .none (.lst (ms'.map rowD) :: more)) ∧ (addM ms m = none → ∀ more, X ⟨.ref C, none⟩ (.lst (ms.map rowD) :: more))
def s_maps_of_words (C : Addr) : Sc := fun ws ob X Q => ∃ (n : Nat) (lm : List Mp), (∀ l ∈ lm, MapOk n l) ∧ n ≤ 1000 ∧ lm.length ≤ 1000 ∧ ws = [.dat (mapsD lm)] ∧ ob = [] ∧ (∀ ms, mapsOf lm = some ms → ∀ more, Q (mapsD ms) more) ∧ (mapsOf lm = none → ∀ more, X ⟨.ref C, none⟩ more)
def s_semigroup_of (C C2 : Addr) : Sc := fun ws ob X Q => ∃ (l : Int) (rows : List (List Int)) (g : Int) (ls : List Int), rows.length ≤ 1000 ∧ (∀ r ∈ rows, r.length ≤ 1000) ∧ ls.length < 60 ∧ ws = [.dat (machD l rows g ls)] ∧ ob = [] ∧
  (∀ w, machFault l rows g ls = some w → ∀ more, X ⟨.ref C, some ("word", .str w)⟩ more) ∧
  (machFault l rows g ls = none → ∃ (c : Nat) (T : List (List Nat)) (f : Nat) (S : List Nat), Mc c T f S ∧ c ≤ 3 ∧ T.length ≤ 4 ∧ machD l rows g ls = mcD c T f S ∧ (∀ ms, mapsOf (lmaps c T) = some ms → ∀ more, Q (sgOf (lmaps c T) ms f S) more) ∧ (mapsOf (lmaps c T) = none → ∀ more, X ⟨.ref C2, none⟩ more))
end PL

/-! The law's maps, word by word. -/
namespace PL
open PySem PySem.Spec PyProof.Rows L2
def mw (T : List (List Nat)) (w : List Nat) : Mp := (List.range T.length).map fun s => lead T s w
theorem lead_snoc {T : List (List Nat)} {s a : Nat} {w : List Nat} : lead T s (w ++ [a]) = (T.getD (lead T s w) []).getD a 0 := by
  rw [lead, List.foldl_append]; rfl
theorem map_range {α : Type} {f : List Nat → α} {T : List (List Nat)} : (List.range T.length).map (fun s => f (T.getD s [])) = T.map f := by
  apply List.ext_getElem?
  intro i
  rw [List.getElem?_map, List.getElem?_map]
  by_cases h : i < T.length
  · rw [List.getElem?_range h, List.getElem?_eq_getElem h]
    show some (f (T.getD i [])) = _
    rw [List.getD_eq_getElem?_getD, List.getElem?_eq_getElem h]; rfl
  · rw [List.getElem?_eq_none (by simp; omega), List.getElem?_eq_none (by omega)]; rfl
theorem lmaps_at {c a : Nat} {T : List (List Nat)} (h : a < c) : (lmaps c T)[a]? = some (T.map fun r => r.getD a 0) := by
  unfold lmaps
  rw [List.getElem?_map, List.getElem?_range h]; rfl
theorem lmaps_len {c : Nat} {T : List (List Nat)} : (lmaps c T).length = c := by simp [lmaps]
section
variable {c : Nat} {T : List (List Nat)}
theorem mw_one {a : Nat} : mw T [a] = T.map fun r => r.getD a 0 := by
  unfold mw
  exact map_range (f := fun r => r.getD a 0)
theorem mw_snoc (h : ∀ r ∈ T, r.length = c ∧ ∀ v ∈ r, v < T.length) {w : List Nat} {a : Nat} (hw : ∀ b ∈ w, b < c) (ha : a < c) : mw T (w ++ [a]) = cmp (mw T w) (T.map fun r => r.getD a 0) := by
  unfold mw cmp
  rw [List.map_map]
  refine List.map_congr_left fun s hs => ?_
  have hl := lead_lt h (w := w) (List.mem_range.mp hs) hw
  show lead T s (w ++ [a]) = (T.map fun r => r.getD a 0).getD (lead T s w) 0
  rw [lead_snoc, List.getD_eq_getElem?_getD (l := T.map _), List.getElem?_map, List.getElem?_eq_getElem hl, List.getD_eq_getElem?_getD (l := T), List.getElem?_eq_getElem hl]; rfl
theorem mw_ok (h : ∀ r ∈ T, r.length = c ∧ ∀ v ∈ r, v < T.length) {w : List Nat} (hw : ∀ b ∈ w, b < c) : MapOk T.length (mw T w) := ⟨by simp [mw], fun v hv => by
  obtain ⟨s, hs, rfl⟩ := List.mem_map.mp hv
  exact lead_lt h (List.mem_range.mp hs) hw⟩
/-! the words in their order -/
def ext (c : Nat) (b : List Nat) : List (List Nat) := (List.range c).map fun l => b ++ [l]
def wds (c : Nat) (B : List (List Nat)) : List (List Nat) := ([] :: B).flatMap (ext c)
theorem flat_at : ∀ {X : List (List Nat)} {q j : Nat}, q < X.length → j < c → (X.flatMap (ext c))[c * q + j]? = some (X.getD q [] ++ [j])
  | [], q, j, h, _ => absurd h (by simp)
  | x :: X, q, j, h, hj => by
    have hl : (ext c x).length = c := by simp [ext]
    rw [List.flatMap_cons]
    cases q with
    | zero =>
      rw [List.getElem?_append_left (by omega), Nat.mul_zero, Nat.zero_add]
      unfold ext
      rw [List.getElem?_map, List.getElem?_range hj]; rfl
    | succ q =>
      rw [List.getElem?_append_right (by rw [hl, Nat.mul_succ]; omega), hl, show c * (q + 1) + j - c = c * q + j by rw [Nat.mul_succ]; omega, flat_at (by simpa using h) hj]
      simp
theorem wds_len {B : List (List Nat)} : (wds c B).length = (B.length + 1) * c := by
  unfold wds
  rw [flat_len' (m := c) (fun x => by simp [ext]), List.length_cons]
theorem wds_at {B : List (List Nat)} {q j : Nat} (hq : q ≤ B.length) (hj : j < c) : (wds c B)[c * q + j]? = some (([] :: B).getD q [] ++ [j]) := flat_at (by simp; omega) hj
theorem wds_more {B : List (List Nat)} {b : List Nat} : wds c B ++ ext c b = wds c (B ++ [b]) := by
  unfold wds
  rw [← List.cons_append, List.flatMap_append]
  congr 1
  simp
/-- what the program's search still does, at letter j behind the word q -/
def restP (lm ms : List Mp) (q j : Nat) : Option (List Mp) := match q with
  | 0 => (addAll ms (lm.drop j)).bind fun z => genM lm 5 z 0
  | q + 1 => (addAll ms ((lm.drop j).map (cmp (ms.getD q [])))).bind fun z => genM lm (4 - q) z (q + 1)
def candP (lm ms : List Mp) (q j : Nat) : Mp := match q with
  | 0 => lm.getD j []
  | q + 1 => cmp (ms.getD q []) (lm.getD j [])
theorem rest_0 {lm ms : List Mp} {j : Nat} : restP lm ms 0 j = (addAll ms (lm.drop j)).bind fun z => genM lm 5 z 0 := rfl
theorem rest_s {lm ms : List Mp} {q j : Nat} : restP lm ms (q + 1) j = (addAll ms ((lm.drop j).map (cmp (ms.getD q [])))).bind fun z => genM lm (4 - q) z (q + 1) := rfl
theorem rest_step {lm ms : List Mp} {q j : Nat} (hj : j < lm.length) (hq : q ≤ ms.length) (h4 : ms.length ≤ 4) : restP lm ms q j = (addM ms (candP lm ms q j)).bind fun ms' => if j + 1 < lm.length then restP lm ms' q (j + 1) else if q < ms'.length then restP lm ms' (q + 1) 0 else some ms' := by
  have ed : lm.drop j = lm.getD j [] :: lm.drop (j + 1) := by
    rw [List.drop_eq_getElem_cons hj, List.getD_eq_getElem?_getD, List.getElem?_eq_getElem hj]; rfl
  have key : ∀ ms' : List Mp, q ≤ 4 → genM lm (5 - q) ms' q = if q < ms'.length then restP lm ms' (q + 1) 0 else some ms' := fun ms' h => by
    obtain ⟨k, hk⟩ : ∃ k, 5 - q = k + 1 := ⟨4 - q, by omega⟩
    rw [hk, genM, rest_s, List.drop_zero, show 4 - q = k by omega]
  cases q with
  | zero =>
    rw [rest_0, ed, addAll, Option.bind_assoc]
    show (addM ms (lm.getD j [])).bind _ = (addM ms (lm.getD j [])).bind _
    congr 1
    funext ms'
    split
    · rfl
    · rw [List.drop_of_length_le (by omega)]
      exact key ms' (by omega)
  | succ q =>
    rw [rest_s, ed, List.map_cons, addAll, Option.bind_assoc]
    show (addM ms (cmp (ms.getD q []) (lm.getD j []))).bind _ = (addM ms (cmp (ms.getD q []) (lm.getD j []))).bind _
    cases ha : addM ms (cmp (ms.getD q []) (lm.getD j [])) with
    | none => rfl
    | some ms' =>
      have a := addM_ad ha
      show (addAll ms' _).bind _ = if _ then _ else _
      rw [← pre_getD a.pre (by omega)]
      split
      · rfl
      · rw [List.drop_of_length_le (by omega)]
        have := key ms' (by omega)
        rw [show 5 - (q + 1) = 4 - q by omega] at this
        exact this
end
def s__law_map : Sc := fun ws ob X Q => ∃ (c : Nat) (T : List (List Nat)) (f : Nat) (S w : List Nat), Mc c T f S ∧ T.length ≤ 4 ∧ (∀ b ∈ w, b < c) ∧ ws = [.dat (mcD c T f S), .dat (wdD w)] ∧ ob = [] ∧ ∀ more, Q (rowD (mw T w)) more
def s__law_maps : Sc := fun ws ob X Q => ∃ (c : Nat) (T : List (List Nat)) (f : Nat) (S : List Nat), Mc c T f S ∧ T.length ≤ 4 ∧ 1 ≤ c ∧ c ≤ 3 ∧ ws = [.dat (mcD c T f S)] ∧ ob = [] ∧
  ∀ (R : List Mp) more, R.length ≤ 5 → (R.length ≤ 4 → mapsOf (lmaps c T) = some R) → (4 < R.length → mapsOf (lmaps c T) = none) → Q (mapsD R) more
end PL

/-! The semigroup of a machine. -/
namespace PL
open PySem PySem.Spec PyProof.Rows L2
section
variable {n : Nat} {lm ms : List Mp}
theorem idx_lt {m : Mp} (h : m ∈ ms) : idxM ms m < ms.length := List.idxOf_lt_length_of_mem h
theorem at_idx {m : Mp} (h : m ∈ ms) : ms.getD (idxM ms m) [] = m := by
  have hi : ms.idxOf m < ms.length := idx_lt h
  rw [List.getD_eq_getElem?_getD]
  show (ms[ms.idxOf m]?).getD [] = m
  rw [List.getElem?_eq_getElem hi, List.getElem_idxOf hi]; rfl
theorem tab_len : (tabM ms).length = ms.length := by simp [tabM]
theorem tab_row {a : Nat} (h : a < ms.length) : (tabM ms).getD a [] = ms.map fun b => idxM ms (cmp (ms.getD a []) b) := by
  unfold tabM
  rw [List.getD_eq_getElem?_getD, List.getElem?_map, List.getElem?_eq_getElem h, List.getD_eq_getElem?_getD (l := ms), List.getElem?_eq_getElem h]; rfl
theorem tab_at {a b : Nat} (ha : a < ms.length) (hb : b < ms.length) : mulT (tabM ms) a b = idxM ms (cmp (ms.getD a []) (ms.getD b [])) := by
  unfold mulT
  rw [tab_row ha, List.getD_eq_getElem?_getD, List.getElem?_map, List.getElem?_eq_getElem hb, List.getD_eq_getElem?_getD (l := ms) (i := b), List.getElem?_eq_getElem hb]; rfl
theorem tab_sg (F : Full lm ms) (h : ∀ l ∈ lm, MapOk n l) : Sg (tabM ms) (lm.map (idxM ms)) := by
  refine ⟨fun r hr => ?_, fun r hr v hv => ?_, fun v hv => ?_⟩
  · obtain ⟨a, _, rfl⟩ := List.mem_map.mp hr
    rw [List.length_map, tab_len]
  · obtain ⟨a, ha, rfl⟩ := List.mem_map.mp hr
    obtain ⟨b, hb, rfl⟩ := List.mem_map.mp hv
    rw [tab_len]
    exact idx_lt (F.comp h ha hb)
  · obtain ⟨a, ha, rfl⟩ := List.mem_map.mp hv
    rw [tab_len]
    exact idx_lt (F.lets a ha)
theorem tab_assoc (F : Full lm ms) (h : ∀ l ∈ lm, MapOk n l) {a b c : Nat} (ha : a < ms.length) (hb : b < ms.length) (hc : c < ms.length) : mulT (tabM ms) (mulT (tabM ms) a b) c = mulT (tabM ms) a (mulT (tabM ms) b c) := by
  have ma : ms.getD a [] ∈ ms := getD_mem ha
  have mb : ms.getD b [] ∈ ms := getD_mem hb
  have mc : ms.getD c [] ∈ ms := getD_mem hc
  have hab := F.comp h ma mb
  have hbc := F.comp h mb mc
  rw [tab_at ha hb, tab_at hb hc, tab_at (idx_lt hab) hc, tab_at ha (idx_lt hbc), at_idx hab, at_idx hbc, cmp_assoc (F.ok h _ ma) (F.ok h _ mb)]
theorem vals_in {f v : Nat} {S : List Nat} (h : v < ms.length) : (valsM ms f S ms.length).contains v = S.contains ((ms.getD v []).getD f 0) := by
  rw [Bool.eq_iff_iff, List.contains_iff_mem]
  unfold valsM
  rw [List.mem_filter, List.mem_range]
  exact ⟨fun q => q.2, fun q => ⟨h, q⟩⟩
end
theorem val_map {c f : Nat} {T : List (List Nat)} {S : List Nat} {ms : List Mp} (hm : Mc c T f S) (F : Full (lmaps c T) ms) : ∀ (k : Nat) (w : List Nat), w.length = k → (∀ a ∈ w, a < c) → valueOf (tabM ms) ((lmaps c T).map (idxM ms)) w = (if w = [] then none else some (idxM ms (mw T w))) ∧ (w ≠ [] → mw T w ∈ ms)
  | 0, w, hk, _ => by
    have : w = [] := List.length_eq_zero_iff.mp hk
    subst this
    exact ⟨rfl, fun z => absurd rfl z⟩
  | k + 1, w, hk, hw => by
    obtain ⟨u, a, rfl⟩ : ∃ u a, w = u ++ [a] := ⟨w.dropLast, w.getLast (by intro z; rw [z] at hk; cases hk), (List.dropLast_concat_getLast _).symm⟩
    have hu : ∀ b ∈ u, b < c := fun b hb => hw b (List.mem_append_left _ hb)
    have ha : a < c := hw a (by simp)
    obtain ⟨ih, im⟩ := val_map hm F k u (by simpa using hk) hu
    have hl : (lmaps c T)[a]? = some (T.map fun r => r.getD a 0) := lmaps_at ha
    have hlm := List.mem_of_getElem? hl
    have hL : ((lmaps c T).map (idxM ms)).getD a 0 = idxM ms (T.map fun r => r.getD a 0) := by
      rw [List.getD_eq_getElem?_getD, List.getElem?_map, hl]; rfl
    have st : valueOf (tabM ms) ((lmaps c T).map (idxM ms)) (u ++ [a]) = vstep (tabM ms) ((lmaps c T).map (idxM ms)) (valueOf (tabM ms) ((lmaps c T).map (idxM ms)) u) a := List.foldl_append
    have hne : u ++ [a] ≠ [] := by simp
    rw [st, ih, if_neg hne]
    by_cases hn : u = []
    · subst hn
      rw [if_pos rfl]
      have e : mw T ([] ++ [a]) = T.map fun r => r.getD a 0 := mw_one
      rw [e]
      exact ⟨congrArg some hL, fun _ => F.lets _ hlm⟩
    · rw [if_neg hn]
      have hmu := im hn
      have e : mw T (u ++ [a]) = cmp (mw T u) (T.map fun r => r.getD a 0) := mw_snoc hm.rows hu ha
      have hc := F.cl _ hmu _ hlm
      refine ⟨?_, fun _ => by rw [e]; exact hc⟩
      show some (mulT _ _ _) = _
      rw [hL, tab_at (idx_lt hmu) (idx_lt (F.lets _ hlm)), at_idx hmu, at_idx (F.lets _ hlm), e]
theorem kVs_in {e : En} {ws : List Wv} {ds : List D} {k : List D → Prop} (h : vwDs e.ob ws = some ds) (hk : k ds) : kVs e ws k := by
  unfold kVs
  rw [h]
  exact hk
end PL

/-! Dicts whose keys are tuples of any depth: the rules. -/
namespace PL
open PySem PySem.Spec PyProof.Rows L2
theorem al_vals {R : V → D → Prop} : ∀ {xs : List V} {ds : List D}, Al R xs ds → True := fun _ => trivial
section
variable {X : Cx} {pins : List (Addr × Obj)} {σ : L2.St} {H : Hp} {s : Shared}
mutual
theorem nested_is (I : L2.Inv X pins σ H s) : ∀ (k : NestedKey) (v : V) (u : Value), Dp X.K H v k.data → RelV v u → NestedIs s.heap k u
  | .none, v, u, h, r => by
    cases h
    cases (show u = Value.none from r)
    exact .none
  | .num i, v, u, h, r => by
    have h : Dp X.K H v (.int i) := h
    rw [dp_int h] at r
    obtain ⟨t, rfl⟩ := r
    exact .int i t
  | .text x, v, u, h, r => by
    have h : Dp X.K H v (.str x) := h
    cases h
    obtain ⟨t, rfl⟩ := r
    exact .text x t
  | .tup ks, v, u, h, r => by
    have h : Dp X.K H v (.tuple (NestedKey.datas ks)) := h
    obtain ⟨a, xs, rfl, hs, al⟩ := dp_tuple h
    cases (show u = Value.ref a from r)
    obtain ⟨its, rv, ⟨o, ho, hc, n, hd⟩, _⟩ := I.tuple hs
    exact .tup ho hc hd (by simpa using nested_all I ks xs its al rv)
theorem nested_all (I : L2.Inv X pins σ H s) : ∀ (ks : List NestedKey) (vs : List V) (us : List Value), Al (Dp X.K H) vs (NestedKey.datas ks) → Vals vs us → NestedAll s.heap ks us
  | [], vs, us, al, r => by
    have : vs = [] := List.length_eq_zero_iff.mp al.1
    subst this
    cases r
    exact .nil
  | k :: ks, vs, us, al, r => by
    have al : Al (Dp X.K H) vs (k.data :: NestedKey.datas ks) := al
    obtain ⟨v, vs', rfl, h1, h2⟩ := al.cons_inv
    cases r with
    | cons r1 r2 => exact .cons (nested_is I k v _ h1 r1) (nested_all I ks vs' _ h2 r2)
end
/-- a key: its tuple, as data -/
def KeyAt (K : PySem.W.Frag) (H : Hp) (k : NestedKey) (b : Addr) : Prop := k.depth ≤ 8 ∧ Dp K H (.ref b) k.data
def KeysAt (K : PySem.W.Frag) (H : Hp) (xs : List Ent) : Prop := ∀ x ∈ xs, KeyAt K H x.1 x.2.1
theorem keys_is (I : L2.Inv X pins σ H s) {xs : List Ent} (h : KeysAt X.K H xs) : ∀ x ∈ xs, NestedIs s.heap x.1 (.ref x.2.1) ∧ x.1.depth ≤ 8 := fun x hx => ⟨nested_is I _ _ _ (h x hx).2 rfl, (h x hx).1⟩
theorem room_dd {A : Around} (hu : A.units + 65 < cLine) : (nestedKind X.prog X.w).room A.in1 := by
  show A.in1.units + 8 < cLine
  have : A.in1.units ≤ A.units + 57 := by
    first
      | (show A.units + 1 ≤ A.units + 57; omega)
      | (show A.units ≤ A.units + 57; omega)
  omega
/-! ### what the heap does -/
variable {a b : Addr} {xs : List Ent} {k : NestedKey} {A : Around} {E : Value → Shared → Prop}
theorem dd_get {v : V} {Q : Value → Shared → Prop} (hu : A.units + 65 < cLine) (I : L2.Inv X pins σ H s) (e : H a = some (DdO X.w a xs)) (hk : KeysAt X.K H xs) (kb : KeyAt X.K H k b) (hv : atE xs k = some v) (h : ∀ w' s', L2.Inv X pins σ H s' → RelV v w' → Q w' s') :
    wpAny (model X.prog X.w) A (getItem (.ref a) (.ref b)) Q E s := by
  have d := ddo_at I.hok e
  obtain ⟨ys, r, dd⟩ := dd_of (P := X.prog) d (keys_is I hk)
  have ra := ent_at r k
  rw [hv] at ra
  obtain ⟨w', hw, rw'⟩ := RelO.some_of (v := v) (o := (atKey ys k).map (·.2)) ra
  obtain ⟨p, hp, hp2⟩ := Option.map_eq_some_iff.mp hw
  refine wpAny_getItem_heap (room_dd hu) ⟨nested_is I _ _ _ kb.2 rfl, kb.1⟩ dd hp ?_
  rw [hp2]
  exact h w' _ (I.tok _) rw'
theorem dd_isin {Q : Value → Shared → Prop} (hu : A.units + 65 < cLine) (I : L2.Inv X pins σ H s) (e : H a = some (DdO X.w a xs)) (hk : KeysAt X.K H xs) (kb : KeyAt X.K H k b) (h : ∀ s', L2.Inv X pins σ H s' → Q (.bool (atE xs k).isSome) s') :
    wpAny (model X.prog X.w) A (compareOp .In (.ref b) (.ref a)) Q E s := by
  have d := ddo_at I.hok e
  obtain ⟨ys, r, dd⟩ := dd_of (P := X.prog) d (keys_is I hk)
  refine wpAny_in_heap (room_dd hu) ⟨nested_is I _ _ _ kb.2 rfl, kb.1⟩ d.1 dd ?_
  have q := (ent_at r k).isSome_eq
  rw [Option.isSome_map] at q
  rw [← q]
  exact h _ (I.tok _)
theorem dd_keep {s' : Heap} {v : V} {u : Value} (I : L2.Inv X pins σ H s) (e : H a = some (DdO X.w a xs)) (hl : xs.length < sizeLine) {ys : List EntV} (r : Paired EntR xs ys) (rv : RelV v u) (dd : s'.DictOfH (nestedKind X.prog X.w) a (storedH ys k b u)) (sb : Heap.SameBut a s.heap s') {t : Nat} :
    L2.Inv X pins σ (upd H a (DdO X.w a (putE xs k b v))) { s with heap := s', toks := t } := by
  have d := ddo_at I.hok e
  have new : DdIn X.w a (putE xs k b v) s' := dd_new d.1 (Nat.le_trans put_len hl) (put_nd d.2.2.1) (ent_put r k b rv) dd
  have ⟨_, _, _, _, _, o, _, _, ho, _⟩ := new
  exact I.write (e := a) (t' := t) (by rw [e]; trivial) (.inl rfl) (fun c q hc z => (sb.2 c hc).trans z) ⟨o, ho⟩ (ddo_ok new)
theorem dd_set {v : V} {u : Value} {Q : Unit → Shared → Prop} (hu : A.units + 65 < cLine) (I : L2.Inv X pins σ H s) (e : H a = some (DdO X.w a xs)) (hk : KeysAt X.K H xs) (kb : KeyAt X.K H k b) (rv : RelV v u) (hl : xs.length < sizeLine) (h : ∀ s', L2.Inv X pins σ (upd H a (DdO X.w a (putE xs k b v))) s' → Q () s') :
    wpAny (model X.prog X.w) A (setItem (.ref a) (.ref b) u) Q E s := by
  have d := ddo_at I.hok e
  obtain ⟨ys, r, dd⟩ := dd_of (P := X.prog) d (keys_is I hk)
  have hz : ys.length ≤ sizeLine := by rw [← Paired.length r]; exact d.2.1
  exact wpAny_setItem_heap (hsz := hz) (room_dd hu) ⟨nested_is I _ _ _ kb.2 rfl, kb.1⟩ dd fun h' dd' sb => h _ (dd_keep I e hl r rv dd' sb)
theorem dd_setd {v : V} {u : Value} {Q : Value → Shared → Prop} (hu : A.units + 65 < cLine) (I : L2.Inv X pins σ H s) (e : H a = some (DdO X.w a xs)) (hk : KeysAt X.K H xs) (kb : KeyAt X.K H k b) (rv : RelV v u) (hl : xs.length < sizeLine)
    (h1 : ∀ z, atE xs k = some z → ∀ w' s', L2.Inv X pins σ H s' → RelV z w' → Q w' s') (h2 : atE xs k = none → ∀ s', L2.Inv X pins σ (upd H a (DdO X.w a (putE xs k b v))) s' → Q u s') :
    wpAny (model X.prog X.w) A (call (.builtin "dict.setdefault") [.ref a, .ref b, u]) Q E s := by
  have d := ddo_at I.hok e
  obtain ⟨ys, r, dd⟩ := dd_of (P := X.prog) d (keys_is I hk)
  have hz : ys.length ≤ sizeLine := by rw [← Paired.length r]; exact d.2.1
  have ra := ent_at r k
  refine call_setdefault_heap (hsz := hz) (room_dd hu) ⟨nested_is I _ _ _ kb.2 rfl, kb.1⟩ d.1 dd (fun p hp => ?_) fun hn h' dd' sb => ?_
  · rw [hp] at ra
    cases hx : atE xs k with
    | none => rw [hx] at ra; exact ra.elim
    | some z => rw [hx] at ra; exact h1 z hx _ _ (I.tok _) ra
  · rw [hn] at ra
    cases hx : atE xs k with
    | some z => rw [hx] at ra; exact ra.elim
    | none => exact h2 hx _ (dd_keep I e hl r rv dd' sb)
theorem dd_len {Q : Value → Shared → Prop} (I : L2.Inv X pins σ H s) (e : H a = some (DdO X.w a xs)) (hk : KeysAt X.K H xs) (h : ∀ t s', L2.Inv X pins σ H s' → Q (.int (xs.length : Nat) t) s') : wpAny (model X.prog X.w) A (call (.builtin "len") [.ref a]) Q E s := by
  have d := ddo_at I.hok e
  obtain ⟨ys, r, dd⟩ := dd_of (P := X.prog) d (keys_is I hk)
  have hl := Paired.length r
  have hz := d.2.1
  refine call_len_dictH d.1 dd (by rw [← hl]; rw [sizeLine_eq] at hz; omega) ?_
  rw [← hl]
  exact h _ _ (I.tok _)
end
theorem dd_type {w : World} {h : Heap} {a : Addr} {xs : List Ent} (d : DdIn w a xs h) {s : Shared} (e : s.heap = h) : s.TypeIs (.ref a) "dict" ∧ ∀ b, Value.ref a = .ref b → ∃ ob, s.heap.get? b = some ob ∧ ob.dict = none := by
  subst e
  obtain ⟨_, _, _, _, _, o, _, _, h1, h2, _⟩ := d
  exact ⟨⟨o, h1, h2.1⟩, fun b q => by cases q; exact ⟨o, h1, h2.2.1⟩⟩
/-! ### expressions -/
def tDdGet (w : World) (K : PySem.W.Frag) (td ty : TE) : TE := fun σ H Q => td σ H fun x H1 => ty σ H1 fun y H2 => ∃ a b xs k v, x = .ref a ∧ y = .ref b ∧ H2 a = some (DdO w a xs) ∧ KeysAt K H2 xs ∧ KeyAt K H2 k b ∧ atE xs k = some v ∧ Q v H2
def tDdIn (neg : Bool) (w : World) (K : PySem.W.Frag) (ty td : TE) : TE := fun σ H Q => ty σ H fun y H1 => td σ H1 fun x H2 => ∃ a b xs k, x = .ref a ∧ y = .ref b ∧ H2 a = some (DdO w a xs) ∧ KeysAt K H2 xs ∧ KeyAt K H2 k b ∧ Q (.bl (if neg = true then !(atE xs k).isSome else (atE xs k).isSome)) H2
def tDdSetd (w : World) (K : PySem.W.Frag) (td ty tx : TE) : TE := fun σ H Q => td σ H fun x H1 => (∃ a xs, x = .ref a ∧ H1 a = some (DdO w a xs)) ∧ ty σ H1 fun y H2 => tx σ H2 fun z H3 => ∃ a b xs k, x = .ref a ∧ y = .ref b ∧ H3 a = some (DdO w a xs) ∧ KeysAt K H3 xs ∧ KeyAt K H3 k b ∧ xs.length < sizeLine ∧
  (∀ v, atE xs k = some v → Q v H3) ∧ (atE xs k = none → Q z (upd H3 a (DdO w a (putE xs k b z))))
def sDdPut (w : World) (K : PySem.W.Frag) (td ty tv : TE) : TS := fun D σ H => tv σ H fun v H1 => td σ H1 fun x H2 => ty σ H2 fun y H3 => ∃ a b xs k, x = .ref a ∧ y = .ref b ∧ H3 a = some (DdO w a xs) ∧ KeysAt K H3 xs ∧ KeyAt K H3 k b ∧ xs.length < sizeLine ∧ D.nx σ (upd H3 a (DdO w a (putE xs k b v)))
def rLenDd (w : World) (K : PySem.W.Frag) : List V → Hp → VK → Prop := fun vs H Q => ∃ a xs, vs = [.ref a] ∧ H a = some (DdO w a xs) ∧ KeysAt K H xs ∧ Q (.int (xs.length : Nat)) H
section
variable {X : Cx} {o i value e f : Expr} {td ty tv tx : TE} {pos pos' apos cpos : Pos}
theorem pe_ddnew : PE X (.Dict [] [] pos) (fun _ H Q => ∀ p, H p = none → Q (.ref p) (upd H p (DdO X.w p []))) := ⟨fun pins s σ H Q I h => by
  have new : DdIn X.w s.heap.objs.size [] (s.heap.push { cls := .type "dict", data := .dict #[] }) := ⟨beq_eq_false_iff_ne.mpr (Ne.symm (Nat.ne_of_lt I.big)), Nat.zero_le _, List.nodup_nil, [], .nil, _, #[], 0, Heap.get?_push_size _ rfl, ⟨rfl, rfl, rfl⟩, rfl, rfl⟩
  exact wpAny_Dict_empty ⟨.ref s.heap.objs.size, _, I.laid (a := s.heap.objs.size) (o := DdO X.w s.heap.objs.size []) (t' := s.toks) (fun _ _ q => Heap.get?_push_of_some _ q) (Nat.le_refl _) (ddo_ok new), rfl, h _ (I.hok.fresh (Nat.le_refl _))⟩⟩
theorem pe_ddget (hu : X.A.units + 65 < cLine) (ho : PE X o td) (hi : PE X i ty) (hs : NoSl i) : PE X (.Subscript o i pos) (tDdGet X.w X.K td ty) := by
  refine ⟨fun pins s σ H Q I h => subD_of PySem.F.slot_dict_getitem.lookup hs (thn (ho.run pins s σ H _ I h) fun u s1 ⟨x, H1, I1, rx, q1⟩ => thn (hi.run pins s1 σ H1 _ I1 q1) fun iv s2 ⟨y, H2, I2, ry, q2⟩ => ?_)⟩
  obtain ⟨a, b, xs, k, v, rfl, rfl, e, hk, kb, hv, q⟩ := q2
  cases (show u = Value.ref a from rx)
  cases (show iv = Value.ref b from ry)
  exact ⟨(dd_type (ddo_at I2.hok e) rfl).1, dd_get hu I2 e hk kb hv fun w' s3 I3 rw' => ⟨v, H2, I3, rw', q⟩⟩
theorem pc_ddin (hu : X.A.units + 65 < cLine) (hi : PE X i ty) (ho : PE X o td) : PC X .In i o (tDdIn false X.w X.K ty td) := by
  refine ⟨fun pins s σ H Q I h => thn (hi.run pins s σ H _ I h) fun iv s1 ⟨y, H1, I1, ry, q1⟩ => thn (ho.run pins s1 σ H1 _ I1 q1) fun u s2 ⟨x, H2, I2, rx, q2⟩ => ?_⟩
  obtain ⟨a, b, xs, k, rfl, rfl, e, hk, kb, q⟩ := q2
  cases (show u = Value.ref a from rx)
  cases (show iv = Value.ref b from ry)
  exact dd_isin hu I2 e hk kb fun s3 I3 => ⟨.bl (atE xs k).isSome, H2, I3, rfl, q⟩
theorem ps_ddput (hu : X.A.units + 65 < cLine) (ho : PE X o td) (hi : PE X i ty) (hv : PE X value tv) (hs : swapsWith value (some (.Subscript o i pos')) pos.line X.env = pure false) : PS X (.Assign [.Subscript o i pos'] value pos) (sDdPut X.w X.K td ty tv) := by
  refine ⟨fun pins s σ H D I h => wpAny_Assign_Subscript (thn (hv.run pins s σ H _ I h) fun r s1 ⟨v, H1, I1, rv, q1⟩ => thn (ho.run pins s1 σ H1 _ I1 q1) fun u s2 ⟨x, H2, I2, rx, q2⟩ => thn (hi.run pins s2 σ H2 _ I2 q2) fun iv s3 ⟨y, H3, I3, ry, q3⟩ => ?_) hs⟩
  obtain ⟨a, b, xs, k, rfl, rfl, e, hk, kb, hl, q⟩ := q3
  cases (show u = Value.ref a from rx)
  cases (show iv = Value.ref b from ry)
  exact dd_set hu I3 e hk kb rv hl fun s4 I4 => ⟨σ, _, I4, q⟩
theorem pe_ddsetd (hu : X.A.units + 65 < cLine) (ho : PE X o td) (he : PE X e ty) (hf : PE X f tx) (m : M2 X o "setdefault" apos e f cpos) : PE X (.Call (.Attribute o "setdefault" apos) [e, f] [] cpos) (tDdSetd X.w X.K td ty tx) := by
  refine ⟨fun pins s σ H Q I h => wpAny_Call_method m.base m.few m.line PySem.F.plainAttrs_dict PySem.F.slot_dict_setdefault PySem.F.type_dict_setdefault (thn (ho.run pins s σ H _ I h) fun u s1 ⟨x, H1, I1, rx, hx, q1⟩ => ?_)⟩
  obtain ⟨a, xs0, rfl, e0⟩ := hx
  cases (show u = Value.ref a from rx)
  obtain ⟨t1, t2⟩ := dd_type (ddo_at I1.hok e0) (s := s1) rfl
  refine ⟨t1, t2, ?_⟩
  rw [m.trees]
  refine Calls.callWith_builtin rfl (Calls.evalArgs_plain (Calls.spliced_cons (thn (he.run pins s1 σ H1 _ I1 q1) fun iv s2 ⟨y, H2, I2, ry, q2⟩ => Calls.spliced_cons (thn (hf.run pins s2 σ H2 _ I2 q2) fun fv s3 ⟨z, H3, I3, rz, q3⟩ => Calls.spliced_nil ?_))))
  obtain ⟨a', b, xs, k, ea, rfl, e, hk, kb, hl, p1, p2⟩ := q3
  cases ea
  cases (show iv = Value.ref b from ry)
  exact dd_setd hu I3 e hk kb rz hl (fun v hv w' s4 I4 rw' => ⟨v, _, I4, rw', p1 v hv⟩) fun hn s4 I4 => ⟨z, _, I4, rz, p2 hn⟩
theorem call_lenDd : CallR X (.builtin "len") (rLenDd X.w X.K) := by
  intro pins s σ H vs us Q I r h
  obtain ⟨a, xs, rfl, e, hk, q⟩ := h
  obtain ⟨u, rfl, rx⟩ := r.one
  cases (show u = Value.ref a from rx)
  exact dd_len I e hk fun t s' I' => ⟨.int (xs.length : Nat), H, I', ⟨t, rfl⟩, q⟩
theorem pc_ddnin (hu : X.A.units + 65 < cLine) (hi : PE X i ty) (ho : PE X o td) : PC X .NotIn i o (tDdIn true X.w X.K ty td) := by
  refine ⟨fun pins s σ H Q I h => thn (hi.run pins s σ H _ I h) fun iv s1 ⟨y, H1, I1, ry, q1⟩ => thn (ho.run pins s1 σ H1 _ I1 q1) fun u s2 ⟨x, H2, I2, rx, q2⟩ => ?_⟩
  obtain ⟨a, b, xs, k, rfl, rfl, e, hk, kb, q⟩ := q2
  cases (show u = Value.ref a from rx)
  cases (show iv = Value.ref b from ry)
  have d := ddo_at I2.hok e
  obtain ⟨ys, r, dd⟩ := dd_of (P := X.prog) d (keys_is I2 hk)
  refine wpAny_notIn_heap (room_dd hu) ⟨nested_is I2 _ _ _ kb.2 rfl, kb.1⟩ d.1 dd ?_
  have z := (ent_at r k).isSome_eq
  rw [Option.isSome_map] at z
  rw [← z]
  exact ⟨.bl (!(atE xs k).isSome), H2, I2.tok _, rfl, q⟩
end
/-! ### by plain data -/
def atN (kvs : List (NestedKey × D)) (k : NestedKey) : Option D := (kvs.find? fun z => decide (z.1 = k)).map (·.2)
def putN (kvs : List (NestedKey × D)) (k : NestedKey) (d : D) : List (NestedKey × D) := match atN kvs k with
  | some _ => kvs.map fun z => if z.1 = k then (z.1, d) else z
  | none => kvs ++ [(k, d)]
abbrev EnR (K : PySem.W.Frag) (G : Hp) : Ent → NestedKey × D → Prop := fun x z => x.1 = z.1 ∧ (x.1.depth ≤ 8 ∧ Dp K G (.ref x.2.1) x.1.data) ∧ Dp K G x.2.2 z.2
section
variable {K : PySem.W.Frag} {G : Hp}
theorem at_enr : ∀ {xs : List Ent} {kvs : List (NestedKey × D)}, Al (EnR K G) xs kvs → ∀ k, (∀ d, atN kvs k = some d → ∃ v, atE xs k = some v ∧ Dp K G v d) ∧ (atN kvs k = none → atE xs k = none)
  | xs, [], h, k => by
    have : xs = [] := List.length_eq_zero_iff.mp h.1
    subst this
    exact ⟨fun d q => (by cases q), fun _ => rfl⟩
  | xs, z :: kvs, h, k => by
    obtain ⟨x, xs', rfl, r, h2⟩ := h.cons_inv
    obtain ⟨i1, i2⟩ := at_enr h2 k
    unfold atN atE at *
    by_cases e : z.1 = k
    · rw [List.find?_cons_of_pos (by simpa using e), List.find?_cons_of_pos (by rw [r.1]; simpa using e)]
      exact ⟨fun d q => by cases q; exact ⟨_, rfl, r.2.2⟩, fun q => by cases q⟩
    · rw [List.find?_cons_of_neg (by simpa using e), List.find?_cons_of_neg (by rw [r.1]; simpa using e)]
      exact ⟨i1, i2⟩
theorem put_enr {xs : List Ent} {kvs : List (NestedKey × D)} (h : Al (EnR K G) xs kvs) {k : NestedKey} {b : Addr} {v : V} {d : D} (kb : k.depth ≤ 8 ∧ Dp K G (.ref b) k.data) (dp : Dp K G v d) : Al (EnR K G) (putE xs k b v) (putN kvs k d) := by
  obtain ⟨h1, h2⟩ := at_enr h k
  unfold putE putN
  cases hn : atN kvs k with
  | none =>
    rw [h2 hn]
    refine ⟨by simp [h.1], fun i x z p q => ?_⟩
    rcases Nat.lt_or_ge i xs.length with l | l
    · rw [List.getElem?_append_left l] at p
      rw [List.getElem?_append_left (by rw [← h.1]; exact l)] at q
      exact h.2 i x z p q
    · rw [List.getElem?_append_right l] at p
      rw [List.getElem?_append_right (by rw [← h.1]; exact l), ← h.1] at q
      cases hi : i - xs.length with
      | zero => rw [hi] at p q; cases p; cases q; exact ⟨rfl, kb, dp⟩
      | succ j => rw [hi] at p; simp at p
  | some d0 =>
    obtain ⟨v0, e0, _⟩ := h1 d0 hn
    rw [e0]
    refine ⟨by simp [h.1], fun i x z p q => ?_⟩
    rw [List.getElem?_map] at p q
    cases hx : xs[i]? with
    | none => rw [hx] at p; cases p
    | some x0 =>
      obtain ⟨z0, hz0, r⟩ := h.get' hx
      rw [hx] at p; rw [hz0] at q
      cases p; cases q
      dsimp only
      by_cases e : x0.1 = k
      · rw [if_pos e, if_pos (by rw [← r.1]; exact e)]
        exact ⟨r.1, r.2.1, dp⟩
      · rw [if_neg e, if_neg (by rw [← r.1]; exact e)]
        exact r
end
section
variable {prog : Program} {w : World} {A : Around} {E : Value → Shared → Prop} {s : Shared} {r : Addr} {es : Array DictEntry} {ep : Nat} {o : Obj} {Q : Value → Shared → Prop}
theorem code_tuple_dd (hh : A.handled = none) (hs : (r == sysModules) = false) (ho : s.heap.get? r = some o) (hx : o.ExactDict) (hd : o.data = .dict es ep) (hl : es.size ≤ sizeLine)
    (hQ : ∀ (h' : Heap) (tk : Nat) (acc : Array Value), (∀ b o, s.heap.get? b = some o → h'.get? b = some o) → ItemsOf (fun i v => ∃ en, es[i]? = some en ∧ v = en.key) acc es.size →
      Q (.ref h'.objs.size) { heap := h'.push { cls := .type "tuple", data := .seq acc }, gens := s.gens, drawn := s.drawn, toks := tk, os := s.os }) :
    codeAny (model prog w) A (.call (.builtin "tuple.__new__") { pos := [.type "tuple", .ref r] }) (wants Q E) s := by
  refine codeAny_of_tree (wpAny_bind (wpAny_of_eq (F.newCall_tuple_1 (.ref r)) (wpAny_pure ⟨plainId_quiet F.plain_tuple_new _, codeAny_builtin F.entry_tuple_new ?_⟩)))
  rw [Around.under_plainId F.plain_tuple_new]
  have hTI : s.TypeIs (.ref r) "dict" := ⟨o, ho, hx.1⟩
  refine wpAny_bind ?_
  unfold isType
  refine wpAny_pure (wpAny_ite_false rfl (wpAny_bind (wpAny_of_eq sub_tuple_self (wpAny_ite_false rfl (wpAny_ite_false rfl (wpAny_bind (wpAny_of_eq madeHere_tuple (wpAny_bind (wpAny_of_eq init_tuple_lookup (wpAny_ite_true rfl (wpAny_bind ?_)))))))))))
  unfold noKeywords
  refine wpAny_ite_true rfl (wpAny_pure (wpAny_bind ?_))
  unfold checkCount
  refine wpAny_ite_false rfl (wpAny_ite_false rfl (wpAny_ite_false rfl (wpAny_pure (wpAny_ite_true rfl (wpAny_bind ?_)))))
  unfold Builtin.Tuple.tupleIsExact
  refine wpAny_bind (wpAny_typeOf hTI (wpAny_pure (wpAny_ite_false rfl (wpAny_bind ?_))))
  refine W.kdu_collect (kdl_raw (w := w) hs hx hd) hh ho hl fun h' tk acc hk hacc => ?_
  refine wpAny_bind (wpAny_pure (wpAny_bind ?_))
  unfold Builtin.Tuple.tupleExact
  have e : acc.toList.toArray = acc := by simp
  rw [e]
  refine wpAny_newObj_type (hd := (by rw [← hacc.1] at hl; exact hl)) (wpAny_pure ?_)
  exact hQ h' tk acc hk hacc
theorem call_tuple_dd (hh : A.handled = none) (hs : (r == sysModules) = false) (ho : s.heap.get? r = some o) (hx : o.ExactDict) (hd : o.data = .dict es ep) (hl : es.size ≤ sizeLine)
    (hQ : ∀ (h' : Heap) (tk : Nat) (acc : Array Value), (∀ b o, s.heap.get? b = some o → h'.get? b = some o) → ItemsOf (fun i v => ∃ en, es[i]? = some en ∧ v = en.key) acc es.size →
      Q (.ref h'.objs.size) { heap := h'.push { cls := .type "tuple", data := .seq acc }, gens := s.gens, drawn := s.drawn, toks := tk, os := s.os }) :
    wpAny (model prog w) A (call (.type "tuple") [.ref r]) Q E s :=
  callType_codes F.called_tuple (F.typeCall_tuple_1 (.ref r)) F.entry_object_init (code_tuple_dd (Q := fun v s' => s'.TypeIs v "tuple" ∧ Q v s') hh hs ho hx hd hl fun h' tk acc hk hacc => ⟨⟨{ cls := .type "tuple", data := .seq acc }, Heap.get?_push_size h' rfl, rfl⟩, hQ h' tk acc hk hacc⟩)
    fun obj s₁ h₁ => ⟨h₁.1, F.args_object_init_2 obj (.ref r), object_init_meets F.called_tuple.init.lookup F.called_tuple.made (by decide) prog w A.in1 (wants (fun r s₂ => r = Value.none ∧ Q obj s₂) E) s₁ ⟨h₁.1, rfl, h₁.2⟩⟩
end
/-! ### the keys as a tuple -/
def rTupDd : List V → Hp → VK → Prop := fun vs H Q => ∃ w a xs, vs = [.ref a] ∧ H a = some (DdO w a xs) ∧ ∀ l, H l = none → Q (.ref l) (upd H l (.tup (xs.map fun x => .ref x.2.1)))
theorem call_tupDd {X : Cx} (hc : X.calm = true) : CallR X (.type "tuple") rTupDd := by
  intro pins s σ H vs us Q I r h
  obtain ⟨w, a, xs, rfl, e, q⟩ := h
  obtain ⟨u, rfl, rx⟩ := r.one
  cases (show u = Value.ref a from rx)
  obtain ⟨hs, hl, _, ys, pr, o, es, ep, ho, hx, hd, he⟩ := (I.hok a _ e).1
  have n1 : es.size = xs.length := by rw [← Array.length_toList, he, List.length_map, Paired.length pr]
  refine call_tuple_dd (I.ok.hd hc) hs ho hx hd (by rw [n1]; exact hl) fun h' tk acc hk hi => ?_
  have I2 := I.kept (t' := tk) hk
  refine ⟨.ref h'.objs.size, _, I2.laid (a := h'.objs.size) (o := .tup (xs.map fun x => .ref x.2.1)) (t' := tk) (fun c o e => Heap.get?_push_of_some _ e) (Nat.le_refl _) ⟨by rw [List.length_map]; exact hl, acc.toList, ?_, ?_⟩, rfl, q _ (I2.hok.fresh (Nat.le_refl _))⟩
  · refine vals_of_at (by simp [hi.1, n1]) fun j x u hj hu => ?_
    rw [List.getElem?_map] at hj
    cases hz : xs[j]? with
    | none => rw [hz] at hj; cases hj
    | some z =>
      rw [hz] at hj
      cases hj
      obtain ⟨en, h1, h2⟩ := hi.2 j u (by rw [← Array.getElem?_toList]; exact hu)
      have h1 : es.toList[j]? = some en := by rw [Array.getElem?_toList]; exact h1
      rw [he, List.getElem?_map] at h1
      cases hy : ys[j]? with
      | none => rw [hy] at h1; cases h1
      | some y =>
        rw [hy] at h1
        cases h1
        subst h2
        have k := (pair_at pr).2 j z y hz hy
        show Value.ref y.2.1 = .ref z.2.1
        rw [k.2.1]
  · rw [Array.toArray_toList]
    exact IsTup.new h' acc
/-! ### by plain data: the rules -/
section
variable {K : PySem.W.Frag} {E : XK} {w : World} {td ty tx te : TE} {pd pk px p : PTE}
theorem enr_keys {G H : Hp} (s : Sub G H) {xs : List Ent} {kvs : List (NestedKey × D)} (h : Al (EnR K G) xs kvs) : KeysAt K H xs := fun x hx => by
  obtain ⟨i, hi⟩ := List.getElem?_of_mem hx
  obtain ⟨z, _, r⟩ := h.get' hi
  exact ⟨r.2.1.1, dp_sub s _ _ r.2.1.2⟩
def pDdGet (w : World) (pd pk : PTE) : PTE := fun X e Q => pd X e fun x e1 => pk X e1 fun y e2 => kO e2 x fun n o => kD e2 y fun b => ∃ kvs ks d, o = .dit w kvs ∧ b = .tuple (NestedKey.datas ks) ∧ (NestedKey.tup ks).depth ≤ 8 ∧ atN kvs (.tup ks) = some d ∧ Q (.dat d) e2
def pDdIn (neg : Bool) (w : World) (pk pd : PTE) : PTE := fun X e Q => pk X e fun y e1 => pd X e1 fun x e2 => kO e2 x fun n o => kD e2 y fun b => ∃ kvs ks, o = .dit w kvs ∧ b = .tuple (NestedKey.datas ks) ∧ (NestedKey.tup ks).depth ≤ 8 ∧ Q (.dat (.bool (if neg = true then !(atN kvs (.tup ks)).isSome else (atN kvs (.tup ks)).isSome))) e2
def pDdSetd (w : World) (pd pk px : PTE) : PTE := fun X e Q => pd X e fun x e1 => kO e1 x fun n o => (∃ kv0, o = .dit w kv0) ∧ pk X e1 fun y e2 => px X e2 fun z e3 => kD e3 y fun b => kD e3 z fun v => ∃ kvs ks, e3.ob[n]? = some (.dit w kvs) ∧ b = .tuple (NestedKey.datas ks) ∧ (NestedKey.tup ks).depth ≤ 8 ∧ kvs.length ≤ 100000 ∧
  (∀ d, atN kvs (.tup ks) = some d → Q (.dat d) e3) ∧ (atN kvs (.tup ks) = none → Q (.dat v) ⟨e3.sl, e3.ob.set n (.dit w (kvs ++ [(.tup ks, v)]))⟩)
def pDdPut (w : World) (pd pk pv : PTE) : PTS := fun P e => pv P.xe e fun z e1 => pd P.xe e1 fun x e2 => pk P.xe e2 fun y e3 => kD e3 z fun v => kD e3 y fun b => kO e3 x fun n o => ∃ kvs ks, o = .dit w kvs ∧ b = .tuple (NestedKey.datas ks) ∧ (NestedKey.tup ks).depth ≤ 8 ∧ kvs.length ≤ 100000 ∧ P.nx ⟨e3.sl, e3.ob.set n (.dit w (putN kvs (.tup ks) v))⟩
def pDdLen (p : PTE) : PTE := fun X e Q => p X e fun x e1 => kO e1 x fun n o => ∃ w kvs, o = .dit w kvs ∧ Q (.dat (.int (kvs.length : Nat))) e1
def pDdTup (p : PTE) : PTE := fun X e Q => p X e fun x e1 => kO e1 x fun n o => ∃ w kvs, o = .dit w kvs ∧ Q (.dat (.tuple (kvs.map fun z => z.1.data))) e1
theorem snd_ddnew : SndE K E (fun _ H Q => ∀ p, H p = none → Q (.ref p) (upd H p (DdO w p []))) (fun X e Q => Q (.ref e.ob.length) ⟨e.sl, e.ob ++ [.dit w []]⟩) := ⟨fun H0 iv as e σ H X Q R S hq k l p hp => by
  obtain ⟨S1, l1⟩ := S.newO (o := .dit w []) (u := DdO w p []) hp rfl ⟨[], upd_same, Al.nil⟩
  exact k _ _ _ _ _ hq S1 l1 ⟨p, by rw [← S.len]; simp, rfl⟩⟩
theorem key_ref {G : Hp} {y : V} {ks : List NestedKey} (h : Dp K G y (.tuple (NestedKey.datas ks))) : ∃ b, y = .ref b ∧ Dp K G (.ref b) (NestedKey.tup ks).data := by
  obtain ⟨b, xs, rfl, _⟩ := dp_tuple h
  exact ⟨b, rfl, h⟩
theorem snd_ddget (hd : SndE K E td pd) (hk : SndE K E ty pk) : SndE K E (tDdGet w K td ty) (pDdGet w pd pk) := ⟨fun H0 iv as e σ H X Q R S h kk l => by
  refine hd.run H0 iv as e σ H X _ _ S h (fun u wx as1 e1 H1 h1 S1 l1 w1 => ?_) l
  refine hk.run H0 iv as1 e1 σ H1 X _ _ S1 h1 (fun y wk as2 e2 H2 h2 S2 l2 w2 => ?_) (l.on l1)
  obtain ⟨n, o, rfl, ho, h3⟩ := kO_elim h2
  obtain ⟨b, eb, kvs, ks, d, rfl, rfl, hk8, hat, h4⟩ := kD_elim h3
  obtain ⟨a, ha, rfl⟩ := l2.wr w1
  obtain ⟨xs, q1, q2⟩ := S2.obs n a _ ha ho
  obtain ⟨c, rfl, dc⟩ := key_ref (asD_wr S2 w2 eb)
  obtain ⟨v, e1, e2⟩ := (at_enr q2 (.tup ks)).1 d hat
  exact ⟨a, c, xs, .tup ks, v, rfl, rfl, q1, enr_keys hid_sub q2, ⟨hk8, dp_sub hid_sub _ _ dc⟩, e1, kk _ _ as2 _ H2 h4 S2 (l1.trans l2) e2⟩⟩
theorem snd_ddin {neg : Bool} (hk : SndE K E ty pk) (hd : SndE K E td pd) : SndE K E (tDdIn neg w K ty td) (pDdIn neg w pk pd) := ⟨fun H0 iv as e σ H X Q R S h kk l => by
  refine hk.run H0 iv as e σ H X _ _ S h (fun y wk as1 e1 H1 h1 S1 l1 w1 => ?_) l
  refine hd.run H0 iv as1 e1 σ H1 X _ _ S1 h1 (fun u wx as2 e2 H2 h2 S2 l2 w2 => ?_) (l.on l1)
  obtain ⟨n, o, rfl, ho, h3⟩ := kO_elim h2
  obtain ⟨b, eb, kvs, ks, rfl, rfl, hk8, h4⟩ := kD_elim h3
  obtain ⟨a, ha, rfl⟩ := w2
  obtain ⟨xs, q1, q2⟩ := S2.obs n a _ ha ho
  obtain ⟨c, rfl, dc⟩ := key_ref (asD_wr S2 (l2.wr w1) eb)
  obtain ⟨a1, a2⟩ := at_enr q2 (.tup ks)
  have ee : (atE xs (.tup ks)).isSome = (atN kvs (.tup ks)).isSome := by
    cases hn : atN kvs (.tup ks) with
    | none => rw [a2 hn]; rfl
    | some d => obtain ⟨v, ev, _⟩ := a1 d hn; rw [ev]; rfl
  refine ⟨a, c, xs, .tup ks, rfl, rfl, q1, enr_keys hid_sub q2, ⟨hk8, dp_sub hid_sub _ _ dc⟩, ?_⟩
  rw [ee]
  exact kk _ _ as2 _ H2 h4 S2 (l1.trans l2) (Dp.bl _)⟩
theorem put_new {kvs : List (NestedKey × D)} {k : NestedKey} {d : D} (h : atN kvs k = none) : putN kvs k d = kvs ++ [(k, d)] := by
  unfold putN
  rw [h]
theorem snd_ddsetd (hd : SndE K E td pd) (hk : SndE K E ty pk) (hx : SndE K E tx px) : SndE K E (tDdSetd w K td ty tx) (pDdSetd w pd pk px) := ⟨fun H0 iv as e σ H X Q R S h kk l => by
  refine hd.run H0 iv as e σ H X _ _ S h (fun u wx as1 e1 H1 h1 S1 l1 w1 => ?_) l
  obtain ⟨n, o, rfl, ho, ⟨kv0, rfl⟩, h2⟩ := kO_elim h1
  obtain ⟨a, ha, rfl⟩ := w1
  obtain ⟨xs0, q0, _⟩ := S1.obs n a _ ha ho
  refine ⟨⟨a, xs0, rfl, q0⟩, ?_⟩
  refine hk.run H0 iv as1 e1 σ H1 X _ _ S1 h2 (fun y wk as2 e2 H2 h2 S2 l2 w2 => ?_) (l.on l1)
  refine hx.run H0 iv as2 e2 σ H2 X _ _ S2 h2 (fun z wv as3 e3 H3 h3 S3 l3 w3 => ?_) (l.on (l1.trans l2))
  obtain ⟨b, eb, h4⟩ := kD_elim h3
  obtain ⟨dv, ev, kvs, ks, ho3, rfl, hk8, hz, h5, h6⟩ := kD_elim h4
  have ha3 : as3[n]? = some a := by
    obtain ⟨t2, rfl⟩ := l2.1
    obtain ⟨t3, rfl⟩ := l3.1
    rw [List.append_assoc, List.getElem?_append_left (List.getElem?_eq_some_iff.mp ha).1]
    exact ha
  obtain ⟨xs, q1, q2⟩ := S3.obs n a _ ha3 ho3
  obtain ⟨c, rfl, dc⟩ := key_ref (asD_wr S3 (l3.wr w2) eb)
  have dpv := asD_wr S3 w3 ev
  have ll := (l1.trans l2).trans l3
  obtain ⟨a1, a2⟩ := at_enr q2 (.tup ks)
  refine ⟨a, c, xs, .tup ks, rfl, rfl, q1, enr_keys hid_sub q2, ⟨hk8, dp_sub hid_sub _ _ dc⟩, by rw [q2.1, sizeLine_eq]; omega, fun v hv => ?_, fun hn => ?_⟩
  · cases hn : atN kvs (.tup ks) with
    | none => rw [a2 hn] at hv; cases hv
    | some d =>
      obtain ⟨v', e1, e2⟩ := a1 d hn
      rw [hv] at e1; cases e1
      exact kk _ _ as3 _ H3 (h5 d hn) S3 ll e2
  · cases hN : atN kvs (.tup ks) with
    | some d => obtain ⟨v', e1, e2⟩ := a1 d hN; rw [hn] at e1; cases e1
    | none =>
      have q3 := put_enr q2 (k := .tup ks) (b := c) (v := z) (d := dv) ⟨hk8, dc⟩ dpv
      rw [put_new hN] at q3
      obtain ⟨S4, l4⟩ := S3.mut (o' := .dit w (kvs ++ [(.tup ks, dv)])) (u := DdO w a (putE xs (.tup ks) c z)) ha3 ho3 rfl rfl ⟨_, upd_same, q3⟩
      exact kk _ _ as3 _ _ (h6 hN) S4 (ll.trans l4) (l4.dp dpv)⟩
theorem snd_ddput (hd : SndE K E td pd) (hk : SndE K E ty pk) (hv : SndE K E tx px) : SndS K E (sDdPut w K td ty tx) (pDdPut w pd pk px) := ⟨fun H0 iv as e σ H P F S h n b c r x => by
  refine hv.run H0 iv as e σ H P.xe _ _ S h (fun z wz as1 e1 H1 h1 S1 l1 w1 => ?_) x.lx
  refine hd.run H0 iv as1 e1 σ H1 P.xe _ _ S1 h1 (fun u wx as2 e2 H2 h2 S2 l2 w2 => ?_) (x.on l1).lx
  refine hk.run H0 iv as2 e2 σ H2 P.xe _ _ S2 h2 (fun y wk as3 e3 H3 h3 S3 l3 w3 => ?_) (x.on (l1.trans l2)).lx
  obtain ⟨dv, ev, h4⟩ := kD_elim h3
  obtain ⟨dk, ek, h5⟩ := kD_elim h4
  obtain ⟨j, o, rfl, ho, kvs, ks, rfl, rfl, hk8, hz, h6⟩ := kO_elim h5
  obtain ⟨a, ha, rfl⟩ := l3.wr w2
  obtain ⟨xs, q1, q2⟩ := S3.obs j a _ ha ho
  obtain ⟨c', rfl, dc⟩ := key_ref (asD_wr S3 w3 ek)
  have dpv := asD_wr S3 ((l2.trans l3).wr w1) ev
  refine ⟨a, c', xs, .tup ks, rfl, rfl, q1, enr_keys hid_sub q2, ⟨hk8, dp_sub hid_sub _ _ dc⟩, by rw [q2.1, sizeLine_eq]; omega, ?_⟩
  obtain ⟨S4, l4⟩ := S3.mut (o' := .dit w (putN kvs (.tup ks) dv)) (u := DdO w a (putE xs (.tup ks) c' z)) ha ho rfl rfl ⟨_, upd_same, put_enr q2 ⟨hk8, dc⟩ dpv⟩
  exact n as3 _ σ _ h6 S4 (((l1.trans l2).trans l3).trans l4)⟩
theorem snd_ddtup (h : SndE K E te p) : SndE K E (tCB rTupDd (tCons te tNil)) (pDdTup p) := ⟨fun H0 iv as e σ H X Q R S hq k l => by
  refine h.run H0 iv as e σ H X _ _ S hq (fun u wx as1 e1 H1 h1 S1 l1 w1 => ?_) l
  obtain ⟨n, o, rfl, ho, w', kvs, rfl, h2⟩ := kO_elim h1
  obtain ⟨a, ha, rfl⟩ := w1
  obtain ⟨xs, q1, q2⟩ := S1.obs n a _ ha ho
  refine ⟨w', a, xs, rfl, q1, fun q hp => ?_⟩
  obtain ⟨S2, l2⟩ := S1.grow (Sub.new (o := .tup (xs.map fun x => .ref x.2.1)) hp)
  refine k _ _ as1 e1 _ h2 S2 (l1.trans l2) (Dp.tup (.inl (.inl (S1.seen hp upd_same))) (dpAll_al.mpr ?_))
  refine ⟨by simp [q2.1], fun i x y p q => ?_⟩
  rw [List.getElem?_map] at p q
  cases hx : xs[i]? with
  | none => rw [hx] at p; cases p
  | some x0 =>
    obtain ⟨y0, hy0, r1, r2, _⟩ := q2.get' hx
    rw [hx] at p; rw [hy0] at q
    cases p; cases q
    show Dp K _ (.ref x0.2.1) y0.1.data
    rw [← r1]
    exact l2.dp r2.2⟩
theorem snd_ddlen (h : SndE K E te p) : SndE K E (tCB (rLenDd w K) (tCons te tNil)) (fun X e Q => p X e fun x e1 => kO e1 x fun n o => ∃ kvs, o = .dit w kvs ∧ Q (.dat (.int (kvs.length : Nat))) e1) := ⟨fun H0 iv as e σ H X Q R S hq k l => by
  refine h.run H0 iv as e σ H X _ _ S hq (fun u wx as1 e1 H1 h1 S1 l1 w1 => ?_) l
  obtain ⟨n, o, rfl, ho, kvs, rfl, h2⟩ := kO_elim h1
  obtain ⟨a, ha, rfl⟩ := w1
  obtain ⟨xs, q1, q2⟩ := S1.obs n a _ ha ho
  refine ⟨a, xs, rfl, q1, enr_keys hid_sub q2, ?_⟩
  rw [q2.1]
  exact k _ _ as1 e1 _ h2 S1 l1 (Dp.int _)⟩
end
end PL

/-! Lines put down once: trees, the recursive way, the waiting list's way. -/
namespace PL
open PySem PySem.Spec PyProof.Rows L2

inductive Tr where
  | none
  | empty
  | letter (a : Nat)
  | or (s t : Tr)
  | not (s : Tr)
  | behind (s t : Tr)
def Tr.size : Tr → Nat
  | .none => 1
  | .empty => 1
  | .letter _ => 1
  | .or s t => s.size + t.size + 1
  | .not s => s.size + 1
  | .behind s t => s.size + t.size + 1
def Tr.ok : Tr → Prop
  | .none => True
  | .empty => True
  | .letter a => a < 3
  | .or s t => s.ok ∧ t.ok
  | .not s => s.ok
  | .behind s t => s.ok ∧ t.ok
def Ln.tr (T : List Tr) : Ln → Tr
  | .none => .none
  | .empty => .empty
  | .letter a => .letter a
  | .or a b => .or (T.getD a .none) (T.getD b .none)
  | .not a => .not (T.getD a .none)
  | .behind a b => .behind (T.getD a .none) (T.getD b .none)
def trees (ls : List Ln) : List Tr := ls.foldl (fun T l => T ++ [l.tr T]) []
theorem trees_snoc {ls : List Ln} {l : Ln} : trees (ls ++ [l]) = trees ls ++ [l.tr (trees ls)] := by
  unfold trees
  rw [List.foldl_append]
  rfl
theorem trees_app : ∀ (B A : List Ln), ∃ C, trees (A ++ B) = trees A ++ C
  | [], A => ⟨[], by simp⟩
  | l :: B, A => by
    obtain ⟨C, h⟩ := trees_app B (A ++ [l])
    rw [List.append_assoc] at h
    exact ⟨[l.tr (trees A)] ++ C, by rw [← List.append_assoc, ← trees_snoc]; exact h⟩
theorem trees_go : ∀ (ls : List Ln) (T : List Tr), (ls.foldl (fun T l => T ++ [l.tr T]) T).length = T.length + ls.length
  | [], T => rfl
  | l :: ls, T => by rw [List.foldl_cons, trees_go ls, List.length_append, List.length_cons]; simp; omega
theorem trees_len {ls : List Ln} : (trees ls).length = ls.length := by
  unfold trees
  rw [trees_go]; simp
theorem getD_app {T C : List Tr} {a : Nat} (h : a < T.length) : (T ++ C).getD a .none = T.getD a .none := by
  rw [List.getD_eq_getElem?_getD, List.getD_eq_getElem?_getD, List.getElem?_append_left h]
theorem tr_app {T C : List Tr} : ∀ {l : Ln}, l.ok T.length → l.tr (T ++ C) = l.tr T
  | .none, _ => rfl
  | .empty, _ => rfl
  | .letter _, _ => rfl
  | .or a b, h => by
    have h : a < T.length ∧ b < T.length := h
    simp only [Ln.tr, getD_app h.1, getD_app h.2]
  | .not a, h => by
    have h : a < T.length := h
    simp only [Ln.tr, getD_app h]
  | .behind a b, h => by
    have h : a < T.length ∧ b < T.length := h
    simp only [Ln.tr, getD_app h.1, getD_app h.2]
theorem ok_mono {k m : Nat} (hk : k ≤ m) : ∀ {l : Ln}, l.ok k → l.ok m
  | .none, _ => trivial
  | .empty, _ => trivial
  | .letter _, h => h
  | .or a b, h => by
    have h : a < k ∧ b < k := h
    exact ⟨by omega, by omega⟩
  | .not a, h => by
    have h : a < k := h
    exact (show a < m by omega)
  | .behind a b, h => by
    have h : a < k ∧ b < k := h
    exact ⟨by omega, by omega⟩
theorem trees_at {ls : List Ln} (ok : OkF ls) {i : Nat} {l : Ln} (h : ls[i]? = some l) : (trees ls)[i]? = some (l.tr (trees ls)) := by
  have hi := (List.getElem?_eq_some_iff.mp h).1
  have e : ls = (ls.take i ++ [l]) ++ ls.drop (i + 1) := by
    rw [← take_snoc h, List.take_append_drop]
  obtain ⟨C, hC⟩ := trees_app (ls.drop (i + 1)) (ls.take i ++ [l])
  rw [← e, trees_snoc] at hC
  have hl : (trees (ls.take i)).length = i := by rw [trees_len, List.length_take]; omega
  have e2 : l.tr (trees ls) = l.tr (trees (ls.take i)) := by
    rw [hC, List.append_assoc]
    exact tr_app (by rw [hl]; exact ok.ok i l h)
  rw [e2, hC, List.getElem?_append_left (by simp [hl]), List.getElem?_append_right (by omega), hl]
  simp
theorem getDt_mem {T : List Tr} {a : Nat} (h : a < T.length) : T.getD a .none ∈ T := by
  rw [List.getD_eq_getElem?_getD, List.getElem?_eq_getElem h]
  exact List.getElem_mem h
theorem getD_at {T : List Tr} {a : Nat} {t : Tr} (h : T[a]? = some t) : T.getD a .none = t := by
  rw [List.getD_eq_getElem?_getD, h]; rfl
theorem nd_at {T : List Tr} (nd : T.Nodup) {a b : Nat} {t : Tr} (ha : T[a]? = some t) (hb : T[b]? = some t) : a = b := by
  obtain ⟨h1, e1⟩ := List.getElem?_eq_some_iff.mp ha
  obtain ⟨h2, e2⟩ := List.getElem?_eq_some_iff.mp hb
  exact (List.getElem_inj nd).mp (e1.trans e2.symm)
theorem nd_getD {T : List Tr} (nd : T.Nodup) {a b : Nat} (ha : a < T.length) (hb : b < T.length) (h : T.getD a .none = T.getD b .none) : a = b := by
  refine nd_at nd (t := T.getD a .none) ?_ ?_
  · rw [List.getD_eq_getElem?_getD, List.getElem?_eq_getElem ha]; rfl
  · rw [h, List.getD_eq_getElem?_getD, List.getElem?_eq_getElem hb]; rfl
theorem tr_inj {T : List Tr} (nd : T.Nodup) {l m : Ln} (hl : l.ok T.length) (hm : m.ok T.length) (h : l.tr T = m.tr T) : l = m := by
  cases l <;> cases m <;> simp only [Ln.tr, reduceCtorEq, Tr.letter.injEq, Tr.or.injEq, Tr.not.injEq, Tr.behind.injEq] at h <;> try rfl
  · rw [h]
  · obtain ⟨h1, h2⟩ := h
    rw [nd_getD nd hl.1 hm.1 h1, nd_getD nd hl.2 hm.2 h2]
  · rw [nd_getD nd (show _ < T.length from hl) hm h]
  · obtain ⟨h1, h2⟩ := h
    rw [nd_getD nd hl.1 hm.1 h1, nd_getD nd hl.2 hm.2 h2]
structure WF (R : List Ln) : Prop where
  ok : OkF R
  nd : (trees R).Nodup
theorem wf_nil : WF [] := ⟨⟨fun i l h => by simp at h⟩, List.nodup_nil⟩
theorem ok_at {R : List Ln} (h : OkF R) {k : Nat} {l : Ln} (e : R[k]? = some l) : l.ok (trees R).length := by
  have := (List.getElem?_eq_some_iff.mp e).1
  exact ok_mono (by rw [trees_len]; omega) (h.ok k l e)
theorem row_of {R : List Ln} (h : OkF R) {t : Tr} (ht : t ∈ trees R) : ∃ (k : Nat) (l : Ln), R[k]? = some l ∧ (trees R)[k]? = some t ∧ t = l.tr (trees R) ∧ l.ok (trees R).length := by
  obtain ⟨k, hk⟩ := List.getElem?_of_mem ht
  have hl : k < R.length := by rw [← trees_len]; exact (List.getElem?_eq_some_iff.mp hk).1
  have e := trees_at h (List.getElem?_eq_getElem hl)
  rw [hk] at e
  cases e
  exact ⟨k, _, List.getElem?_eq_getElem hl, hk, rfl, ok_at h (List.getElem?_eq_getElem hl)⟩
theorem mem_iff {R : List Ln} (h : WF R) {l : Ln} (hl : l.ok R.length) : l ∈ R ↔ l.tr (trees R) ∈ trees R := by
  constructor
  · intro hm
    obtain ⟨k, hk⟩ := List.getElem?_of_mem hm
    exact List.mem_of_getElem? (trees_at h.ok hk)
  · intro hm
    obtain ⟨k, m, h1, h2, h3, h4⟩ := row_of h.ok hm
    have e := tr_inj h.nd (by rw [trees_len]; exact hl) h4 h3
    rw [e]
    exact List.mem_of_getElem? h1
theorem sub_not {R : List Ln} (h : OkF R) {s : Tr} (ht : .not s ∈ trees R) : s ∈ trees R := by
  obtain ⟨k, l, h1, h2, h3, h4⟩ := row_of h ht
  cases l <;> simp only [Ln.tr, reduceCtorEq, Tr.not.injEq] at h3
  rw [h3]; exact getDt_mem h4
theorem sub_or {R : List Ln} (h : OkF R) {s t : Tr} (ht : .or s t ∈ trees R) : s ∈ trees R ∧ t ∈ trees R := by
  obtain ⟨k, l, h1, h2, h3, h4⟩ := row_of h ht
  cases l <;> simp only [Ln.tr, reduceCtorEq, Tr.or.injEq] at h3
  rw [h3.1, h3.2]; exact ⟨getDt_mem h4.1, getDt_mem h4.2⟩
theorem sub_behind {R : List Ln} (h : OkF R) {s t : Tr} (ht : .behind s t ∈ trees R) : s ∈ trees R ∧ t ∈ trees R := by
  obtain ⟨k, l, h1, h2, h3, h4⟩ := row_of h ht
  cases l <;> simp only [Ln.tr, reduceCtorEq, Tr.behind.injEq] at h3
  rw [h3.1, h3.2]; exact ⟨getDt_mem h4.1, getDt_mem h4.2⟩
/-! ### put down -/
open Classical in
noncomputable def ixL : List Ln → Ln → Nat
  | [], _ => 0
  | x :: xs, l => if x = l then 0 else ixL xs l + 1
theorem ixL_at : ∀ {R : List Ln} {l : Ln}, l ∈ R → R[ixL R l]? = some l
  | x :: xs, l, h => by
    unfold ixL
    by_cases e : x = l
    · rw [if_pos e, e]; rfl
    · rw [if_neg e, List.getElem?_cons_succ]
      exact ixL_at ((List.mem_cons.mp h).resolve_left (fun z => e z.symm))
open Classical in
theorem ixL_lt : ∀ {R : List Ln} {l : Ln} {m : Nat} {x : Ln}, m < ixL R l → R[m]? = some x → x ≠ l
  | [], l, m, x, h, e => by simp at e
  | y :: ys, l, m, x, h, e => by
    have h : m < (if y = l then 0 else ixL ys l + 1) := h
    by_cases z : y = l
    · rw [if_pos z] at h; omega
    · rw [if_neg z] at h
      cases m with
      | zero => cases e; exact z
      | succ m =>
        rw [List.getElem?_cons_succ] at e
        exact ixL_lt (R := ys) (m := m) (by omega) e
theorem ixL_new : ∀ {R : List Ln} {l : Ln}, l ∉ R → ixL (R ++ [l]) l = R.length
  | [], l, _ => by simp [ixL]
  | x :: xs, l, h => by
    have h1 : x ≠ l := fun z => h (by rw [z]; exact List.mem_cons_self ..)
    rw [List.cons_append, ixL, if_neg h1, ixL_new (fun z => h (List.mem_cons_of_mem _ z))]
    rfl
open Classical in
noncomputable def putR (R : List Ln) (l : Ln) : List Ln := if l ∈ R then R else R ++ [l]
noncomputable def addL (R : List Ln) (l : Ln) : List Ln × Nat := (putR R l, ixL (putR R l) l)
noncomputable def insT : Tr → List Ln → List Ln × Nat
  | .none, R => addL R .none
  | .empty, R => addL R .empty
  | .letter a, R => addL R (.letter a)
  | .not s, R => addL (insT s R).1 (.not (insT s R).2)
  | .or s t, R => addL (insT t (insT s R).1).1 (.or (insT s R).2 (insT t (insT s R).1).2)
  | .behind s t, R => addL (insT t (insT s R).1).1 (.behind (insT s R).2 (insT t (insT s R).1).2)
theorem putR_len {R : List Ln} {l : Ln} : (putR R l).length ≤ R.length + 1 := by
  unfold putR
  split <;> simp
theorem insT_len : ∀ (t : Tr) (R : List Ln), (insT t R).1.length ≤ R.length + t.size
  | .none, R => putR_len
  | .empty, R => putR_len
  | .letter a, R => putR_len
  | .not s, R => by
    have h := insT_len s R
    have q := putR_len (R := (insT s R).1) (l := .not (insT s R).2)
    show (putR _ _).length ≤ R.length + (s.size + 1)
    omega
  | .or s t, R => by
    have h := insT_len s R
    have h2 := insT_len t (insT s R).1
    have q := putR_len (R := (insT t (insT s R).1).1) (l := .or (insT s R).2 (insT t (insT s R).1).2)
    show (putR _ _).length ≤ R.length + (s.size + t.size + 1)
    omega
  | .behind s t, R => by
    have h := insT_len s R
    have h2 := insT_len t (insT s R).1
    have q := putR_len (R := (insT t (insT s R).1).1) (l := .behind (insT s R).2 (insT t (insT s R).1).2)
    show (putR _ _).length ≤ R.length + (s.size + t.size + 1)
    omega
structure InsOk (t : Tr) (R : List Ln) (p : List Ln × Nat) : Prop where
  wf : WF p.1
  pre : ∃ C, p.1 = R ++ C
  at_ : (trees p.1)[p.2]? = some t
  new : ∀ s ∈ trees p.1, s ∈ trees R ∨ s.size ≤ t.size
  old : t ∈ trees R → p.1 = R
  last : t ∉ trees R → p.2 + 1 = p.1.length
theorem okf_snoc {R : List Ln} {l : Ln} (h : OkF R) (hl : l.ok R.length) : OkF (R ++ [l]) := ⟨fun j m hj => by
  rcases Nat.lt_or_ge j R.length with q | q
  · rw [List.getElem?_append_left q] at hj; exact h.ok j m hj
  · rw [List.getElem?_append_right q] at hj
    have e0 : j - R.length = 0 := by
      have := (List.getElem?_eq_some_iff.mp hj).1
      simp at this; omega
    rw [e0] at hj
    cases hj
    rw [show j = R.length by omega]; exact hl⟩
theorem add_ok {R : List Ln} {l : Ln} (h : WF R) (hl : l.ok R.length) : InsOk (l.tr (trees R)) R (addL R l) := by
  unfold addL putR
  by_cases hm : l ∈ R
  · rw [if_pos hm]
    have hk := ixL_at hm
    exact ⟨h, ⟨[], by simp⟩, trees_at h.ok hk, fun s hs => .inl hs, fun _ => rfl, fun z => absurd ((mem_iff h hl).mp hm) z⟩
  · rw [if_neg hm]
    have hn := fun z => hm ((mem_iff h hl).mpr z)
    refine ⟨⟨okf_snoc h.ok hl, ?_⟩, ⟨[l], rfl⟩, ?_, fun s hs => ?_, fun z => absurd z hn, fun _ => by rw [ixL_new hm]; simp⟩
    · rw [trees_snoc]
      refine List.nodup_append.mpr ⟨h.nd, by simp, fun a ha b hb e => ?_⟩
      simp at hb
      subst hb; subst e
      exact hn ha
    · dsimp only
      rw [ixL_new hm, trees_snoc, List.getElem?_append_right (by rw [trees_len]; exact Nat.le_refl _), trees_len]
      simp
    · rw [trees_snoc] at hs
      rcases List.mem_append.mp hs with hs | hs
      · exact .inl hs
      · simp at hs; rw [hs]; exact .inr (Nat.le_refl _)
theorem pre_trees {R R' : List Ln} (h : ∃ C, R' = R ++ C) : ∃ D, trees R' = trees R ++ D := by
  obtain ⟨C, rfl⟩ := h
  exact trees_app C R
theorem pre_at {R R' : List Ln} (h : ∃ C, R' = R ++ C) {n : Nat} {t : Tr} (e : (trees R)[n]? = some t) : (trees R')[n]? = some t := by
  obtain ⟨D, hD⟩ := pre_trees h
  rw [hD, List.getElem?_append_left (List.getElem?_eq_some_iff.mp e).1]
  exact e
theorem pre_mem {R R' : List Ln} (h : ∃ C, R' = R ++ C) {t : Tr} (e : t ∈ trees R) : t ∈ trees R' := by
  obtain ⟨D, hD⟩ := pre_trees h
  rw [hD]
  exact List.mem_append_left _ e
theorem pre_trans {A B C : List Ln} (h : ∃ X, B = A ++ X) (k : ∃ X, C = B ++ X) : ∃ X, C = A ++ X := by
  obtain ⟨X, rfl⟩ := h
  obtain ⟨Y, rfl⟩ := k
  exact ⟨X ++ Y, by simp⟩
theorem at_lt {R : List Ln} {n : Nat} {t : Tr} (e : (trees R)[n]? = some t) : n < R.length := by
  rw [← trees_len]; exact (List.getElem?_eq_some_iff.mp e).1
theorem ins_ok : ∀ (t : Tr) {R : List Ln}, t.ok → WF R → InsOk t R (insT t R)
  | .none, R, _, h => add_ok (l := .none) h trivial
  | .empty, R, _, h => add_ok (l := .empty) h trivial
  | .letter a, R, ht, h => add_ok (l := .letter a) h ht
  | .not s, R, ht, h => by
    have i1 := ins_ok s (R := R) ht h
    have q := add_ok (l := .not (insT s R).2) i1.wf (at_lt i1.at_)
    have e : (Ln.not (insT s R).2).tr (trees (insT s R).1) = .not s := by simp only [Ln.tr, getD_at i1.at_]
    rw [e] at q
    refine ⟨q.wf, pre_trans i1.pre q.pre, q.at_, fun u hu => ?_, fun hm => ?_, fun hm => ?_⟩
    · rcases q.new u hu with z | z
      · rcases i1.new u z with z | z
        · exact .inl z
        · exact .inr (by simp only [Tr.size]; omega)
      · exact .inr z
    · have z := i1.old (sub_not h.ok hm)
      exact (q.old (by rw [z]; exact hm)).trans z
    · refine q.last fun z => ?_
      rcases i1.new _ z with z | z
      · exact hm z
      · simp only [Tr.size] at z; omega
  | .or s t, R, ht, h => by
    have i1 := ins_ok s (R := R) ht.1 h
    have i2 := ins_ok t (R := (insT s R).1) ht.2 i1.wf
    have a1 := pre_at i2.pre i1.at_
    have q := add_ok (l := .or (insT s R).2 (insT t (insT s R).1).2) i2.wf ⟨at_lt a1, at_lt i2.at_⟩
    have e : (Ln.or (insT s R).2 (insT t (insT s R).1).2).tr (trees (insT t (insT s R).1).1) = .or s t := by simp only [Ln.tr, getD_at a1, getD_at i2.at_]
    rw [e] at q
    refine ⟨q.wf, pre_trans (pre_trans i1.pre i2.pre) q.pre, q.at_, fun u hu => ?_, fun hm => ?_, fun hm => ?_⟩
    · rcases q.new u hu with z | z
      · rcases i2.new u z with z | z
        · rcases i1.new u z with z | z
          · exact .inl z
          · exact .inr (by simp only [Tr.size]; omega)
        · exact .inr (by simp only [Tr.size]; omega)
      · exact .inr z
    · obtain ⟨m1, m2⟩ := sub_or h.ok hm
      have z := i1.old m1
      have z2 := i2.old (by rw [z]; exact m2)
      exact (q.old (by rw [z2, z]; exact hm)).trans (z2.trans z)
    · refine q.last fun z => ?_
      rcases i2.new _ z with z | z
      · rcases i1.new _ z with z | z
        · exact hm z
        · simp only [Tr.size] at z; omega
      · simp only [Tr.size] at z; omega
  | .behind s t, R, ht, h => by
    have i1 := ins_ok s (R := R) ht.1 h
    have i2 := ins_ok t (R := (insT s R).1) ht.2 i1.wf
    have a1 := pre_at i2.pre i1.at_
    have q := add_ok (l := .behind (insT s R).2 (insT t (insT s R).1).2) i2.wf ⟨at_lt a1, at_lt i2.at_⟩
    have e : (Ln.behind (insT s R).2 (insT t (insT s R).1).2).tr (trees (insT t (insT s R).1).1) = .behind s t := by simp only [Ln.tr, getD_at a1, getD_at i2.at_]
    rw [e] at q
    refine ⟨q.wf, pre_trans (pre_trans i1.pre i2.pre) q.pre, q.at_, fun u hu => ?_, fun hm => ?_, fun hm => ?_⟩
    · rcases q.new u hu with z | z
      · rcases i2.new u z with z | z
        · rcases i1.new u z with z | z
          · exact .inl z
          · exact .inr (by simp only [Tr.size]; omega)
        · exact .inr (by simp only [Tr.size]; omega)
      · exact .inr z
    · obtain ⟨m1, m2⟩ := sub_behind h.ok hm
      have z := i1.old m1
      have z2 := i2.old (by rw [z]; exact m2)
      exact (q.old (by rw [z2, z]; exact hm)).trans (z2.trans z)
    · refine q.last fun z => ?_
      rcases i2.new _ z with z | z
      · rcases i1.new _ z with z | z
        · exact hm z
        · simp only [Tr.size] at z; omega
      · simp only [Tr.size] at z; omega
theorem ins_same {R : List Ln} {t : Tr} {n : Nat} (ht : t.ok) (h : WF R) (e : (trees R)[n]? = some t) : insT t R = (R, n) := by
  have i := ins_ok t ht h
  have z := i.old (List.mem_of_getElem? e)
  have a := i.at_
  rw [z] at a
  have b := nd_at h.nd a e
  exact Prod.ext z b
end PL

/-! The waiting list's walk puts down the same lines. -/
namespace PL
open PySem PySem.Spec PyProof.Rows L2
abbrev Nm2 := List (Nat × Nat)
def lk (N : Nm2) (i : Nat) : Option Nat := (N.find? fun p => p.1 == i).map (·.2)
def nmF (N : Nm2) : List (Key × D) := N.map fun p => (.inl (p.1 : Int), nD p.2)
theorem lk_cons {p : Nat × Nat} {N : Nm2} {i : Nat} : lk (p :: N) i = if p.1 = i then some p.2 else lk N i := by
  unfold lk
  by_cases h : p.1 = i
  · rw [List.find?_cons_of_pos (by simpa using h), if_pos h]; rfl
  · rw [List.find?_cons_of_neg (by simpa using h), if_neg h]
theorem lk_snoc {N : Nm2} {v n i : Nat} (h : lk N v = none) : lk (N ++ [(v, n)]) i = if v = i then some n else lk N i := by
  induction N with
  | nil => rw [List.nil_append, lk_cons]
  | cons p N ih =>
    rw [lk_cons] at h
    by_cases hp : p.1 = v
    · rw [if_pos hp] at h; cases h
    · rw [if_neg hp] at h
      rw [List.cons_append, lk_cons, lk_cons, ih h]
      by_cases h1 : p.1 = i
      · rw [if_pos h1, if_pos h1, if_neg (fun z => hp (by omega))]
      · rw [if_neg h1, if_neg h1]
theorem lk_mem {N : Nm2} {v : Nat} : lk N v = none ↔ v ∉ N.map (·.1) := by
  induction N with
  | nil => exact ⟨fun _ h => by simp at h, fun _ => rfl⟩
  | cons p N ih =>
    rw [lk_cons, List.map_cons, List.mem_cons]
    by_cases h : p.1 = v
    · rw [if_pos h]
      exact ⟨fun z => (by cases z), fun z => absurd (Or.inl h.symm) z⟩
    · rw [if_neg h, ih]
      exact ⟨fun z q => q.elim (fun e => h e.symm) z, fun z q => z (.inr q)⟩
theorem look_nm {i : Nat} : ∀ {N : Nm2}, lookD ((nmF N).map fun z => (keyD z.1, z.2)) (nD i) = (lk N i).map nD
  | [] => rfl
  | p :: N => by
    show (if keq (.int (p.1 : Int)) (.int (i : Int)) = true then some (nD p.2) else lookD ((nmF N).map fun z => (keyD z.1, z.2)) (nD i)) = _
    rw [look_nm (N := N), lk_cons]
    have e : keq (.int (p.1 : Int)) (.int (i : Int)) = decide ((p.1 : Int) = (i : Int)) := rfl
    rw [e]
    by_cases h : p.1 = i
    · rw [if_pos h, if_pos (by simp; omega)]; rfl
    · rw [if_neg h, if_neg (by simp; omega)]
theorem put_nm {N : Nm2} {v n : Nat} (h : lk N v = none) : putD (nmF N) (.inl (v : Int)) (nD n) = nmF (N ++ [(v, n)]) := by
  unfold putD
  have hv := lk_mem.mp h
  rw [if_neg, nmF, nmF, List.map_append]
  · rfl
  · intro z
    rw [List.any_eq_true] at z
    obtain ⟨kv, h1, h2⟩ := z
    obtain ⟨p, hp, rfl⟩ := List.mem_map.mp h1
    have h2 : (Sum.inl (p.1 : Int) : Key) = .inl (v : Int) := by simpa using h2
    have h3 : (p.1 : Int) = (v : Int) := Sum.inl.inj h2
    exact hv (List.mem_map.mpr ⟨p, hp, by omega⟩)
def Ln.ren (f : Nat → Nat) : Ln → Ln
  | .or a b => .or (f a) (f b)
  | .not a => .not (f a)
  | .behind a b => .behind (f a) (f b)
  | l => l
def fN (N : Nm2) (i : Nat) : Nat := (lk N i).getD 0
def miss (N : Nm2) (l : Ln) : List Nat := l.parts.filter fun p => (lk N p).isNone
section
variable {T : List Tr} {R : List Ln} {N : Nm2} {l : Ln}
def NumOk (T : List Tr) (R : List Ln) (N : Nm2) : Prop := ∀ i n, lk N i = some n → (trees R)[n]? = some (T.getD i .none)
theorem ins_again {t : Tr} (h : WF R) (ht : t.ok) : insT t (insT t R).1 = insT t R := by
  have i := ins_ok t ht h
  exact ins_same ht i.wf i.at_
theorem ins_kept {s t : Tr} {n : Nat} (h : WF R) (hs : s.ok) (ht : t.ok) (e : (trees R)[n]? = some s) : insT s (insT t R).1 = ((insT t R).1, n) := by
  have i := ins_ok t ht h
  exact ins_same hs i.wf (pre_at i.pre e)
theorem push_same (h : WF R) (hn : NumOk T R N) (hT : ∀ t ∈ T, t.ok) (hl : l.ok T.length) {p : Nat} {ms : List Nat} (hm : miss N l = p :: ms) : p ∈ l.parts ∧ lk N p = none ∧ (insT (l.tr T) (insT (T.getD p .none) R).1).1 = (insT (l.tr T) R).1 := by
  have hp : p ∈ miss N l := by rw [hm]; exact List.mem_cons_self ..
  have hp := List.mem_filter.mp hp
  refine ⟨hp.1, by simpa using hp.2, ?_⟩
  have gok : ∀ a, a < T.length → (T.getD a .none).ok := fun a ha => hT _ (getDt_mem ha)
  have two : ∀ (a b : Nat) (c : Nat → Nat → Ln) (f : Tr), a < T.length → b < T.length → l.parts = [a, b] → (∀ R, insT f R = addL (insT (T.getD b .none) (insT (T.getD a .none) R).1).1 (c (insT (T.getD a .none) R).2 (insT (T.getD b .none) (insT (T.getD a .none) R).1).2)) → (insT f (insT (T.getD p .none) R).1).1 = (insT f R).1 := fun a b c f ha hb e hf => by
    rw [hf, hf]
    unfold miss at hm
    rw [e] at hm
    cases hla : lk N a with
    | none =>
      rw [List.filter_cons_of_pos (by simp [hla])] at hm
      cases hm
      rw [ins_again h (gok p ha)]
    | some n =>
      rw [List.filter_cons_of_neg (by simp [hla])] at hm
      cases hlb : lk N b with
      | none =>
        rw [List.filter_cons_of_pos (by simp [hlb])] at hm
        cases hm
        have ea := hn a n hla
        rw [ins_kept h (gok a ha) (gok p hb) ea, ins_same (gok a ha) h ea]
        dsimp only
        rw [ins_again h (gok p hb)]
      | some m =>
        rw [List.filter_cons_of_neg (by simp [hlb])] at hm
        cases hm
  cases l with
  | none => cases hm
  | empty => cases hm
  | letter a => cases hm
  | or a b => exact two a b .or _ hl.1 hl.2 rfl fun R => rfl
  | behind a b => exact two a b .behind _ hl.1 hl.2 rfl fun R => rfl
  | not a =>
    have hl : a < T.length := hl
    unfold miss Ln.parts at hm
    cases hla : lk N a with
    | none =>
      rw [List.filter_cons_of_pos (by simp [hla])] at hm
      cases hm
      show (insT (.not (T.getD p .none)) _).1 = (insT (.not (T.getD p .none)) _).1
      simp only [insT]
      rw [ins_again h (gok p hl)]
    | some n =>
      rw [List.filter_cons_of_neg (by simp [hla])] at hm
      cases hm
theorem pop_same (h : WF R) (hn : NumOk T R N) (hT : ∀ t ∈ T, t.ok) (hl : l.ok T.length) (hm : miss N l = []) : (∀ p ∈ l.parts, ∃ n, lk N p = some n) ∧ insT (l.tr T) R = addL R (l.ren (fN N)) := by
  have gok : ∀ a, a < T.length → (T.getD a .none).ok := fun a ha => hT _ (getDt_mem ha)
  have all : ∀ p ∈ l.parts, ∃ n, lk N p = some n := fun p hp => by
    cases q : lk N p with
    | some n => exact ⟨n, rfl⟩
    | none =>
      have : p ∈ miss N l := List.mem_filter.mpr ⟨hp, by rw [q]; rfl⟩
      rw [hm] at this
      simp at this
  refine ⟨all, ?_⟩
  have get : ∀ a, a < T.length → a ∈ l.parts → insT (T.getD a .none) R = (R, fN N a) := fun a ha hp => by
    obtain ⟨n, hq⟩ := all a hp
    rw [ins_same (gok a ha) h (hn a n hq), fN, hq]; rfl
  cases l with
  | none => rfl
  | empty => rfl
  | letter a => rfl
  | not a =>
    show insT (.not (T.getD a .none)) R = _
    simp only [insT]
    rw [get a hl (by simp [Ln.parts])]
    rfl
  | or a b =>
    show insT (.or (T.getD a .none) (T.getD b .none)) R = _
    simp only [insT]
    rw [get a hl.1 (by simp [Ln.parts])]
    dsimp only
    rw [get b hl.2 (by simp [Ln.parts])]
    rfl
  | behind a b =>
    show insT (.behind (T.getD a .none) (T.getD b .none)) R = _
    simp only [insT]
    rw [get a hl.1 (by simp [Ln.parts])]
    dsimp only
    rw [get b hl.2 (by simp [Ln.parts])]
    rfl
end
theorem tr_ok {T : List Tr} (hT : ∀ t ∈ T, t.ok) : ∀ {l : Ln}, l.ok T.length → (l.tr T).ok
  | .none, _ => trivial
  | .empty, _ => trivial
  | .letter a, h => h
  | .or a b, h => ⟨hT _ (getDt_mem h.1), hT _ (getDt_mem h.2)⟩
  | .not a, h => (show (T.getD a .none).ok from hT _ (getDt_mem h))
  | .behind a b, h => ⟨hT _ (getDt_mem h.1), hT _ (getDt_mem h.2)⟩
theorem trees_ok {ls : List Ln} (ok : OkF ls) : ∀ t ∈ trees ls, t.ok := by
  have key : ∀ n, n ≤ ls.length → ∀ t ∈ trees (ls.take n), t.ok := fun n => by
    induction n with
    | zero => intro _ t ht; simp [trees] at ht
    | succ n ih =>
      intro hn t ht
      have hl : ls[n]? = some ls[n] := List.getElem?_eq_getElem (by omega)
      rw [take_snoc hl, trees_snoc] at ht
      rcases List.mem_append.mp ht with ht | ht
      · exact ih (by omega) t ht
      · simp only [List.mem_singleton] at ht
        rw [ht]
        exact tr_ok (ih (by omega)) (by rw [trees_len, List.length_take]; exact ok_mono (by omega) (ok.ok n _ hl))
  have := key ls.length (Nat.le_refl _)
  rw [List.take_length] at this
  exact this
/-- what is put down when all that waits is done, the last one first -/
noncomputable def allDone (T : List Tr) (W : List Nat) (R : List Ln) : List Ln := W.foldr (fun w R => (insT (T.getD w .none) R).1) R
theorem done_snoc {T : List Tr} {W : List Nat} {w : Nat} {R : List Ln} : allDone T (W ++ [w]) R = allDone T W (insT (T.getD w .none) R).1 := by
  unfold allDone
  rw [List.foldr_append]; rfl
structure Walk (ls : List Ln) (R : List Ln) (N : Nm2) (W : List Nat) : Prop where
  wf : WF R
  num : NumOk (trees ls) R N
  lt : ∀ i n, lk N i = some n → i < ls.length
  nd : (N.map (·.1)).Nodup
  few : R.length ≤ N.length
  free : ∀ w ∈ W, lk N w = none
  deep : ∀ (i w : Nat), W[i]? = some w → w + i < ls.length
  dec : ∀ (i j v w : Nat), i < j → W[i]? = some v → W[j]? = some w → w < v
  res : allDone (trees ls) W R = (insT ((trees ls).getD (ls.length - 1) .none) []).1
variable {ls : List Ln} {R : List Ln} {N : Nm2} {W : List Nat}
theorem Walk.start (h : 1 ≤ ls.length) : Walk ls [] [] [ls.length - 1] := by
  refine ⟨wf_nil, fun i n z => (by cases z), fun i n z => (by cases z), List.nodup_nil, Nat.le_refl _, fun w _ => rfl, fun i w z => ?_, fun i j v w hij h1 h2 => ?_, rfl⟩
  · cases i with
    | zero => cases z; omega
    | succ i => simp at z
  · cases j with
    | zero => omega
    | succ j => simp at h2
theorem Walk.numLt (k : Walk ls R N W) : ∀ x ∈ N.map (·.1), x < ls.length := fun x hx => by
  cases q : lk N x with
  | none => exact absurd hx (lk_mem.mp q)
  | some n => exact k.lt x n q
theorem Walk.len (k : Walk ls R N W) : N.length ≤ ls.length := by
  have := nodup_le k.nd k.numLt
  simpa using this
theorem line_tree (ok : OkF ls) {w : Nat} {l : Ln} (h : ls[w]? = some l) : (trees ls).getD w .none = l.tr (trees ls) ∧ l.ok (trees ls).length ∧ ∀ p ∈ l.parts, p < w := by
  refine ⟨getD_at (trees_at ok h), ok_at ok h, fun p hp => ?_⟩
  have o := ok.ok w l h
  cases l with
  | none => simp [Ln.parts] at hp
  | empty => simp [Ln.parts] at hp
  | letter a => simp [Ln.parts] at hp
  | or a b =>
    simp only [Ln.parts, List.mem_cons, List.not_mem_nil, or_false] at hp
    rcases hp with rfl | rfl
    · exact o.1
    · exact o.2
  | not a =>
    simp only [Ln.parts, List.mem_cons, List.not_mem_nil, or_false] at hp
    subst hp; exact o
  | behind a b =>
    simp only [Ln.parts, List.mem_cons, List.not_mem_nil, or_false] at hp
    rcases hp with rfl | rfl
    · exact o.1
    · exact o.2
theorem Walk.push (ok : OkF ls) {w p : Nat} {l : Ln} {ms : List Nat} (k : Walk ls R N (W ++ [w])) (h : ls[w]? = some l) (hm : miss N l = p :: ms) : Walk ls R N (W ++ [w] ++ [p]) ∧ p < w := by
  obtain ⟨e, hl, hp⟩ := line_tree ok h
  obtain ⟨m1, m2, m3⟩ := push_same k.wf k.num (trees_ok ok) hl hm
  have pw := hp p m1
  have top : (W ++ [w])[W.length]? = some w := by simp
  refine ⟨⟨k.wf, k.num, k.lt, k.nd, k.few, fun v hv => ?_, fun i v hv => ?_, fun i j v u hij h1 h2 => ?_, ?_⟩, pw⟩
  · rcases List.mem_append.mp hv with hv | hv
    · exact k.free v hv
    · simp only [List.mem_singleton] at hv; rw [hv]; exact m2
  · rcases Nat.lt_or_ge i (W ++ [w]).length with z | z
    · rw [List.getElem?_append_left z] at hv; exact k.deep i v hv
    · rw [List.getElem?_append_right z] at hv
      have e0 : i - (W ++ [w]).length = 0 := by
        have := (List.getElem?_eq_some_iff.mp hv).1
        simp at this ⊢; omega
      rw [e0] at hv
      cases hv
      have := k.deep W.length w top
      simp at z e0
      omega
  · have hi : i < (W ++ [w]).length := by
      have := (List.getElem?_eq_some_iff.mp h2).1
      simp at this ⊢; omega
    rw [List.getElem?_append_left hi] at h1
    rcases Nat.lt_or_ge j (W ++ [w]).length with z | z
    · rw [List.getElem?_append_left z] at h2; exact k.dec i j v u hij h1 h2
    · rw [List.getElem?_append_right z] at h2
      have e0 : j - (W ++ [w]).length = 0 := by
        have := (List.getElem?_eq_some_iff.mp h2).1
        simp at this ⊢; omega
      rw [e0] at h2
      cases h2
      simp at hi
      rcases Nat.lt_or_ge i W.length with q | q
      · have := k.dec i W.length v w q h1 top
        omega
      · have : i = W.length := by omega
        subst this
        rw [top] at h1
        cases h1
        exact pw
  · rw [done_snoc, ← k.res, done_snoc, done_snoc, e, m3]
theorem Walk.pop (ok : OkF ls) {w : Nat} {l : Ln} (k : Walk ls R N (W ++ [w])) (h : ls[w]? = some l) (hm : miss N l = []) : Walk ls (putR R (l.ren (fN N))) (N ++ [(w, ixL (putR R (l.ren (fN N))) (l.ren (fN N)))]) W ∧ N.length < ls.length ∧ lk N w = none := by
  obtain ⟨e, hl, hp⟩ := line_tree ok h
  obtain ⟨m1, m2⟩ := pop_same k.wf k.num (trees_ok ok) hl hm
  have fw : lk N w = none := k.free w (by simp)
  have i := ins_ok (l.tr (trees ls)) (tr_ok (trees_ok ok) hl) k.wf
  rw [m2] at i
  have hw : w < ls.length := (List.getElem?_eq_some_iff.mp h).1
  have nd2 : ((N ++ [(w, ixL (putR R (l.ren (fN N))) (l.ren (fN N)))]).map (·.1)).Nodup := by
    rw [List.map_append]
    refine List.nodup_append.mpr ⟨k.nd, by simp, fun a ha b hb e => ?_⟩
    simp at hb
    rw [e, hb] at ha
    exact lk_mem.mp fw ha
  have lt2 : ∀ x ∈ (N ++ [(w, ixL (putR R (l.ren (fN N))) (l.ren (fN N)))]).map (·.1), x < ls.length := fun x hx => by
    rw [List.map_append] at hx
    rcases List.mem_append.mp hx with hx | hx
    · exact k.numLt x hx
    · simp at hx; omega
  have more := nodup_le nd2 lt2
  refine ⟨⟨i.wf, fun j n hj => ?_, fun j n hj => ?_, nd2, ?_, fun v hv => ?_, fun j v hv => ?_, fun j1 j2 v u hij h1 h2 => ?_, ?_⟩, by simp at more; omega, fw⟩
  · rw [lk_snoc fw] at hj
    by_cases z : w = j
    · rw [if_pos z] at hj
      cases hj
      rw [← z, e]
      exact i.at_
    · rw [if_neg z] at hj
      exact pre_at i.pre (k.num j n hj)
  · rw [lk_snoc fw] at hj
    by_cases z : w = j
    · rw [← z]; exact hw
    · rw [if_neg z] at hj; exact k.lt j n hj
  · have := putR_len (R := R) (l := l.ren (fN N))
    have := k.few
    simp; omega
  · obtain ⟨j, hj⟩ := List.getElem?_of_mem hv
    have hjl := (List.getElem?_eq_some_iff.mp hj).1
    have a1 : (W ++ [w])[j]? = some v := by rw [List.getElem?_append_left hjl]; exact hj
    have a2 : (W ++ [w])[W.length]? = some w := by simp
    have := k.dec j W.length v w hjl a1 a2
    rw [lk_snoc fw, if_neg (by omega)]
    exact k.free v (by simp [hv])
  · exact k.deep j v (by rw [List.getElem?_append_left (List.getElem?_eq_some_iff.mp hv).1]; exact hv)
  · exact k.dec j1 j2 v u hij (by rw [List.getElem?_append_left (List.getElem?_eq_some_iff.mp h1).1]; exact h1) (by rw [List.getElem?_append_left (List.getElem?_eq_some_iff.mp h2).1]; exact h2)
  · have q := k.res
    rw [done_snoc, e, m2] at q
    exact q
/-- a filter put down -/
noncomputable def trimF (ls : List Ln) : List Ln := (insT ((trees ls).getD (ls.length - 1) .none) []).1
theorem Walk.fin (k : Walk ls R N []) : R = trimF ls ∧ R.length ≤ ls.length := ⟨k.res, Nat.le_trans k.few k.len⟩
theorem trim_ok (ok : OkF ls) (h : 1 ≤ ls.length) : OkF (trimF ls) ∧ 1 ≤ (trimF ls).length ∧ (trees (trimF ls)).getD ((trimF ls).length - 1) .none = (trees ls).getD (ls.length - 1) .none := by
  have ht : ((trees ls).getD (ls.length - 1) .none).ok := trees_ok ok _ (getDt_mem (by rw [trees_len]; omega))
  have i := ins_ok _ ht wf_nil
  have hl := i.last (by simp [trees])
  unfold trimF
  refine ⟨i.wf.ok, by omega, ?_⟩
  have := i.at_
  rw [show (insT ((trees ls).getD (ls.length - 1) Tr.none) []).2 = (insT ((trees ls).getD (ls.length - 1) Tr.none) []).1.length - 1 by omega] at this
  exact getD_at this
theorem trim_trim (ok : OkF ls) (h : 1 ≤ ls.length) : trimF (trimF ls) = trimF ls := by
  have := (trim_ok ok h).2.2
  show (insT ((trees (trimF ls)).getD ((trimF ls).length - 1) .none) []).1 = trimF ls
  rw [this]
  rfl
/-! ### what is taken -/
def spT (w : List Nat) : Tr → SpF
  | .none => tk [] w .none
  | .empty => tk [] w .empty
  | .letter a => tk [] w (.letter a)
  | .or s t => tk [spT w s, spT w t] w (.or 0 1)
  | .not s => tk [spT w s] w (.not 0)
  | .behind s t => tk [spT w s, spT w t] w (.behind 0 1)
theorem sp_getD {w : List Nat} {T : List Tr} {a : Nat} : (T.map (spT w)).getD a noF = spT w (T.getD a .none) := by
  rw [List.getD_eq_getElem?_getD, List.getD_eq_getElem?_getD, List.getElem?_map]
  cases T[a]? <;> rfl
theorem sp_tr {w : List Nat} {T : List Tr} {l : Ln} : tk (T.map (spT w)) w l = spT w (l.tr T) := by
  cases l <;> simp only [tk, Ln.tr, spT, sp_getD] <;> rfl
theorem sp_go {w : List Nat} : ∀ (ls : List Ln) (T : List Tr), ls.foldl (fun F l => F ++ [tk F w l]) (T.map (spT w)) = (ls.foldl (fun T l => T ++ [l.tr T]) T).map (spT w)
  | [], T => rfl
  | l :: ls, T => by
    rw [List.foldl_cons, List.foldl_cons, sp_tr, ← sp_go ls (T ++ [l.tr T]), List.map_append]
    rfl
theorem spans_trees {ls : List Ln} {w : List Nat} : spans ls w = (trees ls).map (spT w) := sp_go ls []
theorem takn_tree {ls : List Ln} {w : List Nat} : takn ls w = spT w ((trees ls).getD (ls.length - 1) .none) 0 w.length := by
  unfold takn
  rw [spans_trees, sp_getD]
theorem trim_takn {w : List Nat} (ok : OkF ls) (h : 1 ≤ ls.length) : takn (trimF ls) w = takn ls w := by
  rw [takn_tree, takn_tree, (trim_ok ok h).2.2]
theorem tree_size {ls : List Ln} (ok : OkF ls) : ∀ (i : Nat), i < ls.length → ((trees ls).getD i .none).size < 2 ^ (i + 1) := fun i => by
  induction i using Nat.strongRecOn with
  | _ i ih =>
    intro hi
    have hl : ls[i]? = some ls[i] := List.getElem?_eq_getElem hi
    obtain ⟨e, ho, hp⟩ := line_tree ok hl
    have o := ok.ok i _ hl
    rw [e]
    have pw : 2 ≤ 2 ^ (i + 1) := by
      have : 2 ^ 1 ≤ 2 ^ (i + 1) := Nat.pow_le_pow_right (by decide) (by omega)
      omega
    have sm : ∀ a, a < i → ((trees ls).getD a .none).size + 1 ≤ 2 ^ i := fun a ha => by
      have h1 := ih a ha (by omega)
      have h2 : 2 ^ (a + 1) ≤ 2 ^ i := Nat.pow_le_pow_right (by decide) (by omega)
      omega
    have dbl : 2 ^ (i + 1) = 2 ^ i + 2 ^ i := by rw [Nat.pow_succ]; omega
    revert o
    cases ls[i] with
    | none => intro _; simp only [Ln.tr, Tr.size]; omega
    | empty => intro _; simp only [Ln.tr, Tr.size]; omega
    | letter a => intro _; simp only [Ln.tr, Tr.size]; omega
    | or a b => intro o; have := sm a o.1; have := sm b o.2; simp only [Ln.tr, Tr.size]; omega
    | behind a b => intro o; have := sm a o.1; have := sm b o.2; simp only [Ln.tr, Tr.size]; omega
    | not a => intro o; have := sm a o; simp only [Ln.tr, Tr.size]; omega
end PL

/-! Rules for dicts with tuple keys, stars, index of an own list; the texts of trimmed filters. -/
namespace PL
open PySem PySem.Spec PyProof.Rows L2
/-! ### a star -/
def pStar (pa : PTE) (pr : PTA) : PTA := fun X e Q => pa X e fun w e1 => kD e1 w fun d => ∃ ds, (d = .list ds ∨ d = .tuple ds) ∧ pr X e1 fun ws e2 => Q (ds.map .dat ++ ws) e2
section
variable {K : PySem.W.Frag} {E : XK} {ta tb : TE} {pa pb : PTE} {tr : L2.TA} {pr : PTA}
theorem snd_star (ha : SndE K E ta pa) (hr : SndA K E tr pr) : SndA K E (StX.tStar K ta tr) (pStar pa pr) := ⟨fun H0 iv as e σ H X Q R S h k l => by
  refine ha.run H0 iv as e σ H X _ _ S h (fun x wx as1 e1 H1 h1 S1 l1 w1 => ?_) l
  obtain ⟨d, ed, ds, hd, h2⟩ := kD_elim h1
  have dp := asD_wr S1 w1 ed
  have go : ∀ xs, Al (Dp K (hid iv as1 e1.ob H1)) xs ds → tr σ H1 fun ys H2 => R (xs ++ ys) H2 := fun xs al => by
    refine hr.run H0 iv as1 e1 σ H1 X _ _ S1 h2 (fun vs ws as2 e2 H2 h3 S2 l2 w2 => ?_) (l.on l1)
    refine k _ _ as2 e2 H2 h3 S2 (l1.trans l2) (Al.appL ?_ w2)
    exact al_map.mpr (al.mono fun x d z => (show WR K _ _ x (.dat d) from l2.dp z))
  rcases hd with rfl | rfl
  · obtain ⟨a, xs, rfl, hs, al⟩ := dp_list dp
    exact ⟨a, xs, rfl, .inr (sql_sub hid_sub hs), go xs al⟩
  · obtain ⟨a, xs, rfl, hs, al⟩ := dp_tuple dp
    exact ⟨a, xs, rfl, .inl (sqt_sub hid_sub hs), go xs al⟩⟩
/-! ### index of an own list -/
def pIdxV (pa pb : PTE) : PTE := fun X e Q => pa X e fun w e1 => kV' e1 w fun d0 => (∃ ds0, d0 = .list ds0) ∧ pb X e1 fun y e2 => kV' e2 w fun d => kD e2 y fun z => ∃ (ds : List D) (j : Nat) (zz : D), d = .list ds ∧ SeqAt.shaped (.list ds) = true ∧ SeqAt.shaped z = true ∧ ds[j]? = some zz ∧ PyData.eqv zz z = true ∧ (∀ (m : Nat) (z' : D), m < j → ds[m]? = some z' → PyData.eqv z' z = false) ∧ Q (.dat (.int (j : Nat))) e2
theorem snd_idxV (ha : SndE K E ta pa) (hb : SndE K E tb pb) : SndE K E (tBM K "list" (rIndexD K) ta (tCons tb tNil)) (pIdxV pa pb) := ⟨fun H0 iv as e σ H X Q R S h k l => by
  refine ha.run H0 iv as e σ H X _ _ S h (fun x wx as1 e1 H1 h1 S1 l1 w1 => ?_) l
  obtain ⟨d0, ed0, ⟨ds0, rfl⟩, h2⟩ := kV_elim h1
  obtain ⟨a, xs, rfl, hs, al⟩ := rv_list hid_sub (vwD_wr S1 w1 ed0)
  refine ⟨.inl ⟨rfl, xs, hs⟩, hb.run H0 iv as1 e1 σ H1 X _ _ S1 h2 (fun y wy as2 e2 H2 h3 S2 l2 w2 => ?_) (l.on l1)⟩
  obtain ⟨d, ed, h4⟩ := kV_elim h3
  obtain ⟨z, ez, ds, j, zz, rfl, s1, s2, q1, q2, q3, q4⟩ := kD_elim h4
  have dp := rv_dp hid_sub (vwD_wr S2 (l2.wr w1) ed) (fun kvs e => by cases e)
  exact ⟨a, y, z, ds, j, zz, rfl, rfl, dp, dp_sub hid_sub _ _ (asD_wr S2 w2 ez), s1, s2, q1, q2, q3, k _ _ as2 e2 H2 q4 S2 (l1.trans l2) (Dp.int _)⟩⟩
end
section
variable {X : Cx} {E : XK} {K : PySem.W.Frag} {w : World} {a b c : Expr} {ta tb tc : TE} {pa pb pc : PTE} {es : List Expr} {tr : L2.TA} {pr : PTA} {pos p2 apos cpos : Pos}
theorem ad_star (ha : PD X E a ta pa) (hr : AD X E es tr pr) (hs : starEach (a.Starred pos :: es) X.env = (true, eval a X.env) :: starEach es X.env := by rfl) : AD X E (a.Starred pos :: es) (StX.tStar X.K ta tr) (pStar pa pr) := ⟨StX.pa_star ha.a hr.a hs, snd_star ha.b hr.b⟩
theorem pd_indexV (hu : X.A.units + 65 < cLine) (ha : PD X E a ta pa) (hr : PD X E b tb pb)
    (hbase : attributeBase a "index" X.env (eval a X.env) = eval a X.env := by rfl)
    (hfew : ((backTo cpos (starEach (b :: []) X.env)).all (fun x => !x.1) && (backToKw cpos (keywordEach [] X.env)).all (fun x => x.1.isSome)
      && decide ((b :: ([] : List Expr)).length + ([] : List Keyword).length + (if ([] : List Keyword).isEmpty then 0 else 1) < 30)) = true := by rfl)
    (hline : (apos.endLine == cpos.line) = true := by rfl) (hs : starEach (b :: []) X.env = (false, eval b X.env) :: starEach [] X.env := by rfl) (hplain : (backTo cpos (starEach [] X.env)).any (·.1) = false := by rfl) (hK : X.K = K := by rfl) :
    PD X E (.Call (.Attribute a "index" apos) [b] [] cpos) (tBM K "list" (rIndexD K) ta (tCons tb tNil)) (pIdxV pa pb) := by
  subst hK
  exact ⟨pe_bm PySem.F.plainAttrs_list PySem.F.slot_list_index PySem.F.type_list_index (mt_indexD hu) ha.a (pa_cons hr.a pa_nil hs) hbase hfew hline hs hplain, snd_idxV ha.b hr.b⟩
theorem pd_ddnew (hw : X.w = w := by rfl) : PD X E (.Dict [] [] pos) (fun _ H Q => ∀ p, H p = none → Q (.ref p) (upd H p (DdO w p []))) (fun X e Q => Q (.ref e.ob.length) ⟨e.sl, e.ob ++ [.dit w []]⟩) := by
  subst hw
  exact ⟨pe_ddnew, snd_ddnew⟩
theorem pd_ddget (hu : X.A.units + 65 < cLine) (ha : PD X E a ta pa) (hb : PD X E b tb pb) (hs : NoSl b := by exact fun _ _ => rfl) (hw : X.w = w := by rfl) : PD X E (.Subscript a b pos) (tDdGet w X.K ta tb) (pDdGet w pa pb) := by
  subst hw
  exact ⟨pe_ddget hu ha.a hb.a hs, snd_ddget ha.b hb.b⟩
theorem pd_ddsetd (hu : X.A.units + 65 < cLine) (ha : PD X E a ta pa) (hb : PD X E b tb pb) (hc : PD X E c tc pc) (m : M2 X a "setdefault" apos b c cpos) (hw : X.w = w := by rfl) : PD X E (.Call (.Attribute a "setdefault" apos) [b, c] [] cpos) (tDdSetd w X.K ta tb tc) (pDdSetd w pa pb pc) := by
  subst hw
  exact ⟨pe_ddsetd hu ha.a hb.a hc.a m, snd_ddsetd ha.b hb.b hc.b⟩
theorem pd_ddlen (hg : Gl X "len") (hm : X.mg "len" = none) (ha : PD X E a ta pa) (he : starEach [a] X.env = (false, eval a X.env) :: starEach [] X.env := by rfl) (hpl : (backTo pos (starEach [] X.env)).any (·.1) = false := by rfl) (hw : X.w = w := by rfl) :
    PD X E (.Call (.Name "len" p2) [a] [] pos) (tCB (rLenDd w X.K) (tCons ta tNil)) (fun X e Q => pa X e fun x e1 => kO e1 x fun n o => ∃ kvs, o = .dit w kvs ∧ Q (.dat (.int (kvs.length : Nat))) e1) := by
  subst hw
  exact ⟨pe_callB call_lenDd hg hm (by decide +kernel) (pa_cons ha.a pa_nil he) (by decide) (by decide) he hpl, snd_ddlen ha.b⟩
theorem pd_ddtup (hc : X.calm = true) (hg : Gl X "tuple") (hm : X.mg "tuple" = none) (ha : PD X E a ta pa) (he : starEach [a] X.env = (false, eval a X.env) :: starEach [] X.env := by rfl) (hpl : (backTo pos (starEach [] X.env)).any (·.1) = false := by rfl) :
    PD X E (.Call (.Name "tuple" p2) [a] [] pos) (tCB rTupDd (tCons ta tNil)) (pDdTup pa) := ⟨pe_callTy (call_tupDd hc) hg hm (by decide +kernel) (pa_cons ha.a pa_nil he) (by decide) (by decide) he hpl, snd_ddtup ha.b⟩
end
/-- a block that nothing reaches -/
theorem bd_nev {X : Cx} {E : XK} {st : List Stmt} : BD X E st (fun _ _ _ => False) (fun _ _ => False) := ⟨⟨fun _ _ _ _ _ _ h => h.elim⟩, ⟨fun _ _ _ _ _ _ _ _ _ h _ _ _ _ _ => h.elim⟩⟩
/-! ### lines as keys -/
def lnD (l : Ln) : D := rawD l.raw
def Ln.ks : Ln → List NestedKey
  | .none => [.text "none"]
  | .empty => [.text "empty"]
  | .letter a => [.text "letter", .num a]
  | .or a b => [.text "or", .num a, .num b]
  | .not a => [.text "not", .num a]
  | .behind a b => [.text "behind", .num a, .num b]
theorem ks_data (l : Ln) : lnD l = .tuple (NestedKey.datas l.ks) := by cases l <;> rfl
theorem ks_depth (l : Ln) : (NestedKey.tup l.ks).depth ≤ 8 := by cases l <;> exact Nat.le_of_ble_eq_true rfl
theorem lnD_inj {l m : Ln} (h : lnD l = lnD m) : l = m := by
  have ne1 : ∀ {x y : Str} {xs ys : List D}, (PyData.tuple (.str x :: xs)) = .tuple (.str y :: ys) → x = y ∧ xs = ys := fun h => by
    injection h with h; injection h with h1 h2; injection h1 with h1; exact ⟨h1, h2⟩
  have num1 : ∀ {a b : Nat}, [PyData.int (a : Int)] = [PyData.int (b : Int)] → a = b := fun h => by
    injection h with h _; injection h with h; omega
  have num2 : ∀ {a b c d : Nat}, [PyData.int (a : Int), PyData.int (b : Int)] = [PyData.int (c : Int), PyData.int (d : Int)] → a = c ∧ b = d := fun h => by
    injection h with h h2; injection h with h; injection h2 with h2 _; injection h2 with h2; omega
  cases l <;> cases m
  case none.none => rfl
  case empty.empty => rfl
  case letter.letter => rw [num1 (ne1 h).2]
  case or.or => obtain ⟨h1, h2⟩ := num2 (ne1 h).2; rw [h1, h2]
  case not.not => rw [num1 (ne1 h).2]
  case behind.behind => obtain ⟨h1, h2⟩ := num2 (ne1 h).2; rw [h1, h2]
  all_goals
    have z := (ne1 h).1
    simp only [Ln.raw] at z
    exact absurd z (by decide +kernel)
theorem ks_inj {l m : Ln} (h : NestedKey.tup l.ks = .tup m.ks) : l = m := by
  refine lnD_inj ?_
  rw [ks_data, ks_data]
  injection h with h
  rw [h]
def kvG (n : Nat) : List Ln → List (NestedKey × D)
  | [] => []
  | l :: R => (.tup l.ks, nD n) :: kvG (n + 1) R
theorem kvG_snoc {l : Ln} : ∀ {R : List Ln} {n : Nat}, kvG n (R ++ [l]) = kvG n R ++ [(.tup l.ks, nD (n + R.length))]
  | [], n => rfl
  | x :: R, n => by
    rw [List.cons_append, kvG, kvG_snoc, kvG, List.cons_append, List.length_cons, show n + 1 + R.length = n + (R.length + 1) by omega]
open Classical in
theorem kvG_at {l : Ln} : ∀ {R : List Ln} {n : Nat}, (l ∈ R → atN (kvG n R) (.tup l.ks) = some (nD (n + ixL R l))) ∧ (l ∉ R → atN (kvG n R) (.tup l.ks) = none)
  | [], n => ⟨fun h => by simp at h, fun _ => rfl⟩
  | x :: R, n => by
    obtain ⟨h1, h2⟩ := kvG_at (l := l) (R := R) (n := n + 1)
    have e1 : kvG n (x :: R) = (.tup x.ks, nD n) :: kvG (n + 1) R := rfl
    have e2 : ixL (x :: R) l = if x = l then 0 else ixL R l + 1 := rfl
    rw [e1, e2]
    unfold atN at *
    by_cases e : x = l
    · subst e
      rw [List.find?_cons_of_pos (by simp), if_pos rfl]
      exact ⟨fun _ => rfl, fun z => absurd (List.mem_cons_self ..) z⟩
    · rw [List.find?_cons_of_neg (by simpa using fun z => e (ks_inj (by rw [z]))), if_neg e]
      refine ⟨fun z => ?_, fun z => h2 (fun q => z (List.mem_cons_of_mem _ q))⟩
      rw [h1 ((List.mem_cons.mp z).resolve_left (fun q => e q.symm)), show n + 1 + ixL R l = n + (ixL R l + 1) by omega]
theorem kvG_len : ∀ {R : List Ln} {n : Nat}, (kvG n R).length = R.length
  | [], n => rfl
  | x :: R, n => by rw [kvG, List.length_cons, kvG_len, List.length_cons]
theorem kvG_data : ∀ {R : List Ln} {n : Nat}, (kvG n R).map (fun z => z.1.data) = R.map lnD
  | [], n => rfl
  | x :: R, n => by
    rw [kvG, List.map_cons, List.map_cons, kvG_data, ks_data]
    rfl
def kvF (R : List Ln) : List (NestedKey × D) := kvG 0 R
/-! ### comparing lines -/
theorem lay_raw {r : Raw} (h : (PyData.str r.z).canLay0 = true) : Lay 1 (rawD r) := lay_tuple fun d hd => by
  rcases List.mem_cons.mp hd with rfl | hd
  · exact ⟨h, by simp [PyData.depth]⟩
  · obtain ⟨i, _, rfl⟩ := List.mem_map.mp hd
    exact lay_int
theorem lay_ln {l : Ln} : Lay 1 (lnD l) := lay_raw (by
  cases l <;> simp only [Ln.raw] <;> decide +kernel)
theorem tell_ln : Tell lnD := fun l m => by
  constructor
  · intro h
    unfold lnD rawD at h
    simp only [PyData.eqv, PyData.eqvAll, Bool.and_eq_true, tell_all tell_int, beq_iff_eq, decide_eq_true_eq] at h
    refine lnD_inj ?_
    unfold lnD rawD
    rw [h.1, h.2]
  · rintro rfl
    unfold lnD rawD
    simp only [PyData.eqv, PyData.eqvAll, Bool.and_eq_true, tell_all tell_int, beq_iff_eq, decide_eq_true_eq, and_self]
open Classical in
theorem any_ln {R : List Ln} {l : Ln} : ((R.map lnD).any fun z => PyData.eqv z (lnD l)) = decide (l ∈ R) := by
  rw [Bool.eq_iff_iff]
  simp only [List.any_map, List.any_eq_true, Function.comp, decide_eq_true_eq]
  exact ⟨fun ⟨x, h1, h2⟩ => by rw [← (tell_ln x l).mp h2]; exact h1, fun h => ⟨l, h, tell_ln.same l⟩⟩
end PL

/-! A comprehension that makes a dict with tuple keys. -/
namespace PL
open PySem PySem.Spec PyProof.Rows L2
def zPut (M : Model) (A : Around) (kx vx : Expr) (env : Env) (acc : Value) (post : Shared → Prop) (s : Shared) : Prop :=
  wpAny M A (eval kx env) (fun kv s4 => wpAny M A (eval vx env) (fun vv s5 => ∃ d, acc = .ref d ∧ wpAny M A (dictSet d kv vv) (fun _ s6 => post s6) FE s5) FE s4) FE s
section
variable {prog : Program} {w : World} {A : Around} {kx vx : Expr} {gs : List Comprehension} {scope : Scope} {pos : Pos} {k : Nat} {t i i1 : Expr} {ifs : List Expr} {env : Env} {acc : Value}
theorem loopEndD (ht : ∀ it, compTurn (.DictComp kx vx gs scope pos) k it acc env = (do
      standAt i.pos
      match ← pyNext it with
      | none => pure (.done .next)
      | some v =>
        letOwnedTupleGo t it v
        assign t env v
        let mut ok := true
        for c in ifs do
          if ok then ok ← isTrue c env (eval c env)
        if ok then
          (do
            let kv ← eval kx env
            let vv ← holding [kv] (eval vx env)
            match acc with
            | .ref d => do
              standAt { line := kx.pos.line, col := kx.pos.col, endLine := vx.pos.endLine, endCol := vx.pos.endCol }
              holding [kv, vv] (dictSet d kv vv)
            | _ => unsupported "internal:dictcomp")
        again (.compLoop (.DictComp kx vx gs scope pos) k it acc env))) : LoopOf (model prog w) A (.DictComp kx vx gs scope pos) k t ifs env acc (zPut (model prog w) A kx vx env acc) := ⟨fun it R I turn n s h => by
  refine codeAny_loop rfl I (fun n s hI => ?_) n h
  show wpAny _ A ((compTurn (.DictComp kx vx gs scope pos) k it acc env).onRaise (fun x => do noteFrame x env; theTreesLotGoes x)) _ _ s
  refine wpAny_noted ?_
  rw [ht]
  refine wpAny_bind (wpAny_standAt (wpAny_bind (thnE (turn n s hI) (fun r s₁ h₁ => ?_))))
  cases r with
  | none => exact wpAny_pure h₁
  | some v =>
    refine wpAny_bind (thnE h₁ (fun _ s₁' h₁' => ?_))
    refine wpAny_bind (thnE h₁' (fun _ s₂ h₂ => wpAny_bind (thnE h₂ (fun ok s₃ h₃ => ?_))))
    cases ok with
    | false => exact wpAny_pure ⟨rfl, h₃⟩
    | true =>
      refine wpAny_bind (wpAny_bind (thnE h₃ (fun kv s₄ h₄ => wpAny_bind (wpAny_holding (thnE h₄ (fun vv s₅ h₅ => ?_))))))
      obtain ⟨d, rfl, h₅⟩ := h₅
      exact wpAny_bind (wpAny_standAt (wpAny_holding (thnE h₅ (fun _ s₆ h₆ => wpAny_pure ⟨rfl, h₆⟩))))⟩
end
def tbPut (w : World) (K : PySem.W.Frag) (tk tv : TE) : TB := fun D σ H Nx => tk σ H fun y H1 => tv σ H1 fun z H2 => ∃ b xs k, y = .ref b ∧ H2 D = some (DdO w D xs) ∧ KeysAt K H2 xs ∧ KeyAt K H2 k b ∧ xs.length < sizeLine ∧ Nx (upd H2 D (DdO w D (putE xs k b z)))
section
variable {Y : Cx} {tk tv : TE} {kx vx : Expr} {D : Addr}
theorem pb_put (hx : ∀ e s, Y.xe e s → False) (hu : Y.A.units + 65 < cLine) (hk : PE Y kx tk) (hv : PE Y vx tv) : PB Y [] (zPut (model Y.prog Y.w) Y.A kx vx Y.env (.ref D)) (tbPut Y.w Y.K tk tv D) := ⟨fun pins s σ H Nx post I h k => by
  refine thnX (hk.run pins s σ H _ I h) hx fun kv s1 ⟨y, H1, I1, ry, q1⟩ => ?_
  refine thnX (hv.run pins s1 σ H1 _ I1 q1) hx fun vv s2 ⟨z, H2, I2, rz, q2⟩ => ?_
  obtain ⟨b, xs, kk, rfl, e, ks, kb, hl, nx⟩ := q2
  refine ⟨D, rfl, ?_⟩
  cases (show kv = Value.ref b from ry)
  have d := ddo_at I2.hok e
  obtain ⟨ys, r, dd⟩ := dd_of (P := Y.prog) d (keys_is I2 ks)
  have hz : ys.length ≤ sizeLine := by rw [← Paired.length r]; exact d.2.1
  have room : (nestedKind Y.prog Y.w).room Y.A := by
    show Y.A.units + 8 < cLine
    omega
  exact wpAny_dictSet_heap (hsz := hz) room ⟨nested_is I2 _ _ _ kb.2 rfl, kb.1⟩ dd fun h' dd' sb => k _ σ _ (dd_keep I2 e hl r rz dd' sb) rfl (fun j v e => e) nx⟩
end
section
variable {X : Cx}
theorem pe_ddB1 {kx vx tg0 it0 : Expr} {ifs0 : List Expr} {scope : Scope} {own : List (Str × Nat)} {pos : Pos} {tk tv : TE} {wi0 : TI} {g0 : TG} {tt0 : TT} (hc : X.calm = true) (hN : X.N.Nodup) (hu : X.A.units + 65 < cLine) (hi0 : PI X tg0 it0 wi0) (ok : BlkOk X.N X.env.scope scope own)
    (hg0 : ∀ (s : Shared) (H : Hp) (C : Addr) (cl : List (Str × Addr)) (fp : List Addr), PG (X.blk s H scope (compEnvC scope cl C X.env) fp) tg0 g0) (ht0 : ∀ (s : Shared) (H : Hp) (C : Addr) (cl : List (Str × Addr)) (fp : List Addr), PTs (X.blk s H scope (compEnvC scope cl C X.env) fp) ifs0 tt0)
    (hk : ∀ (s : Shared) (H : Hp) (C : Addr) (cl : List (Str × Addr)) (fp : List Addr), PE (X.blk s H scope (compEnvC scope cl C X.env) fp) kx tk) (hv : ∀ (s : Shared) (H : Hp) (C : Addr) (cl : List (Str × Addr)) (fp : List Addr), PE (X.blk s H scope (compEnvC scope cl C X.env) fp) vx tv) (hs0 : ∀ x, foldedSetIterable it0 X.env x = pure x) :
    PE X (.DictComp kx vx [⟨tg0, it0, ifs0, 0⟩] scope pos) (tLcB (fun D => DdO X.w D []) wi0 g0 tt0 (own.map (·.2)) (tbPut X.w X.K tk tv)) := by
  refine ⟨fun pins s σ H Q I h => ?_⟩
  rw [arm_eval_DictComp]
  refine lcB_core (mk := newDict) (ob := { cls := .type "dict", data := .dict #[] }) (o := fun D => DdO X.w D []) (Z := fun env acc => zPut (model X.prog X.w) X.A kx vx env acc) (vsb := []) rfl (fun {s Q} q => wpAny_newObj_type q) (fun H h hb => ?_) (fun a b => codeAny_compStart_dict a b) (fun C cl acc => loopEndD (fun _ => rfl)) hc hN I hi0 ok (by intro _ z; cases z) hg0 ht0
    (fun s H C cl fp D => pb_put (Y := X.blk s H scope (compEnvC scope cl C X.env) fp) (fun _ _ z => z) hu (hk s H C cl fp) (hv s H C cl fp)) hs0 h fun D C s' m H' I' q hn f => ⟨m, hn, fun h'' sb => ?_⟩
  · exact ddo_ok ⟨beq_eq_false_iff_ne.mpr (Ne.symm (Nat.ne_of_lt hb)), Nat.zero_le _, List.nodup_nil, [], .nil, _, #[], 0, Heap.get?_push_size _ rfl, ⟨rfl, rfl, rfl⟩, rfl, rfl⟩
  · obtain ⟨f0, f1, f2, f3, f4, f5⟩ := f
    exact ⟨.ref D, H', I'.turned (t' := s'.toks) (fun b o hb e => (sb.2 b hb).trans e) f0 f1 f3 f4 f5, rfl, q⟩
end
/-! ### by plain data -/
mutual
theorem data_inj : ∀ (k m : NestedKey), k.data = m.data → k = m
  | .none, m, h => by
    cases m with
    | none => rfl
    | _ => cases h
  | .num i, m, h => by
    cases m with
    | num j => rw [PyData.int.inj h]
    | _ => cases h
  | .text i, m, h => by
    cases m with
    | text j => rw [PyData.str.inj h]
    | _ => cases h
  | .tup ks, m, h => by
    cases m with
    | tup ms => rw [datas_inj ks ms (PyData.tuple.inj h)]
    | _ => cases h
theorem datas_inj : ∀ (ks ms : List NestedKey), NestedKey.datas ks = NestedKey.datas ms → ks = ms
  | [], [], _ => rfl
  | [], m :: ms, h => by cases h
  | k :: ks, [], h => by cases h
  | k :: ks, m :: ms, h => by
    have h1 : k.data = m.data := (List.cons.inj h).1
    have h2 : NestedKey.datas ks = NestedKey.datas ms := (List.cons.inj h).2
    rw [data_inj k m h1, datas_inj ks ms h2]
end
def encN (kvs : List (NestedKey × D)) : List D := kvs.map fun z => .tuple [z.1.data, z.2]
theorem encN_inj : ∀ {a b : List (NestedKey × D)}, encN a = encN b → a = b
  | [], [], _ => rfl
  | [], y :: b, h => by cases h
  | x :: a, [], h => by cases h
  | x :: a, y :: b, h => by
    have h1 : PyData.tuple [x.1.data, x.2] = .tuple [y.1.data, y.2] := (List.cons.inj h).1
    have h2 : encN a = encN b := (List.cons.inj h).2
    have h3 := List.cons.inj (PyData.tuple.inj h1)
    rw [encN_inj h2, show x = y from Prod.ext (data_inj _ _ h3.1) (List.cons.inj h3.2).1]
def arD (w : World) (K : PySem.W.Frag) : Hp → Hp → Addr → List D → Prop := fun G H Dl acc => ∃ kvs, acc = encN kvs ∧ ∃ xs, H Dl = some (DdO w Dl xs) ∧ Al (EnR K G) xs kvs
def pbPutN (pk pv : PTE) : PTB := fun ob e acc N => pk noX e fun wk e4 => e4.ob = ob ∧ pv noX e4 fun wv e5 => e5.ob = ob ∧ kD e5 wk fun b => kD e5 wv fun v => ∃ kvs ks, acc = encN kvs ∧ b = .tuple (NestedKey.datas ks) ∧ (NestedKey.tup ks).depth ≤ 8 ∧ kvs.length ≤ 100000 ∧ N (encN (putN kvs (.tup ks) v))
def finDd (w : World) : List D → En → (Wv → En → Prop) → Prop := fun acc e Q => ∃ kvs, acc = encN kvs ∧ Q (.ref e.ob.length) ⟨e.sl, e.ob ++ [.dit w kvs]⟩
section
variable {K : PySem.W.Frag} {E : XK} {w : World} {tk tv : TE} {pk pv : PTE} {wi : TI} {pi : PTI} {g : TG} {pg : PTG} {tt : TT} {pt : PTT} {vs : List Nat} {tb : TB} {pb : PTB}
theorem acc_d : AccR (arD w K) := ⟨fun ⟨_, _, xs, hx, _⟩ => ⟨_, hx⟩, fun h e s => by
  obtain ⟨kvs, ea, xs, hx, al⟩ := h
  exact ⟨kvs, ea, xs, e.trans hx, al.mono fun _ _ z => ⟨z.1, ⟨z.2.1.1, dp_sub s _ _ z.2.1.2⟩, dp_sub s _ _ z.2.2⟩⟩⟩
theorem sndB_put (hk : SndE K E tk pk) (hv : SndE K E tv pv) : SndB K (arD w K) (tbPut w K tk tv) (pbPutN pk pv) := ⟨fun H0 iv as e σ H Dl acc N R hD h0 S ar h k => by
  obtain ⟨kv0, rfl, xs, hx, al⟩ := ar
  refine hk.run H0 iv as e σ H noX _ _ S h (fun y wk as4 e4 H4 h4 S4 l4 w4 => ?_) (fun x cls d as' e' H' z => z.elim)
  obtain ⟨eo4, h4⟩ := h4
  have has4 := as_eq S S4 l4 eo4
  subst has4
  refine hv.run H0 iv as4 e4 σ H4 noX _ _ S4 h4 (fun z wv as5 e5 H5 h5 S5 l5 w5 => ?_) (fun x cls d as' e' H' z => z.elim)
  obtain ⟨eo5, h5⟩ := h5
  have has5 := as_eq S4 S5 l5 (eo5.trans eo4.symm)
  subst has5
  obtain ⟨b, eb, h6⟩ := kD_elim h5
  obtain ⟨v, ev, kvs, ks, ea, rfl, h8, hl, hN⟩ := kD_elim h6
  have ek := encN_inj ea
  subst ek
  have ll := l4.trans l5
  have hx5 : H5 Dl = some (DdO w Dl xs) := by rw [ll.2.2 Dl hD]; exact hx
  have s5 : Sub (hid iv as5 e.ob H) (hid iv as5 e.ob H5) := by
    have q := ll.2.1
    rw [eo5] at q; exact q
  have SB : SR K H0 iv as5 e σ H5 := S.back2 S5 eo5 s5
  have dk := asD_wr S5 (l5.wr w4) eb
  have dv := asD_wr S5 w5 ev
  rw [eo5] at dk dv
  obtain ⟨c, rfl, dc⟩ := key_ref dk
  have al5 : Al (EnR K (hid iv as5 e.ob H5)) xs kv0 := al.mono fun _ _ z => ⟨z.1, ⟨z.2.1.1, dp_sub s5 _ _ z.2.1.2⟩, dp_sub s5 _ _ z.2.2⟩
  refine ⟨c, xs, .tup ks, rfl, hx5, enr_keys hid_sub al5, ⟨h8, dp_sub hid_sub _ _ dc⟩, by rw [al.1, sizeLine_eq]; omega, ?_⟩
  obtain ⟨SP, eP⟩ := SB.poke (p := Dl) (u := DdO w Dl (putE xs (.tup ks) c z)) hD h0
  refine k _ _ hN SP (by rw [eP]; exact s5) (fun b hb hne => by rw [upd_ne hne]; exact ll.2.2 b hb) ⟨_, rfl, _, upd_same, ?_⟩
  rw [eP]
  exact put_enr al5 ⟨h8, dc⟩ dv⟩
theorem snd_ddB {E1 : XK} (hi : SndJ K E wi pi) (hg : SndG K vs g pg) (ht : SndT K E1 tt pt) (hb : SndB K (arD w K) tb pb) : SndE K E (tLcB (fun D => DdO w D []) wi g tt vs tb) (pLcB vs pi pg pt pb (finDd w)) := ⟨fun H0 iv as e σ H X Q R S h k l => by
  refine hi.run H0 iv as e σ H X _ _ S h (fun J ds as1 e1 H1 h1 S1 l1 fd => ?_) l
  obtain ⟨I, i0, hs, hd⟩ := h1
  refine fun Dl hD => lcB_run (o := fun D => DdO w D []) acc_d hg ht hb S1 fd I i0 hs hD (fun G => ⟨[], rfl, [], upd_same, Al.nil⟩) fun acc H' hI S' s' hv ar => ?_
  obtain ⟨kvs, rfl, xs, hx, al⟩ := ar
  obtain ⟨kv2, e2, hq⟩ := hd _ hI
  have ek := encN_inj e2
  subst ek
  obtain ⟨SS, lS⟩ := S'.own (iv := iv) (h0 := S1.h0 hD) (hn := (S1.fresh hD).1) (o := .dit w kvs) rfl ⟨xs, hx, al⟩
  exact k _ _ _ _ H' hq SS (l1.trans ⟨⟨[Dl], rfl⟩, s'.trans lS, hv⟩) ⟨Dl, by rw [← S1.len]; simp, rfl⟩⟩
end
theorem pd_ddB1 {X : Cx} {E : XK} {w : World} {kx vx tg0 it0 : Expr} {ifs0 : List Expr} {scope : Scope} {own : List (Str × Nat)} {pos : Pos} {tk tv : TE} {pk pv : PTE} {wi0 : TI} {g0 : TG} {tt0 : TT} {pi0 : PTI} {pg0 : PTG} {pt0 : PTT} {vg0 : List Nat} (hc : X.calm = true) (hN : X.N.Nodup) (hu : X.A.units + 65 < cLine) (hi0 : JD X E tg0 it0 wi0 pi0) (ok : BlkOk X.N X.env.scope scope own)
    (hg0 : ∀ (s : Shared) (H : Hp) (C : Addr) (cl : List (Str × Addr)) (fp : List Addr), GD (X.blk s H scope (compEnvC scope cl C X.env) fp) vg0 tg0 g0 pg0) (ht0 : ∀ (s : Shared) (H : Hp) (C : Addr) (cl : List (Str × Addr)) (fp : List Addr), QD (X.blk s H scope (compEnvC scope cl C X.env) fp) E0 ifs0 tt0 pt0)
    (hk : ∀ (s : Shared) (H : Hp) (C : Addr) (cl : List (Str × Addr)) (fp : List Addr), PD (X.blk s H scope (compEnvC scope cl C X.env) fp) E0 kx tk pk) (hv : ∀ (s : Shared) (H : Hp) (C : Addr) (cl : List (Str × Addr)) (fp : List Addr), PD (X.blk s H scope (compEnvC scope cl C X.env) fp) E0 vx tv pv)
    (hw0 : ∀ i ∈ vg0, i ∈ own.map (·.2) := by decide) (hs0 : ∀ x, foldedSetIterable it0 X.env x = pure x := by intro _; rfl) (hw : X.w = w := by rfl) :
    PD X E (.DictComp kx vx [⟨tg0, it0, ifs0, 0⟩] scope pos) (tLcB (fun D => DdO w D []) wi0 g0 tt0 (own.map (·.2)) (tbPut w X.K tk tv)) (pLcB (own.map (·.2)) pi0 pg0 pt0 (pbPutN pk pv) (finDd w)) := by
  subst hw
  exact ⟨pe_ddB1 hc hN hu hi0.a ok (fun s H C cl fp => (hg0 s H C cl fp).a) (fun s H C cl fp => (ht0 s H C cl fp).a) (fun s H C cl fp => (hk s H C cl fp).a) (fun s H C cl fp => (hv s H C cl fp).a) hs0,
    snd_ddB hi0.b ((hg0 X.s_0 X.H_0 0 [] []).b.wide hw0) (ht0 X.s_0 X.H_0 0 [] []).b (sndB_put (hk X.s_0 X.H_0 0 [] []).b (hv X.s_0 X.H_0 0 [] []).b)⟩
/-! ### wrappers -/
section
variable {X : Cx} {E : XK} {K : PySem.W.Frag} {w : World} {a b c : Expr} {ta tb tc : TE} {pa pb pc : PTE} {pos p2 : Pos}
theorem sd_ddput (hu : X.A.units + 65 < cLine) (ho : PD X E a ta pa) (hi : PD X E b tb pb) (hv : PD X E c tc pc) (hs : swapsWith c (some (.Subscript a b p2)) pos.line X.env = pure false := by rfl) (hw : X.w = w := by rfl) : SD X E (.Assign [.Subscript a b p2] c pos) (sDdPut w X.K ta tb tc) (pDdPut w pa pb pc) := by
  subst hw
  exact ⟨ps_ddput hu ho.a hi.a hv.a hs, snd_ddput ho.b hi.b hv.b⟩
end
end PL

/-! sorted({..}) of tuples of ints. -/
namespace PL
open PySem PySem.Spec PyProof.Rows L2
section
variable {P : Program} {w : World} {A : Around} {E : Value → Shared → Prop} {s : Shared} {a x : Addr} {L : List (Addr × List Int)} {es : Array (Int × Value)} {ep : Nat} {t : SetTable} {k : List Int} {Q : Value → Shared → Prop}
theorem setT_add (R : SetTR P w s.heap a L es ep t) (hk : L2.IsT P w s.heap k x) (hu : A.units + 65 < cLine) (hl : L.length + 1 < 64)
    (hQ : ∀ (tk : Nat) (h' : Heap) (L' : List (Addr × List Int)), Heap.SameBut a s.heap h' → SetT0 P w h' a L' → (k ∈ L.map (·.2) → L' = L) → (k ∉ L.map (·.2) → L'.Perm ((x, k) :: L)) → Q .none { s with heap := h', toks := tk }) :
    wpAny (model P w) A (call (.builtin "set.add") [.ref a, .ref x]) Q E s := by
  obtain ⟨o, ho, hx, hd⟩ := R.ob
  have u1 : A.in1.units < cLine := by
    have : A.in1.units ≤ A.units + 57 := by
      first
        | (show A.units + 1 ≤ A.units + 57; omega)
        | (show A.units ≤ A.units + 57; omega)
    omega
  refine wpAny_call_entry F.slot_set_add ⟨o, ho, hx.1⟩ F.entry_set_add ?_ (F.args_set_add_2 (.ref a) (.ref x))
  show wpAny (model P w) A.in1 (Builtin.«set.add» _) _ _ _
  unfold Builtin.«set.add»
  unfold Builtin.Frozenset.oneOther
  refine wpAny_bind ?_
  show wpAny (model P w) A.in1 (Builtin.Frozenset.addrOf (.ref a) >>= fun d => pure (d, Value.ref x)) _ _ s
  unfold Builtin.Frozenset.addrOf
  refine wpAny_bind (wpAny_pure (wpAny_pure ?_))
  show wpAny (model P w) A.in1 (setAdd a (.ref x) >>= fun _ => ret Value.none) _ _ s
  refine wpAny_bind ?_
  unfold setAdd
  refine wpAny_holding (wpAny_bind (wpAny_pyHash_tuple u1 hk ?_))
  refine add_at (s := { s with toks := s.toks + (k.length + 1) }) R hk u1 hl fun b h' L' es' ep' t' sb r e1 e2 => wpAny_pure ⟨.none, rfl, hQ _ h' L' sb r.t0 e1 e2⟩
end
def tbAddT (P : Program) (w : World) (K : PySem.W.Frag) (te : TE) : TB := fun D σ H Nx => te σ H fun y H1 => ∃ b L ks, y = .ref b ∧ H1 D = some (SetTO P w D L) ∧ (∀ p ∈ L, SqT K H1 p.1 (p.2.map V.int)) ∧ SqT K H1 b (ks.map V.int) ∧ L.length + 1 < 64 ∧ ∀ L', (ks ∈ L.map (·.2) → L' = L) → (ks ∉ L.map (·.2) → L'.Perm ((b, ks) :: L)) → Nx (upd H1 D (SetTO P w D L'))
theorem setT0_get {X : Cx} {pins : List (Addr × Obj)} {σ : L2.St} {H : Hp} {s : Shared} {a : Addr} {L : List (Addr × List Int)} (I : L2.Inv X pins σ H s) (h : H a = some (SetTO X.prog X.w a L)) (hk : ∀ p ∈ L, SqT X.K H p.1 (p.2.map V.int)) : ∃ es ep t, SetTR X.prog X.w s.heap a L es ep t :=
  (I.hok a _ h).1.full fun p hp => I.isT (hk p hp)
section
variable {Y : Cx} {te : TE} {elt : Expr} {D : Addr}
theorem pb_addT (hx : ∀ e s, Y.xe e s → False) (hu : Y.A.units + 65 < cLine) (he : PE Y elt te) : PB Y [] (zAdd (model Y.prog Y.w) Y.A elt Y.env (.ref D)) (tbAddT Y.prog Y.w Y.K te D) := ⟨fun pins s σ H Nx post I h k => by
  refine thnX (he.run pins s σ H _ I h) hx fun z s1 ⟨yv, H1, I1, r1, b, L, ks, ey, hD, hL, hb, hl, nx⟩ => ?_
  subst ey
  cases (show z = Value.ref b from r1)
  obtain ⟨es, ep, t, R⟩ := setT0_get I1 hD hL
  refine setT_add R (I1.isT hb) hu hl fun tk h' L' sb new e1 e2 => ?_
  have he : ∃ u, h'.get? D = some u := by
    have ⟨_, _, _, ⟨o, ho, _⟩, _⟩ := new.ex
    exact ⟨o, ho⟩
  exact k _ σ _ (I1.write (e := D) (t' := tk) (by rw [hD]; trivial) (.inl rfl) (fun b u hb hu => (sb.2 b hb).trans hu) he (setTO_new new)) rfl (fun j v e => e) (nx L' e1 e2)⟩
end
theorem pe_sTB1 {X : Cx} {elt tg0 it0 : Expr} {ifs0 : List Expr} {scope : Scope} {own : List (Str × Nat)} {pos : Pos} {te : TE} {wi0 : TI} {g0 : TG} {tt0 : TT} (hc : X.calm = true) (hN : X.N.Nodup) (hu : X.A.units + 65 < cLine) (hi0 : PI X tg0 it0 wi0) (ok : BlkOk X.N X.env.scope scope own)
    (hg0 : ∀ (s : Shared) (H : Hp) (C : Addr) (cl : List (Str × Addr)) (fp : List Addr), PG (X.blk s H scope (compEnvC scope cl C X.env) fp) tg0 g0) (ht0 : ∀ (s : Shared) (H : Hp) (C : Addr) (cl : List (Str × Addr)) (fp : List Addr), PTs (X.blk s H scope (compEnvC scope cl C X.env) fp) ifs0 tt0)
    (he : ∀ (s : Shared) (H : Hp) (C : Addr) (cl : List (Str × Addr)) (fp : List Addr), PE (X.blk s H scope (compEnvC scope cl C X.env) fp) elt te) (hs0 : ∀ x, foldedSetIterable it0 X.env x = pure x) :
    PE X (.SetComp elt [⟨tg0, it0, ifs0, 0⟩] scope pos) (tLcB (fun Dl => SetTO X.prog X.w Dl []) wi0 g0 tt0 (own.map (·.2)) (tbAddT X.prog X.w X.K te)) := by
  refine ⟨fun pins s σ H Q I h => ?_⟩
  rw [PpSet.eval_SetComp]
  refine lcB_core (mk := (newSet (.type "set"))) (ob := { cls := .type "set", dict := none, data := .set #[] 0 (.fresh 0 0 (!X.w.params.followText "set-order")) }) (o := fun Dl => SetTO X.prog X.w Dl []) (Z := fun env acc => zAdd (model X.prog X.w) X.A elt env acc) (vsb := []) rfl (fun {s Q} q => PpSet.newSet_ok q) (fun H h _ => setTO_new (setTR_fresh (Heap.get?_push_size _ rfl)).t0) (fun a b => PpSet.codeAny_compStart_set a b) (fun C cl acc => loopEndS (fun _ => rfl)) hc hN I hi0 ok (by intro _ z; cases z) hg0 ht0
    (fun s H C cl fp D => pb_addT (Y := X.blk s H scope (compEnvC scope cl C X.env) fp) (fun _ _ z => z) hu (he s H C cl fp)) hs0 h fun D C s' m H' I' q hn f => ⟨m, hn, fun h'' sb => ?_⟩
  obtain ⟨f0, f1, f2, f3, f4, f5⟩ := f
  exact ⟨.ref D, H', I'.turned (t' := s'.toks) (fun b o hb e => (sb.2 b hb).trans e) f0 f1 f3 f4 f5, rfl, q⟩
/-! ### by plain data -/
def tupI (ks : List Int) : D := .tuple (ks.map .int)
theorem intsD_inj : ∀ {a b : List Int}, a.map PyData.int = b.map PyData.int → a = b
  | [], [], _ => rfl
  | [], y :: b, h => by cases h
  | x :: a, [], h => by cases h
  | x :: a, y :: b, h => by
    simp only [List.map_cons, List.cons.injEq, PyData.int.injEq] at h
    rw [h.1, intsD_inj h.2]
theorem tups_inj : ∀ {a b : List (List Int)}, a.map tupI = b.map tupI → a = b
  | [], [], _ => rfl
  | [], y :: b, h => by cases h
  | x :: a, [], h => by cases h
  | x :: a, y :: b, h => by
    have h1 : tupI x = tupI y := (List.cons.inj h).1
    rw [intsD_inj (PyData.tuple.inj h1), tups_inj (List.cons.inj h).2]
theorem al_ints {K : PySem.W.Frag} {G : Hp} : ∀ {ks : List Int} {xs : List V}, Al (Dp K G) xs (ks.map .int) → xs = ks.map V.int
  | [], xs, h => h.nil_inv
  | k :: ks, xs, h => by
    obtain ⟨x, r, rfl, h1, h2⟩ := h.cons_inv
    rw [dp_int h1, al_ints h2]; rfl
def arT (P : Program) (w : World) (K : PySem.W.Frag) : Hp → Hp → Addr → List D → Prop := fun G H Dl acc => ∃ (L : List (Addr × List Int)) (nss : List (List Int)), acc = nss.map tupI ∧ H Dl = some (SetTO P w Dl L) ∧ (∀ p ∈ L, SqT K G p.1 (p.2.map V.int)) ∧ (∀ k, k ∈ L.map (·.2) ↔ k ∈ nss) ∧ L.length ≤ nss.length
def pbTup (te : PTE) : PTB := fun ob e acc N => acc.length ≤ 60 ∧ te noX e fun w e4 => e4.ob = ob ∧ kD e4 w fun y => ∃ ks : List Int, y = tupI ks ∧ N (acc ++ [y])
/-- sorted(..) of a set of tuples of d ints each -/
def finST : List D → En → (Wv → En → Prop) → Prop := fun acc e Q => ∃ (nss : List (List Int)) (d : Nat) (B : Int), acc = nss.map tupI ∧ 1 ≤ d ∧ (∀ k ∈ nss, k.length = d ∧ TS.Bd B k) ∧
  ∀ mss : List (List Int), mss.Nodup → mss.Pairwise (fun a b => TS.code B a ≤ TS.code B b) → (∀ k, k ∈ mss ↔ k ∈ nss) → Q (.dat (.list (mss.map tupI))) e
section
variable {P : Program} {K : PySem.W.Frag} {E : XK} {w : World} {te : TE} {p : PTE} {wi : TI} {pi : PTI} {g : TG} {pg : PTG} {tt : TT} {pt : PTT} {vs : List Nat} {tb : TB} {pb : PTB}
theorem acc_t : AccR (arT P w K) := ⟨fun ⟨L, _, _, h, _⟩ => ⟨_, h⟩, fun ⟨L, nss, a, h, b, c⟩ e s => ⟨L, nss, a, e.trans h, fun p hp => sqt_sub s (b p hp), c⟩⟩
theorem sndB_addT (he : SndE K E te p) : SndB K (arT P w K) (tbAddT P w K te) (pbTup p) := ⟨fun H0 iv as e σ H Dl acc N R hD h0 S ar h k => by
  obtain ⟨hl, h⟩ := h
  obtain ⟨L, nss, rfl, hx, hL, hm, hn⟩ := ar
  rw [List.length_map] at hl
  refine he.run H0 iv as e σ H noX _ _ S h (fun v wv as6 e6 H6 h6 S6 l6 w6 => ?_) (fun x cls d as' e' H' z => z.elim)
  obtain ⟨eo6, h7⟩ := h6
  obtain ⟨yd, ey, ks, rfl, hN⟩ := kD_elim h7
  have has := as_eq S S6 l6 eo6
  subst has
  have hx6 : H6 Dl = some (SetTO P w Dl L) := by rw [l6.2.2 Dl hD]; exact hx
  have s6 : Sub (hid iv as6 e.ob H) (hid iv as6 e.ob H6) := by
    have q := l6.2.1
    rw [eo6] at q; exact q
  have SB : SR K H0 iv as6 e σ H6 := S.back2 S6 eo6 s6
  have dy := asD_wr S6 w6 ey
  rw [eo6] at dy
  obtain ⟨b, xs, rfl, hb, al⟩ := dp_tuple dy
  have exs := al_ints al
  subst exs
  refine ⟨b, L, ks, rfl, hx6, fun q hq => sqt_sub hid_sub (sqt_sub s6 (hL q hq)), sqt_sub hid_sub hb, by omega, fun L' o1 o2 => ?_⟩
  obtain ⟨SP, eP⟩ := SB.poke (p := Dl) (u := SetTO P w Dl L') hD h0
  refine k _ _ hN SP (by rw [eP]; exact s6) (fun b hb hne => by rw [upd_ne hne]; exact l6.2.2 b hb) ⟨L', nss ++ [ks], by rw [List.map_append]; rfl, upd_same, ?_⟩
  rw [eP]
  by_cases hin : ks ∈ L.map (·.2)
  · have e := o1 hin
    subst e
    refine ⟨fun q hq => sqt_sub s6 (hL q hq), fun j => ?_, by simp; omega⟩
    rw [hm j, List.mem_append]
    refine ⟨.inl, fun z => z.elim id fun z => ?_⟩
    simp only [List.mem_singleton] at z
    rw [z]; exact (hm ks).mp hin
  · have pm := o2 hin
    refine ⟨fun q hq => ?_, fun j => ?_, by rw [pm.length_eq]; simp; omega⟩
    · rcases List.mem_cons.mp (pm.mem_iff.mp hq) with rfl | hq
      · exact hb
      · exact sqt_sub s6 (hL q hq)
    · rw [(pm.map (·.2)).mem_iff, List.map_cons, List.mem_cons, hm j, List.mem_append, List.mem_singleton]
      exact Or.comm⟩
theorem snd_ssT {E1 : XK} (hi : SndJ K E wi pi) (hg : SndG K vs g pg) (ht : SndT K E1 tt pt) (hb : SndB K (arT P w K) tb pb) : SndE K E (tCB (rSortedT K P w) (tCons (tLcB (fun Dl => SetTO P w Dl []) wi g tt vs tb) tNil)) (pLcB vs pi pg pt pb finST) := ⟨fun H0 iv as e σ H X Q R S h k l => by
  refine hi.run H0 iv as e σ H X _ _ S h (fun J ds as1 e1 H1 h1 S1 l1 fd => ?_) l
  obtain ⟨I, i0, hs, hd⟩ := h1
  refine fun Dl hD => lcB_run (R := fun x H1 => tNil σ H1 fun xs H2 => rSortedT K P w (x :: xs) H2 R) (o := fun Dl => SetTO P w Dl []) acc_t hg ht hb S1 fd I i0 hs hD (fun G => ⟨[], [], rfl, upd_same, fun q hq => by simp at hq, fun j => by simp, Nat.le_refl _⟩) fun acc H' hI S' s' hv ar => ?_
  obtain ⟨L, nss, rfl, hx, hL, hm, hn⟩ := ar
  obtain ⟨nss', d, B, en, hd1, hB, fin⟩ := hd _ hI
  have en := tups_inj en
  subst en
  refine ⟨Dl, L, d, B, rfl, hx, fun q hq => sqt_sub hid_sub (hL q hq), hd1, fun q hq => hB _ ((hm _).mp (List.mem_map.mpr ⟨q, hq, rfl⟩)), fun L' p pm nd few srt hp => ?_⟩
  have SS := S'.show
  have upS : Sub (hid (ivp iv Dl) as1 e1.ob H') (hid iv as1 e1.ob H') := hid_ivp rfl
  obtain ⟨S2, l2⟩ := SS.grow (Sub.new (o := .lst (L'.map fun q => V.ref q.1)) hp)
  refine k _ _ as1 e1 _ (fin (L'.map (·.2)) nd (List.pairwise_map.mpr srt) fun j => by rw [(pm.map (·.2)).mem_iff]; exact hm j) S2 ((l1.trans ⟨⟨[], by simp⟩, s'.trans upS, hv⟩).trans l2) (Dp.lst (.inl (.inl (SS.seen hp upd_same))) (dpAll_al.mpr ?_))
  rw [List.map_map]
  refine al_map.mpr ⟨by simp, fun i x z hx2 hz => ?_⟩
  rw [List.getElem?_map, hz] at hx2
  cases hx2
  have hz2 := List.mem_of_getElem? hz
  exact Dp.tup (sqt_sub (upS.trans l2.2.1) (hL z (pm.mem_iff.mp hz2))) (dpAll_al.mpr (al_of_ints z.2))⟩
end
theorem pd_sTB1 {X : Cx} {E : XK} {elt tg0 it0 : Expr} {ifs0 : List Expr} {scope : Scope} {own : List (Str × Nat)} {pos : Pos} {te : TE} {p : PTE} {wi0 : TI} {g0 : TG} {tt0 : TT} {pi0 : PTI} {pg0 : PTG} {pt0 : PTT} {vg0 : List Nat} (hc : X.calm = true) (hN : X.N.Nodup) (hu : X.A.units + 65 < cLine) (hg : Gl X "sorted") (hm : X.mg "sorted" = none) (hi0 : JD X E tg0 it0 wi0 pi0) (ok : BlkOk X.N X.env.scope scope own)
    (hg0 : ∀ (s : Shared) (H : Hp) (C : Addr) (cl : List (Str × Addr)) (fp : List Addr), GD (X.blk s H scope (compEnvC scope cl C X.env) fp) vg0 tg0 g0 pg0) (ht0 : ∀ (s : Shared) (H : Hp) (C : Addr) (cl : List (Str × Addr)) (fp : List Addr), QD (X.blk s H scope (compEnvC scope cl C X.env) fp) E0 ifs0 tt0 pt0)
    (he : ∀ (s : Shared) (H : Hp) (C : Addr) (cl : List (Str × Addr)) (fp : List Addr), PD (X.blk s H scope (compEnvC scope cl C X.env) fp) E0 elt te p) (hw0 : ∀ i ∈ vg0, i ∈ own.map (·.2) := by decide) (hs0 : ∀ x, foldedSetIterable it0 X.env x = pure x := by intro _; rfl) {p2 p3 : Pos} (he2 : starEach [.SetComp elt [⟨tg0, it0, ifs0, 0⟩] scope pos] X.env = (false, eval (.SetComp elt [⟨tg0, it0, ifs0, 0⟩] scope pos) X.env) :: starEach [] X.env := by rfl) (hpl : (backTo p3 (starEach [] X.env)).any (·.1) = false := by rfl) :
    PD X E (.Call (.Name "sorted" p2) [.SetComp elt [⟨tg0, it0, ifs0, 0⟩] scope pos] [] p3) (tCB (rSortedT X.K X.prog X.w) (tCons (tLcB (fun Dl => SetTO X.prog X.w Dl []) wi0 g0 tt0 (own.map (·.2)) (tbAddT X.prog X.w X.K te)) tNil)) (pLcB (own.map (·.2)) pi0 pg0 pt0 (pbTup p) finST) :=
  ⟨pe_callB (cr_sortedT hc) hg hm (by decide +kernel) (pa_cons (pe_sTB1 hc hN hu hi0.a ok (fun s H C cl fp => (hg0 s H C cl fp).a) (fun s H C cl fp => (ht0 s H C cl fp).a) (fun s H C cl fp => (he s H C cl fp).a) hs0) pa_nil he2) (by decide) (by decide) he2 hpl,
    snd_ssT hi0.b ((hg0 X.s_0 X.H_0 0 [] []).b.wide hw0) (ht0 X.s_0 X.H_0 0 [] []).b (sndB_addT (he X.s_0 X.H_0 0 [] []).b)⟩
end PL

/-! A call that takes two objects of the def's own. -/
namespace PL
open PySem PySem.Spec PyProof.Rows L2
section
variable {K : PySem.W.Frag} {H0 H H' : Hp} {iv : Addr → Prop} {as : List Addr} {e : En} {σ : L2.St} {a b : Addr} {o1 o2 o1' o2' : Ob} {k j : Nat}
open Classical in
theorem SR.call2 (S : SR K H0 iv as e σ H) (hkj : k ≠ j) (ha : as[k]? = some a) (hb : as[j]? = some b) (ho1 : e.ob[k]? = some o1) (ho2 : e.ob[j]? = some o2) (f1 : o1.live = true) (f2 : o2.live = true) (f1' : o1'.live = true) (f2' : o2'.live = true)
    (g : ∀ c u, H c = some u → c ≠ a → c ≠ b → H' c = some u) (hn1 : OR K (hid iv as ((e.ob.set k o1').set j o2') H') as H' a o1') (hn2 : OR K (hid iv as ((e.ob.set k o1').set j o2') H') as H' b o2') :
    SR K H0 iv as ⟨e.sl, (e.ob.set k o1').set j o2'⟩ σ H' ∧ Ltr iv as e.ob H as ((e.ob.set k o1').set j o2') H' := by
  have hab : a ≠ b := fun z => hkj (S.inj k j a ha (z ▸ hb))
  have kl : k < e.ob.length := (List.getElem?_eq_some_iff.mp ho1).1
  have jl : j < e.ob.length := (List.getElem?_eq_some_iff.mp ho2).1
  obtain ⟨ua, hua⟩ := hn1.some f1'
  obtain ⟨ub, hub⟩ := hn2.some f2'
  let H2 : Hp := fun c => if c = a then H a else if c = b then H b else H' c
  have ga : H2 a = H a := if_pos rfl
  have gb : H2 b = H b := by
    show (if b = a then H a else if b = b then H b else H' b) = H b
    rw [if_neg (Ne.symm hab), if_pos rfl]
  have gc : ∀ c, c ≠ a → c ≠ b → H2 c = H' c := fun c h1 h2 => by
    show (if c = a then H a else if c = b then H b else H' c) = H' c
    rw [if_neg h1, if_neg h2]
  have sub : Sub H H2 := fun c u hc => by
    by_cases h1 : c = a
    · rw [h1, ga, ← h1]; exact hc
    · by_cases h2 : c = b
      · rw [h2, gb, ← h2]; exact hc
      · rw [gc c h1 h2]; exact g c u hc h1 h2
  obtain ⟨S2, l2⟩ := S.grow sub
  have lva : ∀ {ob : List Ob} {o : Ob}, ob[k]? = some o → o.live = true → Lv as ob a := fun {ob o} q1 q2 => ⟨k, o, ha, q1, q2⟩
  have lvb : ∀ {ob : List Ob} {o : Ob}, ob[j]? = some o → o.live = true → Lv as ob b := fun {ob o} q1 q2 => ⟨j, o, hb, q1, q2⟩
  have e1 : ((e.ob.set k o1').set j o2')[k]? = some o1' := by rw [List.getElem?_set_ne (Ne.symm hkj), List.getElem?_set_self kl]
  have e2 : ((e.ob.set k o1').set j o2')[j]? = some o2' := List.getElem?_set_self (by simpa using jl)
  have e3 : (e.ob.set k o1')[j]? = some o2 := by rw [List.getElem?_set_ne hkj]; exact ho2
  have lvs : ∀ c, Lv as e.ob c → Lv as ((e.ob.set k o1').set j o2') c := fun c ⟨i, o, h1, h2, h3⟩ => by
    by_cases hk : i = k
    · subst hk
      exact ⟨i, o1', h1, e1, f1'⟩
    · by_cases hj : i = j
      · subst hj
        exact ⟨i, o2', h1, e2, f2'⟩
      · exact ⟨i, o, h1, by rw [List.getElem?_set_ne (Ne.symm hj), List.getElem?_set_ne (Ne.symm hk)]; exact h2, h3⟩
  have lvs2 : ∀ c, Lv as (e.ob.set k o1') c → Lv as ((e.ob.set k o1').set j o2') c := fun c ⟨i, o, h1, h2, h3⟩ => by
    by_cases hj : i = j
    · subst hj
      exact ⟨i, o2', h1, e2, f2'⟩
    · exact ⟨i, o, h1, by rw [List.getElem?_set_ne (Ne.symm hj)]; exact h2, h3⟩
  have out : ∀ c u, hid iv as ((e.ob.set k o1').set j o2') H' c = some u → c ≠ a ∧ c ≠ b := fun c u hc => by
    obtain ⟨⟨_, q2⟩, _⟩ := hid_some.mp hc
    exact ⟨fun z => q2 (z ▸ lva e1 f1'), fun z => q2 (z ▸ lvb e2 f2')⟩
  have s1 : Sub (hid iv as ((e.ob.set k o1').set j o2') H') (hid iv as e.ob H2) := fun c u hc => by
    obtain ⟨h1, h2⟩ := out c u hc
    obtain ⟨⟨q1, q2⟩, q3⟩ := hid_some.mp hc
    exact hid_some.mpr ⟨⟨q1, fun z => q2 (lvs c z)⟩, by rw [gc c h1 h2]; exact q3⟩
  have s2 : Sub (hid iv as ((e.ob.set k o1').set j o2') H') (hid iv as (e.ob.set k o1') (upd H2 a ua)) := fun c u hc => by
    obtain ⟨h1, h2⟩ := out c u hc
    obtain ⟨⟨q1, q2⟩, q3⟩ := hid_some.mp hc
    exact hid_some.mpr ⟨⟨q1, fun z => q2 (lvs2 c z)⟩, by rw [upd_ne h1, gc c h1 h2]; exact q3⟩
  obtain ⟨S3, l3⟩ := S2.mut (o' := o1') (u := ua) ha ho1 f1 f1' (hn1.sub0 s1 fun _ => by rw [upd_same, hua])
  obtain ⟨S4, l4⟩ := S3.mut (o' := o2') (u := ub) hb e3 f2 f2' (hn2.sub0 s2 fun _ => by rw [upd_same, hub])
  have eq : upd (upd H2 a ua) b ub = H' := by
    funext c
    by_cases h2 : c = b
    · rw [h2, upd_same, hub]
    · rw [upd_ne h2]
      by_cases h1 : c = a
      · rw [h1, upd_same, hua]
      · rw [upd_ne h1, gc c h1 h2]
  rw [eq] at S4 l4
  exact ⟨S4, (l2.trans l3).trans l4⟩
end
def ren2 (ob : List Ob) (n : Nat) : List Wv → List Wv
  | [] => []
  | w :: ws => (match asD ob w, w with
    | some d, _ => .dat d
    | none, .ref k => bif Nat.beq k n then .ref 0 else .ref 1
    | none, .dat d => .dat d) :: ren2 ob n ws
def pCall2 (s : Sc) (pr : PTA) : PTE := fun X e Q => pr X e fun ws e1 => match refsOf e1.ob ws with
  | [n, m] => n ≠ m ∧ match e1.ob[n]?, e1.ob[m]? with
    | some o1, some o2 => kF o1 (kF o2 (s (ren2 e1.ob n ws) [o1, o2] (fun _ _ => False) fun d ob' => match ob' with
        | o1' :: o2' :: _ => kF o1' (kF o2' (Q (.dat d) ⟨e1.sl, (e1.ob.set n o1').set m o2'⟩))
        | _ => False))
    | _, _ => False
  | _ => False
section
variable {K : PySem.W.Frag} {E : XK} {tr : L2.TA} {pr : PTA} {H0 H : Hp} {iv : Addr → Prop} {as : List Addr} {e : En} {σ : L2.St} {a b : Addr}
theorem ren2_len {ob : List Ob} {n : Nat} : ∀ ws : List Wv, (ren2 ob n ws).length = ws.length
  | [] => rfl
  | w :: ws => by simp [ren2, ren2_len ws]
theorem ren2_wr (S : SR K H0 iv as e σ H) {G' : Hp} {as' : List Addr} (g : Sub (hid iv as e.ob H) G') {n m : Nat} (ha : as[n]? = some a) (hb : as[m]? = some b) (ha' : as'[0]? = some a) (hb' : as'[1]? = some b) : ∀ {vs : List V} {ws : List Wv}, Al (WR K (hid iv as e.ob H) as) vs ws →
    (∀ k ∈ refsOf e.ob ws, k = n ∨ k = m) → Al (WR K G' as') vs (ren2 e.ob n ws)
  | vs, [], h, _ => by rw [h.nil_inv]; exact Al.nil
  | vs, w :: ws, h, hk => by
    obtain ⟨v, r, rfl, h1, h2⟩ := h.cons_inv
    cases hd : asD e.ob w with
    | some d =>
      have e1 : ren2 e.ob n (w :: ws) = .dat d :: ren2 e.ob n ws := by simp [ren2, hd]
      have e2 : refsOf e.ob (w :: ws) = refsOf e.ob ws := by cases w <;> simp [refsOf, hd]
      rw [e1]
      exact Al.cons (dp_sub g _ _ (asD_wr S h1 hd)) (ren2_wr S g ha hb ha' hb' h2 (by rw [← e2]; exact hk))
    | none =>
      cases w with
      | dat d => simp [asD] at hd
      | ref k =>
        have e1 : ren2 e.ob n (.ref k :: ws) = (bif Nat.beq k n then .ref 0 else .ref 1) :: ren2 e.ob n ws := by simp [ren2, hd]
        have e2 : refsOf e.ob (.ref k :: ws) = k :: refsOf e.ob ws := by
          show (match asD e.ob (.ref k), Wv.ref k with
            | some _, _ => refsOf e.ob ws
            | none, .ref k => k :: refsOf e.ob ws
            | none, .dat _ => refsOf e.ob ws) = _
          rw [hd]
        rw [e1]
        rw [e2] at hk
        obtain ⟨c, q3, rfl⟩ := h1
        refine Al.cons ?_ (ren2_wr S g ha hb ha' hb' h2 fun j hj => hk j (List.mem_cons_of_mem _ hj))
        by_cases hn : k = n
        · subst hn
          rw [ha] at q3; cases q3
          have : Nat.beq k k = true := Nat.beq_refl k
          rw [this]
          exact ⟨a, ha', rfl⟩
        · have hm : k = m := (hk k (by simp)).resolve_left hn
          subst hm
          rw [hb] at q3; cases q3
          have : Nat.beq k n = false := by
            cases z : Nat.beq k n with
            | false => rfl
            | true => exact absurd (Nat.eq_of_beq_eq_true z) hn
          rw [this]
          exact ⟨b, hb', rfl⟩
theorem snd_call2 {s : Sc} (ha : SndA K E tr pr) : SndE K E (tCall (toSp K s) [] E tr) (pCall2 s pr) := ⟨fun H0 iv as0 e0 σ H X Q R S h k l => by
  refine ha.run H0 iv as0 e0 σ H X _ _ S h (fun vs ws as e H1 h1 S1 l1 w1 => ?_) l
  rw [List.append_nil]
  split at h1
  · rename_i n m hr
    obtain ⟨hnm, h1⟩ := h1
    split at h1
    · rename_i o1 o2 ho1 ho2
      obtain ⟨hf1, h1⟩ := kF_elim h1
      obtain ⟨hf2, h2⟩ := kF_elim h1
      obtain ⟨a, ha'⟩ := S1.ad ho1
      obtain ⟨b, hb'⟩ := S1.ad ho2
      have hab : a ≠ b := fun z => hnm (S1.inj n m a ha' (z ▸ hb'))
      let iv' : Addr → Prop := fun c => iv c ∨ (Lv as e.ob c ∧ c ≠ a ∧ c ≠ b)
      have hla : Lv as e.ob a := ⟨n, o1, ha', ho1, Ob.flat_live hf1⟩
      have hlb : Lv as e.ob b := ⟨m, o2, hb', ho2, Ob.flat_live hf2⟩
      have z0 : ∀ (i : Nat) (c : Addr), [a, b][i]? = some c → (i = 0 ∧ c = a) ∨ (i = 1 ∧ c = b) := fun i c q => by
        match i, q with
        | 0, q => cases q; exact .inl ⟨rfl, rfl⟩
        | 1, q => cases q; exact .inr ⟨rfl, rfl⟩
        | i + 2, q => simp at q
      have one : ∀ c, Lv [a, b] [o1, o2] c ↔ (c = a ∨ c = b) := fun c => by
        constructor
        · rintro ⟨i, o, q1, q2, q3⟩
          rcases z0 i c q1 with ⟨_, z⟩ | ⟨_, z⟩
          · exact .inl z
          · exact .inr z
        · rintro (rfl | rfl)
          · exact ⟨0, o1, rfl, rfl, Ob.flat_live hf1⟩
          · exact ⟨1, o2, rfl, rfl, Ob.flat_live hf2⟩
      have see : hid iv' [a, b] [o1, o2] H1 = hid iv as e.ob H1 := by
        funext c
        unfold hid
        have kk : (iv' c ∨ Lv [a, b] [o1, o2] c) ↔ (iv c ∨ Lv as e.ob c) := by
          rw [one c]
          constructor
          · rintro ((q | q) | (q | q))
            · exact .inl q
            · exact .inr q.1
            · subst q; exact .inr hla
            · subst q; exact .inr hlb
          · rintro (q | q)
            · exact .inl (.inl q)
            · by_cases h1 : c = a
              · exact .inr (.inl h1)
              · by_cases h2 : c = b
                · exact .inr (.inr h2)
                · exact .inl (.inr ⟨q, h1, h2⟩)
        by_cases hc : iv c ∨ Lv as e.ob c
        · rw [if_pos hc, if_pos (kk.mpr hc)]
        · rw [if_neg hc, if_neg (fun z => hc (kk.mp z))]
      have al := ren2_wr S1 (as' := [a, b]) (g := Sub.refl _) ha' hb' rfl rfl w1 (by rw [hr]; exact fun k hk => by simpa using hk)
      have after : ∀ as' e' σ' H' o1' o2' more, e'.ob = o1' :: o2' :: more → o1'.flat = true → o2'.flat = true → SR K (cut [a, b] H1) iv' as' e' σ' H' → Ltr iv' [a, b] [o1, o2] H1 as' e'.ob H' →
          (SR K H0 iv as ⟨e.sl, (e.ob.set n o1').set m o2'⟩ σ H' ∧ Ltr iv as e.ob H1 as ((e.ob.set n o1').set m o2') H') ∧ Sub (hid iv' as' e'.ob H') (hid iv as ((e.ob.set n o1').set m o2') H') := fun as' e' σ' H' o1' o2' more eo f1' f2' S' l' => by
        obtain ⟨⟨t, et⟩, _, _⟩ := l'
        have h0 : as'[0]? = some a := by rw [et]; rfl
        have h1' : as'[1]? = some b := by rw [et]; rfl
        have q0 : e'.ob[0]? = some o1' := by rw [eo]; rfl
        have q1 : e'.ob[1]? = some o2' := by rw [eo]; rfl
        have hla' : Lv as' e'.ob a := ⟨0, o1', h0, q0, Ob.flat_live f1'⟩
        have hlb' : Lv as' e'.ob b := ⟨1, o2', h1', q1, Ob.flat_live f2'⟩
        have sb : Sub (hid iv' as' e'.ob H') (hid iv as ((e.ob.set n o1').set m o2') H') := fun c u q => by
          obtain ⟨⟨p1, p2⟩, p3⟩ := hid_some.mp q
          refine hid_some.mpr ⟨⟨fun z => p1 (.inl z), ?_⟩, p3⟩
          rintro ⟨j, o, z1, z2, z3⟩
          by_cases hj2 : j = m
          · subst hj2
            rw [hb'] at z1; cases z1
            exact p2 hlb'
          · rw [List.getElem?_set_ne (Ne.symm hj2)] at z2
            by_cases hj1 : j = n
            · subst hj1
              rw [ha'] at z1; cases z1
              exact p2 hla'
            · rw [List.getElem?_set_ne (Ne.symm hj1)] at z2
              have n1 : c ≠ a := fun z => by subst z; exact hj1 (S1.inj j n _ z1 ha')
              have n2 : c ≠ b := fun z => by subst z; exact hj2 (S1.inj j m _ z1 hb')
              exact p1 (.inr ⟨⟨j, o, z1, z2, z3⟩, n1, n2⟩)
        refine ⟨S1.call2 hnm ha' hb' ho1 ho2 (Ob.flat_live hf1) (Ob.flat_live hf2) (Ob.flat_live f1') (Ob.flat_live f2') (fun c u q n1 n2 => S'.ext c u ?_) (OR.flat f1' sb (S'.obs 0 a o1' h0 q0)) (OR.flat f2' sb (S'.obs 1 b o2' h1' q1)), sb⟩
        unfold cut
        rw [if_neg (by simp [n1, n2])]; exact q
      refine ⟨iv', [a, b], [o1, o2], ren2 e.ob n ws, _, _, ⟨cut_sub, fun c z => ?_, rfl, fun i j c q1 q2 => ?_, fun i c q => ?_, fun i c q => ?_, fun i c o q1 _ _ => ?_, fun i c o q1 q2 => ?_, ?_, fun i w q => ?_⟩, h2, ?_, ?_⟩
      · rcases z with z | ⟨⟨i, o, z, _⟩, _⟩
        · exact S1.ivs c z
        · exact S1.tr i c z
      · rcases z0 i c q1 with ⟨y1, y2⟩ | ⟨y1, y2⟩ <;> rcases z0 j c q2 with ⟨y3, y4⟩ | ⟨y3, y4⟩
        · rw [y1, y3]
        · exact absurd (y2.symm.trans y4) hab
        · exact absurd (y4.symm.trans y2) hab
        · rw [y1, y3]
      · rcases z0 i c q with ⟨_, y⟩ | ⟨_, y⟩
        · rw [y]; exact S1.tr n a ha'
        · rw [y]; exact S1.tr m b hb'
      · rcases z0 i c q with ⟨_, y⟩ | ⟨_, y⟩
        · rw [y]
          rintro (z | z)
          · exact S1.niv n a ha' z
          · exact z.2.1 rfl
        · rw [y]
          rintro (z | z)
          · exact S1.niv m b hb' z
          · exact z.2.2 rfl
      · rcases z0 i c q1 with ⟨_, y⟩ | ⟨_, y⟩
        · rw [y]; unfold cut; rw [if_pos (by simp)]
        · rw [y]; unfold cut; rw [if_pos (by simp)]
      · rw [see]
        rcases z0 i c q1 with ⟨y1, y⟩ | ⟨y1, y⟩
        · subst y1; subst y
          cases (show some o1 = some o from q2)
          exact OR.flat hf1 (Sub.refl _) (S1.obs n c o1 ha' ho1)
        · subst y1; subst y
          cases (show some o2 = some o from q2)
          exact OR.flat hf2 (Sub.refl _) (S1.obs m c o2 hb' ho2)
      · simp [ren2_len, w1.1]
      · have q : ((ren2 e.ob n ws).map some)[i]? = some (some w) := q
        rw [List.getElem?_map] at q
        cases hw : (ren2 e.ob n ws)[i]? with
        | none => rw [hw] at q; cases q
        | some w' =>
          rw [hw] at q
          cases q
          obtain ⟨v, q1, q2⟩ := al.get hw
          refine ⟨v, by rw [List.getElem?_map, q1]; rfl, ?_⟩
          rw [see]; exact q2
      · intro v d as' e' σ' H' hq S' l' dp
        split at hq
        · rename_i o1' o2' more eo
          obtain ⟨f1', hq⟩ := kF_elim hq
          obtain ⟨f2', hq⟩ := kF_elim hq
          obtain ⟨⟨S3, l3⟩, sb⟩ := after as' e' σ' H' o1' o2' more eo f1' f2' S' l'
          exact k v _ as _ H' hq S3 (l1.trans l3) (dp_sub sb _ _ dp)
        · exact hq.elim
      · intro x cls dx as' e' σ' H' hq
        exact hq.elim
    · exact h1.elim
  · exact h1.elim⟩
end
theorem pd_call2 {X : Cx} {E : XK} {x : Str} {a : Expr} {es : List Expr} {tr : L2.TA} {pr : PTA} {pos p2 : Pos} {K : PySem.W.Frag} {CX : CXT} {k : Nat} {fa : Addr} {fd : FuncData} {N : List Str} {s : Sc} (F : FnOk X.prog X.w K X.mg X.base CX k fa fd N (toSp K s)) (hr : Room k X.A) (hg : Gl X x) (hm : X.mg x = some (.ref fa)) (hk : PySem.W.keepIn K (.ref fa) = true) (hb : Binds K fd N []) (hx : Passes CX X E)
    (ha : AD X E (a :: es) tr pr) (hdb : (x == ("__debug__" : Str)) = false := by decide) (he : starEach (a :: es) X.env = (false, eval a X.env) :: starEach es X.env := by rfl)
    (hpl : (backTo pos (starEach es X.env)).any (·.1) = false := by rfl) (hK : X.K = K := by rfl) : PD X E (.Call (.Name x p2) (a :: es) [] pos) (tCall (toSp K s) [] E tr) (pCall2 s pr) := by
  subst hK
  exact ⟨pe_call F hr hg hm hk hb .nil hx ha.a hdb he hpl, snd_call2 ha.b⟩
end PL

/-! A def that hands back a dict with tuple keys of its own. -/
namespace PL
open PySem PySem.Spec PyProof.Rows L2
abbrev ScO := List Wv → List Ob → (List (NestedKey × D) → List Ob → Prop) → Prop
def toSpO (K : PySem.W.Frag) (w : World) (s : ScO) : Sp := fun vs H Q _ => ∃ iv as ob ws Qd, SR K (cut as H) iv as ⟨ws.map some, ob⟩ (vs.map some) H ∧ s ws ob Qd ∧
  ∀ (i : Nat) (p : Addr) kvs as' e' σ' H', as'[i]? = some p → as.length ≤ i → e'.ob[i]? = some (.dit w kvs) → Qd kvs e'.ob → SR K (cut as H) iv as' e' σ' H' → Ltr iv as ob H as' e'.ob H' → Q (.ref p) H'
/-- what such a def's end is to be -/
def finO (w : World) (n : Nat) (Q : List (NestedKey × D) → List Ob → Prop) : PEn := ⟨fun _ => False, fun v e => match v with
  | .ref k => n ≤ k ∧ ∃ kvs, e.ob[k]? = some (.dit w kvs) ∧ Q kvs e.ob
  | .dat _ => False, fun _ => False, fun _ => False, fun _ _ => False⟩
section
variable {K : PySem.W.Frag} {E : XK} {ts : TS} {ps : PTS} {w : World}
theorem toSpO_body {s : ScO} (N : List Str) (hts : SndS K E ts ps) (hp : ∀ ws ob Q, s ws ob Q → ps (finO w ob.length Q) ⟨slots N.length ws, ob⟩) {vs : List V} {H : Hp} {Q : VK} {E' : XK} (h : toSpO K w s vs H Q E') :
    ts { nx := fun _ H' => Q .non H', rt := Q } (L2.start N vs) H := by
  obtain ⟨iv, as, ob, ws, Qd, S, hs, hq⟩ := h
  have hl : vs.length = ws.length := by have := S.slen; simpa using this
  have S' : SR K (cut as H) iv as ⟨slots N.length ws, ob⟩ (L2.start N vs) H := by
    refine ⟨S.ext, S.ivs, S.len, S.inj, S.tr, S.niv, S.fr, S.obs, by simp [slots, L2.start, hl], fun i w q => ?_⟩
    have q : (ws.map some ++ List.replicate (N.length - ws.length) none)[i]? = some (some w) := q
    by_cases hi : i < ws.length
    · rw [List.getElem?_append_left (by simpa using hi)] at q
      obtain ⟨v, h1, h2⟩ := S.sls i w q
      refine ⟨v, ?_, h2⟩
      unfold L2.start
      rw [List.getElem?_append_left (by simpa [hl] using hi)]
      exact h1
    · rw [List.getElem?_append_right (by simpa using hi)] at q
      rw [List.getElem?_replicate] at q
      split at q <;> cases q
  have hln : as.length = ob.length := S.len
  exact hts.run (cut as H) iv as _ _ H (finO w ob.length Qd) _ S' (hp ws ob Qd hs) (fun as' e' σ' H' h1 h2 h3 => h1.elim) (fun as' e' σ' H' h1 h2 h3 => h1.elim) (fun as' e' σ' H' h1 h2 h3 => h1.elim)
    (fun v w2 as' e' σ' H' h1 h2 h3 h4 => by
      cases w2 with
      | dat d => exact (show False from h1).elim
      | ref k =>
        obtain ⟨hk, kvs, ho, hQ⟩ := h1
        obtain ⟨a, ha, rfl⟩ := h4
        exact hq k a kvs as' e' σ' H' ha (by rw [hln]; exact hk) ho hQ h2 h3) (fun x cls d as' e' σ' H' h1 => h1.elim)
theorem toSpO_len {s : ScO} {n : Nat} (h : ∀ ws ob Q, s ws ob Q → ws.length = n) {vs : List V} {H : Hp} {Q : VK} {E : XK} (q : toSpO K w s vs H Q E) : vs.length = n := by
  obtain ⟨iv, as, ob, ws, Qd, S, hs, _⟩ := q
  have hl : vs.length = ws.length := by have := S.slen; simpa using this
  rw [hl]
  exact h _ _ _ hs
end
theorem Fn.mkO {P : Program} {w : World} {K : PySem.W.Frag} {mg : Str → Option Value} {base : Heap} {x qual : Str} {st : Stmt} {f : Addr} {fd : FuncData} {N ps : List Str} {k : Nat} {s : ScO} (F : Fun K x qual st f fd) (S : FnScope N ps (defScope st)) (len : ∀ ws ob Q, s ws ob Q → ws.length = ps.length)
    (hb : ∀ (cdv : Value) (A : Around) (outer : List PySem.Env) (s' : Shared) (H : Hp) (E : XK), Room k (A.deeper (envOfC qual (defScope st) s'.heap.objs.size f cdv)) →
      ∃ t p, BD (cxOf CX0 P w K mg base N qual (defScope st) f cdv A outer s' H E).nox E0 (defBody st) t p ∧ ∀ ws ob Q, s ws ob Q → p (finO w ob.length Q) ⟨slots N.length ws, ob⟩) : FnOk P w K mg base CX0 (k + 1) f fd ps (toSpO K w s) := by
  refine F.ok S (fun vs H Q E h => toSpO_len len h) fun cdv A outer s' H vs Q E hr h => ?_
  obtain ⟨t, p, h1, h2⟩ := hb cdv A outer s' H E hr
  exact ⟨t, h1.a, toSpO_body N h1.b h2 h⟩
/-! ### its call, no object handed over -/
def pCallO (w : World) (s : ScO) (pr : PTA) : PTE := fun X e Q => pr X e fun ws e1 => match refsOf e1.ob ws with
  | [] => s (ren e1.ob ws) [] fun kvs _ => Q (.ref e1.ob.length) ⟨e1.sl, e1.ob ++ [.dit w kvs]⟩
  | _ => False
section
variable {K : PySem.W.Frag} {E : XK} {tr : L2.TA} {pr : PTA} {w : World}
theorem snd_callO {s : ScO} (ha : SndA K E tr pr) : SndE K E (tCall (toSpO K w s) [] E tr) (pCallO w s pr) := ⟨fun H0 iv as0 e0 σ H X Q R S h k l => by
  refine ha.run H0 iv as0 e0 σ H X _ _ S h (fun vs ws as e H1 h1 S1 l1 w1 => ?_) l
  rw [List.append_nil]
  split at h1
  · rename_i hr
    let iv' : Addr → Prop := fun b => iv b ∨ Lv as e.ob b
    have see : ∀ Hx : Hp, hid iv' [] [] Hx = hid iv as e.ob Hx := fun Hx => by
      funext b
      unfold hid
      have n0 : ¬ Lv [] [] b := fun ⟨k, o, z, _⟩ => by simp at z
      by_cases hc : iv b ∨ Lv as e.ob b
      · rw [if_pos hc, if_pos (.inl hc)]
      · rw [if_neg hc, if_neg (fun z => z.elim hc n0)]
    have al := ren_wr S1 (as' := []) (g := Sub.refl _) w1 (by rw [hr]; exact fun k hk => by simp at hk)
    refine ⟨iv', [], [], ren e.ob ws, _, ⟨cut_sub, fun b z => ?_, rfl, fun k j a q => by simp at q, fun k a q => by simp at q, fun k a q => by simp at q, fun k a o q => by simp at q, fun k a o q => by simp at q, ?_, fun i w q => ?_⟩, h1, ?_⟩
    · rcases z with z | ⟨k, o, z, _⟩
      · exact S1.ivs b z
      · exact S1.tr k b z
    · simp [ren_len, w1.1]
    · have q : ((ren e.ob ws).map some)[i]? = some (some w) := q
      rw [List.getElem?_map] at q
      cases hw : (ren e.ob ws)[i]? with
      | none => rw [hw] at q; cases q
      | some w' =>
        rw [hw] at q
        cases q
        obtain ⟨v, q1, q2⟩ := al.get hw
        refine ⟨v, by rw [List.getElem?_map, q1]; rfl, ?_⟩
        rw [see]; exact q2
    · intro i p kvs as' e' σ' H' hi hle ho hq S' l'
      have p0 : cut [] H1 p = none := S'.fr i p _ hi ho rfl
      have pn : H1 p = none := by
        unfold cut at p0
        rw [if_neg (by simp)] at p0
        exact p0
      obtain ⟨u, hu⟩ := S'.tr i p hi
      have SA := S1.hide (u := u) pn
      have g : Sub (upd H1 p u) H' := fun c o q => by
        by_cases hc : c = p
        · rw [hc, upd_same] at q
          rw [hc, hu]; exact q
        · rw [upd_ne hc] at q
          exact S'.ext c o (by unfold cut; rw [if_neg (by simp)]; exact q)
      obtain ⟨SB, lB⟩ := SA.grow g
      have sb : Sub (hid iv' as' e'.ob H') (hid (ivp iv p) as e.ob H') := fun c o q => by
        obtain ⟨⟨q1, q2⟩, q3⟩ := hid_some.mp q
        refine hid_some.mpr ⟨⟨fun z => ?_, fun z => q1 (.inr z)⟩, q3⟩
        rcases z with z | z
        · exact q1 (.inl z)
        · exact q2 ⟨i, _, by rw [z]; exact hi, ho, rfl⟩
      obtain ⟨SC, sC⟩ := SB.own (S1.h0 pn) (S1.fresh pn).1 (o := .dit w kvs) rfl (OR.flat rfl sb (S'.obs i p _ hi ho))
      refine k _ (.ref e.ob.length) (as ++ [p]) ⟨e.sl, e.ob ++ [.dit w kvs]⟩ H' hq SC (l1.trans ⟨⟨[p], rfl⟩, ((hid_ivp_new pn).trans lB.2.1).trans sC, fun b hb => ?_⟩) ⟨p, by rw [← S1.len]; simp, rfl⟩
      have hne : b ≠ p := fun z => by
        obtain ⟨o, q⟩ := S1.ivs b hb
        rw [z, pn] at q; cases q
      rw [lB.2.2 b (.inl hb), upd_ne hne]
  · exact h1.elim⟩
end
/-- two objects handed over -/
def pCallO2 (w : World) (s : ScO) (pr : PTA) : PTE := fun X e Q => pr X e fun ws e1 => match refsOf e1.ob ws with
  | [n, m] => n ≠ m ∧ match e1.ob[n]?, e1.ob[m]? with
    | some o1, some o2 => kF o1 (kF o2 (s (ren2 e1.ob n ws) [o1, o2] fun kvs ob' => match ob' with
        | o1' :: o2' :: _ => kF o1' (kF o2' (Q (.ref e1.ob.length) ⟨e1.sl, ((e1.ob.set n o1').set m o2') ++ [.dit w kvs]⟩))
        | _ => False))
    | _, _ => False
  | _ => False
section
variable {K : PySem.W.Frag} {E : XK} {tr : L2.TA} {pr : PTA} {w : World}
theorem snd_callO2 {s : ScO} (ha : SndA K E tr pr) : SndE K E (tCall (toSpO K w s) [] E tr) (pCallO2 w s pr) := ⟨fun H0 iv as0 e0 σ H X Q R S h k l => by
  refine ha.run H0 iv as0 e0 σ H X _ _ S h (fun vs ws as e H1 h1 S1 l1 w1 => ?_) l
  rw [List.append_nil]
  split at h1
  · rename_i n m hr
    obtain ⟨hnm, h1⟩ := h1
    split at h1
    · rename_i o1 o2 ho1 ho2
      obtain ⟨hf1, h1⟩ := kF_elim h1
      obtain ⟨hf2, h2⟩ := kF_elim h1
      obtain ⟨a, ha'⟩ := S1.ad ho1
      obtain ⟨b, hb'⟩ := S1.ad ho2
      have hab : a ≠ b := fun z => hnm (S1.inj n m a ha' (z ▸ hb'))
      let iv' : Addr → Prop := fun c => iv c ∨ (Lv as e.ob c ∧ c ≠ a ∧ c ≠ b)
      have hla : Lv as e.ob a := ⟨n, o1, ha', ho1, Ob.flat_live hf1⟩
      have hlb : Lv as e.ob b := ⟨m, o2, hb', ho2, Ob.flat_live hf2⟩
      have z0 : ∀ (i : Nat) (c : Addr), [a, b][i]? = some c → (i = 0 ∧ c = a) ∨ (i = 1 ∧ c = b) := fun i c q => by
        match i, q with
        | 0, q => cases q; exact .inl ⟨rfl, rfl⟩
        | 1, q => cases q; exact .inr ⟨rfl, rfl⟩
        | i + 2, q => simp at q
      have one : ∀ c, Lv [a, b] [o1, o2] c ↔ (c = a ∨ c = b) := fun c => by
        constructor
        · rintro ⟨i, o, q1, q2, q3⟩
          rcases z0 i c q1 with ⟨_, z⟩ | ⟨_, z⟩
          · exact .inl z
          · exact .inr z
        · rintro (rfl | rfl)
          · exact ⟨0, o1, rfl, rfl, Ob.flat_live hf1⟩
          · exact ⟨1, o2, rfl, rfl, Ob.flat_live hf2⟩
      have see : hid iv' [a, b] [o1, o2] H1 = hid iv as e.ob H1 := by
        funext c
        unfold hid
        have kk : (iv' c ∨ Lv [a, b] [o1, o2] c) ↔ (iv c ∨ Lv as e.ob c) := by
          rw [one c]
          constructor
          · rintro ((q | q) | (q | q))
            · exact .inl q
            · exact .inr q.1
            · subst q; exact .inr hla
            · subst q; exact .inr hlb
          · rintro (q | q)
            · exact .inl (.inl q)
            · by_cases h1 : c = a
              · exact .inr (.inl h1)
              · by_cases h2 : c = b
                · exact .inr (.inr h2)
                · exact .inl (.inr ⟨q, h1, h2⟩)
        by_cases hc : iv c ∨ Lv as e.ob c
        · rw [if_pos hc, if_pos (kk.mpr hc)]
        · rw [if_neg hc, if_neg (fun z => hc (kk.mp z))]
      have al := ren2_wr S1 (as' := [a, b]) (g := Sub.refl _) ha' hb' rfl rfl w1 (by rw [hr]; exact fun k hk => by simpa using hk)
      have after : ∀ (i : Nat) (p : Addr) kvs as' e' σ' H' o1' o2' more, as'[i]? = some p → 2 ≤ i → e'.ob[i]? = some (.dit w kvs) → e'.ob = o1' :: o2' :: more → o1'.flat = true → o2'.flat = true → SR K (cut [a, b] H1) iv' as' e' σ' H' → Ltr iv' [a, b] [o1, o2] H1 as' e'.ob H' →
          SR K H0 iv (as ++ [p]) ⟨e.sl, ((e.ob.set n o1').set m o2') ++ [.dit w kvs]⟩ σ H' ∧ Ltr iv as e.ob H1 (as ++ [p]) (((e.ob.set n o1').set m o2') ++ [.dit w kvs]) H' := fun i p kvs as' e' σ' H' o1' o2' more hi hi2 hdi eo f1' f2' S' l' => by
        obtain ⟨⟨t, et⟩, _, _⟩ := l'
        have h0 : as'[0]? = some a := by rw [et]; rfl
        have h1' : as'[1]? = some b := by rw [et]; rfl
        have q0 : e'.ob[0]? = some o1' := by rw [eo]; rfl
        have q1 : e'.ob[1]? = some o2' := by rw [eo]; rfl
        have hla' : Lv as' e'.ob a := ⟨0, o1', h0, q0, Ob.flat_live f1'⟩
        have hlb' : Lv as' e'.ob b := ⟨1, o2', h1', q1, Ob.flat_live f2'⟩
        have pa : p ≠ a := fun z => by
          have := S'.inj i 0 p hi (by rw [z]; exact h0)
          omega
        have pb : p ≠ b := fun z => by
          have := S'.inj i 1 p hi (by rw [z]; exact h1')
          omega
        have p0 : cut [a, b] H1 p = none := S'.fr i p _ hi hdi rfl
        have pn : H1 p = none := by
          unfold cut at p0
          rw [if_neg (by simp [pa, pb])] at p0
          exact p0
        obtain ⟨u, hu⟩ := S'.tr i p hi
        have SA := S1.hide (u := u) pn
        have sb : Sub (hid iv' as' e'.ob H') (hid (ivp iv p) as ((e.ob.set n o1').set m o2') H') := fun c v q => by
          obtain ⟨⟨p1, p2⟩, p3⟩ := hid_some.mp q
          refine hid_some.mpr ⟨⟨fun z => ?_, ?_⟩, p3⟩
          · rcases z with z | z
            · exact p1 (.inl z)
            · exact p2 ⟨i, _, by rw [z]; exact hi, hdi, rfl⟩
          rintro ⟨j, o, z1, z2, z3⟩
          by_cases hj2 : j = m
          · subst hj2
            rw [hb'] at z1; cases z1
            exact p2 hlb'
          · rw [List.getElem?_set_ne (Ne.symm hj2)] at z2
            by_cases hj1 : j = n
            · subst hj1
              rw [ha'] at z1; cases z1
              exact p2 hla'
            · rw [List.getElem?_set_ne (Ne.symm hj1)] at z2
              have n1 : c ≠ a := fun z => by subst z; exact hj1 (S1.inj j n _ z1 ha')
              have n2 : c ≠ b := fun z => by subst z; exact hj2 (S1.inj j m _ z1 hb')
              exact p1 (.inr ⟨⟨j, o, z1, z2, z3⟩, n1, n2⟩)
        obtain ⟨SB, lB⟩ := SA.call2 (H' := H') hnm ha' hb' ho1 ho2 (Ob.flat_live hf1) (Ob.flat_live hf2) (Ob.flat_live f1') (Ob.flat_live f2') (fun c v q n1 n2 => by
          by_cases hc : c = p
          · rw [hc, upd_same] at q
            rw [hc, hu]; exact q
          · rw [upd_ne hc] at q
            exact S'.ext c v (by unfold cut; rw [if_neg (by simp [n1, n2])]; exact q)) (OR.flat f1' sb (S'.obs 0 a o1' h0 q0)) (OR.flat f2' sb (S'.obs 1 b o2' h1' q1))
        obtain ⟨SC, sC⟩ := SB.own (S1.h0 pn) (S1.fresh pn).1 (o := .dit w kvs) rfl (OR.flat rfl sb (S'.obs i p _ hi hdi))
        refine ⟨SC, ⟨⟨[p], rfl⟩, ((hid_ivp_new pn).trans lB.2.1).trans sC, fun c hc => ?_⟩⟩
        have hne : c ≠ p := fun z => by
          obtain ⟨o, q⟩ := S1.ivs c hc
          rw [z, pn] at q; cases q
        rw [lB.2.2 c (.inl hc), upd_ne hne]
      refine ⟨iv', [a, b], [o1, o2], ren2 e.ob n ws, _, ⟨cut_sub, fun c z => ?_, rfl, fun i j c q1 q2 => ?_, fun i c q => ?_, fun i c q => ?_, fun i c o q1 _ _ => ?_, fun i c o q1 q2 => ?_, ?_, fun i w q => ?_⟩, h2, ?_⟩
      · rcases z with z | ⟨⟨i, o, z, _⟩, _⟩
        · exact S1.ivs c z
        · exact S1.tr i c z
      · rcases z0 i c q1 with ⟨y1, y2⟩ | ⟨y1, y2⟩ <;> rcases z0 j c q2 with ⟨y3, y4⟩ | ⟨y3, y4⟩
        · rw [y1, y3]
        · exact absurd (y2.symm.trans y4) hab
        · exact absurd (y4.symm.trans y2) hab
        · rw [y1, y3]
      · rcases z0 i c q with ⟨_, y⟩ | ⟨_, y⟩
        · rw [y]; exact S1.tr n a ha'
        · rw [y]; exact S1.tr m b hb'
      · rcases z0 i c q with ⟨_, y⟩ | ⟨_, y⟩
        · rw [y]
          rintro (z | z)
          · exact S1.niv n a ha' z
          · exact z.2.1 rfl
        · rw [y]
          rintro (z | z)
          · exact S1.niv m b hb' z
          · exact z.2.2 rfl
      · rcases z0 i c q1 with ⟨_, y⟩ | ⟨_, y⟩
        · rw [y]; unfold cut; rw [if_pos (by simp)]
        · rw [y]; unfold cut; rw [if_pos (by simp)]
      · rw [see]
        rcases z0 i c q1 with ⟨y1, y⟩ | ⟨y1, y⟩
        · subst y1; subst y
          cases (show some o1 = some o from q2)
          exact OR.flat hf1 (Sub.refl _) (S1.obs n c o1 ha' ho1)
        · subst y1; subst y
          cases (show some o2 = some o from q2)
          exact OR.flat hf2 (Sub.refl _) (S1.obs m c o2 hb' ho2)
      · simp [ren2_len, w1.1]
      · have q : ((ren2 e.ob n ws).map some)[i]? = some (some w) := q
        rw [List.getElem?_map] at q
        cases hw : (ren2 e.ob n ws)[i]? with
        | none => rw [hw] at q; cases q
        | some w' =>
          rw [hw] at q
          cases q
          obtain ⟨v, q1, q2⟩ := al.get hw
          refine ⟨v, by rw [List.getElem?_map, q1]; rfl, ?_⟩
          rw [see]; exact q2
      · intro i p kvs as' e' σ' H' hi hle ho hq S' l'
        split at hq
        · rename_i o1' o2' more eo
          obtain ⟨f1', hq⟩ := kF_elim hq
          obtain ⟨f2', hq⟩ := kF_elim hq
          obtain ⟨S3, l3⟩ := after i p kvs as' e' σ' H' o1' o2' more hi hle ho eo f1' f2' S' l'
          exact k _ (.ref e.ob.length) _ _ H' hq S3 (l1.trans l3) ⟨p, by rw [← S1.len]; simp, rfl⟩
        · exact hq.elim
    · exact h1.elim
  · exact h1.elim⟩
end
section
variable {X : Cx} {E : XK} {x : Str} {a : Expr} {es : List Expr} {tr : L2.TA} {pr : PTA} {pos p2 : Pos} {K : PySem.W.Frag} {w : World} {CX : CXT} {k : Nat} {fa : Addr} {fd : FuncData} {N : List Str} {s : ScO}
theorem pd_callO (F : FnOk X.prog X.w K X.mg X.base CX k fa fd N (toSpO K w s)) (hr : Room k X.A) (hg : Gl X x) (hm : X.mg x = some (.ref fa)) (hk : PySem.W.keepIn K (.ref fa) = true) (hb : Binds K fd N []) (hx : Passes CX X E)
    (ha : AD X E (a :: es) tr pr) (hdb : (x == ("__debug__" : Str)) = false := by decide) (he : starEach (a :: es) X.env = (false, eval a X.env) :: starEach es X.env := by rfl)
    (hpl : (backTo pos (starEach es X.env)).any (·.1) = false := by rfl) (hK : X.K = K := by rfl) : PD X E (.Call (.Name x p2) (a :: es) [] pos) (tCall (toSpO K w s) [] E tr) (pCallO w s pr) := by
  subst hK
  exact ⟨pe_call F hr hg hm hk hb .nil hx ha.a hdb he hpl, snd_callO ha.b⟩
theorem pd_callO2 (F : FnOk X.prog X.w K X.mg X.base CX k fa fd N (toSpO K w s)) (hr : Room k X.A) (hg : Gl X x) (hm : X.mg x = some (.ref fa)) (hk : PySem.W.keepIn K (.ref fa) = true) (hb : Binds K fd N []) (hx : Passes CX X E)
    (ha : AD X E (a :: es) tr pr) (hdb : (x == ("__debug__" : Str)) = false := by decide) (he : starEach (a :: es) X.env = (false, eval a X.env) :: starEach es X.env := by rfl)
    (hpl : (backTo pos (starEach es X.env)).any (·.1) = false := by rfl) (hK : X.K = K := by rfl) : PD X E (.Call (.Name x p2) (a :: es) [] pos) (tCall (toSpO K w s) [] E tr) (pCallO2 w s pr) := by
  subst hK
  exact ⟨pe_call F hr hg hm hk hb .nil hx ha.a hdb he hpl, snd_callO2 ha.b⟩
end
/-- in a block too -/
theorem pd_ddgetK {X : Cx} {E : XK} {K : PySem.W.Frag} {w : World} {a b : Expr} {ta tb : TE} {pa pb : PTE} {pos : Pos} (hu : X.A.units + 65 < cLine) (ha : PD X E a ta pa) (hb : PD X E b tb pb) (hs : NoSl b := by exact fun _ _ => rfl) (hK : X.K = K := by rfl) (hw : X.w = w := by rfl) : PD X E (.Subscript a b pos) (tDdGet w K ta tb) (pDdGet w pa pb) := by
  subst hK
  subst hw
  exact ⟨pe_ddget hu ha.a hb.a hs, snd_ddget ha.b hb.b⟩
end PL

/-! Targets within targets; objects that are not needed any more are forgotten. -/
namespace PL
open PySem PySem.Spec PyProof.Rows L2

/-! ### a target of two targets -/
def pPair (p q : PTG) : PTG := fun w e Q => kD e w fun d => match d with
  | .tuple [a, b] => p (.dat a) e fun e1 => q (.dat b) e1 Q
  | _ => False
theorem sg_pair {K : PySem.W.Frag} {vs us : List Nat} {g1 g2 : TG} {p1 p2 : PTG} (h1 : SndG K vs g1 p1) (h2 : SndG K us g2 p2) : SndG K (vs ++ us) (gTup K 2 (gCons g1 (gCons g2 gNil))) (pPair p1 p2) := ⟨fun H0 iv as e σ H v w Q R S hw h k => by
  obtain ⟨d, ed, h3⟩ := kD_elim h
  split at h3
  · rename_i a b
    obtain ⟨p, x, y, rfl, hs, ha, hb⟩ := dp_tup2 (asD_wr S hw ed)
    refine ⟨p, [x, y], rfl, sqt_sub hid_sub hs, rfl, x, [y], rfl, ?_⟩
    refine h1.run H0 iv as e σ H x (.dat a) _ _ S ha h3 fun e1 σ1 q1 S1 eo1 el1 k1 => ?_
    refine ⟨y, [], rfl, ?_⟩
    refine h2.run H0 iv as e1 σ1 H y (.dat b) _ _ S1 (by rw [eo1]; exact hb) q1 fun e2 σ2 q2 S2 eo2 el2 k2 => ?_
    refine ⟨rfl, ?_⟩
    refine k e2 σ2 q2 S2 (eo2.trans eo1) (el2.trans el1) fun i hi => ?_
    simp only [List.mem_append, not_or] at hi
    rw [k2 i hi.2, k1 i hi.1]
  · exact h3.elim⟩
theorem gd_pair {K : PySem.W.Frag} {X : Cx} {a b : Expr} {g1 g2 : TG} {p1 p2 : PTG} {vs us : List Nat} {k : Nat} {pos : Pos} (hc : X.calm = true) (ha : GD X vs a g1 p1) (hb : GD X us b g2 p2) (hK : X.K = K := by rfl)
    (h1 : List.map (fun x => x.snd) (assignEach [b] X.env) = assign b X.env :: List.map (fun x => x.snd) (assignEach [] X.env) := by rfl) (h2 : List.map (fun x => x.snd) (assignEach [a, b] X.env) = assign a X.env :: List.map (fun x => x.snd) (assignEach [b] X.env) := by rfl) (h3 : (assignEach [a, b] X.env).length = 2 := by rfl) (h4 : List.findIdx? (fun x => x.fst) (assignEach [a, b] X.env) = none := by rfl) :
    GD X (vs ++ us) (.Tuple [a, b] k pos) (gTup K 2 (gCons g1 (gCons g2 gNil))) (pPair p1 p2) := by
  subst hK
  exact ⟨pg_tup hc (pgs_cons ha.a (pgs_cons hb.a pgs_nil h1) h2) h3 h4, sg_pair ha.b hb.b⟩

/-! ### forgetting objects -/
def refOk (N : Nat) : Option Wv → Bool
  | some (.ref k) => Nat.blt k N
  | _ => true
def obOk (N : Nat) : Ob → Bool
  | .nst ks => ks.all fun k => Nat.blt k N
  | _ => true
def safeN (N : Nat) (e : En) : Bool := (e.sl.all (refOk N)) && ((e.ob.take N).all (obOk N))
def cutN (N : Nat) (e : En) : En := ⟨e.sl, e.ob.take N⟩
section
variable {K : PySem.W.Frag} {H0 H : Hp} {iv : Addr → Prop} {as as1 : List Addr} {e : En} {σ : L2.St} {N : Nat}
theorem hid_cut {ob : List Ob} : Sub (hid iv as ob H) (hid iv (as.take N) (ob.take N) H) := fun b o h => by
  obtain ⟨⟨q1, q2⟩, q3⟩ := hid_some.mp h
  refine hid_some.mpr ⟨⟨q1, fun z => q2 ?_⟩, q3⟩
  obtain ⟨k, o1, h1, h2, h3⟩ := z
  have hk : k < N := by
    have := (List.getElem?_eq_some_iff.mp h1).1
    rw [List.length_take] at this; omega
  rw [List.getElem?_take, if_pos hk] at h1 h2
  exact ⟨k, o1, h1, h2, h3⟩
theorem SR.cut (S : SR K H0 iv as e σ H) (h : safeN N e = true) : SR K H0 iv (as.take N) (cutN N e) σ H := by
  unfold safeN at h
  rw [Bool.and_eq_true, List.all_eq_true, List.all_eq_true] at h
  obtain ⟨hs, ho⟩ := h
  have s := hid_cut (H := H) (iv := iv) (as := as) (ob := e.ob) (N := N)
  have lt : ∀ {α : Type} {l : List α} {k : Nat} {x : α}, (l.take N)[k]? = some x → k < N ∧ l[k]? = some x := fun {α l k x} q => by
    have hk : k < N := by
      have := (List.getElem?_eq_some_iff.mp q).1
      rw [List.length_take] at this; omega
    rw [List.getElem?_take, if_pos hk] at q
    exact ⟨hk, q⟩
  have tk : ∀ {k : Nat} {a : Addr}, k < N → as[k]? = some a → (as.take N)[k]? = some a := fun {k a} hk q => by
    rw [List.getElem?_take, if_pos hk]; exact q
  refine ⟨S.ext, S.ivs, ?_, fun k j a h1 h2 => S.inj k j a (lt h1).2 (lt h2).2, fun k a q => S.tr k a (lt q).2, fun k a q => S.niv k a (lt q).2, fun k a o h1 h2 h3 => S.fr k a o (lt h1).2 (lt h2).2 h3, fun k a o h1 h2 => ?_, S.slen, fun i w hw => ?_⟩
  · show (as.take N).length = (e.ob.take N).length
    rw [List.length_take, List.length_take, S.len]
  · have q := S.obs k a o (lt h1).2 (lt h2).2
    have oo := ho o (List.mem_of_getElem? h2)
    cases o with
    | nst ks =>
      obtain ⟨xs, e1, r⟩ := q
      refine ⟨xs, e1, ⟨r.1, fun i x k' q1 q2 => ?_⟩⟩
      obtain ⟨a', e2, e3⟩ := r.2 i x k' q1 q2
      have hk' : k' < N := by
        have := (List.all_eq_true.mp (show (ks.all fun k => Nat.blt k N) = true from oo)) k' (List.mem_of_getElem? q2)
        exact Nat.le_of_ble_eq_true this
      exact ⟨a', tk hk' e2, e3⟩
    | lst ds => exact OR.sub0 (o := .lst ds) q s fun _ => rfl
    | dic kvs => exact OR.sub0 (o := .dic kvs) q s fun _ => rfl
    | dit u kvs => exact OR.sub0 (o := .dit u kvs) q s fun _ => rfl
    | box => exact OR.sub0 (o := .box) q s fun _ => rfl
    | rng lo hi => exact OR.sub0 (o := .rng lo hi) q s fun _ => rfl
    | frz d => exact OR.sub0 (o := .frz d) q s fun _ => rfl
  · obtain ⟨v, h1, h2⟩ := S.sls i w hw
    refine ⟨v, h1, ?_⟩
    cases w with
    | dat d => exact dp_sub s d v h2
    | ref k =>
      obtain ⟨a, e1, e2⟩ := h2
      have hk : k < N := by
        have := hs (some (.ref k)) (List.mem_of_getElem? hw)
        exact Nat.le_of_ble_eq_true this
      exact ⟨a, tk hk e1, e2⟩
theorem Ltr.cut {ob ob1 : List Ob} {H1 : Hp} (l : Ltr iv as ob H as1 ob1 H1) (h : as.length ≤ N) : Ltr iv as ob H (as1.take N) (ob1.take N) H1 := by
  obtain ⟨⟨t, rfl⟩, s, i1⟩ := l
  exact ⟨⟨t.take (N - as.length), by rw [List.take_append, List.take_of_length_le h]⟩, s.trans hid_cut, i1⟩
end
/-- what follows may forget slots, and the objects from a number on -/
def pTrim (p : PTS) : PTS := fun P e => p { P with nx := fun e1 => ∃ (vs : List Nat) (N : Nat), e.ob.length ≤ N ∧ safeN N (wp vs e1) = true ∧ P.nx (cutN N (wp vs e1)), ct := fun e1 => ∃ (vs : List Nat) (N : Nat), e.ob.length ≤ N ∧ safeN N (wp vs e1) = true ∧ P.ct (cutN N (wp vs e1)) } e
theorem snd_trim {K : PySem.W.Frag} {E : XK} {ts : TS} {p : PTS} (h : SndS K E ts p) : SndS K E ts (pTrim p) := ⟨fun H0 iv as e σ H P F S hp n b c r x => by
  refine h.run H0 iv as e σ H _ F S hp ?_ b ?_ r x
  · rintro as1 e1 σ1 H1 ⟨vs, N, hN, hs, hq⟩ S1 l1
    have S2 := (S1.forg vs).cut hs
    exact n _ _ σ1 H1 hq S2 (Ltr.cut (ob1 := (wp vs e1).ob) l1 (by rw [S.len]; exact hN))
  · rintro as1 e1 σ1 H1 ⟨vs, N, hN, hs, hq⟩ S1 l1
    have S2 := (S1.forg vs).cut hs
    exact c _ _ σ1 H1 hq S2 (Ltr.cut (ob1 := (wp vs e1).ob) l1 (by rw [S.len]; exact hN))⟩
theorem bd_trim {X : Cx} {E : XK} {body : List Stmt} {ts : TS} {ps : PTS} (h : BD X E body ts ps) : BD X E body ts (pTrim ps) := ⟨h.a, snd_trim h.b⟩
end PL

/-! Sets that the letters make, by products and turning; sets that meet others. -/
namespace PL
open PySem PySem.Spec PyProof.Rows L2

def meetB (A B : List Nat) : Bool := A.any fun a => B.contains a
def metB (Ss : List (List Nat)) (S : List Nat) : Bool := Ss.all fun B => meetB S B
def metN (F : Fam) (Ss : List (List Nat)) : Option Nat := (List.range F.length).find? fun k => metB Ss (atF F k)
def metD (F : Fam) (Ss : List (List Nat)) : D := match metN F Ss with
  | none => .none
  | some k => .tuple [nD k, rowD (atF F k)]
theorem metN_some {F : Fam} {Ss : List (List Nat)} {k : Nat} (h : metN F Ss = some k) : k < F.length ∧ metB Ss (atF F k) = true ∧ ∀ j < k, metB Ss (atF F j) = false := by
  obtain ⟨h1, h2, h3⟩ := List.find?_range_eq_some.mp h
  exact ⟨List.mem_range.mp h2, h1, fun j hj => by simpa using h3 j hj⟩
theorem metN_none {F : Fam} {Ss : List (List Nat)} (h : metN F Ss = none) : ∀ j < F.length, metB Ss (atF F j) = false := fun j hj => by
  have q := List.find?_eq_none.mp h j (List.mem_range.mpr hj)
  simpa using q
theorem metN_first {F : Fam} {Ss : List (List Nat)} {k : Nat} (h1 : k < F.length) (h2 : metB Ss (atF F k) = true) (h3 : ∀ j < k, metB Ss (atF F j) = false) : metN F Ss = some k :=
  List.find?_range_eq_some.mpr ⟨h2, List.mem_range.mpr h1, fun j hj => by simpa using h3 j hj⟩
theorem metN_no {F : Fam} {Ss : List (List Nat)} (h : ∀ j < F.length, metB Ss (atF F j) = false) : metN F Ss = none :=
  List.find?_eq_none.mpr fun j hj => by
    have := h j (List.mem_range.mp hj)
    simpa using this
theorem atF_mem {F : Fam} {k : Nat} (h : k < F.length) : atF F k ∈ setsF F := by
  unfold atF
  rw [List.getElem?_eq_getElem h]
  exact List.mem_map.mpr ⟨F[k], List.getElem_mem h, rfl⟩
theorem mem_atF {F : Fam} {S : List Nat} (h : S ∈ setsF F) : ∃ k, k < F.length ∧ atF F k = S := by
  obtain ⟨p, hp, rfl⟩ := List.mem_map.mp h
  obtain ⟨k, hk, rfl⟩ := List.getElem_of_mem hp
  refine ⟨k, hk, ?_⟩
  unfold atF
  rw [List.getElem?_eq_getElem hk]; rfl
theorem metN_none_iff {F : Fam} {Ss : List (List Nat)} : metN F Ss = none ↔ ∀ S ∈ setsF F, metB Ss S = false := by
  constructor
  · intro h S hS
    obtain ⟨k, hk, rfl⟩ := mem_atF hS
    exact metN_none h k hk
  · exact fun h => metN_no fun j hj => h _ (atF_mem hj)

/-! ### what the letters make -/
def getS (C : List (List Nat)) (k : Nat) : List Nat := C.getD k []
/-- sets of the family, each once -/
structure Cl (T : List (List Nat)) (F : Fam) (C : List (List Nat)) : Prop where
  sub : ∀ S ∈ C, S ∈ setsF F
  nd : C.Nodup
section
variable {T : List (List Nat)} {L : List Nat} {F : Fam} {C : List (List Nat)}
theorem Cl.few (h : Cl T F C) (g : Good T L F) (h4 : T.length ≤ 4) : C.length ≤ 16 := by
  have q := pigeon 16 (C.map bits) (fun x hx => by
    obtain ⟨S, _, rfl⟩ := List.mem_map.mp hx
    exact bits_lt S) (by
    unfold List.Nodup
    rw [List.pairwise_map]
    refine List.Pairwise.imp_of_mem ?_ h.nd
    intro a b ha hb hab e
    obtain ⟨p, hp, rfl⟩ := List.mem_map.mp (h.sub a ha)
    obtain ⟨q, hq, rfl⟩ := List.mem_map.mp (h.sub b hb)
    exact hab (bits_inj (g.fm.vs p hp) (g.fm.vs q hq) h4 h4 e))
  rw [List.length_map] at q
  exact q
theorem Cl.vs (h : Cl T F C) (g : Good T L F) {S : List Nat} (hS : S ∈ C) : VS T.length S := by
  obtain ⟨p, hp, rfl⟩ := List.mem_map.mp (h.sub S hS)
  exact g.fm.vs p hp
theorem Cl.put (h : Cl T F C) {S : List Nat} (hS : S ∈ setsF F) (hn : ¬ S ∈ C) : Cl T F (C ++ [S]) := by
  refine ⟨fun A hA => ?_, ?_⟩
  · rcases List.mem_append.mp hA with q | q
    · exact h.sub A q
    · simp at q; subst q; exact hS
  · refine List.nodup_append.mpr ⟨h.nd, by simp, fun a ha b hb => ?_⟩
    simp at hb; subst hb
    exact fun e => hn (e ▸ ha)
theorem Good.turnS' (g : Good T L F) {S : List Nat} (hS : S ∈ setsF F) : turnS T S ∈ setsF F := by
  obtain ⟨k, hk, rfl⟩ := mem_atF hS
  exact g.turn k hk
theorem Good.prodS' (g : Good T L F) {S R : List Nat} (hS : S ∈ setsF F) (hR : R ∈ setsF F) : prodS T S R ∈ setsF F := by
  obtain ⟨k, hk, rfl⟩ := mem_atF hS
  obtain ⟨j, hj, rfl⟩ := mem_atF hR
  exact g.both k hk j hj
/-- a closed list of sets has all of the family -/
theorem all_in (g : Good T L F) (hl : ∀ v ∈ L, [v] ∈ C) (ht : ∀ S ∈ C, turnS T S ∈ C) (hb : ∀ S ∈ C, ∀ R ∈ C, prodS T S R ∈ C) : ∀ S ∈ setsF F, S ∈ C := by
  have key : ∀ n k, k < n → k < F.length → atF F k ∈ C := by
    intro n
    induction n with
    | zero => intro k h; omega
    | succ n ih =>
      intro k hk hkl
      have hp : F[k]? = some F[k] := List.getElem?_eq_getElem hkl
      have mk := g.made k _ hp
      have eS : atF F k = F[k].2 := by unfold atF; rw [hp]; rfl
      rw [eS]
      generalize F[k] = p at mk
      obtain ⟨m, S⟩ := p
      cases m with
      | letter a =>
        obtain ⟨ha, hS⟩ := mk
        show S ∈ C
        rw [show S = [L.getD a 0] from hS]
        exact hl _ (getD_mem ha)
      | turn b =>
        obtain ⟨h1, hS⟩ := mk
        show S ∈ C
        rw [show S = turnS T (atF F b) from hS]
        exact ht _ (ih b (by omega) (by omega))
      | both a b =>
        obtain ⟨⟨h1, h2⟩, hS⟩ := mk
        show S ∈ C
        rw [show S = prodS T (atF F a) (atF F b) from hS]
        exact hb _ (ih a (by omega) (by omega)) _ (ih b (by omega) (by omega))
  intro S hS
  obtain ⟨k, hk, rfl⟩ := mem_atF hS
  exact key (k + 1) k (by omega) hk
end
/-- what has been made of the sets below k of the first n -/
def DoneC (T : List (List Nat)) (C0 C : List (List Nat)) (k : Nat) : Prop := ∀ i < k, turnS T (getS C0 i) ∈ C ∧ ∀ j < C0.length, prodS T (getS C0 i) (getS C0 j) ∈ C
theorem DoneC.pre {T : List (List Nat)} {C0 C C2 : List (List Nat)} {k : Nat} (h : DoneC T C0 C k) (s : C <+: C2) : DoneC T C0 C2 k := fun i hi => ⟨s.subset (h i hi).1, fun j hj => s.subset ((h i hi).2 j hj)⟩
theorem any_rows {S : List Nat} {C : List (List Nat)} : ((C.map rowD).any fun z => PyData.eqv z (rowD S)) = decide (S ∈ C) := by
  rw [List.any_map, Bool.eq_iff_iff, List.any_eq_true, decide_eq_true_eq]
  constructor
  · rintro ⟨x, hx, e⟩
    have := (tell_row x S).mp e
    rw [← this]; exact hx
  · exact fun h => ⟨S, h, (tell_row S S).mpr rfl⟩
theorem getS_mem {C : List (List Nat)} {k : Nat} (h : k < C.length) : getS C k ∈ C := getD_mem h
theorem at_rows {C : List (List Nat)} {k : Nat} (h : k < C.length) : atI (C.map rowD) (k : Int) = some (rowD (getS C k)) := at_nat (by
  rw [List.getElem?_map, List.getElem?_eq_getElem h, getS, List.getD_eq_getElem?_getD, List.getElem?_eq_getElem h]; rfl)
theorem pre_getS {C0 C : List (List Nat)} (s : C0 <+: C) {k : Nat} (h : k < C0.length) : getS C k = getS C0 k := by
  obtain ⟨t, rfl⟩ := s
  unfold getS
  rw [List.getD_eq_getElem?_getD, List.getD_eq_getElem?_getD, List.getElem?_append_left h]
theorem lay_rows {C : List (List Nat)} : Lay 2 (.list (C.map rowD)) := lay_list (lay_map fun _ => lay_row)
theorem ris_vs {n : Nat} {S : List Nat} (h : VS n S) : risOk (S.map fun n : Nat => (n : Int)) n = true := by
  have : upI (S.map fun n : Nat => (n : Int)) = true := by
    unfold upI
    rw [decide_eq_true_eq, List.pairwise_map]
    exact h.up.imp fun z => by omega
  rw [risOk, this, below_nat h.lt]; rfl
theorem meet_row {A B : List Nat} : (A.any fun a => B.contains a) = meetB A B := rfl
/-! ### promises -/
def seqD (A : List Nat) (d : D) : Prop := d = .tuple (A.map nD) ∨ d = .list (A.map nD)
def s_have_common : Sc := fun ws ob X Q => ∃ (A B : List Nat) (d e : D), seqD A d ∧ seqD B e ∧ A.length ≤ 1000 ∧ ws = [.dat d, .dat e] ∧ ob = [] ∧ ∀ more, Q (.bool (meetB A B)) more
def s_check_sets : Sc := fun ws ob X Q => ∃ (T : List (List Nat)) (L : List Nat) (Ss : List (List Nat)), SgA T L ∧ (∀ S ∈ Ss, VS T.length S) ∧ ws = [.dat (sgD T L), .dat (.list (Ss.map rowD))] ∧ ob = [] ∧ ∀ more, Q .none more
def s_meeting : Sc := fun ws ob X Q => ∃ (T : List (List Nat)) (L : List Nat) (Ss : List (List Nat)), SgA T L ∧ (∀ S ∈ Ss, VS T.length S) ∧ Ss.length ≤ 1000 ∧ ws = [.dat (sgD T L), .dat (.list (Ss.map rowD))] ∧ ob = [] ∧ ∀ more, Q (metD (fam T L 16) Ss) more
def s__law_closed : Sc := fun ws ob X Q => ∃ T L, SgA T L ∧ ws = [.dat (sgD T L)] ∧ ob = [] ∧ ∀ C more, Cl T (fam T L 16) C → (∀ S ∈ setsF (fam T L 16), S ∈ C) → Q (.list (C.map rowD)) more
def s__law_meets : Sc := fun ws ob X Q => ∃ (S : List Nat) (Ss : List (List Nat)), S.length ≤ 1000 ∧ ws = [.dat (rowD S), .dat (.list (Ss.map rowD))] ∧ ob = [] ∧ ∀ more, Q (.bool (metB Ss S)) more
end PL

namespace PL
open PySem PySem.Spec PyProof.Rows L2
def topS (i : Nat) : Stmt := PySem.Challenge.pw_partfilter_k22_sets_that_meet.main.body.getD i (.Pass ⟨0, 0, 0, 0⟩)
section
variable {P : Program} {w : World} {K : PySem.W.Frag} {mg : Str → Option Value} {base : Heap}
abbrev sd_are_below : Stmt := topS 1
abbrev n_are_below : List Str := ["numbers", "many", "number"]
theorem sc_are_below : FnScope n_are_below ["numbers", "many"] (defScope sd_are_below) := ⟨rfl, rfl, rfl, by decide +kernel, rfl, by decide +kernel, by decide +kernel⟩

theorem ok_are_below {f : Addr} {fd : FuncData} (F : Fun K "are_below" "are_below" sd_are_below f fd) (m_all : mg "all" = none) : FnOk P w K mg base CX0 1 f fd ["numbers", "many"] (toSp K s_are_below) := by
  refine Fn.mkB F sc_are_below (fun ws ob X Q h => ?_) (fun ws ob X Q h => ?_) fun cdv A outer s' H E hr => ⟨_, _, (bd_one (sd_ret (pd_allL (K := K) rfl (by rfl) m_all (ad_cons (pd_lc (own := [("number", 2)]) rfl sc_are_below.nd  (id_seq (K := K) (pd_var 0)) (blkOk_by (N := n_are_below) (sc := defScope sd_are_below) (by decide +kernel)) (fun _ _ _ _ _ => (gd_name 2 sc_are_below.nd)) (fun _ _ _ _ _ => qd_nil) (fun _ _ _ _ _ => (pd_chain cm_le cm_lt pd_int (pd_var 2) (pd_var 1)))) ad_nil)))), fun ws ob X Q h => ?_⟩
  · obtain ⟨_, _, _, _, _, rfl, _⟩ := h; rfl
  · exact h
  · obtain ⟨ns, m, d, hd, hl, rfl, rfl, hq⟩ := h
    let f : Int → Bool := fun n => decide (0 ≤ n) && decide (n < m)
    have e : (ns.map f).all id = below ns m := by simp [below, f, List.all_map]
    have q : ∀ more, Q (.bool ((ns.map f).all id)) more := by rw [e]; exact hq
    rcases hd with rfl | rfl
    all_goals
      refine ⟨by rw [List.length_map]; omega, fun i acc => acc = ((ns.take i).map f).map .bool, rfl, ?_, ?_⟩
      · rintro i d acc hd rfl
        obtain ⟨n, hn, rfl⟩ := map_at hd
        have step : ∀ b : Bool, b = f n → ((ns.take i).map f).map PyData.bool ++ [.bool b] = ((ns.take (i + 1)).map f).map PyData.bool := fun b hb => by
          subst hb
          rw [take_snoc hn, List.map_append, List.map_append]; rfl
        refine ⟨fun _ => ⟨fun h1 => ⟨rfl, step _ ?_⟩, fun h1 => ⟨rfl, step _ ?_⟩⟩, tf⟩
        · have h1 : decide (0 ≤ n) = true := h1
          show decide (n < m) = (decide (0 ≤ n) && decide (n < m))
          rw [h1]; rfl
        · have h1 : decide (0 ≤ n) = false := h1
          show false = (decide (0 ≤ n) && decide (n < m))
          rw [h1]; rfl
      · rintro acc rfl
        rw [List.length_map, List.take_length]
        exact ⟨ns.map f, rfl, q _⟩

abbrev sd_is_associative : Stmt := topS 13
abbrev n_is_associative : List Str := ["table", "values", "one", "two", "three"]
theorem sc_is_associative : FnScope n_is_associative ["table"] (defScope sd_is_associative) := ⟨rfl, rfl, rfl, by decide +kernel, rfl, by decide +kernel, by decide +kernel⟩

theorem ok_is_associative {f : Addr} {fd : FuncData} (F : Fun K "is_associative" "is_associative" sd_is_associative f fd) (m_range : mg "range" = none) (m_all : mg "all" = none) (m_len : mg "len" = none) : FnOk P w K mg base CX0 1 f fd ["table"] (toSp K s_is_associative) := by
  refine Fn.mkB F sc_is_associative (fun ws ob X Q h => ?_) (fun ws ob X Q h => ?_) fun cdv A outer s' H E hr => ⟨_, _, (bd_cons (sd_set 1 sc_is_associative.nd (pd_rngV (by rfl) m_range (ad_cons (pd_len (K := K) (by rfl) m_len (ad_cons (pd_var 0) ad_nil)) ad_nil)))
  (bd_one (sd_ret (pd_allL (K := K) rfl (by rfl) m_all (ad_cons (pd_lB3 (own := [("one", 2), ("two", 3), ("three", 4)]) [3, 4] [4] rfl sc_is_associative.nd (id_rv (pd_var 1)).j (blkOk_by (N := n_is_associative) (sc := defScope sd_is_associative) (by decide +kernel)) (fun _ _ _ _ _ => (gd_name 2 sc_is_associative.nd)) (fun _ _ _ _ _ => qd_nil) (fun _ _ _ _ _ => (id_rv (pd_var 1)).j) (fun _ _ _ _ _ => (gd_name 3 sc_is_associative.nd)) (fun _ _ _ _ _ => qd_nil) (fun _ _ _ _ _ => (id_rv (pd_var 1)).j) (fun _ _ _ _ _ => (gd_name 4 sc_is_associative.nd)) (fun _ _ _ _ _ => qd_nil) (fun _ _ _ _ _ => (pd_cm (cm_eqA (K := K) hr.units) (pd_ixA (K := K) (pd_ixA (K := K) (pd_var 0) (pd_ixA (K := K) (pd_ixA (K := K) (pd_var 0) (pd_var 2)) (pd_var 3))) (pd_var 4)) (pd_ixA (K := K) (pd_ixA (K := K) (pd_var 0) (pd_var 2)) (pd_ixA (K := K) (pd_ixA (K := K) (pd_var 0) (pd_var 3)) (pd_var 4))) (nomark _)))) ad_nil))))), fun ws ob X Q h => ?_⟩
  · obtain ⟨_, _, _, rfl, _⟩ := h; rfl
  · exact h
  · obtain ⟨T, ht, h4, rfl, rfl, hq⟩ := h
    have eT : (((T.map rowD).length : Int) - 0).toNat = T.length := by simp
    have bd : -(2 ^ 62) ≤ (0 : Int) ∧ (0 : Int) < 2 ^ 62 ∧ -(2 ^ 62) ≤ ((T.map rowD).length : Int) ∧ ((T.map rowD).length : Int) < 2 ^ 62 := by
      refine ⟨by decide, by decide, ?_, ?_⟩ <;> simp <;> omega
    let R := List.range T.length
    let fc : Nat → Nat → Nat → D := fun a b c => .bool (tstA T a b c)
    let fb : Nat → Nat → List D := fun a b => R.map (fc a b)
    let fa : Nat → List D := fun a => R.flatMap (fb a)
    have lb : ∀ a b, (fb a b).length = T.length := fun a b => by simp [fb, R]
    have la : ∀ a, (fa a).length = T.length * T.length := fun a => by rw [flat_len' (lb a)]; simp [R]
    have few : T.length * T.length ≤ 16 := Nat.mul_le_mul h4 h4
    have rs : ∀ {i : Nat}, List.range (i + 1) = List.range i ++ [i] := fun {i} => List.range_succ
    have rl : ∀ i, i < T.length → ((List.range i).flatMap fa).length ≤ 64 := fun i hi => by
      rw [flat_len' la, List.length_range]
      exact Nat.le_trans (Nat.mul_le_mul (show i ≤ 4 by omega) few) (by decide)
    have rl2 : ∀ a i, i < T.length → ((List.range i).flatMap (fb a)).length ≤ 16 := fun a i hi => by
      rw [flat_len' (lb a), List.length_range]
      exact Nat.le_trans (Nat.mul_le_mul (show i ≤ 4 by omega) h4) (by decide)
    refine ⟨0, 0, _, rfl, rfl, bd, ?_⟩
    refine ⟨fun i acc => acc = (List.range i).flatMap fa, rfl, ?_, ?_⟩
    · rintro i d acc hd rfl
      obtain ⟨hi, rfl⟩ := ints_at.mp hd
      rw [eT] at hi
      rw [show (0 : Int) + (i : Int) = (i : Int) by omega]
      refine ⟨fun _ => ⟨rfl, ?_⟩, tf⟩
      refine ⟨0, 0, _, rfl, rfl, bd, rfl, fun j acc => acc = (List.range i).flatMap fa ++ (List.range j).flatMap (fb i), (List.append_nil _).symm, ?_, ?_⟩
      · rintro j d acc hd rfl
        obtain ⟨hj, rfl⟩ := ints_at.mp hd
        rw [eT] at hj
        rw [show (0 : Int) + (j : Int) = (j : Int) by omega]
        refine ⟨fun _ => ⟨rfl, ?_⟩, tf⟩
        refine ⟨0, 0, _, rfl, rfl, bd, rfl, fun k acc => acc = (List.range i).flatMap fa ++ (List.range j).flatMap (fb i) ++ (List.range k).map (fc i j), (List.append_nil _).symm, ?_, ?_⟩
        · rintro k d acc hd rfl
          obtain ⟨hk, rfl⟩ := ints_at.mp hd
          rw [eT] at hk
          rw [show (0 : Int) + (k : Int) = (k : Int) by omega]
          refine ⟨fun _ => ⟨rfl, ?_⟩, tf⟩
          have hm := ht.mul hi hj
          have hm2 := ht.mul hj hk
          refine ⟨?_, _, at_tbl hi, _, at_row (by rw [ht.row hi]; exact hj), _, at_tbl hm, _, at_row (show k < (T.getD (mulT T i j) []).length by rw [ht.row hm]; exact hk), _, at_tbl hi, _, at_tbl hj, _, at_row (by rw [ht.row hj]; exact hk), _, at_row (by rw [ht.row hi]; exact hm2), rfl, ?_⟩
          · have := rl i hi
            have := rl2 i j hj
            rw [List.length_append, List.length_append, List.length_map, List.length_range]; omega
          · show _ ++ [fc i j k] = _ ++ (List.range (k + 1)).map (fc i j)
            rw [rs, List.map_append, ← List.append_assoc]; rfl
        · rintro acc rfl
          rw [ints_len, eT]
          show _ = _ ++ (List.range (j + 1)).flatMap (fb i)
          rw [rs, List.flatMap_append, List.flatMap_cons, List.flatMap_nil, List.append_nil, List.append_assoc]
      · rintro acc rfl
        rw [ints_len, eT]
        show _ = (List.range (i + 1)).flatMap fa
        rw [rs, List.flatMap_append, List.flatMap_cons, List.flatMap_nil, List.append_nil]
    · rintro acc rfl
      rw [ints_len, eT]
      refine ⟨bsA T, ?_, hq _⟩
      show R.flatMap fa = (bsA T).map PyData.bool
      unfold bsA
      rw [List.map_flatMap]
      congr 1
      funext a
      rw [List.map_flatMap]
      show R.flatMap (fb a) = _
      congr 1
      funext b
      rw [List.map_map]
      rfl
abbrev sd_are_rows : Stmt := topS 2
abbrev n_are_rows : List Str := ["rows", "size", "many", "row"]
theorem sc_are_rows : FnScope n_are_rows ["rows", "size", "many"] (defScope sd_are_rows) := ⟨rfl, rfl, rfl, by decide +kernel, rfl, by decide +kernel, by decide +kernel⟩

theorem ok_are_rows {f f_are_below : Addr} {fd fd_are_below : FuncData} (F : Fun K "are_rows" "are_rows" sd_are_rows f fd)
    (F_are_below : Fun K "are_below" "are_below" sd_are_below f_are_below fd_are_below) (b_are_below : L2.Binds K fd_are_below ["numbers", "many"] []) (m_are_below : mg "are_below" = some (.ref f_are_below)) (G_are_below : FnOk P w K mg base CX0 1 f_are_below fd_are_below ["numbers", "many"] (toSp K s_are_below)) (m_all : mg "all" = none) (m_len : mg "len" = none) : FnOk P w K mg base CX0 2 f fd ["rows", "size", "many"] (toSp K s_are_rows) := by
  refine Fn.mkB F sc_are_rows (fun ws ob X Q h => ?_) (fun ws ob X Q h => ?_) fun cdv A outer s' H E hr => ⟨_, _, (bd_one (sd_ret (pd_allL (K := K) rfl (by rfl) m_all (ad_cons (pd_lc (own := [("row", 3)]) rfl sc_are_rows.nd  (id_seq (K := K) (pd_var 0)) (blkOk_by (N := n_are_rows) (sc := defScope sd_are_rows) (by decide +kernel)) (fun _ _ _ _ _ => (gd_name 3 sc_are_rows.nd)) (fun _ _ _ _ _ => qd_nil) (fun _ _ _ _ _ => (pd_and (pd_cm (cm_eqA (K := K) hr.units) (pd_len (K := K) (by rfl) m_len (ad_cons (pd_var 3) ad_nil)) (pd_var 1) (nomark _)) (pd_and1 (pd_call (K := K) G_are_below (hr.mono (by decide)) (by rfl) m_are_below F_are_below.kp b_are_below pass0 (ad_cons (pd_var 3) (ad_cons (pd_var 2) ad_nil))))))) ad_nil)))), fun ws ob X Q h => ?_⟩
  · obtain ⟨_, _, _, _, _, rfl, _⟩ := h; rfl
  · exact h
  · obtain ⟨rows, size, m, hl, hr, rfl, rfl, hq⟩ := h
    let f : List Int → Bool := fun r => decide ((r.length : Int) = size) && below r m
    have e : (rows.map f).all id = rowsOk rows size m := by simp [rowsOk, f, List.all_map]
    have q : ∀ more, Q (.bool ((rows.map f).all id)) more := by rw [e]; exact hq
    refine ⟨by rw [List.length_map]; omega, fun i acc => acc = ((rows.take i).map f).map .bool, rfl, ?_, ?_⟩
    · rintro i d acc hd rfl
      obtain ⟨r, hn, rfl⟩ := map_at hd
      have hrl := hr r (List.mem_of_getElem? hn)
      have er : ((r.map PyData.int).length : Int) = (r.length : Int) := by simp
      have step : ∀ b : Bool, b = f r → ((rows.take i).map f).map PyData.bool ++ [.bool b] = ((rows.take (i + 1)).map f).map PyData.bool := fun b hb => by
        subst hb
        rw [take_snoc hn, List.map_append, List.map_append]; rfl
      refine ⟨fun _ => ⟨fun h1 => ?_, fun h1 => ⟨rfl, step _ ?_⟩⟩, tf⟩
      · have h1 : decide (((r.map PyData.int).length : Int) = size) = true := h1
        rw [er] at h1
        refine ⟨r, m, _, .inl rfl, hrl, rfl, rfl, fun more => ⟨rfl, step _ ?_⟩⟩
        show below r m = (decide ((r.length : Int) = size) && below r m)
        rw [h1]; rfl
      · have h1 : decide (((r.map PyData.int).length : Int) = size) = false := h1
        rw [er] at h1
        show false = (decide ((r.length : Int) = size) && below r m)
        rw [h1]; rfl
    · rintro acc rfl
      rw [List.length_map, List.take_length]
      exact ⟨rows.map f, rfl, q _⟩
abbrev sd_fault_of : Stmt := topS 12
abbrev n_fault_of : List Str := ["semigroup", "table", "letters", "many"]
theorem sc_fault_of : FnScope n_fault_of ["semigroup"] (defScope sd_fault_of) := ⟨rfl, rfl, rfl, by decide +kernel, rfl, by decide +kernel, by decide +kernel⟩

theorem ok_fault_of {f f_is_associative f_are_rows f_are_below : Addr} {fd fd_is_associative fd_are_rows fd_are_below : FuncData} {t_MOST_VALUES : Tok} {t_MOST_LETTERS : Tok} (F : Fun K "fault_of" "fault_of" sd_fault_of f fd)
    (F_is_associative : Fun K "is_associative" "is_associative" sd_is_associative f_is_associative fd_is_associative) (b_is_associative : L2.Binds K fd_is_associative ["table"] []) (m_is_associative : mg "is_associative" = some (.ref f_is_associative)) (G_is_associative : FnOk P w K mg base CX0 1 f_is_associative fd_is_associative ["table"] (toSp K s_is_associative))
    (F_are_rows : Fun K "are_rows" "are_rows" sd_are_rows f_are_rows fd_are_rows) (b_are_rows : L2.Binds K fd_are_rows ["rows", "size", "many"] []) (m_are_rows : mg "are_rows" = some (.ref f_are_rows)) (G_are_rows : FnOk P w K mg base CX0 2 f_are_rows fd_are_rows ["rows", "size", "many"] (toSp K s_are_rows))
    (F_are_below : Fun K "are_below" "are_below" sd_are_below f_are_below fd_are_below) (b_are_below : L2.Binds K fd_are_below ["numbers", "many"] []) (m_are_below : mg "are_below" = some (.ref f_are_below)) (G_are_below : FnOk P w K mg base CX0 1 f_are_below fd_are_below ["numbers", "many"] (toSp K s_are_below)) (m_len : mg "len" = none) (m_MOST_VALUES : mg "MOST_VALUES" = some (.int 4 t_MOST_VALUES)) (m_MOST_LETTERS : mg "MOST_LETTERS" = some (.int 3 t_MOST_LETTERS)) : FnOk P w K mg base CX0 3 f fd ["semigroup"] (toSp K s_fault_of) := by
  refine Fn.mkB F sc_fault_of (fun ws ob X Q h => ?_) (fun ws ob X Q h => ?_) fun cdv A outer s' H E hr => ⟨_, _, (bd_cons (sd_asg (pd_var 0) (gd_tup2 (K := K) 1 2 rfl sc_fault_of.nd))
  (bd_cons (sd_set 3 sc_fault_of.nd (pd_len (K := K) (by rfl) m_len (ad_cons (pd_var 1) ad_nil)))
  (bd_cons (sd_if (td_wd (wd_or (td_not (td_chain cm_le cm_le pd_int (pd_var 3) (pd_glob (v := .int 4) (d := .int 4) (by rfl) m_MOST_VALUES ⟨_, rfl⟩ fun _ _ => Dp.int _))) (wd_or1 (td_not (td_val (pd_call (K := K) G_are_rows (hr.mono (by decide)) (by rfl) m_are_rows F_are_rows.kp b_are_rows pass0 (ad_cons (pd_var 1) (ad_cons (pd_var 3) (ad_cons (pd_var 3) ad_nil))))))))) (bd_one (sd_ret pd_str)) bd_nil)
  (bd_cons (sd_if (td_wd (wd_or (td_not (td_chain cm_le cm_le pd_int (pd_len (K := K) (by rfl) m_len (ad_cons (pd_var 2) ad_nil)) (pd_glob (v := .int 3) (d := .int 3) (by rfl) m_MOST_LETTERS ⟨_, rfl⟩ fun _ _ => Dp.int _))) (wd_or1 (td_not (td_val (pd_call (K := K) G_are_below (hr.mono (by decide)) (by rfl) m_are_below F_are_below.kp b_are_below pass0 (ad_cons (pd_var 2) (ad_cons (pd_var 3) ad_nil)))))))) (bd_one (sd_ret pd_str)) bd_nil)
  (bd_cons (sd_if (td_not (td_val (pd_call (K := K) G_is_associative (hr.mono (by decide)) (by rfl) m_is_associative F_is_associative.kp b_is_associative pass0 (ad_cons (pd_var 1) ad_nil)))) (bd_one (sd_ret pd_str)) bd_nil)
  (bd_one (sd_ret pd_non))))))), fun ws ob X Q h => ?_⟩
  · obtain ⟨_, _, _, _, _, rfl, _⟩ := h; rfl
  · exact h
  · obtain ⟨rows, ls, hr1, hr2, hls, rfl, rfl, hq⟩ := h
    have er : ((rows.map rowI).length : Int) = (rows.length : Int) := by simp
    have el : ((ls.map PyData.int).length : Int) = (ls.length : Int) := by simp
    have say : ∀ r : Option Str, sgFault rows ls = r → ∀ more, Q (wordD r) more := fun r e more => e ▸ hq more
    have bad1 : (decide (1 ≤ (rows.length : Int)) && decide ((rows.length : Int) ≤ 4)) = false ∨ rowsOk rows rows.length rows.length = false → ∀ more, Q (.str "table") more := fun h => say (some "table") (by unfold sgFault; rw [if_pos h])
    refine ⟨fun h2 => ⟨fun hb => ⟨fun _ => ?_, tf⟩, fun hb => ?_⟩, fun h2 => ⟨fun _ => ⟨fun _ => ?_, tf⟩, tf⟩⟩
    · have hb : (!decide (((rows.map rowI).length : Int) ≤ 4)) = true := hb
      rw [er] at hb
      exact bad1 (.inl (by rw [Bool.and_eq_false_iff]; right; simpa using hb)) _
    · have h2 : decide (1 ≤ ((rows.map rowI).length : Int)) = true := h2
      have hb : (!decide (((rows.map rowI).length : Int) ≤ 4)) = false := hb
      rw [er] at h2 hb
      have hb4 : decide ((rows.length : Int) ≤ 4) = true := by simpa using hb
      refine ⟨rows, ((rows.map rowI).length : Int), ((rows.map rowI).length : Int), hr1, hr2, rfl, rfl, fun more => ⟨fun h3 => ?_, fun h3 => ?_⟩⟩
      · have h3 : (!rowsOk rows ((rows.map rowI).length : Int) ((rows.map rowI).length : Int)) = true := h3
        rw [er] at h3
        exact bad1 (.inr (by simpa using h3)) _
      have h3 : (!rowsOk rows ((rows.map rowI).length : Int) ((rows.map rowI).length : Int)) = false := h3
      rw [er] at h3
      have h3 : rowsOk rows rows.length rows.length = true := by simpa using h3
      have ok1 : ¬ ((decide (1 ≤ (rows.length : Int)) && decide ((rows.length : Int) ≤ 4)) = false ∨ rowsOk rows rows.length rows.length = false) := by
        rw [h2, hb4, h3]; simp
      have bad2 : (decide (1 ≤ (ls.length : Int)) && decide ((ls.length : Int) ≤ 3)) = false ∨ below ls rows.length = false → ∀ more, Q (.str "letters") more := fun h => say (some "letters") (by unfold sgFault; rw [if_neg ok1, if_pos h])
      refine ⟨fun h4 => ⟨fun hc => ⟨fun _ => ?_, tf⟩, fun hc => ?_⟩, fun h4 => ⟨fun _ => ⟨fun _ => ?_, tf⟩, tf⟩⟩
      · have hc : (!decide (((ls.map PyData.int).length : Int) ≤ 3)) = true := hc
        rw [el] at hc
        exact bad2 (.inl (by rw [Bool.and_eq_false_iff]; right; simpa using hc)) _
      · have h4 : decide (1 ≤ ((ls.map PyData.int).length : Int)) = true := h4
        have hc : (!decide (((ls.map PyData.int).length : Int) ≤ 3)) = false := hc
        rw [el] at h4 hc
        have hc3 : decide ((ls.length : Int) ≤ 3) = true := by simpa using hc
        refine ⟨ls, ((rows.map rowI).length : Int), _, .inl rfl, hls, rfl, rfl, fun more => ⟨fun h5 => ?_, fun h5 => ?_⟩⟩
        · have h5 : (!below ls ((rows.map rowI).length : Int)) = true := h5
          rw [er] at h5
          exact bad2 (.inr (by simpa using h5)) _
        have h5 : (!below ls ((rows.map rowI).length : Int)) = false := h5
        rw [er] at h5
        have ok2 : ¬ ((decide (1 ≤ (ls.length : Int)) && decide ((ls.length : Int) ≤ 3)) = false ∨ below ls rows.length = false) := by
          rw [h4, hc3]; simpa using h5
        obtain ⟨tb, ec⟩ := rows_tb h3
        have et : PyData.tuple (rows.map rowI) = tblD (toT rows) := by
          have q := sgDI_nat (T := toT rows) (L := [])
          rw [ec] at q
          simp only [sgDI, sgD, castL, PyData.tuple.injEq, List.cons.injEq] at q
          exact q.1
        have el4 : (toT rows).length ≤ 4 := by
          have : (rows.length : Int) ≤ 4 := of_decide_eq_true hb4
          simp [toT]; omega
        refine ⟨toT rows, tb, el4, congrArg (fun d : D => ([.dat d] : List Wv)) et, rfl, fun more => ⟨fun h6 => ?_, fun h6 => ?_⟩⟩
        · have h6 : (!assocB (toT rows)) = true := h6
          exact say (some "associative") (by unfold sgFault; rw [if_neg ok1, if_neg ok2, if_pos (by simpa using h6)]) _
        · have h6 : (!assocB (toT rows)) = false := h6
          exact say none (by unfold sgFault; rw [if_neg ok1, if_neg ok2, if_neg (by simpa using h6)]) _
      · have h4 : decide (1 ≤ ((ls.map PyData.int).length : Int)) = false := h4
        rw [el] at h4
        exact bad2 (.inl (by rw [h4]; rfl)) _
    · have h2 : decide (1 ≤ ((rows.map rowI).length : Int)) = false := h2
      rw [er] at h2
      exact bad1 (.inl (by rw [h2]; rfl)) _

abbrev sd__law_draws : Stmt := topS 27
abbrev n__law_draws : List Str := ["cell", "modulus", "count", "number", "row", "k", "mixed"]
theorem sc__law_draws : FnScope n__law_draws ["cell", "modulus", "count"] (defScope sd__law_draws) := ⟨rfl, rfl, rfl, by decide +kernel, rfl, by decide +kernel, by decide +kernel⟩

theorem ok__law_draws {f : Addr} {fd : FuncData} (F : Fun K "_law_draws" "_law_draws" sd__law_draws f fd) (m_range : mg "range" = none) (m_int : mg "int" = none) : FnOk P w K mg base CX0 1 f fd ["cell", "modulus", "count"] (toSp K s__law_draws) := by
  refine Fn.mkB F sc__law_draws (fun ws ob X Q h => ?_) (fun ws ob X Q h => ?_) fun cdv A outer s' H E hr => ⟨_, _, (bd_cons (sd_set 3 sc__law_draws.nd (pd_var 0))
  (bd_cut (sd_if (td_cm cm_lt (pd_var 3) pd_int (nomark _)) (bd_one (sd_set 3 sc__law_draws.nd (pd_sub pd_int (pd_var 3)))) bd_nil)
  (bd_cons (sd_set 4 sc__law_draws.nd (pd_lstO ad_nil))
  (bd_cons (sd_if (td_cm cm_ge (pd_var 3) (pd_pow pd_int pd_int) (nomark _)) (bd_cons (sd_for PassesOwn.never rfl (id_rng1 (by rfl) m_range (ad_cons (pd_var 2) ad_nil)) (gd_name 5 sc__law_draws.nd) (bd_cons (sd_drop (pd_append (K := K) (pd_var 4) (ad_cons (pd_mod (pd_toInt (K := K) (by rfl) m_int (ad_cons (pd_var 3) ad_nil)) (pd_var 1)) ad_nil)))
  (bd_one (sd_set 3 sc__law_draws.nd (pd_div (pd_var 3) (pd_var 1))))))
  (bd_one (sd_ret (pd_frz 4)))) bd_nil)
  (bd_cons (sd_for PassesOwn.never rfl (id_rng1 (by rfl) m_range (ad_cons (pd_var 2) ad_nil)) (gd_name 5 sc__law_draws.nd) (bd_cons (sd_set 6 sc__law_draws.nd (pd_mod (pd_toInt (K := K) (by rfl) m_int (ad_cons (pd_mul (pd_addA (K := K) (pd_addA (K := K) (pd_var 3) (pd_mul pd_int (pd_var 5))) pd_int) pd_int) ad_nil)) pd_int))
  (bd_cons (sd_set 6 sc__law_draws.nd (pd_mod (pd_toInt (K := K) (by rfl) m_int (ad_cons (pd_addA (K := K) (pd_mul (pd_var 6) pd_int) (pd_mul pd_int (pd_var 5))) ad_nil)) pd_int))
  (bd_one (sd_drop (pd_append (K := K) (pd_var 4) (ad_cons (pd_mod (pd_toInt (K := K) (by rfl) m_int (ad_cons (pd_div (pd_var 6) pd_int) ad_nil)) (pd_var 1)) ad_nil)))))))
  (bd_one (sd_ret (pd_frz 4)))))))), fun ws ob X Q h => ?_⟩
  · obtain ⟨_, _, _, _, _, _, _, rfl, _⟩ := h; rfl
  · exact h
  · obtain ⟨c, m, n, hm, hm2, hn, hn2, rfl, rfl, hq⟩ := h
    -- if number < 0
    refine ⟨[4, 5, 6], fun e => ∃ x : Int, e = ⟨[some (.dat (.int c)), some (.dat (.int m)), some (.dat (.int n)), some (.dat (.int x)), none, none, none], []⟩ ∧ 0 ≤ x, ⟨fun hb => ⟨0 - c, rfl, by have := of_decide_eq_true hb; omega⟩, fun hb => ⟨c, rfl, by have := of_decide_eq_false hb; omega⟩⟩, ?_⟩
    rintro e ⟨x, rfl, hx⟩
    let ρ : Int → List D → En := fun x row => ⟨[some (.dat (.int c)), some (.dat (.int m)), some (.dat (.int n)), some (.dat (.int x)), some (.ref 0), none, none], [.lst row]⟩
    have step : ∀ (x : Int) (row : List Int) (i : Nat) (v : Int), row.length = i → (∀ y ∈ row, 0 ≤ y ∧ y < m) → 0 ≤ v → v < m → ∃ r : List Int, ρ x (row.map .int ++ [.int v]) = ρ x (r.map .int) ∧ r.length = i + 1 ∧ ∀ y ∈ r, 0 ≤ y ∧ y < m := fun x row i v hl hr h1 h2 => by
      refine ⟨row ++ [v], by rw [List.map_append]; rfl, by simp [hl], fun y hy => ?_⟩
      rcases List.mem_append.mp hy with hy | hy
      · exact hr y hy
      · simp only [List.mem_singleton] at hy
        subst hy
        exact ⟨h1, h2⟩
    have hn3 : (intsD 0 n.toNat).length = n.toNat := ints_len
    refine ⟨⟨by decide, by decide, by decide⟩, ⟨fun hb => ?_, fun hb => ?_⟩⟩
    · refine ⟨⟨by omega, by omega⟩, [5, 6], fun i e => ∃ (x : Int) (row : List Int), e = ρ x (row.map .int) ∧ 0 ≤ x ∧ row.length = i ∧ ∀ y ∈ row, 0 ≤ y ∧ y < m, ⟨x, [], rfl, hx, rfl, by simp⟩, ?_, ?_⟩
      · rintro i d e' hd ⟨x, row, rfl, hx, hl, hr⟩
        obtain ⟨hi, rfl⟩ := ints_at.mp hd
        refine ⟨hm, ?_⟩
        refine ⟨?_, ?_⟩
        · simp; omega
        obtain ⟨r, e1, e2, e3⟩ := step (x / m) row i (x % m) hl hr (Int.emod_nonneg _ (by omega)) (Int.emod_lt_of_pos _ hm)
        exact ⟨⟨hm, hm2⟩, x / m, r, e1, Int.ediv_nonneg hx (by omega), e2, e3⟩
      · rintro e' ⟨x, row, rfl, hx, hl, hr⟩
        exact hq row (by rw [hl, hn3]) hr _
    · refine ⟨⟨by omega, by omega⟩, [5, 6], fun i e => ∃ row : List Int, e = ρ x (row.map .int) ∧ row.length = i ∧ ∀ y ∈ row, 0 ≤ y ∧ y < m, ⟨[], rfl, rfl, by simp⟩, ?_, ?_⟩
      · rintro i d e' hd ⟨row, rfl, hl, hr⟩
        obtain ⟨hi, rfl⟩ := ints_at.mp hd
        refine ⟨.inl ⟨by decide, by decide⟩, .inr ⟨by decide, by decide⟩, (by decide : (0 : Int) < 2147483647), ?_⟩
        refine ⟨.inr ⟨by decide, by decide⟩, .inl ⟨by decide, by decide⟩, (by decide : (0 : Int) < 2147483629), ?_⟩
        refine ⟨⟨by decide, by decide⟩, hm, ?_⟩
        refine ⟨?_, ?_⟩
        · simp; omega
        exact step x row i _ hl hr (Int.emod_nonneg _ (by omega)) (Int.emod_lt_of_pos _ hm)
      · rintro e' ⟨row, rfl, hl, hr⟩
        exact hq row (by rw [hl, hn3]) hr _
abbrev sd__law_next : Stmt := topS 29
abbrev n__law_next : List Str := ["box", "modulus", "at", "number"]
theorem sc__law_next : FnScope n__law_next ["box", "modulus"] (defScope sd__law_next) := ⟨rfl, rfl, rfl, by decide +kernel, rfl, by decide +kernel, by decide +kernel⟩

theorem ok__law_next0 {f : Addr} {fd : FuncData} (F : Fun K "_law_next" "_law_next" sd__law_next f fd) (m_int : mg "int" = none) (m_len : mg "len" = none) : FnOk P w K mg base CX0 1 f fd ["box", "modulus"] (toSp K s__law_next0) := by
  refine Fn.mkB F sc__law_next (fun ws ob X Q h => ?_) (fun ws ob X Q h => ?_) fun cdv A outer s' H E hr => ⟨_, _, (bd_cons (sd_set 2 sc__law_next.nd (pd_dget (hu_of hr) (pd_var 0) pd_str))
  (bd_cons (sd_dput (hu_of hr) (pd_var 0) pd_str (pd_addA (K := K) (pd_var 2) pd_int))
  (bd_cons (sd_set 3 sc__law_next.nd (pd_ixA (K := K) (pd_dget (hu_of hr) (pd_var 0) pd_str) (pd_mod (pd_var 2) (pd_len (K := K) (by rfl) m_len (ad_cons (pd_dget (hu_of hr) (pd_var 0) pd_str) ad_nil)))))
  (bd_one (sd_ret (pd_mod (pd_toInt (K := K) (by rfl) m_int (ad_cons (pd_addA (K := K) (pd_var 3) (pd_mul pd_int (pd_div (pd_var 2) (pd_len (K := K) (by rfl) m_len (ad_cons (pd_dget (hu_of hr) (pd_var 0) pd_str) ad_nil))))) ad_nil)) (pd_var 1))))))), fun ws ob X Q h => ?_⟩
  · obtain ⟨_, _, _, _, _, _, rfl, _⟩ := h; rfl
  · exact h
  · obtain ⟨m, row, n, hm, hr, hn, rfl, rfl, hq⟩ := h
    have hl : 0 < row.length := List.length_pos_iff.mpr hr.ne
    have hl2 := hr.len
    have hnm := Int.emod_nonneg n (by omega : (row.length : Int) ≠ 0)
    have hnl := Int.emod_lt_of_pos n (by omega : (0 : Int) < row.length)
    have hlen : ((row.map PyData.int).length : Int) = row.length := by simp
    refine ⟨.int n, rfl, ?_⟩
    refine ⟨by simp, ?_⟩
    refine ⟨lstI row, rfl, lstI row, rfl, ?_⟩
    refine ⟨show (0 : Int) < ((row.map PyData.int).length : Int) by rw [hlen]; omega, ?_⟩
    refine ⟨.int (row.getD (n % row.length).toNat 0), ?_, ?_⟩
    · show atI (row.map PyData.int) (n % ((row.map PyData.int).length : Int)) = _
      rw [hlen]
      exact at_int hnm (by rw [List.getElem?_map, some_getD (d := 0) (by omega)]; rfl)
    refine ⟨lstI row, rfl, ⟨show (0 : Int) < ((row.map PyData.int).length : Int) by rw [hlen]; omega, show ((row.map PyData.int).length : Int) < 1073741824 by rw [hlen]; omega⟩, .inl ⟨by decide, by decide⟩, hm, ?_⟩
    exact hq _ (Int.emod_nonneg _ (by omega)) (Int.emod_lt_of_pos _ hm) []
theorem ok__law_next {f : Addr} {fd : FuncData} (F : Fun K "_law_next" "_law_next" sd__law_next f fd) (m_int : mg "int" = none) (m_len : mg "len" = none) : FnOk P w K mg base CX0 1 f fd ["box", "modulus"] (toSp K s__law_next) :=
  (ok__law_next0 F m_int m_len).imp fun vs H Q E => toSp_box fun ws ob X Q ⟨m, hm, hw, ho, hq⟩ => ⟨ho, fun row n hr hn => ⟨m, row, n, hm, hr, hn, hw, rfl, fun r h0 h1 more => ⟨row, n + 1, more, rfl, hr, by omega, fun more => by
    have e : (PyData.int r) = nD r.toNat := by unfold nD; rw [Int.toNat_of_nonneg h0]
    rw [e]
    exact hq r.toNat (by omega) more⟩⟩⟩
abbrev sd__law_box : Stmt := topS 28
abbrev n__law_box : List Str := ["script", "row", "cell"]
theorem sc__law_box : FnScope n__law_box ["script"] (defScope sd__law_box) := ⟨rfl, rfl, rfl, by decide +kernel, rfl, by decide +kernel, by decide +kernel⟩

theorem ok__law_box {f f__law_draws : Addr} {fd fd__law_draws : FuncData} (F : Fun K "_law_box" "_law_box" sd__law_box f fd)
    (F__law_draws : Fun K "_law_draws" "_law_draws" sd__law_draws f__law_draws fd__law_draws) (b__law_draws : L2.Binds K fd__law_draws ["cell", "modulus", "count"] []) (m__law_draws : mg "_law_draws" = some (.ref f__law_draws)) (G__law_draws : FnOk P w K mg base CX0 1 f__law_draws fd__law_draws ["cell", "modulus", "count"] (toSp K s__law_draws)) (m_len : mg "len" = none) : FnOk P w K mg base CX0 2 f fd ["script"] (spBox K) := by
  refine Fn.mkBox F sc__law_box fun cdv A outer s' H E hr => ⟨_, _, (bd_cons (sd_set 1 sc__law_box.nd (pd_lst ad_nil))
  (bd_cons (sd_for PassesOwn.never rfl (id_seq (K := K) (pd_var 0)) (gd_name 2 sc__law_box.nd) (bd_one (sd_set 1 sc__law_box.nd (pd_addA (K := K) (pd_var 1) (pd_call (K := K) G__law_draws (hr.mono (by decide)) (by rfl) m__law_draws F__law_draws.kp b__law_draws pass0 (ad_cons (pd_var 2) (ad_cons pd_int (ad_cons pd_int ad_nil))))))))
  (bd_cut (sd_if (td_cm (cm_eqA (K := K) hr.units) (pd_len (K := K) (by rfl) m_len (ad_cons (pd_var 1) ad_nil)) pd_int (nomark _)) (bd_one (sd_set 1 sc__law_box.nd (pd_lst (ad_cons pd_int (ad_cons pd_int (ad_cons pd_int (ad_cons pd_int (ad_cons pd_int (ad_cons pd_int (ad_cons pd_int ad_nil)))))))))) bd_nil)
  (bd_one (sd_retO (pd_disp (ppd_cons pd_str (pd_var 1) (ppd_cons pd_str pd_int ppd_nil)))))))), fun ns hns => ?_⟩
  let ρ : List Int → En := fun row => ⟨[some (.dat (lstI ns)), some (.dat (lstI row)), none], []⟩
  refine ⟨[2], fun i e => ∃ row : List Int, e = ρ row ∧ row.length ≤ 6 * i ∧ ∀ y ∈ row, 0 ≤ y, ⟨[], rfl, by simp, by simp⟩, ?_, ?_⟩
  · rintro i d e' hd ⟨row, rfl, hl, hr⟩
    obtain ⟨c, hc, rfl⟩ := map_at hd
    have hi : i < ns.length := (List.getElem?_eq_some_iff.mp hc).1
    refine ⟨c, 1000003, 6, by decide, by decide, by decide, by decide, rfl, rfl, fun r hrl hrr more => ?_⟩
    refine ⟨by simp [hrl]; omega, row ++ r, ?_, by simp [hrl]; omega, fun y hy => ?_⟩
    · simp only [ρ, lstI, List.map_append]; rfl
    · rcases List.mem_append.mp hy with hy | hy
      · exact hr y hy
      · exact (hrr y hy).1
  · rintro e' ⟨row, rfl, hl, hr⟩
    rw [List.length_map] at hl
    refine ⟨[], fun e => ∃ row : List Int, e = ρ row ∧ RowOk row, ⟨fun hb => ?_, fun hb => ?_⟩, ?_⟩
    · exact ⟨[11, 5, 2, 7, 31, 101, 997], rfl, by decide, by decide, by decide⟩
    · refine ⟨row, rfl, fun e => ?_, hr, by omega⟩
      subst e
      exact absurd hb (by decide)
    · rintro e ⟨row, rfl, hr⟩
      exact ⟨0, row, 0, rfl, rfl, hr, by decide⟩

abbrev sd__law_simple : Stmt := topS 30
abbrev n__law_simple : List Str := ["kind", "size", "a", "b"]
theorem sc__law_simple : FnScope n__law_simple ["kind", "size", "a", "b"] (defScope sd__law_simple) := ⟨rfl, rfl, rfl, by decide +kernel, rfl, by decide +kernel, by decide +kernel⟩

theorem ok__law_simple {f : Addr} {fd : FuncData} (F : Fun K "_law_simple" "_law_simple" sd__law_simple f fd) (m_max : mg "max" = none) (m_min : mg "min" = none) (m_int : mg "int" = none) : FnOk P w K mg base CX0 1 f fd ["kind", "size", "a", "b"] (toSp K s__law_simple) := by
  refine Fn.mkB F sc__law_simple (fun ws ob X Q h => ?_) (fun ws ob X Q h => ?_) fun cdv A outer s' H E hr => ⟨_, _, (bd_cons (sd_if (td_cm (cm_eqA (K := K) hr.units) (pd_var 0) pd_int (nomark _)) (bd_one (sd_ret (pd_max (K := K) rfl (by rfl) m_max (ad_cons (pd_var 2) (ad_cons (pd_var 3) ad_nil))))) bd_nil)
  (bd_cons (sd_if (td_cm (cm_eqA (K := K) hr.units) (pd_var 0) pd_int (nomark _)) (bd_one (sd_ret (pd_mod (pd_toInt (K := K) (by rfl) m_int (ad_cons (pd_addA (K := K) (pd_var 2) (pd_var 3)) ad_nil)) (pd_var 1)))) bd_nil)
  (bd_cons (sd_if (td_cm (cm_eqA (K := K) hr.units) (pd_var 0) pd_int (nomark _)) (bd_one (sd_ret (pd_var 2))) bd_nil)
  (bd_cons (sd_if (td_cm (cm_eqA (K := K) hr.units) (pd_var 0) pd_int (nomark _)) (bd_one (sd_ret (pd_var 3))) bd_nil)
  (bd_cons (sd_if (td_cm (cm_eqA (K := K) hr.units) (pd_var 0) pd_int (nomark _)) (bd_one (sd_ret (pd_min (K := K) rfl (by rfl) m_min (ad_cons (pd_addA (K := K) (pd_addA (K := K) (pd_var 2) (pd_var 3)) pd_int) (ad_cons (pd_sub (pd_var 1) pd_int) ad_nil))))) bd_nil)
  (bd_cons (sd_if (td_cm (cm_eqA (K := K) hr.units) (pd_var 0) pd_int (nomark _)) (bd_one (sd_ret (pd_mod (pd_toInt (K := K) (by rfl) m_int (ad_cons (pd_mul (pd_var 2) (pd_var 3)) ad_nil)) (pd_var 1)))) bd_nil)
  (bd_cons (sd_if (td_wd (wd_and (td_cm (cm_eqA (K := K) hr.units) (pd_var 0) pd_int (nomark _)) (wd_and1 (td_cm (cm_eqA (K := K) hr.units) (pd_var 2) (pd_var 3) (nomark _))))) (bd_one (sd_ret (pd_var 2))) bd_nil)
  (bd_one (sd_ret pd_int))))))))), fun ws ob X Q h => ?_⟩
  · obtain ⟨_, _, _, _, _, _, _, _, rfl, _⟩ := h; rfl
  · exact h
  · obtain ⟨kind, size, a, b, h1, h4, ha, hb, rfl, rfl, hq⟩ := h
    refine ⟨fun k0 => ?_, fun k0 => ?_⟩
    · have e : kind = 0 := by have := dT k0; omega
      exact q_int (hq _) (by unfold smp; rw [if_pos e]; split <;> split <;> omega)
    have n0 : ¬ kind = 0 := by have := dF k0; omega
    refine ⟨fun k1 => ?_, fun k1 => ?_⟩
    · have e : kind = 1 := by have := dT k1; omega
      exact ⟨show (0 : Int) < size by omega, q_int (hq _) (by unfold smp; rw [if_neg n0, if_pos e]; simp)⟩
    have n1 : ¬ kind = 1 := by have := dF k1; omega
    refine ⟨fun k2 => ?_, fun k2 => ?_⟩
    · have e : kind = 2 := by have := dT k2; omega
      exact q_int (hq _) (by unfold smp; rw [if_neg n0, if_neg n1, if_pos e])
    have n2 : ¬ kind = 2 := by have := dF k2; omega
    refine ⟨fun k3 => ?_, fun k3 => ?_⟩
    · have e : kind = 3 := by have := dT k3; omega
      exact q_int (hq _) (by unfold smp; rw [if_neg n0, if_neg n1, if_neg n2, if_pos e])
    have n3 : ¬ kind = 3 := by have := dF k3; omega
    refine ⟨fun k4 => ?_, fun k4 => ?_⟩
    · have e : kind = 4 := by have := dT k4; omega
      exact q_int (hq _) (by unfold smp; rw [if_neg n0, if_neg n1, if_neg n2, if_neg n3, if_pos e]; split <;> split <;> omega)
    have n4 : ¬ kind = 4 := by have := dF k4; omega
    refine ⟨fun k5 => ?_, fun k5 => ?_⟩
    · have e : kind = 5 := by have := dT k5; omega
      exact ⟨.inl ⟨by omega, by omega⟩, show (0 : Int) < size by omega, q_int (hq _) (by unfold smp; rw [if_neg n0, if_neg n1, if_neg n2, if_neg n3, if_neg n4, if_pos e]; simp)⟩
    have n5 : ¬ kind = 5 := by have := dF k5; omega
    have last : ∀ P : Prop, (kind = 6 ∧ a = b → P) → (¬ (kind = 6 ∧ a = b) → P) → P := fun P f g => (Decidable.em (kind = 6 ∧ a = b)).elim f g
    refine ⟨fun k6 => ⟨fun k7 => ?_, fun k7 => ?_⟩, fun k6 => ⟨ff, fun _ => ?_⟩⟩
    · have e : kind = 6 ∧ a = b := by have := dT k6; have := dT k7; omega
      exact q_int (hq _) (by unfold smp; rw [if_neg n0, if_neg n1, if_neg n2, if_neg n3, if_neg n4, if_neg n5, if_pos e])
    · have e : ¬ (kind = 6 ∧ a = b) := by have := dF k7; omega
      exact q_int (hq _) (by unfold smp; rw [if_neg n0, if_neg n1, if_neg n2, if_neg n3, if_neg n4, if_neg n5, if_neg e]; rfl)
    · have e : ¬ (kind = 6 ∧ a = b) := by have := dF k6; omega
      exact q_int (hq _) (by unfold smp; rw [if_neg n0, if_neg n1, if_neg n2, if_neg n3, if_neg n4, if_neg n5, if_neg e]; rfl)
abbrev sd__law_associative : Stmt := topS 31
abbrev n__law_associative : List Str := ["table", "size", "a", "b", "c"]
theorem sc__law_associative : FnScope n__law_associative ["table"] (defScope sd__law_associative) := ⟨rfl, rfl, rfl, by decide +kernel, rfl, by decide +kernel, by decide +kernel⟩

theorem ok__law_associative {f : Addr} {fd : FuncData} (F : Fun K "_law_associative" "_law_associative" sd__law_associative f fd) (m_len : mg "len" = none) (m_range : mg "range" = none) : FnOk P w K mg base CX0 1 f fd ["table"] (toSp K s__law_associative) := by
  refine Fn.mkB F sc__law_associative (fun ws ob X Q h => ?_) (fun ws ob X Q h => ?_) fun cdv A outer s' H E hr => ⟨_, _, (bd_cons (sd_set 1 sc__law_associative.nd (pd_len (K := K) (by rfl) m_len (ad_cons (pd_var 0) ad_nil)))
  (bd_cons (sd_for PassesOwn.never rfl (id_rng1 (by rfl) m_range (ad_cons (pd_var 1) ad_nil)) (gd_name 2 sc__law_associative.nd) (bd_one (sd_for PassesOwn.never rfl (id_rng1 (by rfl) m_range (ad_cons (pd_var 1) ad_nil)) (gd_name 3 sc__law_associative.nd) (bd_one (sd_for PassesOwn.never rfl (id_rng1 (by rfl) m_range (ad_cons (pd_var 1) ad_nil)) (gd_name 4 sc__law_associative.nd) (bd_one (sd_if (td_cm (cm_neA (K := K) hr.units) (pd_ixA (K := K) (pd_ixA (K := K) (pd_var 0) (pd_ixA (K := K) (pd_ixA (K := K) (pd_var 0) (pd_var 2)) (pd_var 3))) (pd_var 4)) (pd_ixA (K := K) (pd_ixA (K := K) (pd_var 0) (pd_var 2)) (pd_ixA (K := K) (pd_ixA (K := K) (pd_var 0) (pd_var 3)) (pd_var 4))) (nomark _)) (bd_one (sd_ret pd_bl)) bd_nil)))))))
  (bd_one (sd_ret pd_bl)))), fun ws ob X Q h => ?_⟩
  · obtain ⟨_, _, _, _, _, rfl, _⟩ := h; rfl
  · exact h
  · obtain ⟨T, d, ht, h4, hd, rfl, rfl, hq⟩ := h
    let n := T.length
    let ok : Nat → Nat → Nat → Prop := fun a b c => mulT T (mulT T a b) c = mulT T a (mulT T b c)
    have hlt : ∀ {k : Nat} {lo : Int} {m : Nat}, k < m → lo = 0 → lo + (k : Int) = (k : Int) := fun _ h => by omega
    rcases hd with rfl | rfl
    all_goals
      refine ⟨rbN (by rw [List.length_map]; omega), [2, 3, 4], fun i e => e = ⟨[some (.dat _), some (.dat (nD n)), none, none, none], []⟩ ∧ ∀ a b c, a < i → b < n → c < n → ok a b c, ⟨by simp only [List.length_map]; rfl, fun a b c h => by omega⟩, ?_, ?_⟩
      · rintro i d e' hd ⟨rfl, hi⟩
        obtain ⟨hin, rfl⟩ := ints_at.mp hd
        have hin : i < n := by simpa using hin
        rw [show (0 : Int) + (i : Int) = (i : Int) by omega]
        refine ⟨rbN (show n ≤ 1000000 by omega), [3, 4], fun j e => e = ⟨[some (.dat _), some (.dat (nD n)), some (.dat (nD i)), none, none], []⟩ ∧ ∀ b c, b < j → c < n → ok i b c, ⟨rfl, fun b c h => by omega⟩, ?_, ?_⟩
        · rintro j d e' hd ⟨rfl, hj⟩
          obtain ⟨hjn, rfl⟩ := ints_at.mp hd
          have hjn : j < n := by simpa using hjn
          rw [show (0 : Int) + (j : Int) = (j : Int) by omega]
          refine ⟨rbN (show n ≤ 1000000 by omega), [4], fun k e => e = ⟨[some (.dat _), some (.dat (nD n)), some (.dat (nD i)), some (.dat (nD j)), none], []⟩ ∧ ∀ c, c < k → ok i j c, ⟨rfl, fun c h => by omega⟩, ?_, ?_⟩
          · rintro k d e' hd ⟨rfl, hk⟩
            obtain ⟨hkn, rfl⟩ := ints_at.mp hd
            have hkn : k < n := by simpa using hkn
            rw [show (0 : Int) + (k : Int) = (k : Int) by omega]
            have hij := ht.mul hin hjn
            have hjk := ht.mul hjn hkn
            refine ⟨_, (by first | exact at_tbl hin | exact at_tblL hin), ?_⟩
            refine ⟨_, at_row (by rw [ht.row hin]; exact hjn), ?_⟩
            refine ⟨_, (by first | exact at_tbl hij | exact at_tblL hij), ?_⟩
            refine ⟨_, at_row (show k < (T.getD (mulT T i j) []).length by rw [ht.row hij]; exact hkn), ?_⟩
            refine ⟨_, (by first | exact at_tbl hin | exact at_tblL hin), ?_⟩
            refine ⟨_, (by first | exact at_tbl hjn | exact at_tblL hjn), ?_⟩
            refine ⟨_, at_row (by rw [ht.row hjn]; exact hkn), ?_⟩
            refine ⟨_, at_row (show mulT T j k < _ by rw [ht.row hin]; exact hjk), ?_⟩
            refine ⟨fun hb => ?_, fun hb => ?_⟩
            · refine hq false _ ⟨ff, fun as => ?_⟩
              have := nT hb
              exact absurd (congrArg Int.ofNat (as i j k hin hjn hkn)) this
            · have e := nF hb
              refine ⟨rfl, fun c hc => ?_⟩
              by_cases h : c = k
              · subst h; exact Int.ofNat.inj e
              · exact hk c (by omega)
          · rintro e' ⟨rfl, hk⟩
            rw [ints_len] at hk
            refine ⟨rfl, fun b c hb hc => ?_⟩
            by_cases h : b = j
            · subst h; exact hk c (by simpa using hc)
            · exact hj b c (by omega) hc
        · rintro e' ⟨rfl, hj⟩
          rw [ints_len] at hj
          refine ⟨rfl, fun a b c ha hb hc => ?_⟩
          by_cases h : a = i
          · subst h; exact hj b c (by simpa using hb) hc
          · exact hi a b c (by omega) hb hc
      · rintro e' ⟨rfl, hi⟩
        rw [ints_len] at hi
        refine hq true _ ⟨fun _ a b c ha hb hc => hi a b c (by simpa using ha) hb hc, fun _ => rfl⟩

abbrev sd__law_table : Stmt := topS 32
abbrev n__law_table : List Str := ["box", "size", "drawn", "kind", "names", "k", "other", "kept", "rows", "a", "b", "row"]
theorem sc__law_table : FnScope n__law_table ["box", "size"] (defScope sd__law_table) := ⟨rfl, rfl, rfl, by decide +kernel, rfl, by decide +kernel, by decide +kernel⟩

theorem ok__law_table {f f__law_next f__law_associative f__law_simple : Addr} {fd fd__law_next fd__law_associative fd__law_simple : FuncData} (F : Fun K "_law_table" "_law_table" sd__law_table f fd)
    (F__law_next : Fun K "_law_next" "_law_next" sd__law_next f__law_next fd__law_next) (b__law_next : L2.Binds K fd__law_next ["box", "modulus"] []) (m__law_next : mg "_law_next" = some (.ref f__law_next)) (G__law_next : FnOk P w K mg base CX0 1 f__law_next fd__law_next ["box", "modulus"] (toSp K s__law_next))
    (F__law_associative : Fun K "_law_associative" "_law_associative" sd__law_associative f__law_associative fd__law_associative) (b__law_associative : L2.Binds K fd__law_associative ["table"] []) (m__law_associative : mg "_law_associative" = some (.ref f__law_associative)) (G__law_associative : FnOk P w K mg base CX0 1 f__law_associative fd__law_associative ["table"] (toSp K s__law_associative))
    (F__law_simple : Fun K "_law_simple" "_law_simple" sd__law_simple f__law_simple fd__law_simple) (b__law_simple : L2.Binds K fd__law_simple ["kind", "size", "a", "b"] []) (m__law_simple : mg "_law_simple" = some (.ref f__law_simple)) (G__law_simple : FnOk P w K mg base CX0 1 f__law_simple fd__law_simple ["kind", "size", "a", "b"] (toSp K s__law_simple)) (m_range : mg "range" = none) (m_tuple : mg "tuple" = none) : FnOk P w K mg base CX0 2 f fd ["box", "size"] (toSp K s__law_table) := by
  refine Fn.mkB F sc__law_table (fun ws ob X Q h => ?_) (fun ws ob X Q h => ?_) fun cdv A outer s' H E hr => ⟨_, _, (bd_cut (sd_if (td_cm (cm_eqA (K := K) hr.units) (pd_call (K := K) G__law_next (hr.mono (by decide)) (by rfl) m__law_next F__law_next.kp b__law_next pass0 (ad_cons (pd_var 0) (ad_cons pd_int ad_nil))) pd_int (nomark _)) (bd_cons (sd_lc (i := 2) (own := [("a", 9)]) rfl sc__law_table.nd rfl rfl (sw_true rfl rfl rfl (by decide +kernel)) (id_rng1 (by rfl) m_range (ad_cons (pd_var 1) ad_nil)) (blkOk_by (N := n__law_table) (sc := defScope sd__law_table) (by decide +kernel)) (fun _ _ _ _ _ => (gd_name 9 sc__law_table.nd)) (fun _ _ _ _ _ => qd_nil) (fun _ _ _ _ _ => (pd_lc (own := [("b", 10)]) rfl sc__law_table.nd  (id_rng1 (by rfl) m_range (ad_cons (pd_var 1) ad_nil)) (blkOk_by (by rfl)) (fun _ _ _ _ _ => (gd_name 10 sc__law_table.nd)) (fun _ _ _ _ _ => qd_nil) (fun _ _ _ _ _ => (pd_call (K := K) G__law_next (hr.mono (by decide)) (by rfl) m__law_next F__law_next.kp b__law_next pass0 (ad_cons (pd_var 0) (ad_cons (pd_var 1) ad_nil)))))))
  (bd_one (sd_if (td_val (pd_call (K := K) G__law_associative (hr.mono (by decide)) (by rfl) m__law_associative F__law_associative.kp b__law_associative pass0 (ad_cons (pd_var 2) ad_nil))) (bd_one (sd_ret (pd_tuple (K := K) (by rfl) m_tuple (ad_cons (pd_lc (own := [("row", 11)]) rfl sc__law_table.nd  (id_seq (K := K) (pd_var 2)) (blkOk_by (N := n__law_table) (sc := defScope sd__law_table) (by decide +kernel)) (fun _ _ _ _ _ => (gd_name 11 sc__law_table.nd)) (fun _ _ _ _ _ => qd_nil) (fun _ _ _ _ _ => (pd_tuple (K := K) (by rfl) m_tuple (ad_cons (pd_var 11) ad_nil)))) ad_nil)))) bd_nil))) bd_nil)
  (bd_cons (sd_set 3 sc__law_table.nd (pd_call (K := K) G__law_next (hr.mono (by decide)) (by rfl) m__law_next F__law_next.kp b__law_next pass0 (ad_cons (pd_var 0) (ad_cons pd_int ad_nil))))
  (bd_cons (sd_lcO (i := 4) (own := [("k", 5)]) rfl sc__law_table.nd rfl rfl (sw_true rfl rfl rfl (by decide +kernel)) (id_rng1 (by rfl) m_range (ad_cons (pd_var 1) ad_nil)) (blkOk_by (N := n__law_table) (sc := defScope sd__law_table) (by decide +kernel)) (fun _ _ _ _ _ => (gd_name 5 sc__law_table.nd)) (fun _ _ _ _ _ => qd_nil) (fun _ _ _ _ _ => (pd_var 5)))
  (bd_cons (sd_for PassesOwn.never rfl (id_rng1 (by rfl) m_range (ad_cons (pd_sub (pd_var 1) pd_int) ad_nil)) (gd_name 5 sc__law_table.nd) (bd_cons (sd_set 6 sc__law_table.nd (pd_addA (K := K) (pd_var 5) (pd_call (K := K) G__law_next (hr.mono (by decide)) (by rfl) m__law_next F__law_next.kp b__law_next pass0 (ad_cons (pd_var 0) (ad_cons (pd_sub (pd_var 1) (pd_var 5)) ad_nil)))))
  (bd_cons (sd_set 7 sc__law_table.nd (pd_ixA (K := K) (pd_var 4) (pd_var 5)))
  (bd_cons (sd_setL (pd_var 4) (pd_var 5) (pd_ixA (K := K) (pd_var 4) (pd_var 6)))
  (bd_one (sd_setL (pd_var 4) (pd_var 6) (pd_var 7)))))))
  (bd_cons (sd_lcN (i := 8) (own := [("a", 9)]) rfl sc__law_table.nd rfl rfl (sw_true rfl rfl rfl (by decide +kernel)) (id_rng1 (by rfl) m_range (ad_cons (pd_var 1) ad_nil)) (blkOk_by (N := n__law_table) (sc := defScope sd__law_table) (by decide +kernel)) (fun _ _ _ _ _ => (gd_name 9 sc__law_table.nd)) (fun _ _ _ _ _ => (pd_lcO (own := [("b", 10)]) rfl sc__law_table.nd  (id_rng1 (by rfl) m_range (ad_cons (pd_var 1) ad_nil)) (blkOk_by (by rfl)) (fun _ _ _ _ _ => (gd_name 10 sc__law_table.nd)) (fun _ _ _ _ _ => qd_nil) (fun _ _ _ _ _ => pd_int))))
  (bd_cons (sd_for PassesOwn.never rfl (id_rng1 (by rfl) m_range (ad_cons (pd_var 1) ad_nil)) (gd_name 9 sc__law_table.nd) (bd_one (sd_for PassesOwn.never rfl (id_rng1 (by rfl) m_range (ad_cons (pd_var 1) ad_nil)) (gd_name 10 sc__law_table.nd) (bd_one (sd_setL (pd_ixN (K := K) (pd_var 8) (pd_ixA (K := K) (pd_var 4) (pd_var 9))) (pd_ixA (K := K) (pd_var 4) (pd_var 10)) (pd_ixA (K := K) (pd_var 4) (pd_call (K := K) G__law_simple (hr.mono (by decide)) (by rfl) m__law_simple F__law_simple.kp b__law_simple pass0 (ad_cons (pd_var 3) (ad_cons (pd_var 1) (ad_cons (pd_var 9) (ad_cons (pd_var 10) ad_nil)))))))))))
  (bd_one (sd_ret (pd_tuple (K := K) (by rfl) m_tuple (ad_cons (pd_lc (own := [("row", 11)]) rfl sc__law_table.nd  (id_seq (K := K) (pd_frzN 8)) (blkOk_by (N := n__law_table) (sc := defScope sd__law_table) (by decide +kernel)) (fun _ _ _ _ _ => (gd_name 11 sc__law_table.nd)) (fun _ _ _ _ _ => qd_nil) (fun _ _ _ _ _ => (pd_tuple (K := K) (by rfl) m_tuple (ad_cons (pd_var 11) ad_nil)))) ad_nil)))))))))), fun ws ob X Q h => ?_⟩
  · obtain ⟨_, _, _, rfl, _⟩ := h; rfl
  · exact h
  · obtain ⟨size, h1, h4, rfl, rfl, hq⟩ := h
    let ρ : Option Wv → List (Option Wv) → List Ob → En := fun dr r ob => ⟨[some (.ref 0), some (.dat (nD size)), dr] ++ r, ob⟩
    have hsz : (size : Int) = size := rfl
    refine ⟨[2, 9, 10, 11], fun e => e = ρ none [none, none, none, none, none, none, none, none, none] [.box], ?_, ?_⟩
    · refine ⟨3, by decide, rfl, rfl, fun r hr more => ?_⟩
      refine ⟨fun hb => ?_, fun hb => rfl⟩
      refine ⟨rbN (by omega), by rw [ints_len]; simp [nD]; omega, fun i acc => ∃ T : List (List Nat), acc = T.map wdD ∧ T.length = i ∧ (∀ r ∈ T, r.length = size ∧ ∀ v ∈ r, v < size), ⟨[], rfl, rfl, by simp⟩, ?_, ?_⟩
      · rintro i d acc hd ⟨T, rfl, hl, hT⟩
        refine ⟨fun _ => ?_, tf⟩
        refine ⟨rbN (by omega), by rw [ints_len]; simp [nD]; omega, fun i acc => ∃ r : List Nat, acc = r.map nD ∧ r.length = i ∧ ∀ v ∈ r, v < size, ⟨[], rfl, rfl, by simp⟩, ?_, ?_⟩
        · rintro j d acc hd ⟨r, rfl, hl, hr⟩
          refine ⟨fun _ => ?_, tf⟩
          refine ⟨size, by omega, rfl, rfl, fun v hv more => ⟨rfl, r ++ [v], by rw [List.map_append]; rfl, by simp [hl], fun u hu => ?_⟩⟩
          rcases List.mem_append.mp hu with hu | hu
          · exact hr u hu
          · simp only [List.mem_singleton] at hu; omega
        · rintro acc ⟨r, rfl, hl2, hr⟩
          rw [ints_len] at hl2
          refine ⟨rfl, T ++ [r], by rw [List.map_append]; rfl, by simp [hl], fun u hu => ?_⟩
          rcases List.mem_append.mp hu with hu | hu
          · exact hT u hu
          · simp only [List.mem_singleton] at hu
            subst hu
            exact ⟨by rw [hl2]; simp [nD], hr⟩
      · rintro acc ⟨T, rfl, hl, hT⟩
        rw [ints_len] at hl
        have hl : T.length = size := by simpa [nD] using hl
        have htb : Tb T := ⟨fun r hr => by rw [hl]; exact (hT r hr).1, fun r hr => by rw [hl]; exact (hT r hr).2⟩
        refine ⟨T, _, htb, by omega, .inr rfl, rfl, rfl, fun b more hb => ⟨fun h => ?_, fun h => rfl⟩⟩
        refine ⟨by simp; omega, fun i acc => acc = (T.take i).map rowD, rfl, ?_, ?_⟩
        · rintro i d acc hd rfl
          obtain ⟨r, hr, rfl⟩ := map_at hd
          exact ⟨fun _ => ⟨rfl, map_snoc hr⟩, tf⟩
        · rintro acc rfl
          rw [List.length_map, List.take_length]
          exact hq T _ htb (hb.mp h) hl
    · rintro e rfl
      refine ⟨8, by decide, rfl, rfl, fun kind hkind more => ?_⟩
      have hkind : kind < 8 := by omega
      -- names
      refine ⟨rbN (by omega), by rw [ints_len]; simp [nD]; omega, fun i acc => acc = (List.range i).map nD, rfl, ?_, ?_⟩
      · rintro i d acc hd rfl
        obtain ⟨hi, rfl⟩ := ints_at.mp hd
        refine ⟨fun _ => ⟨rfl, ?_⟩, tf⟩
        show (List.range i).map nD ++ [PyData.int (0 + (i : Int))] = _
        rw [List.range_succ, List.map_append, Int.zero_add]; rfl
      rintro acc rfl
      rw [ints_len, show (size : Int).toNat = size by omega]
      let η : List D → En := fun ns => ⟨[some (.ref 0), some (.dat (nD size)), none, some (.dat (nD kind)), some (.ref 1), none, none, none, none, none, none, none], [.box, .lst ns]⟩
      refine ⟨rbI (by omega) (by omega), [5, 6, 7], fun i e => ∃ ns : List Nat, e = η (ns.map nD) ∧ Nm size ns, ⟨_, rfl, Nm.start size⟩, ?_, ?_⟩
      · rintro i d e' hd ⟨ns, rfl, hn⟩
        obtain ⟨hi, rfl⟩ := ints_at.mp hd
        have hi : i < size - 1 := by omega
        rw [show (0 : Int) + (i : Int) = (i : Int) by omega]
        refine ⟨(size : Int) - i, by omega, rfl, rfl, fun r hr more => ?_⟩
        have ej : (i : Int) + (r : Int) = ((i + r : Nat) : Int) := by omega
        have hj : i + r < size := by omega
        have hi' : i < size := by omega
        refine ⟨_, at_row (by rw [hn.len]; exact hi'), ?_⟩
        refine ⟨nD (ns.getD (i + r) 0), (by rw [ej]; exact at_row (by rw [hn.len]; exact hj)), ?_⟩
        refine ⟨1, _, rfl, rfl, i, ixN_nat (by rw [List.length_map, hn.len]; exact hi'), ?_⟩
        refine ⟨1, _, rfl, rfl, i + r, (by rw [ej]; exact ixN_nat (by rw [List.length_set, List.length_map, hn.len]; exact hj)), ?_⟩
        exact ⟨_, congrArg η (by rw [List.map_set, List.map_set]), hn.swap hi' hj⟩
      · rintro e' ⟨ns, rfl, hn⟩
        -- rows
        refine ⟨rbN (by omega), by rw [ints_len]; simp [nD]; omega, fun i acc => acc = List.replicate i (List.replicate size (nD 0)), rfl, ?_, ?_⟩
        · rintro i d acc hd rfl
          refine ⟨rbN (by omega), by rw [ints_len]; simp [nD]; omega, fun j acc => acc = List.replicate j (nD 0), rfl, ?_, ?_⟩
          · rintro j d acc hd rfl
            exact ⟨fun _ => ⟨rfl, (List.replicate_succ' (n := j) (a := nD 0)).symm⟩, tf⟩
          · rintro acc rfl
            rw [ints_len, show (size : Int).toNat = size by omega]
            refine ⟨?_, List.replicate size (nD 0), ?_, (List.replicate_succ' (n := i) (a := List.replicate size (nD 0))).symm⟩
            · show (_ ++ List.map Ob.lst _).length = _
              rw [List.length_append, List.length_map]
            · show (_ ++ List.map Ob.lst _) ++ [Ob.lst _] = _
              rw [List.map_append, ← List.append_assoc]; rfl
        · rintro acc rfl
          rw [ints_len, show (size : Int).toNat = size by omega]
          -- the loops that fill it
          let pre : List Ob := [.box, .lst (ns.map nD)]
          let τ : Nat → List (List Nat) → En := fun m T => ⟨[some (.ref 0), some (.dat (nD size)), none, some (.dat (nD kind)), some (.ref 1), none, none, none, some (.ref (2 + m)), none, none, none], obT pre (T.map (·.map nD))⟩
          let θ : Nat → List (List Nat) → En := fun i T => ⟨[some (.ref 0), some (.dat (nD size)), none, some (.dat (nD kind)), some (.ref 1), none, none, none, some (.ref (2 + size)), some (.dat (nD i)), none, none], obT pre (T.map (·.map nD))⟩
          have e0 : (List.replicate size (List.replicate size (nD 0))) = (List.replicate size (List.replicate size 0)).map (·.map nD) := by simp
          rw [e0]
          let G : Nat → List (List Nat) → Prop := fun i T => T.length = size ∧ (∀ r ∈ T, r.length = size ∧ ∀ v ∈ r, v < size) ∧ ∀ a b, a < i → b < size → mulT T (ns.getD a 0) (ns.getD b 0) = ns.getD (smp kind size a b) 0
          refine ⟨rbN (by omega), [5, 6, 7, 9, 10, 11], fun i e => ∃ T, e = τ size T ∧ G i T, ⟨List.replicate size (List.replicate size 0), ?_, by simp, ?_, fun a b h => by omega⟩, ?_, ?_⟩
          · exact congrArg (fun m => τ m (List.replicate size (List.replicate size 0))) (show ((List.replicate size (List.replicate size 0)).map (·.map nD)).length = size by simp)
          · intro r hr
            obtain ⟨_, rfl⟩ := List.mem_replicate.mp hr
            exact ⟨by simp, fun v hv => by obtain ⟨_, rfl⟩ := List.mem_replicate.mp hv; omega⟩
          · rintro i d e' hd ⟨T, rfl, hT⟩
            obtain ⟨hi, rfl⟩ := ints_at.mp hd
            have hi : i < size := by omega
            rw [show (0 : Int) + (i : Int) = (i : Int) by omega]
            refine ⟨rbN (by omega), [10, 11], fun j e => ∃ T, e = θ i T ∧ G i T ∧ ∀ b, b < j → mulT T (ns.getD i 0) (ns.getD b 0) = ns.getD (smp kind size i b) 0, ⟨T, rfl, hT, fun b h => by omega⟩, ?_, ?_⟩
            · rintro j d e' hd ⟨T, rfl, hT, hr⟩
              obtain ⟨hj, rfl⟩ := ints_at.mp hd
              have hj : j < size := by omega
              rw [show (0 : Int) + (j : Int) = (j : Int) by omega]
              refine ⟨kind, size, i, j, h1, h4, hi, hj, rfl, rfl, fun more => ?_⟩
              have hs := smp_lt size (by omega) kind hkind i hi j hj
              have hni := hn.lt hi
              have hnj := hn.lt hj
              refine ⟨_, at_row (by rw [hn.len]; exact hs), ?_⟩
              refine ⟨_, at_row (by rw [hn.len]; exact hi), ?_⟩
              have hml : (T.map (·.map nD)).length = size := by rw [List.length_map]; exact hT.1
              have hlast : (obT pre (T.map (·.map nD)))[2 + size]? = some (.nst (idx 2 size)) := by
                have q := obT_last (pre := pre) (T := T.map (·.map nD))
                rw [hml] at q; exact q
              have hx : ns.getD i 0 < T.length := by rw [hT.1]; exact hni
              have hrow := hT.2.1 _ (getD_mem (d := []) hx)
              refine ⟨2 + size, idx 2 size, rfl, hlast, 2 + ns.getD i 0, at_nat (idx_at hni), ?_⟩
              refine ⟨_, at_row (by rw [hn.len]; exact hj), ?_⟩
              refine ⟨2 + ns.getD i 0, (T.getD (ns.getD i 0) []).map nD, rfl, obT_row (pre := pre) (by rw [List.getElem?_map, some_getD (d := []) hx]; rfl), ns.getD j 0, ixN_nat (by rw [List.length_map, hrow.1]; exact hnj), ?_⟩
              have hy : ns.getD j 0 < (T.getD (ns.getD i 0) []).length := by rw [hrow.1]; exact hnj
              have hset : ∀ {a b}, mulT (setT T (ns.getD i 0) (ns.getD j 0) (ns.getD (smp kind size i j) 0)) a b = if a = ns.getD i 0 ∧ b = ns.getD j 0 then ns.getD (smp kind size i j) 0 else mulT T a b := mulT_set hx hy
              refine ⟨setT T (ns.getD i 0) (ns.getD j 0) (ns.getD (smp kind size i j) 0), ?_, ⟨by rw [setT_len]; exact hT.1, setT_rows hT.2.1 hx (hn.lt hs), fun a b ha hb => ?_⟩, fun b hb => ?_⟩
              · refine congrArg (fun o => (⟨[some (.ref 0), some (.dat (nD size)), none, some (.dat (nD kind)), some (.ref 1), none, none, none, some (.ref (2 + size)), some (.dat (nD i)), none, none], o⟩ : En)) ?_
                refine (obT_set (pre := pre) (by rw [hml]; exact hni)).trans (congrArg (obT pre) ?_)
                rw [setT, List.map_set, List.map_set]
              · rw [hset, if_neg (fun z => by have := hn.inj (by omega) hi z.1; omega)]
                exact hT.2.2 a b ha hb
              · rw [hset]
                by_cases hbj : b = j
                · subst hbj; rw [if_pos ⟨rfl, rfl⟩]
                · rw [if_neg (fun z => hbj (hn.inj (by omega) hj z.2))]
                  exact hr b (by omega)
            · rintro e' ⟨T, rfl, hT, hr⟩
              rw [ints_len] at hr
              refine ⟨T, rfl, hT.1, hT.2.1, fun a b ha hb => ?_⟩
              by_cases hai : a = i
              · subst hai; exact hr b (by omega)
              · exact hT.2.2 a b (by omega) hb
          · rintro e' ⟨T, rfl, hT⟩
            rw [ints_len] at hT
            have hml : (T.map (·.map nD)).length = size := by rw [List.length_map]; exact hT.1
            have hlast : (obT pre (T.map (·.map nD)))[2 + size]? = some (.nst (idx 2 size)) := by
              have q := obT_last (pre := pre) (T := T.map (·.map nD))
              rw [hml] at q; exact q
            have htb : Tb T := ⟨fun r hr => by rw [hT.1]; exact (hT.2.1 r hr).1, fun r hr => by rw [hT.1]; exact (hT.2.1 r hr).2⟩
            have hsim : Simple T kind ns := ⟨htb, fun a b ha hb => by rw [hT.1]; rw [hT.1] at ha hb; exact hT.2.2 a b (by omega) hb⟩
            have has : Assoc T := hsim.assoc (by rw [hT.1]; exact hn) (by omega) hkind
            have hz : ∃ t, frzN (obT pre (T.map (·.map nD))) (2 + size) (idx 2 size) (T.map (·.map nD)) = .box :: t := frzIn_zero rfl (by rw [mem_idx]; omega) (by omega)
            obtain ⟨t, ht⟩ := hz
            refine .inr ⟨2 + size, idx 2 size, rfl, hlast, T.map (·.map nD), idx_nd, by rw [mem_idx]; omega, by rw [idx_len, hml], fun a k d h1 h2 => ?_, ?_⟩
            · have ha : a < size := by have := (List.getElem?_eq_some_iff.mp h1).1; rw [idx_len] at this; exact this
              rw [idx_at ha] at h1
              cases h1
              exact obT_row (pre := pre) h2
            · refine ⟨by rw [List.length_map]; omega, fun a acc => acc = (T.take a).map rowD, rfl, ?_, ?_⟩
              · rintro a d acc hd rfl
                obtain ⟨x, hx, rfl⟩ := map_at hd
                obtain ⟨r, hr, rfl⟩ := map_at hx
                exact ⟨fun _ => ⟨rfl, map_snoc hr⟩, tf⟩
              · rintro acc rfl
                rw [List.length_map, List.length_map, List.take_length]
                have q := hq T t htb has hT.1
                rw [← ht] at q
                exact q

abbrev sd__law_semigroup : Stmt := topS 33
abbrev n__law_semigroup : List Str := ["box", "most", "size", "table", "letters", "k"]
theorem sc__law_semigroup : FnScope n__law_semigroup ["box", "most"] (defScope sd__law_semigroup) := ⟨rfl, rfl, rfl, by decide +kernel, rfl, by decide +kernel, by decide +kernel⟩

theorem ok__law_semigroup {f f__law_table f__law_next : Addr} {fd fd__law_table fd__law_next : FuncData} (F : Fun K "_law_semigroup" "_law_semigroup" sd__law_semigroup f fd)
    (F__law_table : Fun K "_law_table" "_law_table" sd__law_table f__law_table fd__law_table) (b__law_table : L2.Binds K fd__law_table ["box", "size"] []) (m__law_table : mg "_law_table" = some (.ref f__law_table)) (G__law_table : FnOk P w K mg base CX0 2 f__law_table fd__law_table ["box", "size"] (toSp K s__law_table))
    (F__law_next : Fun K "_law_next" "_law_next" sd__law_next f__law_next fd__law_next) (b__law_next : L2.Binds K fd__law_next ["box", "modulus"] []) (m__law_next : mg "_law_next" = some (.ref f__law_next)) (G__law_next : FnOk P w K mg base CX0 1 f__law_next fd__law_next ["box", "modulus"] (toSp K s__law_next)) (m_tuple : mg "tuple" = none) (m_range : mg "range" = none) : FnOk P w K mg base CX0 3 f fd ["box", "most"] (toSp K s__law_semigroup) := by
  refine Fn.mkB F sc__law_semigroup (fun ws ob X Q h => ?_) (fun ws ob X Q h => ?_) fun cdv A outer s' H E hr => ⟨_, _, (bd_cons (sd_set 2 sc__law_semigroup.nd (pd_addA (K := K) pd_int (pd_call (K := K) G__law_next (hr.mono (by decide)) (by rfl) m__law_next F__law_next.kp b__law_next pass0 (ad_cons (pd_var 0) (ad_cons (pd_var 1) ad_nil)))))
  (bd_cons (sd_set 3 sc__law_semigroup.nd (pd_call (K := K) G__law_table (hr.mono (by decide)) (by rfl) m__law_table F__law_table.kp b__law_table pass0 (ad_cons (pd_var 0) (ad_cons (pd_var 2) ad_nil))))
  (bd_cons (sd_set 4 sc__law_semigroup.nd (pd_tuple (K := K) (by rfl) m_tuple (ad_cons (pd_lc (own := [("k", 5)]) rfl sc__law_semigroup.nd  (id_rng1 (by rfl) m_range (ad_cons (pd_addA (K := K) pd_int (pd_call (K := K) G__law_next (hr.mono (by decide)) (by rfl) m__law_next F__law_next.kp b__law_next pass0 (ad_cons (pd_var 0) (ad_cons pd_int ad_nil)))) ad_nil)) (blkOk_by (N := n__law_semigroup) (sc := defScope sd__law_semigroup) (by decide +kernel)) (fun _ _ _ _ _ => (gd_name 5 sc__law_semigroup.nd)) (fun _ _ _ _ _ => qd_nil) (fun _ _ _ _ _ => (pd_call (K := K) G__law_next (hr.mono (by decide)) (by rfl) m__law_next F__law_next.kp b__law_next pass0 (ad_cons (pd_var 0) (ad_cons (pd_var 2) ad_nil))))) ad_nil)))
  (bd_one (sd_ret (pd_tup (ad_cons (pd_var 3) (ad_cons (pd_var 4) ad_nil)))))))), fun ws ob X Q h => ?_⟩
  · obtain ⟨_, _, _, rfl, _⟩ := h; rfl
  · exact h
  · obtain ⟨most, h1, h4, rfl, rfl, hq⟩ := h
    refine ⟨most, by omega, rfl, rfl, fun r hr more => ?_⟩
    have er : (1 : Int) + (r : Int) = ((1 + r : Nat) : Int) := by omega
    refine ⟨1 + r, by omega, by omega, congrArg (fun x : Int => ([.ref 0, .dat (.int x)] : List Wv)) er, rfl, fun T more hT hA hl => ?_⟩
    refine ⟨3, by decide, rfl, rfl, fun c hc more => ?_⟩
    refine ⟨rbI (by omega) (by omega), by rw [ints_len]; omega, fun i acc => ∃ L : List Nat, acc = L.map nD ∧ L.length = i ∧ ∀ v ∈ L, v < T.length, ⟨[], rfl, rfl, by simp⟩, ?_, ?_⟩
    · rintro i d acc hd ⟨L, rfl, hL, hv⟩
      refine ⟨fun _ => ?_, tf⟩
      refine ⟨1 + (r : Int), by omega, rfl, rfl, fun v hvl more => ⟨rfl, L ++ [v], by rw [List.map_append]; rfl, by simp [hL], fun u hu => ?_⟩⟩
      rcases List.mem_append.mp hu with hu | hu
      · exact hv u hu
      · simp only [List.mem_singleton] at hu; omega
    · rintro acc ⟨L, rfl, hL, hv⟩
      rw [ints_len] at hL
      exact hq T L _ ⟨hT.rows, hT.vals, hv⟩ hA (by omega) (by omega) (by omega) (by omega)

abbrev sd__law_subset : Stmt := topS 34
abbrev n__law_subset : List Str := ["box", "size", "k"]
theorem sc__law_subset : FnScope n__law_subset ["box", "size"] (defScope sd__law_subset) := ⟨rfl, rfl, rfl, by decide +kernel, rfl, by decide +kernel, by decide +kernel⟩

theorem ok__law_subset {f f__law_next : Addr} {fd fd__law_next : FuncData} (F : Fun K "_law_subset" "_law_subset" sd__law_subset f fd)
    (F__law_next : Fun K "_law_next" "_law_next" sd__law_next f__law_next fd__law_next) (b__law_next : L2.Binds K fd__law_next ["box", "modulus"] []) (m__law_next : mg "_law_next" = some (.ref f__law_next)) (G__law_next : FnOk P w K mg base CX0 1 f__law_next fd__law_next ["box", "modulus"] (toSp K s__law_next)) (m_tuple : mg "tuple" = none) (m_range : mg "range" = none) : FnOk P w K mg base CX0 2 f fd ["box", "size"] (toSp K s__law_subset) := by
  refine Fn.mkB F sc__law_subset (fun ws ob X Q h => ?_) (fun ws ob X Q h => ?_) fun cdv A outer s' H E hr => ⟨_, _, (bd_one (sd_ret (pd_tuple (K := K) (by rfl) m_tuple (ad_cons (pd_lc (own := [("k", 2)]) rfl sc__law_subset.nd  (id_rng1 (by rfl) m_range (ad_cons (pd_var 1) ad_nil)) (blkOk_by (N := n__law_subset) (sc := defScope sd__law_subset) (by decide +kernel)) (fun _ _ _ _ _ => (gd_name 2 sc__law_subset.nd)) (fun _ _ _ _ _ => (qd_one (td_cm (cm_eqA (K := K) hr.units) (pd_call (K := K) G__law_next (hr.mono (by decide)) (by rfl) m__law_next F__law_next.kp b__law_next pass0 (ad_cons (pd_var 0) (ad_cons pd_int ad_nil))) pd_int (nomark _)))) (fun _ _ _ _ _ => (pd_var 2))) ad_nil)))), fun ws ob X Q h => ?_⟩
  · obtain ⟨_, _, rfl, _⟩ := h; rfl
  · exact h
  · obtain ⟨n, hn, rfl, rfl, hq⟩ := h
    refine ⟨rbN (by omega), by rw [ints_len]; omega, fun i acc => ∃ S : List Nat, acc = S.map nD ∧ VS i S, ⟨[], rfl, ⟨by simp, List.Pairwise.nil⟩⟩, ?_, ?_⟩
    · rintro i d acc hd ⟨S, rfl, hS⟩
      obtain ⟨hi, rfl⟩ := ints_at.mp hd
      have ei : (0 : Int) + (i : Int) = (i : Int) := by omega
      refine ⟨2, by decide, rfl, rfl, fun r hr more => ⟨fun _ => ?_, fun _ => ?_⟩⟩
      · refine ⟨rfl, S ++ [i], by rw [List.map_append]; exact congrArg (fun x : Int => S.map nD ++ [PyData.int x]) ei, fun v hv => ?_, ?_⟩
        · rcases List.mem_append.mp hv with hv | hv
          · exact Nat.lt_succ_of_lt (hS.lt v hv)
          · simp only [List.mem_singleton] at hv; omega
        · rw [List.pairwise_append]
          refine ⟨hS.up, List.pairwise_singleton _ _, fun a ha b hb => ?_⟩
          simp only [List.mem_singleton] at hb; subst hb
          exact hS.lt a ha
      · exact ⟨rfl, S, rfl, fun v hv => Nat.lt_succ_of_lt (hS.lt v hv), hS.up⟩
    · rintro acc ⟨S, rfl, hS⟩
      rw [ints_len] at hS
      exact hq S _ hS

abbrev sd_product_of : Stmt := topS 17
abbrev n_product_of : List Str := ["table", "one", "two", "ahead", "behind"]
theorem sc_product_of : FnScope n_product_of ["table", "one", "two"] (defScope sd_product_of) := ⟨rfl, rfl, rfl, by decide +kernel, rfl, by decide +kernel, by decide +kernel⟩

theorem ok_product_of {f : Addr} {fd : FuncData} (F : Fun K "product_of" "product_of" sd_product_of f fd) (m_tuple : mg "tuple" = none) (m_sorted : mg "sorted" = none) : FnOk P w K mg base CX0 1 f fd ["table", "one", "two"] (toSp K s_product_of) := by
  refine Fn.mkB F sc_product_of (fun ws ob X Q h => ?_) (fun ws ob X Q h => ?_) fun cdv A outer s' H E hr => ⟨_, _, (bd_one (sd_ret (pd_tuple (K := K) (by rfl) m_tuple (ad_cons (pd_sB2 (own := [("ahead", 3), ("behind", 4)]) [4] rfl sc_product_of.nd (by rfl) m_sorted (id_seq (K := K) (pd_var 1)).j (blkOk_by (N := n_product_of) (sc := defScope sd_product_of) (by decide +kernel)) (fun _ _ _ _ _ => (gd_name 3 sc_product_of.nd)) (fun _ _ _ _ _ => qd_nil) (fun _ _ _ _ _ => (id_seq (K := K) (pd_var 2)).j) (fun _ _ _ _ _ => (gd_name 4 sc_product_of.nd)) (fun _ _ _ _ _ => qd_nil) (fun _ _ _ _ _ => (pd_ixA (K := K) (pd_ixA (K := K) (pd_var 0) (pd_var 3)) (pd_var 4)))) ad_nil)))), fun ws ob X Q h => ?_⟩
  · obtain ⟨_, _, _, _, _, _, _, rfl, _⟩ := h; rfl
  · exact h
  · obtain ⟨T, A, B, ht, h4, hA, hB, rfl, rfl, hq⟩ := h
    have lA := hA.len
    have lB := hB.len
    have fl : ∀ i, ((A.take i).flatMap fun a => B.map fun b => nD (mulT T a b)).length ≤ 16 := fun i => by
      rw [flat_len' (m := B.length) (fun x => by simp)]
      have : (A.take i).length ≤ 4 := by rw [List.length_take]; omega
      exact Nat.le_trans (Nat.mul_le_mul this (show B.length ≤ 4 by omega)) (by decide)
    refine ⟨fun i acc => acc = (A.take i).flatMap fun a => B.map fun b => nD (mulT T a b), rfl, ?_, ?_⟩
    · rintro i d acc hd rfl
      obtain ⟨a, ha, rfl⟩ := map_at hd
      have ha' := hA.lt a (List.mem_of_getElem? ha)
      refine ⟨fun _ => ⟨rfl, ?_⟩, tf⟩
      refine ⟨rfl, fun j acc => acc = ((A.take i).flatMap fun a => B.map fun b => nD (mulT T a b)) ++ (B.take j).map fun b => nD (mulT T a b), (List.append_nil _).symm, ?_, ?_⟩
      · rintro j d acc hd rfl
        obtain ⟨b, hb, rfl⟩ := map_at hd
        have hb' := hB.lt b (List.mem_of_getElem? hb)
        refine ⟨fun _ => ⟨rfl, ?_⟩, tf⟩
        refine ⟨?_, _, at_tbl ha', _, at_row (by rw [ht.row ha']; exact hb'), rfl, ?_⟩
        · have := fl i
          rw [List.length_append, List.length_map, List.length_take]; omega
        · show _ ++ [nD (mulT T a b)] = _
          rw [List.append_assoc, map_snoc (f := fun b => nD (mulT T a b)) hb]
      · rintro acc rfl
        rw [List.length_map, List.take_length]
        show _ = _
        rw [take_snoc ha, List.flatMap_append, List.flatMap_cons, List.flatMap_nil, List.append_nil]
    · rintro acc rfl
      rw [List.length_map, List.take_length]
      refine ⟨(A.flatMap fun a => B.map fun b => mulT T a b).map (fun n : Nat => (n : Int)), ?_, ?_, fun ms up mem => ?_⟩
      · rw [mapI, List.map_flatMap]
        congr 1
        funext a
        rw [List.map_map]; rfl
      · rw [List.length_map, flat_len' (m := B.length) (fun x => by simp)]
        exact Nat.lt_of_le_of_lt (Nat.mul_le_mul (show A.length ≤ 4 by omega) (show B.length ≤ 4 by omega)) (by decide)
      · refine q_row (hq _) (sorted_nat up prod_vs fun k => ?_)
        rw [mem k, List.mem_map]
        constructor
        · rintro ⟨n, hn, rfl⟩
          obtain ⟨a, ha, hn⟩ := List.mem_flatMap.mp hn
          obtain ⟨b, hb, rfl⟩ := List.mem_map.mp hn
          exact ⟨_, (mem_prod' ht hA.lt hB.lt).mpr ⟨a, ha, b, hb, rfl⟩, rfl⟩
        · rintro ⟨n, hn, rfl⟩
          obtain ⟨a, ha, b, hb, rfl⟩ := (mem_prod' ht hA.lt hB.lt).mp hn
          exact ⟨_, List.mem_flatMap.mpr ⟨a, ha, List.mem_map.mpr ⟨b, hb, rfl⟩⟩, rfl⟩

abbrev sd__law_product : Stmt := topS 37
abbrev n__law_product : List Str := ["table", "one", "two", "size", "found", "a", "b", "k"]
theorem sc__law_product : FnScope n__law_product ["table", "one", "two"] (defScope sd__law_product) := ⟨rfl, rfl, rfl, by decide +kernel, rfl, by decide +kernel, by decide +kernel⟩

theorem ok__law_product {f : Addr} {fd : FuncData} (F : Fun K "_law_product" "_law_product" sd__law_product f fd) (m_len : mg "len" = none) (m_tuple : mg "tuple" = none) (m_range : mg "range" = none) : FnOk P w K mg base CX0 1 f fd ["table", "one", "two"] (toSp K s__law_product) := by
  refine Fn.mkB F sc__law_product (fun ws ob X Q h => ?_) (fun ws ob X Q h => ?_) fun cdv A outer s' H E hr => ⟨_, _, (bd_cons (sd_set 3 sc__law_product.nd (pd_len (K := K) (by rfl) m_len (ad_cons (pd_var 0) ad_nil)))
  (bd_cons (sd_set 4 sc__law_product.nd (pd_lcO (own := [("k", 7)]) rfl sc__law_product.nd  (id_rng1 (by rfl) m_range (ad_cons (pd_var 3) ad_nil)) (blkOk_by (N := n__law_product) (sc := defScope sd__law_product) (by decide +kernel)) (fun _ _ _ _ _ => (gd_name 7 sc__law_product.nd)) (fun _ _ _ _ _ => qd_nil) (fun _ _ _ _ _ => pd_bl)))
  (bd_cons (sd_for PassesOwn.never rfl (id_seq (K := K) (pd_var 1)) (gd_name 5 sc__law_product.nd) (bd_one (sd_for PassesOwn.never rfl (id_seq (K := K) (pd_var 2)) (gd_name 6 sc__law_product.nd) (bd_one (sd_setL (pd_var 4) (pd_ixA (K := K) (pd_ixA (K := K) (pd_var 0) (pd_var 5)) (pd_var 6)) pd_bl)))))
  (bd_one (sd_ret (pd_tuple (K := K) (by rfl) m_tuple (ad_cons (pd_lc (own := [("k", 7)]) rfl sc__law_product.nd  (id_rng1 (by rfl) m_range (ad_cons (pd_var 3) ad_nil)) (blkOk_by (N := n__law_product) (sc := defScope sd__law_product) (by decide +kernel)) (fun _ _ _ _ _ => (gd_name 7 sc__law_product.nd)) (fun _ _ _ _ _ => (qd_one (td_tru (K := K) (pd_ixA (K := K) (pd_var 4) (pd_var 7))))) (fun _ _ _ _ _ => (pd_var 7))) ad_nil))))))), fun ws ob X Q h => ?_⟩
  · obtain ⟨_, _, _, _, _, _, _, rfl, _⟩ := h; rfl
  · exact h
  · obtain ⟨T, A, B, ht, h4, hA, hB, rfl, rfl, hq⟩ := h
    have eT : ((T.map rowD).length : Int) = (T.length : Int) := by simp
    let ρ : List Bool → Option Wv → Option Wv → En := fun F a b => ⟨[some (.dat (tblD T)), some (.dat (rowD A)), some (.dat (rowD B)), some (.dat (.int ((T.map rowD).length : Int))), some (.ref 0), a, b, none], [.lst (F.map .bool)]⟩
    let fd : (Nat → Bool) → List Bool := fun f => (List.range T.length).map f
    refine ⟨rbN (by simp; omega), by rw [ints_len]; simp; omega, fun i acc => acc = List.replicate i (.bool false), rfl, ?_, ?_⟩
    · rintro i d acc hd rfl
      exact ⟨fun _ => ⟨rfl, (List.replicate_succ' (n := i) (a := PyData.bool false)).symm⟩, tf⟩
    rintro acc rfl
    have e0 : List.replicate (intsD 0 ((T.map rowD).length : Int).toNat).length (PyData.bool false) = (fd fun _ => false).map .bool := by
      rw [ints_len, eT]
      show List.replicate T.length (PyData.bool false) = ((List.range T.length).map fun _ => false).map PyData.bool
      rw [List.map_map]
      exact (List.eq_replicate_iff.mpr ⟨by simp, fun b hb => by obtain ⟨_, _, rfl⟩ := List.mem_map.mp hb; rfl⟩).symm
    rw [e0]
    let pr : Nat → Nat → Bool := fun i k => (A.take i).any fun a => B.any fun b => mulT T a b == k
    refine ⟨[5, 6], fun i e => e = ρ (fd (pr i)) none none, rfl, ?_, ?_⟩
    · rintro i d e' hd rfl
      obtain ⟨a, ha, rfl⟩ := map_at hd
      have ha' := hA.lt a (List.mem_of_getElem? ha)
      let p2 : Nat → Nat → Bool := fun j k => pr i k || (B.take j).any fun b => mulT T a b == k
      refine ⟨[6], fun j e => e = ρ (fd (p2 j)) (some (.dat (nD a))) none, ?_, ?_, ?_⟩
      · exact congrArg (fun F => ρ (fd F) (some (.dat (nD a))) none) (funext fun k => (Bool.or_false _).symm)
      · rintro j d e' hd rfl
        obtain ⟨b, hb, rfl⟩ := map_at hd
        have hb' := hB.lt b (List.mem_of_getElem? hb)
        have hm := ht.mul ha' hb'
        refine ⟨_, at_tbl ha', _, at_row (by rw [ht.row ha']; exact hb'), ?_⟩
        refine ⟨0, _, rfl, rfl, mulT T a b, ixN_nat (by simp [fd]; exact hm), ?_⟩
        have e : ((fd (p2 j)).map PyData.bool).set (mulT T a b) (.bool true) = (fd (p2 (j + 1))).map .bool := by
          show ((((List.range T.length).map (p2 j)).map PyData.bool).set (mulT T a b) (PyData.bool true)) = ((List.range T.length).map (p2 (j + 1))).map PyData.bool
          rw [List.map_map, set_range, List.map_map]
          refine List.map_congr_left fun k _ => ?_
          show (if k = mulT T a b then PyData.bool true else PyData.bool (pr i k || (B.take j).any fun b => mulT T a b == k)) = PyData.bool (pr i k || (B.take (j + 1)).any fun b => mulT T a b == k)
          rw [take_snoc hb, List.any_append, ← Bool.or_assoc]
          by_cases hk : k = mulT T a b
          · subst hk; simp
          · rw [if_neg hk]
            have : ([b].any fun b => mulT T a b == k) = false := by simp; exact fun z => hk z.symm
            rw [this, Bool.or_false]
        exact congrArg (fun F => (⟨[some (.dat (tblD T)), some (.dat (rowD A)), some (.dat (rowD B)), some (.dat (.int ((T.map rowD).length : Int))), some (.ref 0), some (.dat (nD a)), none, none], [.lst F]⟩ : En)) e
      · rintro e' rfl
        rw [List.length_map]
        refine congrArg (fun F => ρ (fd F) none none) (funext fun k => ?_)
        show (pr i k || (B.take B.length).any fun b => mulT T a b == k) = (A.take (i + 1)).any fun a => B.any fun b => mulT T a b == k
        rw [List.take_length, take_snoc ha, List.any_append]
        simp [pr]
    · rintro e' rfl
      rw [List.length_map]
      have eP : prodS T A B = (List.range T.length).filter (pr A.length) := by
        show _ = (List.range T.length).filter fun k => (A.take A.length).any fun a => B.any fun b => mulT T a b == k
        rw [List.take_length]; rfl
      refine ⟨rbN (by simp; omega), by rw [ints_len]; simp; omega, fun i acc => acc = ((List.range i).filter (pr A.length)).map nD, rfl, ?_, ?_⟩
      · rintro i d acc hd rfl
        obtain ⟨hi, rfl⟩ := ints_at.mp hd
        have hi : i < T.length := by simpa using hi
        rw [show (0 : Int) + (i : Int) = (i : Int) by omega]
        refine ⟨.bool (pr A.length i), at_nat (by simp [fd, hi]), pr A.length i, rfl, fun hb => ⟨rfl, ?_⟩, fun hb => ⟨rfl, ?_⟩⟩
        · show _ ++ [nD i] = ((List.range (i + 1)).filter (pr A.length)).map nD
          rw [List.range_succ, List.filter_append, List.map_append]
          simp only [List.filter_cons, hb, if_true]; rfl
        · show _ = ((List.range (i + 1)).filter (pr A.length)).map nD
          rw [List.range_succ, List.filter_append, List.map_append]
          simp only [List.filter_cons, hb]; simp
      · rintro acc rfl
        rw [ints_len, eT, show ((T.length : Int)).toNat = T.length by omega]
        have q := hq [.lst ((fd (pr A.length)).map .bool)]
        rw [eP] at q
        exact q

end
end PL


namespace PL
open PySem PySem.Spec PyProof.Rows L2
theorem any_row {v : Nat} : ∀ {S : List Nat}, ((S.map nD).any fun z => PyData.eqv z (nD v)) = S.contains v
  | [] => rfl
  | x :: S => by
    rw [List.map_cons, List.any_cons, any_row (S := S), List.contains_cons]
    congr 1
    rw [Bool.eq_iff_iff, tell_nD x v, beq_iff_eq]
    exact eq_comm
theorem flat_row {S : List Nat} : (S.map nD).all flatD = true := by
  rw [List.all_eq_true]
  intro d hd
  obtain ⟨x, _, rfl⟩ := List.mem_map.mp hd
  rfl

section
variable {P : Program} {w : World} {K : PySem.W.Frag} {mg : Str → Option Value} {base : Heap}
abbrev sd_repeated_until_settled : Stmt := topS 19
abbrev n_repeated_until_settled : List Str := ["table", "one", "number", "values"]
theorem sc_repeated_until_settled : FnScope n_repeated_until_settled ["table", "one"] (defScope sd_repeated_until_settled) := ⟨rfl, rfl, rfl, by decide +kernel, rfl, by decide +kernel, by decide +kernel⟩

theorem ok_repeated_until_settled {f f_product_of : Addr} {fd fd_product_of : FuncData} (F : Fun K "repeated_until_settled" "repeated_until_settled" sd_repeated_until_settled f fd)
    (F_product_of : Fun K "product_of" "product_of" sd_product_of f_product_of fd_product_of) (b_product_of : L2.Binds K fd_product_of ["table", "one", "two"] []) (m_product_of : mg "product_of" = some (.ref f_product_of)) (G_product_of : FnOk P w K mg base CX0 1 f_product_of fd_product_of ["table", "one", "two"] (toSp K s_product_of)) : FnOk P w K mg base CX0 2 f fd ["table", "one"] (toSp K s_repeated_until_settled) := by
  refine Fn.mkB F sc_repeated_until_settled (fun ws ob X Q h => ?_) (fun ws ob X Q h => ?_) fun cdv A outer s' H E hr => ⟨_, _, (bd_cons (sd_set 2 sc_repeated_until_settled.nd pd_int)
  (bd_cons (sd_set 3 sc_repeated_until_settled.nd (pd_var 1))
  (bd_cons (sd_while PassesOwn.never (td_cm (cm_neA (K := K) hr.units) (pd_call (K := K) G_product_of (hr.mono (by decide)) (by rfl) m_product_of F_product_of.kp b_product_of pass0 (ad_cons (pd_var 0) (ad_cons (pd_var 3) (ad_cons (pd_var 3) ad_nil)))) (pd_var 3) (nomark _)) (bd_cons (sd_aug 2 sc_repeated_until_settled.nd pd_int ip_add)
  (bd_one (sd_set 3 sc_repeated_until_settled.nd (pd_call (K := K) G_product_of (hr.mono (by decide)) (by rfl) m_product_of F_product_of.kp b_product_of pass0 (ad_cons (pd_var 0) (ad_cons (pd_var 3) (ad_cons (pd_var 1) ad_nil))))))))
  (bd_one (sd_ret (pd_tup (ad_cons (pd_var 2) (ad_cons (pd_var 3) ad_nil)))))))), fun ws ob X Q h => ?_⟩
  · obtain ⟨_, _, _, rfl, _⟩ := h; rfl
  · exact h
  · obtain ⟨T, A, h, rfl, rfl, hq⟩ := h
    obtain ⟨s1, s2, s3⟩ := h.st
    let ρ : Nat → En := fun j => ⟨[some (.dat (tblD T)), some (.dat (rowD A)), some (.dat (nD (j + 1))), some (.dat (rowD (pwS T A j)))], []⟩
    refine ⟨[], fun m e => ∃ j, j ≤ stl T A ∧ m = 15 - j ∧ e = ρ j, ⟨15, 0, Nat.zero_le _, rfl, rfl⟩, ?_⟩
    rintro m e' ⟨j, hj, rfl, rfl⟩
    have vj := pw_vs h.vs j
    refine ⟨T, pwS T A j, pwS T A j, h.tb, h.few, vj, vj, rfl, rfl, fun more => ?_⟩
    refine ⟨lay_shaped lay_row (by decide), lay_shaped lay_row (by decide), ?_⟩
    refine ⟨fun hb => ?_, fun hb => ?_⟩
    · replace hb : (!PyData.eqv (rowD (prodS T (pwS T A j) (pwS T A j))) (rowD (pwS T A j))) = true := hb
      have hn : stlB T A j = false := by
        cases hc : stlB T A j with
        | false => rfl
        | true =>
          have e := eq_of_beq hc
          rw [(tell_row _ _).mpr e] at hb
          cases hb
      have hlt : j < stl T A := by
        rcases Nat.lt_or_ge j (stl T A) with q | q
        · exact q
        · have e : j = stl T A := by omega
          rw [e, s2] at hn; cases hn
      refine ⟨T, pwS T A j, A, h.tb, h.few, vj, h.vs, rfl, rfl, fun more => ?_⟩
      refine ⟨15 - (j + 1), by omega, j + 1, hlt, rfl, ?_⟩
      exact congrArg (fun x : Int => (⟨[some (.dat (tblD T)), some (.dat (rowD A)), some (.dat (.int x)), some (.dat (rowD (pwS T A (j + 1))))], []⟩ : En)) (show ((j + 1 : Nat) : Int) + 1 = ((j + 1 + 1 : Nat) : Int) by omega)
    · replace hb : (!PyData.eqv (rowD (prodS T (pwS T A j) (pwS T A j))) (rowD (pwS T A j))) = false := hb
      have hs : stlB T A j = true := by
        unfold stlB
        rw [beq_iff_eq]
        exact (tell_row _ _).mp (by simpa using hb)
      have e : j = stl T A := by
        rcases Nat.lt_or_ge j (stl T A) with q | q
        · rw [s3 j q] at hs; cases hs
        · omega
      subst e
      exact hq []
abbrev sd_settled : Stmt := topS 18
abbrev n_settled : List Str := ["table", "one", "_", "values"]
theorem sc_settled : FnScope n_settled ["table", "one"] (defScope sd_settled) := ⟨rfl, rfl, rfl, by decide +kernel, rfl, by decide +kernel, by decide +kernel⟩

theorem ok_settled {f f_repeated_until_settled : Addr} {fd fd_repeated_until_settled : FuncData} (F : Fun K "settled" "settled" sd_settled f fd)
    (F_repeated_until_settled : Fun K "repeated_until_settled" "repeated_until_settled" sd_repeated_until_settled f_repeated_until_settled fd_repeated_until_settled) (b_repeated_until_settled : L2.Binds K fd_repeated_until_settled ["table", "one"] []) (m_repeated_until_settled : mg "repeated_until_settled" = some (.ref f_repeated_until_settled)) (G_repeated_until_settled : FnOk P w K mg base CX0 2 f_repeated_until_settled fd_repeated_until_settled ["table", "one"] (toSp K s_repeated_until_settled)) : FnOk P w K mg base CX0 3 f fd ["table", "one"] (toSp K s_settled) := by
  refine Fn.mkB F sc_settled (fun ws ob X Q h => ?_) (fun ws ob X Q h => ?_) fun cdv A outer s' H E hr => ⟨_, _, (bd_cons (sd_asg (pd_call (K := K) G_repeated_until_settled (hr.mono (by decide)) (by rfl) m_repeated_until_settled F_repeated_until_settled.kp b_repeated_until_settled pass0 (ad_cons (pd_var 0) (ad_cons (pd_var 1) ad_nil))) (gd_tup2 (K := K) 2 3 rfl sc_settled.nd))
  (bd_one (sd_ret (pd_var 3)))), fun ws ob X Q h => ?_⟩
  · obtain ⟨_, _, _, rfl, _⟩ := h; rfl
  · exact h
  · obtain ⟨T, A, h, rfl, rfl, hq⟩ := h
    refine ⟨T, A, h, rfl, rfl, fun more => ?_⟩
    exact hq []
abbrev sd_turned : Stmt := topS 20
abbrev n_turned : List Str := ["table", "one", "base"]
theorem sc_turned : FnScope n_turned ["table", "one"] (defScope sd_turned) := ⟨rfl, rfl, rfl, by decide +kernel, rfl, by decide +kernel, by decide +kernel⟩

theorem ok_turned {f f_settled f_product_of : Addr} {fd fd_settled fd_product_of : FuncData} (F : Fun K "turned" "turned" sd_turned f fd)
    (F_settled : Fun K "settled" "settled" sd_settled f_settled fd_settled) (b_settled : L2.Binds K fd_settled ["table", "one"] []) (m_settled : mg "settled" = some (.ref f_settled)) (G_settled : FnOk P w K mg base CX0 3 f_settled fd_settled ["table", "one"] (toSp K s_settled))
    (F_product_of : Fun K "product_of" "product_of" sd_product_of f_product_of fd_product_of) (b_product_of : L2.Binds K fd_product_of ["table", "one", "two"] []) (m_product_of : mg "product_of" = some (.ref f_product_of)) (G_product_of : FnOk P w K mg base CX0 1 f_product_of fd_product_of ["table", "one", "two"] (toSp K s_product_of)) (m_tuple : mg "tuple" = none) (m_sorted : mg "sorted" = none) (m_set : mg "set" = none) : FnOk P w K mg base CX0 4 f fd ["table", "one"] (toSp K s_turned) := by
  refine Fn.mkB F sc_turned (fun ws ob X Q h => ?_) (fun ws ob X Q h => ?_) fun cdv A outer s' H E hr => ⟨_, _, (bd_cons (sd_set 2 sc_turned.nd (pd_call (K := K) G_settled (hr.mono (by decide)) (by rfl) m_settled F_settled.kp b_settled pass0 (ad_cons (pd_var 0) (ad_cons (pd_var 1) ad_nil))))
  (bd_one (sd_ret (pd_tuple (K := K) (by rfl) m_tuple (ad_cons (pd_sortedSet (K := K) rfl (by rfl) m_sorted (by rfl) m_set (pd_addA (K := K) (pd_var 2) (pd_call (K := K) G_product_of (hr.mono (by decide)) (by rfl) m_product_of F_product_of.kp b_product_of pass0 (ad_cons (pd_var 0) (ad_cons (pd_var 2) (ad_cons (pd_var 1) ad_nil)))))) ad_nil))))), fun ws ob X Q h => ?_⟩
  · obtain ⟨_, _, _, rfl, _⟩ := h; rfl
  · exact h
  · obtain ⟨T, A, h, rfl, rfl, hq⟩ := h
    have vs := set_vs h.vs
    refine ⟨T, A, h, rfl, rfl, fun more => ?_⟩
    refine ⟨T, setS T A, A, h.tb, h.few, vs, h.vs, rfl, rfl, fun more => ?_⟩
    have few := h.few
    have l1 := vs.len
    have l2 := (prod_vs (T := T) (A := setS T A) (B := A)).len
    refine ⟨by simp; omega, ?_⟩
    refine ⟨((setS T A) ++ (prodS T (setS T A) A)).map (fun n : Nat => (n : Int)), ?_, by simp; omega, fun ms up mem => ?_⟩
    · rw [mapI, List.map_append]
    · refine q_row (hq _) (sorted_nat up turn_vs fun k => ?_)
      rw [mem k, List.mem_map]
      constructor
      · rintro ⟨n, hn, rfl⟩
        exact ⟨n, (mem_turn h.vs).mpr (List.mem_append.mp hn), rfl⟩
      · rintro ⟨n, hn, rfl⟩
        exact ⟨n, List.mem_append.mpr ((mem_turn h.vs).mp hn), rfl⟩

abbrev sd__law_power : Stmt := topS 38
abbrev n__law_power : List Str := ["table", "one", "count", "found", "k"]
theorem sc__law_power : FnScope n__law_power ["table", "one", "count"] (defScope sd__law_power) := ⟨rfl, rfl, rfl, by decide +kernel, rfl, by decide +kernel, by decide +kernel⟩

theorem ok__law_power {f f__law_product : Addr} {fd fd__law_product : FuncData} (F : Fun K "_law_power" "_law_power" sd__law_power f fd)
    (F__law_product : Fun K "_law_product" "_law_product" sd__law_product f__law_product fd__law_product) (b__law_product : L2.Binds K fd__law_product ["table", "one", "two"] []) (m__law_product : mg "_law_product" = some (.ref f__law_product)) (G__law_product : FnOk P w K mg base CX0 1 f__law_product fd__law_product ["table", "one", "two"] (toSp K s__law_product)) (m_range : mg "range" = none) : FnOk P w K mg base CX0 2 f fd ["table", "one", "count"] (toSp K s__law_power) := by
  refine Fn.mkB F sc__law_power (fun ws ob X Q h => ?_) (fun ws ob X Q h => ?_) fun cdv A outer s' H E hr => ⟨_, _, (bd_cons (sd_set 3 sc__law_power.nd (pd_var 1))
  (bd_cons (sd_for PassesOwn.never rfl (id_rng1 (by rfl) m_range (ad_cons (pd_sub (pd_var 2) pd_int) ad_nil)) (gd_name 4 sc__law_power.nd) (bd_one (sd_set 3 sc__law_power.nd (pd_call (K := K) G__law_product (hr.mono (by decide)) (by rfl) m__law_product F__law_product.kp b__law_product pass0 (ad_cons (pd_var 0) (ad_cons (pd_var 3) (ad_cons (pd_var 1) ad_nil)))))))
  (bd_one (sd_ret (pd_var 3))))), fun ws ob X Q h => ?_⟩
  · obtain ⟨_, _, _, _, _, rfl, _⟩ := h; rfl
  · exact h
  · obtain ⟨T, A, j, h, hj, rfl, rfl, hq⟩ := h
    let ρ : Nat → En := fun i => ⟨[some (.dat (tblD T)), some (.dat (rowD A)), some (.dat (nD (j + 1))), some (.dat (rowD (pwS T A i))), none], []⟩
    have ej : (((j + 1 : Nat) : Int) - 1).toNat = j := by omega
    refine ⟨rbI (by omega) (by omega), [4], fun i e => e = ρ i, rfl, ?_, ?_⟩
    · rintro i d e' hd rfl
      exact ⟨T, pwS T A i, A, h.tb, h.few, pw_vs h.vs i, h.vs, rfl, rfl, fun more => rfl⟩
    · rintro e' rfl
      rw [ints_len, ej]
      exact hq []
abbrev sd__law_settling : Stmt := topS 39
abbrev n__law_settling : List Str := ["table", "one", "found", "k"]
theorem sc__law_settling : FnScope n__law_settling ["table", "one"] (defScope sd__law_settling) := ⟨rfl, rfl, rfl, by decide +kernel, rfl, by decide +kernel, by decide +kernel⟩

theorem ok__law_settling {f f__law_product : Addr} {fd fd__law_product : FuncData} (F : Fun K "_law_settling" "_law_settling" sd__law_settling f fd)
    (F__law_product : Fun K "_law_product" "_law_product" sd__law_product f__law_product fd__law_product) (b__law_product : L2.Binds K fd__law_product ["table", "one", "two"] []) (m__law_product : mg "_law_product" = some (.ref f__law_product)) (G__law_product : FnOk P w K mg base CX0 1 f__law_product fd__law_product ["table", "one", "two"] (toSp K s__law_product)) (m_range : mg "range" = none) : FnOk P w K mg base CX0 2 f fd ["table", "one"] (toSp K s__law_settling) := by
  refine Fn.mkB F sc__law_settling (fun ws ob X Q h => ?_) (fun ws ob X Q h => ?_) fun cdv A outer s' H E hr => ⟨_, _, (bd_cons (sd_set 2 sc__law_settling.nd (pd_var 1))
  (bd_cons (sd_for PassesOwn.never rfl (id_rng2 (by rfl) m_range (ad_cons pd_int (ad_cons pd_int ad_nil))) (gd_name 3 sc__law_settling.nd) (bd_cons (sd_if (td_cm (cm_eqA (K := K) hr.units) (pd_call (K := K) G__law_product (hr.mono (by decide)) (by rfl) m__law_product F__law_product.kp b__law_product pass0 (ad_cons (pd_var 0) (ad_cons (pd_var 2) (ad_cons (pd_var 2) ad_nil)))) (pd_var 2) (nomark _)) (bd_one (sd_ret (pd_var 3))) bd_nil)
  (bd_one (sd_set 2 sc__law_settling.nd (pd_call (K := K) G__law_product (hr.mono (by decide)) (by rfl) m__law_product F__law_product.kp b__law_product pass0 (ad_cons (pd_var 0) (ad_cons (pd_var 2) (ad_cons (pd_var 1) ad_nil))))))))
  (bd_one (sd_ret pd_int)))), fun ws ob X Q h => ?_⟩
  · obtain ⟨_, _, _, rfl, _⟩ := h; rfl
  · exact h
  · obtain ⟨T, A, h, rfl, rfl, hq⟩ := h
    obtain ⟨s1, s2, s3⟩ := h.st
    let ρ : Nat → En := fun i => ⟨[some (.dat (tblD T)), some (.dat (rowD A)), some (.dat (rowD (pwS T A i))), none], []⟩
    refine ⟨by decide, [3], fun i e => e = ρ i ∧ i ≤ stl T A, ⟨rfl, Nat.zero_le _⟩, ?_, ?_⟩
    · rintro i d e' hd ⟨rfl, hi⟩
      obtain ⟨hi39, rfl⟩ := ints_at.mp hd
      have vj := pw_vs h.vs i
      refine ⟨T, pwS T A i, pwS T A i, h.tb, h.few, vj, vj, rfl, rfl, fun more => ?_⟩
      refine ⟨lay_shaped lay_row (by decide), lay_shaped lay_row (by decide), ?_⟩
      refine ⟨fun hb => ?_, fun hb => ?_⟩
      · replace hb : PyData.eqv (rowD (prodS T (pwS T A i) (pwS T A i))) (rowD (pwS T A i)) = true := hb
        have hs : stlB T A i = true := by
          unfold stlB
          rw [beq_iff_eq]
          exact (tell_row _ _).mp hb
        have e : i = stl T A := by
          rcases Nat.lt_or_ge i (stl T A) with q | q
          · rw [s3 i q] at hs; cases hs
          · omega
        exact q_int (hq []) (by rw [e]; omega)
      · replace hb : PyData.eqv (rowD (prodS T (pwS T A i) (pwS T A i))) (rowD (pwS T A i)) = false := hb
        have hlt : i < stl T A := by
          rcases Nat.lt_or_ge i (stl T A) with q | q
          · exact q
          · have e : i = stl T A := by omega
            have := (tell_row _ _).mpr (eq_of_beq s2)
            rw [← e] at this
            rw [this] at hb; cases hb
        exact ⟨T, pwS T A i, A, h.tb, h.few, vj, h.vs, rfl, rfl, fun more => ⟨rfl, hlt⟩⟩
    · rintro e' ⟨rfl, hi⟩
      rw [ints_len] at hi
      have : (39 : Nat) ≤ stl T A := hi
      omega
abbrev sd__law_turned : Stmt := topS 40
abbrev n__law_turned : List Str := ["table", "one", "first", "second", "k"]
theorem sc__law_turned : FnScope n__law_turned ["table", "one"] (defScope sd__law_turned) := ⟨rfl, rfl, rfl, by decide +kernel, rfl, by decide +kernel, by decide +kernel⟩

theorem ok__law_turned {f f__law_power f__law_product f__law_settling : Addr} {fd fd__law_power fd__law_product fd__law_settling : FuncData} (F : Fun K "_law_turned" "_law_turned" sd__law_turned f fd)
    (F__law_power : Fun K "_law_power" "_law_power" sd__law_power f__law_power fd__law_power) (b__law_power : L2.Binds K fd__law_power ["table", "one", "count"] []) (m__law_power : mg "_law_power" = some (.ref f__law_power)) (G__law_power : FnOk P w K mg base CX0 2 f__law_power fd__law_power ["table", "one", "count"] (toSp K s__law_power))
    (F__law_product : Fun K "_law_product" "_law_product" sd__law_product f__law_product fd__law_product) (b__law_product : L2.Binds K fd__law_product ["table", "one", "two"] []) (m__law_product : mg "_law_product" = some (.ref f__law_product)) (G__law_product : FnOk P w K mg base CX0 1 f__law_product fd__law_product ["table", "one", "two"] (toSp K s__law_product))
    (F__law_settling : Fun K "_law_settling" "_law_settling" sd__law_settling f__law_settling fd__law_settling) (b__law_settling : L2.Binds K fd__law_settling ["table", "one"] []) (m__law_settling : mg "_law_settling" = some (.ref f__law_settling)) (G__law_settling : FnOk P w K mg base CX0 2 f__law_settling fd__law_settling ["table", "one"] (toSp K s__law_settling)) (m_tuple : mg "tuple" = none) (m_range : mg "range" = none) (m_len : mg "len" = none) : FnOk P w K mg base CX0 3 f fd ["table", "one"] (toSp K s__law_turned) := by
  refine Fn.mkB F sc__law_turned (fun ws ob X Q h => ?_) (fun ws ob X Q h => ?_) fun cdv A outer s' H E hr => ⟨_, _, (bd_cons (sd_set 2 sc__law_turned.nd (pd_call (K := K) G__law_power (hr.mono (by decide)) (by rfl) m__law_power F__law_power.kp b__law_power pass0 (ad_cons (pd_var 0) (ad_cons (pd_var 1) (ad_cons (pd_call (K := K) G__law_settling (hr.mono (by decide)) (by rfl) m__law_settling F__law_settling.kp b__law_settling pass0 (ad_cons (pd_var 0) (ad_cons (pd_var 1) ad_nil))) ad_nil)))))
  (bd_cons (sd_set 3 sc__law_turned.nd (pd_call (K := K) G__law_product (hr.mono (by decide)) (by rfl) m__law_product F__law_product.kp b__law_product pass0 (ad_cons (pd_var 0) (ad_cons (pd_var 2) (ad_cons (pd_var 1) ad_nil)))))
  (bd_one (sd_ret (pd_tuple (K := K) (by rfl) m_tuple (ad_cons (pd_lc (own := [("k", 4)]) rfl sc__law_turned.nd  (id_rng1 (by rfl) m_range (ad_cons (pd_len (K := K) (by rfl) m_len (ad_cons (pd_var 0) ad_nil)) ad_nil)) (blkOk_by (N := n__law_turned) (sc := defScope sd__law_turned) (by decide +kernel)) (fun _ _ _ _ _ => (gd_name 4 sc__law_turned.nd)) (fun _ _ _ _ _ => (qd_one (td_wd (wd_or (td_cm (cm_in (K := K) (u65 hr)) (pd_var 4) (pd_var 2) rfl) (wd_or1 (td_cm (cm_in (K := K) (u65 hr)) (pd_var 4) (pd_var 3) rfl)))))) (fun _ _ _ _ _ => (pd_var 4))) ad_nil)))))), fun ws ob X Q h => ?_⟩
  · obtain ⟨_, _, _, rfl, _⟩ := h; rfl
  · exact h
  · obtain ⟨T, A, h, rfl, rfl, hq⟩ := h
    have eT : ((T.map rowD).length : Int) = (T.length : Int) := by simp
    have few := h.few
    have s15 := h.st.1
    refine ⟨T, A, h, rfl, rfl, fun more => ?_⟩
    refine ⟨T, A, stl T A, h, by omega, rfl, rfl, fun more => ?_⟩
    refine ⟨T, setS T A, A, h.tb, h.few, set_vs h.vs, h.vs, rfl, rfl, fun more => ?_⟩
    let f : Nat → Bool := fun k => (setS T A).contains k || (prodS T (setS T A) A).contains k
    refine ⟨rbN (by simp; omega), by rw [ints_len]; simp; omega, fun i acc => acc = ((List.range i).filter f).map nD, rfl, ?_, ?_⟩
    · rintro i d acc hd rfl
      obtain ⟨hi, rfl⟩ := ints_at.mp hd
      rw [show (0 : Int) + (i : Int) = (i : Int) by omega]
      have step : ∀ b : Bool, f i = b → ((List.range (i + 1)).filter f).map nD = ((List.range i).filter f).map nD ++ (if b = true then [nD i] else []) := fun b hb => by
        rw [List.range_succ, List.filter_append, List.map_append]
        cases b <;> simp [List.filter_cons, hb]
      refine ⟨rfl, flat_row, fun hb => ?_, fun hb => ?_⟩
      · replace hb : (((setS T A).map nD).any fun z => PyData.eqv z (nD i)) = true := hb
        rw [any_row] at hb
        refine ⟨fun _ => ⟨rfl, ?_⟩, tf⟩
        show _ ++ [nD i] = ((List.range (i + 1)).filter f).map nD
        rw [step true (by show (_ || _) = true; rw [hb]; rfl)]; rfl
      · replace hb : (((setS T A).map nD).any fun z => PyData.eqv z (nD i)) = false := hb
        rw [any_row] at hb
        refine ⟨rfl, flat_row, fun hc => ⟨rfl, ?_⟩, fun hc => ⟨rfl, ?_⟩⟩
        · replace hc : (((prodS T (setS T A) A).map nD).any fun z => PyData.eqv z (nD i)) = true := hc
          rw [any_row] at hc
          show _ ++ [nD i] = ((List.range (i + 1)).filter f).map nD
          rw [step true (by show (_ || _) = true; rw [hb, hc]; rfl)]; rfl
        · replace hc : (((prodS T (setS T A) A).map nD).any fun z => PyData.eqv z (nD i)) = false := hc
          rw [any_row] at hc
          show _ = ((List.range (i + 1)).filter f).map nD
          rw [step false (by show (_ || _) = false; rw [hb, hc]; rfl)]; simp
    · rintro acc rfl
      rw [ints_len, eT, show ((T.length : Int)).toNat = T.length by omega]
      exact hq []

abbrev sd_check_semigroup : Stmt := topS 14
abbrev n_check_semigroup : List Str := ["semigroup", "fault"]
theorem sc_check_semigroup : FnScope n_check_semigroup ["semigroup"] (defScope sd_check_semigroup) := ⟨rfl, rfl, rfl, by decide +kernel, rfl, by decide +kernel, by decide +kernel⟩

theorem ok_check_semigroup {f f_fault_of : Addr} {fd fd_fault_of : FuncData} (F : Fun K "check_semigroup" "check_semigroup" sd_check_semigroup f fd)
    (F_fault_of : Fun K "fault_of" "fault_of" sd_fault_of f_fault_of fd_fault_of) (b_fault_of : L2.Binds K fd_fault_of ["semigroup"] []) (m_fault_of : mg "fault_of" = some (.ref f_fault_of)) (G_fault_of : FnOk P w K mg base CX0 3 f_fault_of fd_fault_of ["semigroup"] (toSp K s_fault_of)) : FnOk P w K mg base CX0 4 f fd ["semigroup"] (toSp K s_check_semigroup) := by
  refine Fn.mkB F sc_check_semigroup (fun ws ob X Q h => ?_) (fun ws ob X Q h => ?_) fun cdv A outer s' H E hr => ⟨_, _, (bd_cons (sd_set 1 sc_check_semigroup.nd (pd_call (K := K) G_fault_of (hr.mono (by decide)) (by rfl) m_fault_of F_fault_of.kp b_fault_of pass0 (ad_cons (pd_var 0) ad_nil)))
  (bd_one (sd_if (td_cm cm_notN (pd_var 1) pd_non (nomark _)) (bd_one sd_nev) bd_nil))), fun ws ob X Q h => ?_⟩
  · obtain ⟨_, _, _, rfl, _⟩ := h; rfl
  · exact h
  · obtain ⟨T, L, hs, rfl, rfl, hq⟩ := h
    have n1 := hs.n1
    have n4 := hs.n4
    have l3 := hs.l3
    refine ⟨castT T, castL L, by simp [castT]; omega, fun r hr => ?_, by simp [castL]; omega, congrArg (fun d : D => ([.dat d] : List Wv)) sgDI_nat.symm, rfl, fun more => ?_⟩
    · obtain ⟨r0, h0, rfl⟩ := List.mem_map.mp hr
      have := hs.sg.rows r0 h0
      rw [List.length_map]; omega
    rw [sg_good hs.sg hs.as hs.n1 hs.n4 hs.l1 hs.l3]
    exact ⟨ff, fun _ => hq _⟩
abbrev sd_add_set : Stmt := topS 23
abbrev n_add_set : List Str := ["family", "made", "values", "_", "known"]
theorem sc_add_set : FnScope n_add_set ["family", "made", "values"] (defScope sd_add_set) := ⟨rfl, rfl, rfl, by decide +kernel, rfl, by decide +kernel, by decide +kernel⟩

theorem ok_add_set {f : Addr} {fd : FuncData} (F : Fun K "add_set" "add_set" sd_add_set f fd) : FnOk P w K mg base CX0 1 f fd ["family", "made", "values"] (toSp K s_add_set) := by
  refine Fn.mkB F sc_add_set (fun ws ob X Q h => ?_) (fun ws ob X Q h => ?_) fun cdv A outer s' H E hr => ⟨_, _, (bd_one (sd_if (td_cm (cm_nin (K := K) (u65 hr)) (pd_var 2) (pd_lB1 (own := [("_", 3), ("known", 4)])  rfl sc_add_set.nd (jd_own (pd_var 0)) (blkOk_by (N := n_add_set) (sc := defScope sd_add_set) (by decide +kernel)) (fun _ _ _ _ _ => (gd_tup2 (K := K) 3 4 rfl sc_add_set.nd)) (fun _ _ _ _ _ => qd_nil) (fun _ _ _ _ _ => (pd_var 4))) rfl) (bd_one (sd_drop (pd_append (K := K) (pd_var 0) (ad_cons (pd_tup (ad_cons (pd_var 1) (ad_cons (pd_var 2) ad_nil))) ad_nil)))) bd_nil)), fun ws ob X Q h => ?_⟩
  · obtain ⟨_, _, _, _, _, _, rfl, _⟩ := h; rfl
  · exact h
  · obtain ⟨n, F, m, S, hF, hn, rfl, rfl, hq⟩ := h
    have hl := hF.len hn
    refine ⟨0, famL F, rfl, rfl, fun i acc => acc = (F.take i).map fun p => rowD p.2, rfl, ?_, ?_⟩
    · rintro i d acc hd rfl
      obtain ⟨p, hp, rfl⟩ := map_at hd
      refine ⟨fun _ => ⟨rfl, ?_⟩, tf⟩
      exact ⟨by simp; omega, rfl, map_snoc (f := fun p : Mk × List Nat => rowD p.2) hp⟩
    · rintro acc rfl
      rw [famL, List.length_map, List.take_length]
      refine ⟨lay_shaped lay_row (by decide), lay_shaped (lay_list (lay_map fun _ => lay_row)) (by decide), ?_⟩
      refine ⟨fun hb => ?_, fun hb => ?_⟩
      · replace hb : (!((F.map fun p => rowD p.2).any fun z => PyData.eqv z (rowD S))) = true := hb
        rw [any_sets] at hb
        have hb : hasF F S = false := by simpa using hb
        refine ⟨by simp [famL]; omega, ?_⟩
        have q := hq []
        have e : putF F m S = F ++ [(m, S)] := by unfold putF; rw [if_neg (by rw [hb]; exact Bool.false_ne_true)]
        rw [e, famL, List.map_append] at q
        exact q
      · replace hb : (!((F.map fun p => rowD p.2).any fun z => PyData.eqv z (rowD S))) = false := hb
        rw [any_sets] at hb
        have hb : hasF F S = true := by simpa using hb
        have q := hq []
        have e : putF F m S = F := by unfold putF; rw [if_pos hb]
        rw [e] at q
        exact q
abbrev sd_add_made_of : Stmt := topS 22
abbrev n_add_made_of : List Str := ["table", "family", "number", "values", "other", "others"]
theorem sc_add_made_of : FnScope n_add_made_of ["table", "family", "number"] (defScope sd_add_made_of) := ⟨rfl, rfl, rfl, by decide +kernel, rfl, by decide +kernel, by decide +kernel⟩

theorem ok_add_made_of {f f_add_set f_turned f_product_of : Addr} {fd fd_add_set fd_turned fd_product_of : FuncData} (F : Fun K "add_made_of" "add_made_of" sd_add_made_of f fd)
    (F_add_set : Fun K "add_set" "add_set" sd_add_set f_add_set fd_add_set) (b_add_set : L2.Binds K fd_add_set ["family", "made", "values"] []) (m_add_set : mg "add_set" = some (.ref f_add_set)) (G_add_set : FnOk P w K mg base CX0 1 f_add_set fd_add_set ["family", "made", "values"] (toSp K s_add_set))
    (F_turned : Fun K "turned" "turned" sd_turned f_turned fd_turned) (b_turned : L2.Binds K fd_turned ["table", "one"] []) (m_turned : mg "turned" = some (.ref f_turned)) (G_turned : FnOk P w K mg base CX0 4 f_turned fd_turned ["table", "one"] (toSp K s_turned))
    (F_product_of : Fun K "product_of" "product_of" sd_product_of f_product_of fd_product_of) (b_product_of : L2.Binds K fd_product_of ["table", "one", "two"] []) (m_product_of : mg "product_of" = some (.ref f_product_of)) (G_product_of : FnOk P w K mg base CX0 1 f_product_of fd_product_of ["table", "one", "two"] (toSp K s_product_of)) (m_range : mg "range" = none) : FnOk P w K mg base CX0 5 f fd ["table", "family", "number"] (toSp K s_add_made_of) := by
  refine Fn.mkB F sc_add_made_of (fun ws ob X Q h => ?_) (fun ws ob X Q h => ?_) fun cdv A outer s' H E hr => ⟨_, _, (bd_cons (sd_set 3 sc_add_made_of.nd (pd_ixA (K := K) (pd_ixA (K := K) (pd_var 1) (pd_var 2)) pd_int))
  (bd_cons (sd_drop (pd_call (K := K) G_add_set (hr.mono (by decide)) (by rfl) m_add_set F_add_set.kp b_add_set pass0 (ad_cons (pd_var 1) (ad_cons (pd_tup (ad_cons pd_str (ad_cons (pd_var 2) ad_nil))) (ad_cons (pd_call (K := K) G_turned (hr.mono (by decide)) (by rfl) m_turned F_turned.kp b_turned pass0 (ad_cons (pd_var 0) (ad_cons (pd_var 3) ad_nil))) ad_nil)))))
  (bd_one (sd_for PassesOwn.never rfl (id_rng1 (by rfl) m_range (ad_cons (pd_addA (K := K) (pd_var 2) pd_int) ad_nil)) (gd_name 4 sc_add_made_of.nd) (bd_cons (sd_set 5 sc_add_made_of.nd (pd_ixA (K := K) (pd_ixA (K := K) (pd_var 1) (pd_var 4)) pd_int))
  (bd_cons (sd_drop (pd_call (K := K) G_add_set (hr.mono (by decide)) (by rfl) m_add_set F_add_set.kp b_add_set pass0 (ad_cons (pd_var 1) (ad_cons (pd_tup (ad_cons pd_str (ad_cons (pd_var 2) (ad_cons (pd_var 4) ad_nil)))) (ad_cons (pd_call (K := K) G_product_of (hr.mono (by decide)) (by rfl) m_product_of F_product_of.kp b_product_of pass0 (ad_cons (pd_var 0) (ad_cons (pd_var 3) (ad_cons (pd_var 5) ad_nil)))) ad_nil)))))
  (bd_one (sd_drop (pd_call (K := K) G_add_set (hr.mono (by decide)) (by rfl) m_add_set F_add_set.kp b_add_set pass0 (ad_cons (pd_var 1) (ad_cons (pd_tup (ad_cons pd_str (ad_cons (pd_var 4) (ad_cons (pd_var 2) ad_nil)))) (ad_cons (pd_call (K := K) G_product_of (hr.mono (by decide)) (by rfl) m_product_of F_product_of.kp b_product_of pass0 (ad_cons (pd_var 0) (ad_cons (pd_var 5) (ad_cons (pd_var 3) ad_nil)))) ad_nil)))))))))))), fun ws ob X Q h => ?_⟩
  · obtain ⟨_, _, _, _, _, _, _, rfl, _⟩ := h; rfl
  · exact h
  · obtain ⟨T, L, F, k, hs, hF, hk, rfl, rfl, hq⟩ := h
    have hl := hF.len hs.n4
    obtain ⟨m0, e0⟩ := at_fam hk
    have vS := atF_vs hF (k := k)
    refine ⟨_, e0, _, rfl, ?_⟩
    refine ⟨T, atF F k, ⟨hs.sg.tb, hs.as, hs.n4, vS⟩, rfl, rfl, fun more => ?_⟩
    refine ⟨T.length, F, .turn k, turnS T (atF F k), hF, hs.n4, rfl, rfl, fun more => ?_⟩
    let ρ : Nat → En := fun i => ⟨[some (.dat (tblD T)), some (.ref 0), some (.dat (nD k)), some (.dat (rowD (atF F k))), none, none], [.lst (famL (stepI T F k i))]⟩
    have ek : ((k : Int) + 1).toNat = k + 1 := by omega
    refine ⟨rbI (by omega) (by omega), [4, 5], fun i e => e = ρ i, rfl, ?_, ?_⟩
    · rintro i d e' hd rfl
      obtain ⟨hi, rfl⟩ := ints_at.mp hd
      rw [ek] at hi
      rw [show (0 : Int) + (i : Int) = (i : Int) by omega]
      have hG : Fm T.length (stepI T F k i) := hF.stepI
      have hpre : F <+: stepI T F k i := stepI_pre
      have hiG : i < (stepI T F k i).length := by have := hpre.length_le; omega
      obtain ⟨m1, e1⟩ := at_fam hiG
      have vS2 := atF_vs hG (k := i)
      refine ⟨_, e1, _, rfl, ?_⟩
      refine ⟨T, atF F k, atF (stepI T F k i) i, hs.sg.tb, hs.n4, vS, vS2, rfl, rfl, fun more => ?_⟩
      refine ⟨T.length, stepI T F k i, .both k i, prodS T (atF F k) (atF (stepI T F k i) i), hG, hs.n4, rfl, rfl, fun more => ?_⟩
      refine ⟨T, atF (stepI T F k i) i, atF F k, hs.sg.tb, hs.n4, vS2, vS, rfl, rfl, fun more => ?_⟩
      refine ⟨T.length, putF (stepI T F k i) (.both k i) (prodS T (atF F k) (atF (stepI T F k i) i)), .both i k, prodS T (atF (stepI T F k i) i) (atF F k), hG.put prod_vs, hs.n4, rfl, rfl, fun more => ?_⟩
      show _ = ρ (i + 1)
      show _ = (⟨_, [.lst (famL (stepI T F k (i + 1)))]⟩ : En)
      rw [stepI_succ]
      rfl
    · rintro e' rfl
      rw [ints_len, ek]
      exact hq []
abbrev sd_family_of : Stmt := topS 21
abbrev n_family_of : List Str := ["semigroup", "table", "letters", "family", "letter", "value", "number"]
theorem sc_family_of : FnScope n_family_of ["semigroup"] (defScope sd_family_of) := ⟨rfl, rfl, rfl, by decide +kernel, rfl, by decide +kernel, by decide +kernel⟩

theorem ok_family_of {f f_check_semigroup f_add_set f_add_made_of : Addr} {fd fd_check_semigroup fd_add_set fd_add_made_of : FuncData} (F : Fun K "family_of" "family_of" sd_family_of f fd)
    (F_check_semigroup : Fun K "check_semigroup" "check_semigroup" sd_check_semigroup f_check_semigroup fd_check_semigroup) (b_check_semigroup : L2.Binds K fd_check_semigroup ["semigroup"] []) (m_check_semigroup : mg "check_semigroup" = some (.ref f_check_semigroup)) (G_check_semigroup : FnOk P w K mg base CX0 4 f_check_semigroup fd_check_semigroup ["semigroup"] (toSp K s_check_semigroup))
    (F_add_set : Fun K "add_set" "add_set" sd_add_set f_add_set fd_add_set) (b_add_set : L2.Binds K fd_add_set ["family", "made", "values"] []) (m_add_set : mg "add_set" = some (.ref f_add_set)) (G_add_set : FnOk P w K mg base CX0 1 f_add_set fd_add_set ["family", "made", "values"] (toSp K s_add_set))
    (F_add_made_of : Fun K "add_made_of" "add_made_of" sd_add_made_of f_add_made_of fd_add_made_of) (b_add_made_of : L2.Binds K fd_add_made_of ["table", "family", "number"] []) (m_add_made_of : mg "add_made_of" = some (.ref f_add_made_of)) (G_add_made_of : FnOk P w K mg base CX0 5 f_add_made_of fd_add_made_of ["table", "family", "number"] (toSp K s_add_made_of)) (m_enumerate : mg "enumerate" = none) (m_len : mg "len" = none) : FnOk P w K mg base CX0 6 f fd ["semigroup"] (toSp K s_family_of) := by
  refine Fn.mkB F sc_family_of (fun ws ob X Q h => ?_) (fun ws ob X Q h => ?_) fun cdv A outer s' H E hr => ⟨_, _, (bd_cons (sd_drop (pd_call (K := K) G_check_semigroup (hr.mono (by decide)) (by rfl) m_check_semigroup F_check_semigroup.kp b_check_semigroup pass0 (ad_cons (pd_var 0) ad_nil)))
  (bd_cons (sd_asg (pd_var 0) (gd_tup2 (K := K) 1 2 rfl sc_family_of.nd))
  (bd_cons (sd_set 3 sc_family_of.nd (pd_lstO ad_nil))
  (bd_cons (sd_for PassesOwn.never rfl (id_enA (K := K) (by rfl) m_enumerate (ad_cons (pd_var 2) ad_nil)) (gd_tup2 (K := K) 4 5 rfl sc_family_of.nd) (bd_one (sd_drop (pd_call (K := K) G_add_set (hr.mono (by decide)) (by rfl) m_add_set F_add_set.kp b_add_set pass0 (ad_cons (pd_var 3) (ad_cons (pd_tup (ad_cons pd_str (ad_cons (pd_var 4) ad_nil))) (ad_cons (pd_tup (ad_cons (pd_var 5) ad_nil)) ad_nil)))))))
  (bd_cons (sd_set 6 sc_family_of.nd pd_int)
  (bd_cons (sd_while PassesOwn.never (td_cm cm_lt (pd_var 6) (pd_len (K := K) (by rfl) m_len (ad_cons (pd_var 3) ad_nil)) (nomark _)) (bd_cons (sd_drop (pd_call (K := K) G_add_made_of (hr.mono (by decide)) (by rfl) m_add_made_of F_add_made_of.kp b_add_made_of pass0 (ad_cons (pd_var 1) (ad_cons (pd_var 3) (ad_cons (pd_var 6) ad_nil)))))
  (bd_one (sd_aug 6 sc_family_of.nd pd_int ip_add))))
  (bd_one (sd_ret (pd_frz 3))))))))), fun ws ob X Q h => ?_⟩
  · obtain ⟨_, _, _, rfl, _⟩ := h; rfl
  · exact h
  · obtain ⟨T, L, hs, rfl, rfl, hq⟩ := h
    have l3 := hs.l3
    refine ⟨T, L, hs, rfl, rfl, fun more => ?_⟩
    let ρ0 : Nat → En := fun i => ⟨[some (.dat (sgD T L)), some (.dat (tblD T)), some (.dat (rowD L)), some (.ref 0), none, none, none], [.lst (famL (F0 L i))]⟩
    let ρ : Nat → En := fun k => ⟨[some (.dat (sgD T L)), some (.dat (tblD T)), some (.dat (rowD L)), some (.ref 0), none, none, some (.dat (nD k))], [.lst (famL (fam T L k))]⟩
    refine ⟨[4, 5], fun i e => e = ρ0 i ∧ i ≤ L.length, ⟨rfl, Nat.zero_le _⟩, ?_, ?_⟩
    · rintro i d e' hd ⟨rfl, hi⟩
      obtain ⟨hil, rfl⟩ := num_at hd
      refine ⟨T.length, F0 L i, .letter i, [L.getD i 0], Fm.F0 hs.sg hi, hs.n4, rfl, rfl, fun more => ⟨?_, hil⟩⟩
      show _ = (⟨_, [.lst (famL (F0 L (i + 1)))]⟩ : En)
      rw [F0_succ]
      rfl
    · rintro e' ⟨rfl, _⟩
      rw [num_len]
      have bound : ∀ k, (fam T L k).length ≤ 16 := fun k => (Fm.fam hs.sg k).len hs.n4
      refine ⟨[4, 5], fun m e => ∃ k, k ≤ (fam T L k).length ∧ m = 17 - k ∧ e = ρ k, ⟨17, 0, Nat.zero_le _, rfl, rfl⟩, ?_⟩
      rintro m e' ⟨k, hk, rfl, rfl⟩
      have b := bound k
      have el : ((famL (fam T L k)).length : Int) = ((fam T L k).length : Int) := by simp [famL]
      refine ⟨fun hb => ?_, fun hb => ?_⟩
      · replace hb : decide ((k : Int) < ((famL (fam T L k)).length : Int)) = true := hb
        rw [el] at hb
        have hlt : k < (fam T L k).length := by have := dT hb; omega
        refine ⟨T, L, fam T L k, k, hs, Fm.fam hs.sg k, hlt, rfl, rfl, fun more => ?_⟩
        have e1 : fam T L (k + 1) = stepF T (fam T L k) k := by simp only [fam]; rw [if_pos hlt]
        refine ⟨17 - (k + 1), by omega, k + 1, ?_, rfl, ?_⟩
        · rw [e1]
          have := (stepI_pre (T := T) (F := fam T L k) (k := k) (i := k + 1)).length_le
          show _ ≤ (stepI T (fam T L k) k (k + 1)).length
          omega
        · show _ = (⟨_, [.lst (famL (fam T L (k + 1)))]⟩ : En)
          rw [e1]
          exact congrArg (fun x : Int => (⟨[some (.dat (sgD T L)), some (.dat (tblD T)), some (.dat (rowD L)), some (.ref 0), none, none, some (.dat (.int x))], [.lst (famL (stepF T (fam T L k) k))]⟩ : En)) (show (k : Int) + 1 = ((k + 1 : Nat) : Int) by omega)
      · replace hb : decide ((k : Int) < ((famL (fam T L k)).length : Int)) = false := hb
        rw [el] at hb
        have hge : (fam T L k).length ≤ k := by have := dF hb; omega
        have e1 : fam T L 16 = fam T L k := fam_stop hge (by omega)
        exact hq (fam T L k) [.frz (.list (famL (fam T L k)))] e1.symm

abbrev sd_is_rising_set : Stmt := topS 3
abbrev n_is_rising_set : List Str := ["numbers", "many"]
theorem sc_is_rising_set : FnScope n_is_rising_set ["numbers", "many"] (defScope sd_is_rising_set) := ⟨rfl, rfl, rfl, by decide +kernel, rfl, by decide +kernel, by decide +kernel⟩

theorem ok_is_rising_set {f f_are_below : Addr} {fd fd_are_below : FuncData} (F : Fun K "is_rising_set" "is_rising_set" sd_is_rising_set f fd)
    (F_are_below : Fun K "are_below" "are_below" sd_are_below f_are_below fd_are_below) (b_are_below : L2.Binds K fd_are_below ["numbers", "many"] []) (m_are_below : mg "are_below" = some (.ref f_are_below)) (G_are_below : FnOk P w K mg base CX0 1 f_are_below fd_are_below ["numbers", "many"] (toSp K s_are_below)) (m_list : mg "list" = none) (m_sorted : mg "sorted" = none) (m_set : mg "set" = none) : FnOk P w K mg base CX0 2 f fd ["numbers", "many"] (toSp K s_is_rising_set) := by
  refine Fn.mkB F sc_is_rising_set (fun ws ob X Q h => ?_) (fun ws ob X Q h => ?_) fun cdv A outer s' H E hr => ⟨_, _, (bd_one (sd_ret (pd_and (pd_cm (cm_eqA (K := K) hr.units) (pd_list (K := K) (by rfl) m_list (ad_cons (pd_var 0) ad_nil)) (pd_sortedSet (K := K) rfl (by rfl) m_sorted (by rfl) m_set (pd_var 0)) (nomark _)) (pd_and1 (pd_call (K := K) G_are_below (hr.mono (by decide)) (by rfl) m_are_below F_are_below.kp b_are_below pass0 (ad_cons (pd_var 0) (ad_cons (pd_var 1) ad_nil))))))), fun ws ob X Q h => ?_⟩
  · obtain ⟨_, _, _, rfl, _⟩ := h; rfl
  · exact h
  · obtain ⟨ls, m, hl, rfl, rfl, hq⟩ := h
    refine ⟨ls, rfl, hl, fun ms up mem => ?_⟩
    have tell : PyData.eqv (.list (ls.map .int)) (.list (ms.map .int)) = upI ls := by
      rw [Bool.eq_iff_iff, tell_list tell_int ls ms]
      exact up_same up mem
    have lay : ∀ ns : List Int, Lay 1 (.list (ns.map PyData.int)) := fun ns => lay_list (lay_map fun _ => lay_int)
    refine ⟨lay_shaped (lay _) (by decide), lay_shaped (lay _) (by decide), ?_⟩
    refine ⟨fun hb => ?_, fun hb => ?_⟩
    · have hb : PyData.eqv (.list (ls.map .int)) (.list (ms.map .int)) = true := hb
      rw [tell] at hb
      have q : ∀ more, Q (.bool (below ls m)) more := fun more => by
        have q := hq more
        rw [risOk, hb, Bool.true_and] at q
        exact q
      exact ⟨ls, m, _, .inl rfl, by omega, rfl, rfl, fun more => q _⟩
    · have hb : PyData.eqv (.list (ls.map .int)) (.list (ms.map .int)) = false := hb
      have q : ∀ more, Q (.bool false) more := fun more => by
        have q := hq more
        rw [risOk, ← tell, hb, Bool.false_and] at q
        exact q
      exact q _

abbrev sd_have_common : Stmt := topS 4
abbrev n_have_common : List Str := ["one", "two", "number"]
theorem sc_have_common : FnScope n_have_common ["one", "two"] (defScope sd_have_common) := ⟨rfl, rfl, rfl, by decide +kernel, rfl, by decide +kernel, by decide +kernel⟩

theorem ok_have_common {f : Addr} {fd : FuncData} (F : Fun K "have_common" "have_common" sd_have_common f fd) (m_any : mg "any" = none) : FnOk P w K mg base CX0 1 f fd ["one", "two"] (toSp K s_have_common) := by
  refine Fn.mkB F sc_have_common (fun ws ob X Q h => ?_) (fun ws ob X Q h => ?_) fun cdv A outer s' H E hr => ⟨_, _, (bd_one (sd_ret (pd_anyL (K := K) rfl (by rfl) m_any (ad_cons (pd_lc (own := [("number", 2)]) rfl sc_have_common.nd  (id_seq (K := K) (pd_var 0)) (blkOk_by (N := n_have_common) (sc := defScope sd_have_common) (by decide +kernel)) (fun _ _ _ _ _ => (gd_name 2 sc_have_common.nd)) (fun _ _ _ _ _ => qd_nil) (fun _ _ _ _ _ => (pd_cm (cm_in (K := K) (u65 hr)) (pd_var 2) (pd_var 1) rfl))) ad_nil)))), fun ws ob X Q h => ?_⟩
  · obtain ⟨_, _, _, _, _, _, _, rfl, _⟩ := h; rfl
  · exact h
  · obtain ⟨A, B, d, e, hd, he, hl, rfl, rfl, hq⟩ := h
    let f : Nat → Bool := fun a => B.contains a
    have q : ∀ more, Q (.bool ((A.map f).any id)) more := by
      rw [show (A.map f).any id = meetB A B by simp [meetB, f, List.any_map]]
      exact hq
    rcases hd with rfl | rfl <;> rcases he with rfl | rfl
    all_goals
      refine ⟨by rw [List.length_map]; omega, fun i acc => acc = ((A.take i).map f).map .bool, rfl, ?_, ?_⟩
      · rintro i d acc hd rfl
        obtain ⟨a, ha, rfl⟩ := map_at hd
        have step : ∀ b : Bool, b = f a → ((A.take i).map f).map PyData.bool ++ [.bool b] = ((A.take (i + 1)).map f).map PyData.bool := fun b hb => by
          subst hb
          rw [take_snoc ha, List.map_append, List.map_append]; rfl
        refine ⟨fun _ => ?_, tf⟩
        first
          | exact ⟨rfl, flat_row, rfl, step _ any_row⟩
          | exact ⟨lay_shaped lay_nD (by decide), lay_shaped (lay_list (lay_map fun _ => lay_nD)) (by decide), rfl, step _ any_row⟩
      · rintro acc rfl
        rw [List.length_map, List.take_length]
        exact ⟨A.map f, rfl, q _⟩
abbrev sd_check_sets : Stmt := topS 15
abbrev n_check_sets : List Str := ["semigroup", "sets", "many", "values"]
theorem sc_check_sets : FnScope n_check_sets ["semigroup", "sets"] (defScope sd_check_sets) := ⟨rfl, rfl, rfl, by decide +kernel, rfl, by decide +kernel, by decide +kernel⟩

theorem ok_check_sets {f f_check_semigroup f_is_rising_set : Addr} {fd fd_check_semigroup fd_is_rising_set : FuncData} (F : Fun K "check_sets" "check_sets" sd_check_sets f fd)
    (F_check_semigroup : Fun K "check_semigroup" "check_semigroup" sd_check_semigroup f_check_semigroup fd_check_semigroup) (b_check_semigroup : L2.Binds K fd_check_semigroup ["semigroup"] []) (m_check_semigroup : mg "check_semigroup" = some (.ref f_check_semigroup)) (G_check_semigroup : FnOk P w K mg base CX0 4 f_check_semigroup fd_check_semigroup ["semigroup"] (toSp K s_check_semigroup))
    (F_is_rising_set : Fun K "is_rising_set" "is_rising_set" sd_is_rising_set f_is_rising_set fd_is_rising_set) (b_is_rising_set : L2.Binds K fd_is_rising_set ["numbers", "many"] []) (m_is_rising_set : mg "is_rising_set" = some (.ref f_is_rising_set)) (G_is_rising_set : FnOk P w K mg base CX0 2 f_is_rising_set fd_is_rising_set ["numbers", "many"] (toSp K s_is_rising_set)) (m_len : mg "len" = none) : FnOk P w K mg base CX0 5 f fd ["semigroup", "sets"] (toSp K s_check_sets) := by
  refine Fn.mkB F sc_check_sets (fun ws ob X Q h => ?_) (fun ws ob X Q h => ?_) fun cdv A outer s' H E hr => ⟨_, _, (bd_cons (sd_drop (pd_call (K := K) G_check_semigroup (hr.mono (by decide)) (by rfl) m_check_semigroup F_check_semigroup.kp b_check_semigroup pass0 (ad_cons (pd_var 0) ad_nil)))
  (bd_cons (sd_set 2 sc_check_sets.nd (pd_len (K := K) (by rfl) m_len (ad_cons (pd_ixA (K := K) (pd_var 0) pd_int) ad_nil)))
  (bd_one (sd_for PassesOwn.never rfl (id_seq (K := K) (pd_var 1)) (gd_name 3 sc_check_sets.nd) (bd_one (sd_if (td_not (td_val (pd_call (K := K) G_is_rising_set (hr.mono (by decide)) (by rfl) m_is_rising_set F_is_rising_set.kp b_is_rising_set pass0 (ad_cons (pd_var 3) (ad_cons (pd_var 2) ad_nil))))) (bd_one sd_nev) bd_nil)))))), fun ws ob X Q h => ?_⟩
  · obtain ⟨_, _, _, _, _, rfl, _⟩ := h; rfl
  · exact h
  · obtain ⟨T, L, Ss, hs, hv, rfl, rfl, hq⟩ := h
    have eT : ((T.map rowD).length : Int) = (T.length : Int) := by simp
    refine ⟨T, L, hs, rfl, rfl, fun more => ?_⟩
    refine ⟨_, rfl, ?_⟩
    let ρ : En := ⟨[some (.dat (sgD T L)), some (.dat (.list (Ss.map rowD))), some (.dat (.int ((T.map rowD).length : Int))), none], []⟩
    refine ⟨[3], fun i e => e = ρ, rfl, ?_, ?_⟩
    · rintro i d e' hd rfl
      obtain ⟨S, hS, rfl⟩ := map_at hd
      have vs := hv S (List.mem_of_getElem? hS)
      have := vs.len
      have n4 := hs.n4
      refine ⟨S.map (fun n : Nat => (n : Int)), ((T.map rowD).length : Int), by rw [List.length_map]; omega, congrArg (fun d : D => ([.dat d, .dat (.int ((T.map rowD).length : Int))] : List Wv)) (congrArg PyData.tuple mapI.symm), rfl, fun more => ?_⟩
      rw [eT, ris_vs vs]
      exact ⟨ff, fun _ => rfl⟩
    · rintro e' rfl
      exact hq []
abbrev sd_meeting : Stmt := topS 25
abbrev n_meeting : List Str := ["semigroup", "sets", "number", "_", "values", "one"]
theorem sc_meeting : FnScope n_meeting ["semigroup", "sets"] (defScope sd_meeting) := ⟨rfl, rfl, rfl, by decide +kernel, rfl, by decide +kernel, by decide +kernel⟩

theorem ok_meeting {f f_check_sets f_family_of f_have_common : Addr} {fd fd_check_sets fd_family_of fd_have_common : FuncData} (F : Fun K "meeting" "meeting" sd_meeting f fd)
    (F_check_sets : Fun K "check_sets" "check_sets" sd_check_sets f_check_sets fd_check_sets) (b_check_sets : L2.Binds K fd_check_sets ["semigroup", "sets"] []) (m_check_sets : mg "check_sets" = some (.ref f_check_sets)) (G_check_sets : FnOk P w K mg base CX0 5 f_check_sets fd_check_sets ["semigroup", "sets"] (toSp K s_check_sets))
    (F_family_of : Fun K "family_of" "family_of" sd_family_of f_family_of fd_family_of) (b_family_of : L2.Binds K fd_family_of ["semigroup"] []) (m_family_of : mg "family_of" = some (.ref f_family_of)) (G_family_of : FnOk P w K mg base CX0 6 f_family_of fd_family_of ["semigroup"] (toSp K s_family_of))
    (F_have_common : Fun K "have_common" "have_common" sd_have_common f_have_common fd_have_common) (b_have_common : L2.Binds K fd_have_common ["one", "two"] []) (m_have_common : mg "have_common" = some (.ref f_have_common)) (G_have_common : FnOk P w K mg base CX0 1 f_have_common fd_have_common ["one", "two"] (toSp K s_have_common)) (m_enumerate : mg "enumerate" = none) (m_all : mg "all" = none) : FnOk P w K mg base CX0 7 f fd ["semigroup", "sets"] (toSp K s_meeting) := by
  refine Fn.mkB F sc_meeting (fun ws ob X Q h => ?_) (fun ws ob X Q h => ?_) fun cdv A outer s' H E hr => ⟨_, _, (bd_cons (sd_drop (pd_call (K := K) G_check_sets (hr.mono (by decide)) (by rfl) m_check_sets F_check_sets.kp b_check_sets pass0 (ad_cons (pd_var 0) (ad_cons (pd_var 1) ad_nil))))
  (bd_cons (sd_for PassesOwn.never rfl (id_enA (K := K) (by rfl) m_enumerate (ad_cons (pd_call (K := K) G_family_of (hr.mono (by decide)) (by rfl) m_family_of F_family_of.kp b_family_of pass0 (ad_cons (pd_var 0) ad_nil)) ad_nil)) (gd_pair (K := K) rfl (gd_name 2 sc_meeting.nd) (gd_tup2 (K := K) 3 4 rfl sc_meeting.nd)) (bd_one (sd_if (td_val (pd_allL (K := K) rfl (by rfl) m_all (ad_cons (pd_lc (own := [("one", 5)]) rfl sc_meeting.nd  (id_seq (K := K) (pd_var 1)) (blkOk_by (N := n_meeting) (sc := defScope sd_meeting) (by decide +kernel)) (fun _ _ _ _ _ => (gd_name 5 sc_meeting.nd)) (fun _ _ _ _ _ => qd_nil) (fun _ _ _ _ _ => (pd_call (K := K) G_have_common (hr.mono (by decide)) (by rfl) m_have_common F_have_common.kp b_have_common pass0 (ad_cons (pd_var 4) (ad_cons (pd_var 5) ad_nil))))) ad_nil))) (bd_one (sd_ret (pd_tup (ad_cons (pd_var 2) (ad_cons (pd_var 4) ad_nil))))) bd_nil)))
  (bd_one (sd_ret pd_non)))), fun ws ob X Q h => ?_⟩
  · obtain ⟨_, _, _, _, _, _, rfl, _⟩ := h; rfl
  · exact h
  · obtain ⟨T, L, Ss, hs, hv, hl, rfl, rfl, hq⟩ := h
    refine ⟨T, L, Ss, hs, hv, rfl, rfl, fun more => ?_⟩
    refine ⟨T, L, hs, rfl, rfl, fun F more hF => ?_⟩
    have g := fam_good hs hF
    rw [← hF] at hq
    let ρ : En := ⟨[some (.dat (sgD T L)), some (.dat (.list (Ss.map rowD))), none, none, none, none], []⟩
    refine ⟨[2, 3, 4, 5], fun i e => e = ρ ∧ ∀ j < i, metB Ss (atF F j) = false, ⟨rfl, by omega⟩, ?_, ?_⟩
    · rintro i d e' hd ⟨rfl, hno⟩
      obtain ⟨x, hx, rfl⟩ := nums_at.mp hd
      obtain ⟨p, hp, rfl⟩ := map_at hx
      have hi := (List.getElem?_eq_some_iff.mp hp).1
      have eS : atF F i = p.2 := by unfold atF; rw [hp]; rfl
      have vs := g.fm.vs p (List.mem_of_getElem? hp)
      have := vs.len
      have n4 := hs.n4
      refine ⟨by rw [List.length_map]; omega, fun j acc => acc = ((Ss.take j).map (meetB p.2)).map .bool, rfl, ?_, ?_⟩
      · rintro j d acc hd rfl
        obtain ⟨S, hS, rfl⟩ := map_at hd
        refine ⟨fun _ => ?_, tf⟩
        refine ⟨p.2, S, rowD p.2, rowD S, .inl rfl, .inl rfl, by omega, rfl, rfl, fun more => ?_⟩
        refine ⟨rfl, ?_⟩
        show _ = ((Ss.take (j + 1)).map (meetB p.2)).map PyData.bool
        rw [take_snoc hS, List.map_append, List.map_append]; rfl
      · rintro acc rfl
        rw [List.length_map, List.take_length]
        have em : (Ss.map (meetB p.2)).all id = metB Ss (atF F i) := by rw [eS]; simp [metB, List.all_map, Function.comp_def]
        refine ⟨Ss.map (meetB p.2), rfl, fun hb => ?_, fun hb => ?_⟩
        · rw [em] at hb
          have q := hq []
          rw [metD, metN_first hi hb hno] at q
          rw [← eS]
          exact q
        · rw [em] at hb
          refine ⟨rfl, fun j hj => ?_⟩
          by_cases hji : j < i
          · exact hno j hji
          · have : j = i := by omega
            subst this; exact hb
    · rintro e' ⟨rfl, hno⟩
      have q := hq []
      rw [nums_len, famL, List.length_map] at hno
      rw [metD, metN_no hno] at q
      exact q

end
end PL


namespace PL
open PySem PySem.Spec PyProof.Rows L2
section
variable {P : Program} {w : World} {K : PySem.W.Frag} {mg : Str → Option Value} {base : Heap}
abbrev sd__law_closed : Stmt := topS 41
abbrev n__law_closed : List Str := ["semigroup", "table", "found", "value", "turn", "before", "k", "made", "j", "one"]
theorem sc__law_closed : FnScope n__law_closed ["semigroup"] (defScope sd__law_closed) := ⟨rfl, rfl, rfl, by decide +kernel, rfl, by decide +kernel, by decide +kernel⟩

theorem ok__law_closed {f f__law_turned f__law_product : Addr} {fd fd__law_turned fd__law_product : FuncData} (F : Fun K "_law_closed" "_law_closed" sd__law_closed f fd)
    (F__law_turned : Fun K "_law_turned" "_law_turned" sd__law_turned f__law_turned fd__law_turned) (b__law_turned : L2.Binds K fd__law_turned ["table", "one"] []) (m__law_turned : mg "_law_turned" = some (.ref f__law_turned)) (G__law_turned : FnOk P w K mg base CX0 3 f__law_turned fd__law_turned ["table", "one"] (toSp K s__law_turned))
    (F__law_product : Fun K "_law_product" "_law_product" sd__law_product f__law_product fd__law_product) (b__law_product : L2.Binds K fd__law_product ["table", "one", "two"] []) (m__law_product : mg "_law_product" = some (.ref f__law_product)) (G__law_product : FnOk P w K mg base CX0 1 f__law_product fd__law_product ["table", "one", "two"] (toSp K s__law_product)) (m_range : mg "range" = none) (m_len : mg "len" = none) : FnOk P w K mg base CX0 4 f fd ["semigroup"] (toSp K s__law_closed) := by
  refine Fn.mkB F sc__law_closed (fun ws ob X Q h => ?_) (fun ws ob X Q h => ?_) fun cdv A outer s' H E hr => ⟨_, _, (bd_cons (sd_set 1 sc__law_closed.nd (pd_ixA (K := K) (pd_var 0) pd_int))
  (bd_cons (sd_set 2 sc__law_closed.nd (pd_lstO ad_nil))
  (bd_cons (sd_for PassesOwn.never rfl (id_seq (K := K) (pd_ixA (K := K) (pd_var 0) pd_int)) (gd_name 3 sc__law_closed.nd) (bd_one (sd_if (td_cm (cm_nin (K := K) (u65 hr)) (pd_tup (ad_cons (pd_var 3) ad_nil)) (pd_var 2) rfl) (bd_one (sd_drop (pd_append (K := K) (pd_var 2) (ad_cons (pd_tup (ad_cons (pd_var 3) ad_nil)) ad_nil)))) bd_nil)))
  (bd_cons (sd_for PassesOwn.never rfl (id_rng1 (by rfl) m_range (ad_cons pd_int ad_nil)) (gd_name 4 sc__law_closed.nd) (bd_cons (sd_set 5 sc__law_closed.nd (pd_len (K := K) (by rfl) m_len (ad_cons (pd_var 2) ad_nil)))
  (bd_cons (sd_for PassesOwn.never rfl (id_rng1 (by rfl) m_range (ad_cons (pd_var 5) ad_nil)) (gd_name 6 sc__law_closed.nd) (bd_trim (bd_cons (sd_set 7 sc__law_closed.nd (pd_lstO (ad_cons (pd_call (K := K) G__law_turned (hr.mono (by decide)) (by rfl) m__law_turned F__law_turned.kp b__law_turned pass0 (ad_cons (pd_var 1) (ad_cons (pd_ixA (K := K) (pd_var 2) (pd_var 6)) ad_nil))) ad_nil)))
  (bd_cons (sd_for PassesOwn.never rfl (id_rng1 (by rfl) m_range (ad_cons (pd_var 5) ad_nil)) (gd_name 8 sc__law_closed.nd) (bd_one (sd_drop (pd_append (K := K) (pd_var 7) (ad_cons (pd_call (K := K) G__law_product (hr.mono (by decide)) (by rfl) m__law_product F__law_product.kp b__law_product pass0 (ad_cons (pd_var 1) (ad_cons (pd_ixA (K := K) (pd_var 2) (pd_var 6)) (ad_cons (pd_ixA (K := K) (pd_var 2) (pd_var 8)) ad_nil)))) ad_nil)))))
  (bd_one (sd_for PassesOwn.never rfl (id_seq (K := K) (pd_frz 7)) (gd_name 9 sc__law_closed.nd) (bd_one (sd_if (td_cm (cm_nin (K := K) (u65 hr)) (pd_var 9) (pd_var 2) rfl) (bd_one (sd_drop (pd_append (K := K) (pd_var 2) (ad_cons (pd_var 9) ad_nil)))) bd_nil))))))))
  (bd_one (sd_if (td_cm (cm_eqA (K := K) hr.units) (pd_len (K := K) (by rfl) m_len (ad_cons (pd_var 2) ad_nil)) (pd_var 5) (nomark _)) (bd_one (sd_ret (pd_frz 2))) bd_nil)))))
  (bd_one (sd_ret (pd_frz 2))))))), fun ws ob X Q h => ?_⟩
  · obtain ⟨_, _, _, rfl, _⟩ := h; rfl
  · exact h
  · obtain ⟨T, L, hs, rfl, rfl, hq⟩ := h
    generalize hF : fam T L 16 = F at hq
    have g := fam_good hs hF.symm
    have h4 := hs.n4
    have shR : ∀ S : List Nat, SeqAt.shaped (rowD S) = true := fun S => lay_shaped lay_row (by decide)
    have shC : ∀ C : List (List Nat), SeqAt.shaped (.list (C.map rowD)) = true := fun C => lay_shaped lay_rows (by decide)
    refine ⟨_, rfl, ?_⟩
    let ρ : List (List Nat) → En := fun C => ⟨[some (.dat (sgD T L)), some (.dat (tblD T)), some (.ref 0), none, none, none, none, none, none, none], [.lst (C.map rowD)]⟩
    refine ⟨_, rfl, [3], fun i e => ∃ C, e = ρ C ∧ Cl T F C ∧ (∀ v ∈ L.take i, [v] ∈ C) ∧ (0 < i → 0 < C.length), ⟨[], rfl, ⟨by simp, by simp⟩, by simp, by omega⟩, ?_, ?_⟩
    · rintro i d e' hd ⟨C, rfl, hC, hv, h0⟩
      obtain ⟨v, hvi, rfl⟩ := map_at hd
      have few := hC.few g h4
      have hvF : [v] ∈ setsF F := g.lets v (List.mem_of_getElem? hvi)
      refine ⟨shR [v], shC C, ?_⟩
      refine ⟨fun hb => ?_, fun hb => ?_⟩
      · replace hb : (!((C.map rowD).any fun z => PyData.eqv z (rowD [v]))) = true := hb
        rw [any_rows] at hb
        have hn : ¬ [v] ∈ C := by simpa using hb
        refine ⟨by rw [List.length_map]; omega, C ++ [[v]], ?_, hC.put hvF hn, fun u hu => ?_, fun _ => by simp⟩
        · show _ = (⟨_, [.lst ((C ++ [[v]]).map rowD)]⟩ : En)
          rw [List.map_append]; rfl
        · rw [take_snoc hvi] at hu
          rcases List.mem_append.mp hu with q | q
          · exact List.mem_append_left _ (hv u q)
          · simp at q; subst q; simp
      · replace hb : (!((C.map rowD).any fun z => PyData.eqv z (rowD [v]))) = false := hb
        rw [any_rows] at hb
        have hn : [v] ∈ C := by simpa using hb
        refine ⟨C, rfl, hC, fun u hu => ?_, fun _ => List.length_pos_of_mem hn⟩
        rw [take_snoc hvi] at hu
        rcases List.mem_append.mp hu with q | q
        · exact hv u q
        · simp at q; subst q; exact hn
    rintro e' ⟨C, rfl, hC, hv, h0⟩
    rw [List.length_map, List.take_length] at hv
    have hC0 : 0 < C.length := h0 (by rw [List.length_map]; have := hs.l1; omega)
    refine ⟨by decide, [3, 4, 5, 6, 7, 8, 9], fun i e => ∃ C, e = ρ C ∧ Cl T F C ∧ (∀ v ∈ L, [v] ∈ C) ∧ i + 1 ≤ C.length, ⟨C, rfl, hC, hv, hC0⟩, ?_, ?_⟩
    rotate_left
    · rintro e' ⟨C, rfl, hC, hv, hl⟩
      have := hC.few g h4
      rw [ints_len] at hl
      have hl : 17 ≤ C.length := hl
      omega
    clear hC0 hv h0 hC C
    rintro i d e' hd ⟨C0, rfl, hC0, hv0, hl0⟩
    obtain ⟨hi, rfl⟩ := ints_at.mp hd
    have few0 := hC0.few g h4
    have bl : -(2 ^ 62) ≤ ((C0.map rowD).length : Int) ∧ ((C0.map rowD).length : Int) < 2 ^ 62 := by rw [List.length_map]; omega
    have nl : ((C0.map rowD).length : Int).toNat = C0.length := by rw [List.length_map]; omega
    let τ : List (List Nat) → En := fun C => ⟨[some (.dat (sgD T L)), some (.dat (tblD T)), some (.ref 0), none, some (.dat (.int (0 + (i : Int)))), some (.dat (.int ((C0.map rowD).length : Int))), none, none, none, none], [.lst (C.map rowD)]⟩
    refine ⟨bl, [6, 7, 8, 9], fun k e => ∃ C, e = τ C ∧ Cl T F C ∧ C0 <+: C ∧ DoneC T C0 C k, ⟨C0, rfl, hC0, List.prefix_refl _, fun k hk => absurd hk (by omega)⟩, ?_, ?_⟩
    · rintro k d e' hd ⟨C, rfl, hC, hp, hD⟩
      obtain ⟨hk, rfl⟩ := ints_at.mp hd
      rw [nl] at hk
      rw [show (0 : Int) + (k : Int) = (k : Int) by omega]
      have lp := hp.length_le
      have hkC : k < C.length := by omega
      have eS := pre_getS hp hk
      have mS := hC.sub _ (getS_mem hkC)
      have vS := hC.vs g (getS_mem hkC)
      rw [eS] at mS vS
      have atk := at_rows hkC
      rw [eS] at atk
      refine ⟨_, atk, T, getS C0 k, ⟨hs.sg.tb, hs.as, h4, vS⟩, rfl, rfl, fun more => ?_⟩
      let σ : List (List Nat) → En := fun M => ⟨[some (.dat (sgD T L)), some (.dat (tblD T)), some (.ref 0), none, some (.dat (.int (0 + (i : Int)))), some (.dat (.int ((C0.map rowD).length : Int))), some (.dat (nD k)), some (.ref 1), none, none], [.lst (C.map rowD), .lst (M.map rowD)]⟩
      refine ⟨bl, [8, 9], fun j e => e = σ (turnS T (getS C0 k) :: (C0.take j).map (prodS T (getS C0 k))), rfl, ?_, ?_⟩
      · rintro j d e' hd rfl
        obtain ⟨hj, rfl⟩ := ints_at.mp hd
        rw [nl] at hj
        rw [show (0 : Int) + (j : Int) = (j : Int) by omega]
        have hjC : j < C.length := by omega
        have eR := pre_getS hp hj
        have vR := hC.vs g (getS_mem hjC)
        rw [eR] at vR
        have atj := at_rows hjC
        rw [eR] at atj
        refine ⟨_, atk, _, atj, T, getS C0 k, getS C0 j, hs.sg.tb, h4, vS, vR, rfl, rfl, fun more => ?_⟩
        refine ⟨by simp; omega, ?_⟩
        have e1 : C0[j]? = some (getS C0 j) := by rw [getS, List.getD_eq_getElem?_getD, List.getElem?_eq_getElem hj]; rfl
        have e2 : (turnS T (getS C0 k) :: (C0.take j).map (prodS T (getS C0 k))).map rowD ++ [rowD (prodS T (getS C0 k) (getS C0 j))] = (turnS T (getS C0 k) :: (C0.take (j + 1)).map (prodS T (getS C0 k))).map rowD := by
          rw [take_snoc e1, List.map_append, List.map_cons, List.map_cons, List.map_append]; rfl
        exact congrArg (fun z => (⟨[some (.dat (sgD T L)), some (.dat (tblD T)), some (.ref 0), none, some (.dat (.int (0 + (i : Int)))), some (.dat (.int ((C0.map rowD).length : Int))), some (.dat (nD k)), some (.ref 1), none, none], [.lst (C.map rowD), .lst z]⟩ : En)) e2
      rintro e' rfl
      rw [ints_len, nl, List.take_length]
      have hM : ∀ S ∈ turnS T (getS C0 k) :: C0.map (prodS T (getS C0 k)), S ∈ setsF F := fun S hS => by
        rcases List.mem_cons.mp hS with q | q
        · rw [q]; exact g.turnS' mS
        · obtain ⟨R, hR, rfl⟩ := List.mem_map.mp q
          exact g.prodS' mS (hC0.sub R hR)
      generalize hMe : turnS T (getS C0 k) :: C0.map (prodS T (getS C0 k)) = M at hM
      let θ : List (List Nat) → En := fun C => ⟨[some (.dat (sgD T L)), some (.dat (tblD T)), some (.ref 0), none, some (.dat (.int (0 + (i : Int)))), some (.dat (.int ((C0.map rowD).length : Int))), some (.dat (nD k)), some (.ref 1), none, none], [.lst (C.map rowD), .frz (.list (M.map rowD))]⟩
      refine ⟨[8, 9], fun j e => ∃ C2, e = θ C2 ∧ Cl T F C2 ∧ C <+: C2 ∧ ∀ S ∈ M.take j, S ∈ C2, ⟨C, rfl, hC, List.prefix_refl _, by simp⟩, ?_, ?_⟩
      · rintro j d e' hd ⟨C2, rfl, hC2, hp2, hm2⟩
        obtain ⟨S, hS, rfl⟩ := map_at hd
        have few := hC2.few g h4
        refine ⟨shR S, shC C2, ?_⟩
        refine ⟨fun hb => ?_, fun hb => ?_⟩
        · replace hb : (!((C2.map rowD).any fun z => PyData.eqv z (rowD S))) = true := hb
          rw [any_rows] at hb
          have hn : ¬ S ∈ C2 := by simpa using hb
          refine ⟨by rw [List.length_map]; omega, C2 ++ [S], ?_, hC2.put (hM S (List.mem_of_getElem? hS)) hn, hp2.trans (List.prefix_append _ _), fun u hu => ?_⟩
          · show _ = (⟨_, [.lst ((C2 ++ [S]).map rowD), _]⟩ : En)
            rw [List.map_append]; rfl
          · rw [take_snoc hS] at hu
            rcases List.mem_append.mp hu with q | q
            · exact List.mem_append_left _ (hm2 u q)
            · simp at q; subst q; simp
        · replace hb : (!((C2.map rowD).any fun z => PyData.eqv z (rowD S))) = false := hb
          rw [any_rows] at hb
          have hn : S ∈ C2 := by simpa using hb
          refine ⟨C2, rfl, hC2, hp2, fun u hu => ?_⟩
          rw [take_snoc hS] at hu
          rcases List.mem_append.mp hu with q | q
          · exact hm2 u q
          · simp at q; subst q; exact hn
      · rintro e' ⟨C2, rfl, hC2, hp2, hm2⟩
        rw [List.length_map, List.take_length] at hm2
        refine ⟨[6, 7, 8, 9], 1, Nat.le_refl _, rfl, C2, rfl, hC2, hp.trans hp2, fun k' hk' => ?_⟩
        by_cases hkk : k' < k
        · exact hD.pre hp2 k' hkk
        · have : k' = k := by omega
          subst this
          subst hMe
          refine ⟨hm2 _ (by simp), fun j hj => hm2 _ (List.mem_cons_of_mem _ (List.mem_map.mpr ⟨_, getS_mem hj, rfl⟩))⟩
    · rintro e' ⟨C, rfl, hC, hp, hD⟩
      rw [ints_len, nl] at hD
      have lp := hp.length_le
      refine ⟨fun hb => ?_, fun hb => ?_⟩
      · replace hb : decide (((C.map rowD).length : Int) = ((C0.map rowD).length : Int)) = true := hb
        rw [List.length_map, List.length_map] at hb
        have el : C.length = C0.length := by have := dT hb; omega
        have eC : C0 = C := hp.eq_of_length el.symm
        subst eC
        refine hq C0 _ hC0 (all_in g hv0 (fun S hS => ?_) fun S hS R hR => ?_)
        · obtain ⟨k, hk, rfl⟩ := List.getElem_of_mem hS
          have q := (hD k hk).1
          rw [getS, List.getD_eq_getElem?_getD, List.getElem?_eq_getElem hk] at q
          exact q
        · obtain ⟨k, hk, rfl⟩ := List.getElem_of_mem hS
          obtain ⟨j, hj, rfl⟩ := List.getElem_of_mem hR
          have q := (hD k hk).2 j hj
          rw [getS, getS, List.getD_eq_getElem?_getD, List.getElem?_eq_getElem hk, List.getD_eq_getElem?_getD, List.getElem?_eq_getElem hj] at q
          exact q
      · replace hb : decide (((C.map rowD).length : Int) = ((C0.map rowD).length : Int)) = false := hb
        rw [List.length_map, List.length_map] at hb
        refine ⟨C, rfl, hC, fun v hvL => hp.subset (hv0 v hvL), ?_⟩
        have : C.length ≠ C0.length := fun z => by rw [z] at hb; simp at hb
        omega
abbrev sd__law_meets : Stmt := topS 42
abbrev n__law_meets : List Str := ["values", "sets", "one", "value"]
theorem sc__law_meets : FnScope n__law_meets ["values", "sets"] (defScope sd__law_meets) := ⟨rfl, rfl, rfl, by decide +kernel, rfl, by decide +kernel, by decide +kernel⟩

theorem ok__law_meets {f : Addr} {fd : FuncData} (F : Fun K "_law_meets" "_law_meets" sd__law_meets f fd) (m_len : mg "len" = none) : FnOk P w K mg base CX0 1 f fd ["values", "sets"] (toSp K s__law_meets) := by
  refine Fn.mkB F sc__law_meets (fun ws ob X Q h => ?_) (fun ws ob X Q h => ?_) fun cdv A outer s' H E hr => ⟨_, _, (bd_cons (sd_for PassesOwn.never rfl (id_seq (K := K) (pd_var 1)) (gd_name 2 sc__law_meets.nd) (bd_one (sd_if (td_cm (cm_eqA (K := K) hr.units) (pd_len (K := K) (by rfl) m_len (ad_cons (pd_lc (own := [("value", 3)]) rfl sc__law_meets.nd  (id_seq (K := K) (pd_var 0)) (blkOk_by (N := n__law_meets) (sc := defScope sd__law_meets) (by decide +kernel)) (fun _ _ _ _ _ => (gd_name 3 sc__law_meets.nd)) (fun _ _ _ _ _ => (qd_one (td_cm (cm_in (K := K) (u65 hr)) (pd_var 3) (pd_var 2) rfl))) (fun _ _ _ _ _ => (pd_var 3))) ad_nil)) pd_int (nomark _)) (bd_one (sd_ret pd_bl)) bd_nil)))
  (bd_one (sd_ret pd_bl))), fun ws ob X Q h => ?_⟩
  · obtain ⟨_, _, _, rfl, _⟩ := h; rfl
  · exact h
  · obtain ⟨S, Ss, hl, rfl, rfl, hq⟩ := h
    let ρ : En := ⟨[some (.dat (rowD S)), some (.dat (.list (Ss.map rowD))), none, none], []⟩
    refine ⟨[2, 3], fun i e => e = ρ ∧ ∀ B ∈ Ss.take i, meetB S B = true, ⟨rfl, by simp⟩, ?_, ?_⟩
    · rintro i d e' hd ⟨rfl, ha⟩
      obtain ⟨B, hB, rfl⟩ := map_at hd
      let f : Nat → Bool := fun a => B.contains a
      refine ⟨by rw [List.length_map]; omega, fun j acc => acc = ((S.take j).filter f).map nD, rfl, ?_, ?_⟩
      · rintro j d acc hd rfl
        obtain ⟨a, haj, rfl⟩ := map_at hd
        have step : ∀ b : Bool, f a = b → ((S.take (j + 1)).filter f).map nD = ((S.take j).filter f).map nD ++ (if b = true then [nD a] else []) := fun b hb => by
          rw [take_snoc haj, List.filter_append, List.map_append]
          cases b <;> simp [List.filter_cons, hb]
        refine ⟨rfl, flat_row, fun hb => ?_, fun hb => ?_⟩
        · replace hb : ((B.map nD).any fun z => PyData.eqv z (nD a)) = true := hb
          rw [any_row] at hb
          exact ⟨rfl, show ((S.take j).filter f).map nD ++ [nD a] = ((S.take (j + 1)).filter f).map nD by rw [step true hb]; rfl⟩
        · replace hb : ((B.map nD).any fun z => PyData.eqv z (nD a)) = false := hb
          rw [any_row] at hb
          exact ⟨rfl, show ((S.take j).filter f).map nD = ((S.take (j + 1)).filter f).map nD by rw [step false hb]; simp⟩
      · rintro acc rfl
        rw [List.length_map, List.take_length]
        have em : (((S.filter f).map nD).length = 0) ↔ meetB S B = false := by
          rw [List.length_map, List.length_eq_zero_iff, List.filter_eq_nil_iff, meetB, List.any_eq_false]
        refine ⟨fun hb => ?_, fun hb => ?_⟩
        · replace hb : decide ((((S.filter f).map nD).length : Int) = 0) = true := hb
          have e0 : meetB S B = false := em.mp (by have := dT hb; omega)
          have q := hq []
          have : metB Ss S = false := by
            unfold metB
            rw [← Bool.not_eq_true, List.all_eq_true]
            intro hc
            have := hc B (List.mem_of_getElem? hB)
            rw [e0] at this; cases this
          rw [this] at q
          exact q
        · replace hb : decide ((((S.filter f).map nD).length : Int) = 0) = false := hb
          have e1 : meetB S B = true := by
            cases hc : meetB S B with
            | true => rfl
            | false =>
              have := em.mpr hc
              rw [this] at hb; simp at hb
          refine ⟨rfl, fun R hR => ?_⟩
          rw [take_snoc hB] at hR
          rcases List.mem_append.mp hR with q | q
          · exact ha R q
          · simp at q; subst q; exact e1
    · rintro e' ⟨rfl, ha⟩
      rw [List.length_map, List.take_length] at ha
      have q := hq []
      have : metB Ss S = true := by unfold metB; rw [List.all_eq_true]; exact ha
      rw [this] at q
      exact q

end
end PL


namespace PL
open PySem PySem.Spec PyProof.Rows L2
section
variable {P : Program} {w : World} {K : PySem.W.Frag} {mg : Str → Option Value} {base : Heap}
abbrev sd_law : Stmt := topS 43
abbrev n_law : List Str := ["script", "box", "semigroup", "sets", "passed", "told", "closed", "family", "number", "k", "values", "pair"]
theorem sc_law : FnScope n_law ["script"] (defScope sd_law) := ⟨rfl, rfl, rfl, by decide +kernel, rfl, by decide +kernel, by decide +kernel⟩

theorem ok_law {f f__law_box f__law_semigroup f_meeting f__law_subset f__law_meets f__law_closed f_family_of f__law_next : Addr} {fd fd__law_box fd__law_semigroup fd_meeting fd__law_subset fd__law_meets fd__law_closed fd_family_of fd__law_next : FuncData} (F : Fun K "law" "law" sd_law f fd)
    (F__law_box : Fun K "_law_box" "_law_box" sd__law_box f__law_box fd__law_box) (b__law_box : L2.Binds K fd__law_box ["script"] []) (m__law_box : mg "_law_box" = some (.ref f__law_box)) (G__law_box : FnOk P w K mg base CX0 2 f__law_box fd__law_box ["script"] (spBox K))
    (F__law_semigroup : Fun K "_law_semigroup" "_law_semigroup" sd__law_semigroup f__law_semigroup fd__law_semigroup) (b__law_semigroup : L2.Binds K fd__law_semigroup ["box", "most"] []) (m__law_semigroup : mg "_law_semigroup" = some (.ref f__law_semigroup)) (G__law_semigroup : FnOk P w K mg base CX0 3 f__law_semigroup fd__law_semigroup ["box", "most"] (toSp K s__law_semigroup))
    (F_meeting : Fun K "meeting" "meeting" sd_meeting f_meeting fd_meeting) (b_meeting : L2.Binds K fd_meeting ["semigroup", "sets"] []) (m_meeting : mg "meeting" = some (.ref f_meeting)) (G_meeting : FnOk P w K mg base CX0 7 f_meeting fd_meeting ["semigroup", "sets"] (toSp K s_meeting))
    (F__law_subset : Fun K "_law_subset" "_law_subset" sd__law_subset f__law_subset fd__law_subset) (b__law_subset : L2.Binds K fd__law_subset ["box", "size"] []) (m__law_subset : mg "_law_subset" = some (.ref f__law_subset)) (G__law_subset : FnOk P w K mg base CX0 2 f__law_subset fd__law_subset ["box", "size"] (toSp K s__law_subset))
    (F__law_meets : Fun K "_law_meets" "_law_meets" sd__law_meets f__law_meets fd__law_meets) (b__law_meets : L2.Binds K fd__law_meets ["values", "sets"] []) (m__law_meets : mg "_law_meets" = some (.ref f__law_meets)) (G__law_meets : FnOk P w K mg base CX0 1 f__law_meets fd__law_meets ["values", "sets"] (toSp K s__law_meets))
    (F__law_closed : Fun K "_law_closed" "_law_closed" sd__law_closed f__law_closed fd__law_closed) (b__law_closed : L2.Binds K fd__law_closed ["semigroup"] []) (m__law_closed : mg "_law_closed" = some (.ref f__law_closed)) (G__law_closed : FnOk P w K mg base CX0 4 f__law_closed fd__law_closed ["semigroup"] (toSp K s__law_closed))
    (F_family_of : Fun K "family_of" "family_of" sd_family_of f_family_of fd_family_of) (b_family_of : L2.Binds K fd_family_of ["semigroup"] []) (m_family_of : mg "family_of" = some (.ref f_family_of)) (G_family_of : FnOk P w K mg base CX0 6 f_family_of fd_family_of ["semigroup"] (toSp K s_family_of))
    (F__law_next : Fun K "_law_next" "_law_next" sd__law_next f__law_next fd__law_next) (b__law_next : L2.Binds K fd__law_next ["box", "modulus"] []) (m__law_next : mg "_law_next" = some (.ref f__law_next)) (G__law_next : FnOk P w K mg base CX0 1 f__law_next fd__law_next ["box", "modulus"] (toSp K s__law_next)) (m_list : mg "list" = none) (m_range : mg "range" = none) (m_isinstance : mg "isinstance" = none) (m_bool : mg "bool" = none) (m_len : mg "len" = none) (m_tuple : mg "tuple" = none) : FnOk P w K mg base CX0 8 f fd ["script"] (toSp K s_law) := by
  refine Fn.mkB F sc_law (fun ws ob X Q h => ?_) (fun ws ob X Q h => ?_) fun cdv A outer s' H E hr => ⟨_, _, (bd_cons (sd_set 1 sc_law.nd (pd_mkBox (K := K) G__law_box (hr.mono (by decide)) (by rfl) m__law_box F__law_box.kp b__law_box pass0 (ad_cons (pd_var 0) ad_nil)))
  (bd_cons (sd_set 2 sc_law.nd (pd_call (K := K) G__law_semigroup (hr.mono (by decide)) (by rfl) m__law_semigroup F__law_semigroup.kp b__law_semigroup pass0 (ad_cons (pd_var 1) (ad_cons pd_int ad_nil))))
  (bd_cons (sd_set 3 sc_law.nd (pd_lc (own := [("k", 9)]) rfl sc_law.nd  (id_rng1 (by rfl) m_range (ad_cons (pd_addA (K := K) pd_int (pd_ixA (K := K) (pd_lst (ad_cons (pd_call (K := K) G__law_next (hr.mono (by decide)) (by rfl) m__law_next F__law_next.kp b__law_next pass0 (ad_cons (pd_var 1) (ad_cons pd_int ad_nil))) (ad_cons (pd_call (K := K) G__law_next (hr.mono (by decide)) (by rfl) m__law_next F__law_next.kp b__law_next pass0 (ad_cons (pd_var 1) (ad_cons pd_int ad_nil))) ad_nil))) (pd_call (K := K) G__law_next (hr.mono (by decide)) (by rfl) m__law_next F__law_next.kp b__law_next pass0 (ad_cons (pd_var 1) (ad_cons pd_int ad_nil))))) ad_nil)) (blkOk_by (N := n_law) (sc := defScope sd_law) (by decide +kernel)) (fun _ _ _ _ _ => (gd_name 9 sc_law.nd)) (fun _ _ _ _ _ => qd_nil) (fun _ _ _ _ _ => (pd_call (K := K) G__law_subset (hr.mono (by decide)) (by rfl) m__law_subset F__law_subset.kp b__law_subset pass0 (ad_cons (pd_var 1) (ad_cons (pd_len (K := K) (by rfl) m_len (ad_cons (pd_ixA (K := K) (pd_var 2) pd_int) ad_nil)) ad_nil))))))
  (bd_cons (sd_set 4 sc_law.nd (pd_list (K := K) (by rfl) m_list (ad_cons (pd_var 3) ad_nil)))
  (bd_cons (sd_set 5 sc_law.nd (pd_call (K := K) G_meeting (hr.mono (by decide)) (by rfl) m_meeting F_meeting.kp b_meeting pass0 (ad_cons (pd_var 2) (ad_cons (pd_var 4) ad_nil))))
  (bd_cons (sd_if (td_cm (cm_neA (K := K) hr.units) (pd_var 4) (pd_var 3) (nomark _)) (bd_one (sd_ret pd_bl)) bd_nil)
  (bd_cons (sd_lc (i := 6) (own := [("values", 10)]) rfl sc_law.nd rfl rfl (sw_true rfl rfl rfl (by decide +kernel)) (id_seq (K := K) (pd_call (K := K) G__law_closed (hr.mono (by decide)) (by rfl) m__law_closed F__law_closed.kp b__law_closed pass0 (ad_cons (pd_var 2) ad_nil))) (blkOk_by (N := n_law) (sc := defScope sd_law) (by decide +kernel)) (fun _ _ _ _ _ => (gd_name 10 sc_law.nd)) (fun _ _ _ _ _ => (qd_one (td_val (pd_call (K := K) G__law_meets (hr.mono (by decide)) (by rfl) m__law_meets F__law_meets.kp b__law_meets pass0 (ad_cons (pd_var 10) (ad_cons (pd_var 3) ad_nil)))))) (fun _ _ _ _ _ => (pd_var 10)))
  (bd_cons (sd_if (td_cm cm_isN (pd_var 5) pd_non (nomark _)) (bd_one (sd_ret (pd_cm (cm_eqA (K := K) hr.units) (pd_len (K := K) (by rfl) m_len (ad_cons (pd_var 6) ad_nil)) pd_int (nomark _)))) bd_nil)
  (bd_cons (sd_lc (i := 7) (own := [("pair", 11)]) rfl sc_law.nd rfl rfl (sw_true rfl rfl rfl (by decide +kernel)) (id_seq (K := K) (pd_call (K := K) G_family_of (hr.mono (by decide)) (by rfl) m_family_of F_family_of.kp b_family_of pass0 (ad_cons (pd_var 2) ad_nil))) (blkOk_by (N := n_law) (sc := defScope sd_law) (by decide +kernel)) (fun _ _ _ _ _ => (gd_name 11 sc_law.nd)) (fun _ _ _ _ _ => qd_nil) (fun _ _ _ _ _ => (pd_ixA (K := K) (pd_var 11) pd_int)))
  (bd_cons (sd_if (td_wd (wd_or (td_not (td_val (pd_isi (K := K) (n := "tuple") (by rfl) m_isinstance (by rfl) m_tuple (by decide +kernel) (pd_var 5)))) (wd_or (td_cm (cm_neA (K := K) hr.units) (pd_len (K := K) (by rfl) m_len (ad_cons (pd_var 5) ad_nil)) pd_int (nomark _)) (wd_or (td_val (pd_isi (K := K) (n := "bool") (by rfl) m_isinstance (by rfl) m_bool (by decide +kernel) (pd_ixA (K := K) (pd_var 5) pd_int))) (wd_or1 (td_cm (cm_eqA (K := K) hr.units) (pd_len (K := K) (by rfl) m_len (ad_cons (pd_var 6) ad_nil)) pd_int (nomark _))))))) (bd_one (sd_ret pd_bl)) bd_nil)
  (bd_cons (sd_for PassesOwn.never rfl (id_rng1 (by rfl) m_range (ad_cons (pd_len (K := K) (by rfl) m_len (ad_cons (pd_var 7) ad_nil)) ad_nil)) (gd_name 8 sc_law.nd) (bd_one (sd_if (td_val (pd_call (K := K) G__law_meets (hr.mono (by decide)) (by rfl) m__law_meets F__law_meets.kp b__law_meets pass0 (ad_cons (pd_ixA (K := K) (pd_var 7) (pd_var 8)) (ad_cons (pd_var 3) ad_nil)))) (bd_one (sd_ret (pd_cm (cm_eqA (K := K) hr.units) (pd_var 5) (pd_tup (ad_cons (pd_var 8) (ad_cons (pd_ixA (K := K) (pd_var 7) (pd_var 8)) ad_nil))) (nomark _)))) bd_nil)))
  (bd_one (sd_ret pd_bl))))))))))))), fun ws ob X Q h => ?_⟩
  · obtain ⟨_, _, rfl, _⟩ := h; rfl
  · exact h
  · obtain ⟨ns, hns, rfl, rfl, hq⟩ := h
    refine ⟨⟨ns, rfl, hns⟩, ?_⟩
    refine ⟨4, by decide, by decide, rfl, rfl, fun T L more hs hA h1 h4 hL1 hL3 => ?_⟩
    have sa : SgA T L := ⟨hs, hA, h1, h4, hL1, hL3⟩
    have eT : ((T.map rowD).length : Int) = (T.length : Int) := by simp
    refine ⟨4, by decide, rfl, rfl, fun a ha more => ?_⟩
    refine ⟨20, by decide, rfl, rfl, fun b hb more => ?_⟩
    refine ⟨2, by decide, rfl, rfl, fun c hc more => ?_⟩
    obtain ⟨r, hr, hr20⟩ : ∃ r : Nat, atI [nD a, nD b] (c : Int) = some (nD r) ∧ r < 20 := by
      have : c = 0 ∨ c = 1 := by omega
      rcases this with rfl | rfl
      · exact ⟨a, rfl, by omega⟩
      · exact ⟨b, rfl, by omega⟩
    refine ⟨_, hr, ?_⟩
    refine ⟨rbI (by omega) (by omega), by rw [ints_len]; omega, fun i acc => ∃ Ss : List (List Nat), acc = Ss.map rowD ∧ (∀ S ∈ Ss, VS T.length S) ∧ Ss.length = i, ⟨[], rfl, by simp, rfl⟩, ?_, ?_⟩
    · rintro i d acc hd ⟨Ss, rfl, hv, hl⟩
      refine ⟨fun _ => ?_, tf⟩
      refine ⟨_, rfl, ?_⟩
      refine ⟨T.length, by omega, congrArg (fun x : Int => ([.ref 0, .dat (.int x)] : List Wv)) eT, rfl, fun S more hS => ?_⟩
      refine ⟨rfl, Ss ++ [S], by rw [List.map_append]; rfl, fun B hB => ?_, by simp [hl]⟩
      rcases List.mem_append.mp hB with q | q
      · exact hv B q
      · simp at q; subst q; exact hS
    rintro acc ⟨Ss, rfl, hv, hl⟩
    rw [ints_len] at hl
    have hl20 : Ss.length ≤ 21 := by omega
    refine ⟨T, L, Ss, sa, hv, by omega, rfl, rfl, fun more => ?_⟩
    have shS : ∀ X : List (List Nat), SeqAt.shaped (.list (X.map rowD)) = true := fun X => lay_shaped lay_rows (by decide)
    refine ⟨shS Ss, shS Ss, ?_⟩
    refine ⟨fun hb => same_ne (tell_list tell_row) hb, fun _ => ?_⟩
    generalize hF : fam T L 16 = F
    have g := fam_good sa hF.symm
    refine ⟨T, L, sa, rfl, rfl, fun C more hC hall => ?_⟩
    rw [hF] at hC hall
    have few := hC.few g h4
    refine ⟨by rw [List.length_map]; omega, fun i acc => acc = ((C.take i).filter (metB Ss)).map rowD, rfl, ?_, ?_⟩
    · rintro i d acc hd rfl
      obtain ⟨S, hS, rfl⟩ := map_at hd
      have vS := (hC.vs g (List.mem_of_getElem? hS)).len
      have step : ∀ b : Bool, metB Ss S = b → ((C.take (i + 1)).filter (metB Ss)).map rowD = ((C.take i).filter (metB Ss)).map rowD ++ (if b = true then [rowD S] else []) := fun b hb => by
        rw [take_snoc hS, List.filter_append, List.map_append]
        cases b <;> simp [List.filter_cons, hb]
      refine ⟨S, Ss, by omega, rfl, rfl, fun more => ?_⟩
      refine ⟨fun hb => ⟨rfl, ?_⟩, fun hb => ⟨rfl, ?_⟩⟩
      · exact (show ((C.take i).filter (metB Ss)).map rowD ++ [rowD S] = ((C.take (i + 1)).filter (metB Ss)).map rowD by rw [step true hb]; rfl)
      · exact (show ((C.take i).filter (metB Ss)).map rowD = ((C.take (i + 1)).filter (metB Ss)).map rowD by rw [step false hb]; simp)
    rintro acc rfl
    rw [List.length_map, List.take_length]
    have clen : (((C.filter (metB Ss)).map rowD).length = 0) ↔ ∀ S ∈ setsF F, metB Ss S = false := by
      rw [List.length_map, List.length_eq_zero_iff, List.filter_eq_nil_iff]
      constructor
      · intro h S hS
        have := h S (hall S hS)
        simpa using this
      · intro h S hS
        rw [h S (hC.sub S hS)]; simp
    cases hm : metN F Ss with
    | none =>
      have e : metD F Ss = .none := by unfold metD; rw [hm]
      rw [e]
      have z := clen.mpr (metN_none_iff.mp hm)
      refine ⟨fun _ => ?_, tf⟩
      have q := hq [Ob.box]
      rw [show (true : Bool) = decide ((((C.filter (metB Ss)).map rowD).length : Int) = 0) by rw [z]; rfl] at q
      exact q
    | some k =>
      obtain ⟨hk, hk1, hk2⟩ := metN_some hm
      have e : metD F Ss = .tuple [nD k, rowD (atF F k)] := by unfold metD; rw [hm]
      rw [e]
      have z : ¬ ((C.filter (metB Ss)).map rowD).length = 0 := fun z => by
        have := clen.mp z _ (atF_mem hk)
        rw [hk1] at this; cases this
      refine ⟨ff, fun _ => ?_⟩
      refine ⟨T, L, sa, rfl, rfl, fun F2 more hF2 => ?_⟩
      obtain rfl : F2 = F := hF2.trans hF
      have ff16 := g.few
      refine ⟨by simp [famL]; omega, fun i acc => acc = (F2.take i).map fun p => rowD p.2, rfl, ?_, ?_⟩
      · rintro i d acc hd rfl
        obtain ⟨p, hp, rfl⟩ := map_at hd
        exact ⟨fun _ => ⟨_, rfl, rfl, map_snoc (f := fun p : Mk × List Nat => rowD p.2) hp⟩, tf⟩
      rintro acc rfl
      have lf : (famL F2).length = F2.length := by simp [famL]
      rw [lf, List.take_length]
      refine ⟨true, rfl, ?_⟩
      refine ⟨ff, fun _ => ?_⟩
      refine ⟨fun hb => ?_, fun _ => ?_⟩
      · simp at hb
      refine ⟨nD k, rfl, false, rfl, ff, fun _ => ?_⟩
      refine ⟨fun hb => absurd (dT hb) (by omega), fun _ => ?_⟩
      have ls : (F2.map fun p : Mk × List Nat => rowD p.2).length = F2.length := by simp
      let ρ : En := ⟨[some (.dat (lstI ns)), some (.ref 0), some (.dat (sgD T L)), some (.dat (.list (Ss.map rowD))), some (.dat (.list (Ss.map rowD))), some (.dat (.tuple [nD k, rowD (atF F2 k)])), some (.dat (.list ((C.filter (metB Ss)).map rowD))), some (.dat (setsD F2)), none, none, none, none], [.box]⟩
      refine ⟨rbN (by rw [ls]; omega), [8], fun i e => e = ρ ∧ i ≤ k, ⟨rfl, Nat.zero_le _⟩, ?_, ?_⟩
      · rintro i d e' hd ⟨rfl, hik⟩
        obtain ⟨hi, rfl⟩ := ints_at.mp hd
        rw [show (0 : Int) + (i : Int) = (i : Int) by omega]
        have hi : i < F2.length := by rw [ls] at hi; omega
        have vi := (atF_vs g.fm (k := i)).len
        refine ⟨_, at_sets hi, ?_⟩
        refine ⟨atF F2 i, Ss, by omega, rfl, rfl, fun more => ?_⟩
        refine ⟨fun hb => ?_, fun hb => ?_⟩
        · have eik : i = k := by
            rcases Nat.lt_or_ge i k with q | q
            · rw [hk2 i q] at hb; cases hb
            · omega
          subst eik
          refine ⟨_, at_sets hi, ?_⟩
          have lp : Lay 2 (.tuple [nD i, rowD (atF F2 i)]) := lay_tuple fun d hd => by
            simp only [List.mem_cons, List.not_mem_nil, or_false] at hd
            rcases hd with rfl | rfl
            · exact ⟨lay_nD.1, Nat.le_trans lay_nD.2 (by decide)⟩
            · exact lay_row
          refine ⟨lay_shaped lp (by decide), lay_shaped lp (by decide), ?_⟩
          have q := hq [Ob.box]
          rw [show (true : Bool) = PyData.eqv (.tuple [nD i, rowD (atF F2 i)]) (.tuple [nD i, rowD (atF F2 i)]) from (SeqAt.eqv_refl _ lp.1).symm] at q
          exact q
        · refine ⟨rfl, ?_⟩
          rcases Nat.lt_or_ge i k with q | q
          · exact q
          · have : i = k := by omega
            subst this
            rw [hk1] at hb; cases hb
      · rintro e' ⟨rfl, hik⟩
        rw [ints_len, ls] at hik
        omega
end
theorem all_mk {l : PySem.W.OpenLaw} {w : World} {K : PySem.W.Frag} {h : Heap} {mg : Str → Option Value} {fa f__law_draws f__law_box f__law_next f__law_associative f__law_simple f__law_table f__law_semigroup f_is_associative f_are_below f_are_rows f_fault_of f_check_semigroup f_is_rising_set f_check_sets f_add_set f_product_of f_repeated_until_settled f_settled f_turned f_add_made_of f_family_of f_have_common f_meeting f__law_subset f__law_meets f__law_product f__law_power f__law_settling f__law_turned f__law_closed f_law : Addr} (X : K.In h) (G : h.Ns mainGlobals mg) (hfa : mg "law" = some (.ref fa))
    {od__law_draws an__law_draws od__law_box an__law_box od__law_next an__law_next od__law_associative an__law_associative od__law_simple an__law_simple od__law_table an__law_table od__law_semigroup an__law_semigroup od_is_associative an_is_associative od_are_below an_are_below od_are_rows an_are_rows od_fault_of an_fault_of od_check_semigroup an_check_semigroup od_is_rising_set an_is_rising_set od_check_sets an_check_sets od_add_set an_add_set od_product_of an_product_of od_repeated_until_settled an_repeated_until_settled od_settled an_settled od_turned an_turned od_add_made_of an_add_made_of od_family_of an_family_of od_have_common an_have_common od_meeting an_meeting od__law_subset an__law_subset od__law_meets an__law_meets od__law_product an__law_product od__law_power an__law_power od__law_settling an__law_settling od__law_turned an__law_turned od__law_closed an__law_closed od_law an_law : Option Addr} {sl__law_draws sl__law_box sl__law_next sl__law_associative sl__law_simple sl__law_table sl__law_semigroup sl_is_associative sl_are_below sl_are_rows sl_fault_of sl_check_semigroup sl_is_rising_set sl_check_sets sl_add_set sl_product_of sl_repeated_until_settled sl_settled sl_turned sl_add_made_of sl_family_of sl_have_common sl_meeting sl__law_subset sl__law_meets sl__law_product sl__law_power sl__law_settling sl__law_turned sl__law_closed sl_law : Array (Option Value)} {oc__law_draws kV__law_draws dc__law_draws pm__law_draws cd__law_draws ct__law_draws oc__law_box kV__law_box dc__law_box pm__law_box cd__law_box ct__law_box oc__law_next kV__law_next dc__law_next pm__law_next cd__law_next ct__law_next oc__law_associative kV__law_associative dc__law_associative pm__law_associative cd__law_associative ct__law_associative oc__law_simple kV__law_simple dc__law_simple pm__law_simple cd__law_simple ct__law_simple oc__law_table kV__law_table dc__law_table pm__law_table cd__law_table ct__law_table oc__law_semigroup kV__law_semigroup dc__law_semigroup pm__law_semigroup cd__law_semigroup ct__law_semigroup oc_is_associative kV_is_associative dc_is_associative pm_is_associative cd_is_associative ct_is_associative oc_are_below kV_are_below dc_are_below pm_are_below cd_are_below ct_are_below oc_are_rows kV_are_rows dc_are_rows pm_are_rows cd_are_rows ct_are_rows oc_fault_of kV_fault_of dc_fault_of pm_fault_of cd_fault_of ct_fault_of oc_check_semigroup kV_check_semigroup dc_check_semigroup pm_check_semigroup cd_check_semigroup ct_check_semigroup oc_is_rising_set kV_is_rising_set dc_is_rising_set pm_is_rising_set cd_is_rising_set ct_is_rising_set oc_check_sets kV_check_sets dc_check_sets pm_check_sets cd_check_sets ct_check_sets oc_add_set kV_add_set dc_add_set pm_add_set cd_add_set ct_add_set oc_product_of kV_product_of dc_product_of pm_product_of cd_product_of ct_product_of oc_repeated_until_settled kV_repeated_until_settled dc_repeated_until_settled pm_repeated_until_settled cd_repeated_until_settled ct_repeated_until_settled oc_settled kV_settled dc_settled pm_settled cd_settled ct_settled oc_turned kV_turned dc_turned pm_turned cd_turned ct_turned oc_add_made_of kV_add_made_of dc_add_made_of pm_add_made_of cd_add_made_of ct_add_made_of oc_family_of kV_family_of dc_family_of pm_family_of cd_family_of ct_family_of oc_have_common kV_have_common dc_have_common pm_have_common cd_have_common ct_have_common oc_meeting kV_meeting dc_meeting pm_meeting cd_meeting ct_meeting oc__law_subset kV__law_subset dc__law_subset pm__law_subset cd__law_subset ct__law_subset oc__law_meets kV__law_meets dc__law_meets pm__law_meets cd__law_meets ct__law_meets oc__law_product kV__law_product dc__law_product pm__law_product cd__law_product ct__law_product oc__law_power kV__law_power dc__law_power pm__law_power cd__law_power ct__law_power oc__law_settling kV__law_settling dc__law_settling pm__law_settling cd__law_settling ct__law_settling oc__law_turned kV__law_turned dc__law_turned pm__law_turned cd__law_turned ct__law_turned oc__law_closed kV__law_closed dc__law_closed pm__law_closed cd__law_closed ct__law_closed oc_law kV_law dc_law pm_law cd_law ct_law : Value}
    (a__law_draws : PySem.W.nsIn K mainGlobals "_law_draws" = some (some (.ref f__law_draws))) (l__law_draws : K.lookup f__law_draws = some ⟨oc__law_draws, od__law_draws, .func (PySem.W.fnOf "_law_draws" "_law_draws" (defArgs sd__law_draws) (defBody sd__law_draws) (defScope sd__law_draws) .none kV__law_draws dc__law_draws pm__law_draws an__law_draws cd__law_draws ct__law_draws), sl__law_draws⟩) (c__law_draws : PySem.W.codeIn K cd__law_draws "_law_draws" = true) (k__law_draws : PySem.W.keepIn K (.ref f__law_draws) = true)
    (a__law_box : PySem.W.nsIn K mainGlobals "_law_box" = some (some (.ref f__law_box))) (l__law_box : K.lookup f__law_box = some ⟨oc__law_box, od__law_box, .func (PySem.W.fnOf "_law_box" "_law_box" (defArgs sd__law_box) (defBody sd__law_box) (defScope sd__law_box) .none kV__law_box dc__law_box pm__law_box an__law_box cd__law_box ct__law_box), sl__law_box⟩) (c__law_box : PySem.W.codeIn K cd__law_box "_law_box" = true) (k__law_box : PySem.W.keepIn K (.ref f__law_box) = true)
    (a__law_next : PySem.W.nsIn K mainGlobals "_law_next" = some (some (.ref f__law_next))) (l__law_next : K.lookup f__law_next = some ⟨oc__law_next, od__law_next, .func (PySem.W.fnOf "_law_next" "_law_next" (defArgs sd__law_next) (defBody sd__law_next) (defScope sd__law_next) .none kV__law_next dc__law_next pm__law_next an__law_next cd__law_next ct__law_next), sl__law_next⟩) (c__law_next : PySem.W.codeIn K cd__law_next "_law_next" = true) (k__law_next : PySem.W.keepIn K (.ref f__law_next) = true)
    (a__law_associative : PySem.W.nsIn K mainGlobals "_law_associative" = some (some (.ref f__law_associative))) (l__law_associative : K.lookup f__law_associative = some ⟨oc__law_associative, od__law_associative, .func (PySem.W.fnOf "_law_associative" "_law_associative" (defArgs sd__law_associative) (defBody sd__law_associative) (defScope sd__law_associative) .none kV__law_associative dc__law_associative pm__law_associative an__law_associative cd__law_associative ct__law_associative), sl__law_associative⟩) (c__law_associative : PySem.W.codeIn K cd__law_associative "_law_associative" = true) (k__law_associative : PySem.W.keepIn K (.ref f__law_associative) = true)
    (a__law_simple : PySem.W.nsIn K mainGlobals "_law_simple" = some (some (.ref f__law_simple))) (l__law_simple : K.lookup f__law_simple = some ⟨oc__law_simple, od__law_simple, .func (PySem.W.fnOf "_law_simple" "_law_simple" (defArgs sd__law_simple) (defBody sd__law_simple) (defScope sd__law_simple) .none kV__law_simple dc__law_simple pm__law_simple an__law_simple cd__law_simple ct__law_simple), sl__law_simple⟩) (c__law_simple : PySem.W.codeIn K cd__law_simple "_law_simple" = true) (k__law_simple : PySem.W.keepIn K (.ref f__law_simple) = true)
    (a__law_table : PySem.W.nsIn K mainGlobals "_law_table" = some (some (.ref f__law_table))) (l__law_table : K.lookup f__law_table = some ⟨oc__law_table, od__law_table, .func (PySem.W.fnOf "_law_table" "_law_table" (defArgs sd__law_table) (defBody sd__law_table) (defScope sd__law_table) .none kV__law_table dc__law_table pm__law_table an__law_table cd__law_table ct__law_table), sl__law_table⟩) (c__law_table : PySem.W.codeIn K cd__law_table "_law_table" = true) (k__law_table : PySem.W.keepIn K (.ref f__law_table) = true)
    (a__law_semigroup : PySem.W.nsIn K mainGlobals "_law_semigroup" = some (some (.ref f__law_semigroup))) (l__law_semigroup : K.lookup f__law_semigroup = some ⟨oc__law_semigroup, od__law_semigroup, .func (PySem.W.fnOf "_law_semigroup" "_law_semigroup" (defArgs sd__law_semigroup) (defBody sd__law_semigroup) (defScope sd__law_semigroup) .none kV__law_semigroup dc__law_semigroup pm__law_semigroup an__law_semigroup cd__law_semigroup ct__law_semigroup), sl__law_semigroup⟩) (c__law_semigroup : PySem.W.codeIn K cd__law_semigroup "_law_semigroup" = true) (k__law_semigroup : PySem.W.keepIn K (.ref f__law_semigroup) = true)
    (a_is_associative : PySem.W.nsIn K mainGlobals "is_associative" = some (some (.ref f_is_associative))) (l_is_associative : K.lookup f_is_associative = some ⟨oc_is_associative, od_is_associative, .func (PySem.W.fnOf "is_associative" "is_associative" (defArgs sd_is_associative) (defBody sd_is_associative) (defScope sd_is_associative) .none kV_is_associative dc_is_associative pm_is_associative an_is_associative cd_is_associative ct_is_associative), sl_is_associative⟩) (c_is_associative : PySem.W.codeIn K cd_is_associative "is_associative" = true) (k_is_associative : PySem.W.keepIn K (.ref f_is_associative) = true)
    (a_are_below : PySem.W.nsIn K mainGlobals "are_below" = some (some (.ref f_are_below))) (l_are_below : K.lookup f_are_below = some ⟨oc_are_below, od_are_below, .func (PySem.W.fnOf "are_below" "are_below" (defArgs sd_are_below) (defBody sd_are_below) (defScope sd_are_below) .none kV_are_below dc_are_below pm_are_below an_are_below cd_are_below ct_are_below), sl_are_below⟩) (c_are_below : PySem.W.codeIn K cd_are_below "are_below" = true) (k_are_below : PySem.W.keepIn K (.ref f_are_below) = true)
    (a_are_rows : PySem.W.nsIn K mainGlobals "are_rows" = some (some (.ref f_are_rows))) (l_are_rows : K.lookup f_are_rows = some ⟨oc_are_rows, od_are_rows, .func (PySem.W.fnOf "are_rows" "are_rows" (defArgs sd_are_rows) (defBody sd_are_rows) (defScope sd_are_rows) .none kV_are_rows dc_are_rows pm_are_rows an_are_rows cd_are_rows ct_are_rows), sl_are_rows⟩) (c_are_rows : PySem.W.codeIn K cd_are_rows "are_rows" = true) (k_are_rows : PySem.W.keepIn K (.ref f_are_rows) = true)
    (a_fault_of : PySem.W.nsIn K mainGlobals "fault_of" = some (some (.ref f_fault_of))) (l_fault_of : K.lookup f_fault_of = some ⟨oc_fault_of, od_fault_of, .func (PySem.W.fnOf "fault_of" "fault_of" (defArgs sd_fault_of) (defBody sd_fault_of) (defScope sd_fault_of) .none kV_fault_of dc_fault_of pm_fault_of an_fault_of cd_fault_of ct_fault_of), sl_fault_of⟩) (c_fault_of : PySem.W.codeIn K cd_fault_of "fault_of" = true) (k_fault_of : PySem.W.keepIn K (.ref f_fault_of) = true)
    (a_check_semigroup : PySem.W.nsIn K mainGlobals "check_semigroup" = some (some (.ref f_check_semigroup))) (l_check_semigroup : K.lookup f_check_semigroup = some ⟨oc_check_semigroup, od_check_semigroup, .func (PySem.W.fnOf "check_semigroup" "check_semigroup" (defArgs sd_check_semigroup) (defBody sd_check_semigroup) (defScope sd_check_semigroup) .none kV_check_semigroup dc_check_semigroup pm_check_semigroup an_check_semigroup cd_check_semigroup ct_check_semigroup), sl_check_semigroup⟩) (c_check_semigroup : PySem.W.codeIn K cd_check_semigroup "check_semigroup" = true) (k_check_semigroup : PySem.W.keepIn K (.ref f_check_semigroup) = true)
    (a_is_rising_set : PySem.W.nsIn K mainGlobals "is_rising_set" = some (some (.ref f_is_rising_set))) (l_is_rising_set : K.lookup f_is_rising_set = some ⟨oc_is_rising_set, od_is_rising_set, .func (PySem.W.fnOf "is_rising_set" "is_rising_set" (defArgs sd_is_rising_set) (defBody sd_is_rising_set) (defScope sd_is_rising_set) .none kV_is_rising_set dc_is_rising_set pm_is_rising_set an_is_rising_set cd_is_rising_set ct_is_rising_set), sl_is_rising_set⟩) (c_is_rising_set : PySem.W.codeIn K cd_is_rising_set "is_rising_set" = true) (k_is_rising_set : PySem.W.keepIn K (.ref f_is_rising_set) = true)
    (a_check_sets : PySem.W.nsIn K mainGlobals "check_sets" = some (some (.ref f_check_sets))) (l_check_sets : K.lookup f_check_sets = some ⟨oc_check_sets, od_check_sets, .func (PySem.W.fnOf "check_sets" "check_sets" (defArgs sd_check_sets) (defBody sd_check_sets) (defScope sd_check_sets) .none kV_check_sets dc_check_sets pm_check_sets an_check_sets cd_check_sets ct_check_sets), sl_check_sets⟩) (c_check_sets : PySem.W.codeIn K cd_check_sets "check_sets" = true) (k_check_sets : PySem.W.keepIn K (.ref f_check_sets) = true)
    (a_add_set : PySem.W.nsIn K mainGlobals "add_set" = some (some (.ref f_add_set))) (l_add_set : K.lookup f_add_set = some ⟨oc_add_set, od_add_set, .func (PySem.W.fnOf "add_set" "add_set" (defArgs sd_add_set) (defBody sd_add_set) (defScope sd_add_set) .none kV_add_set dc_add_set pm_add_set an_add_set cd_add_set ct_add_set), sl_add_set⟩) (c_add_set : PySem.W.codeIn K cd_add_set "add_set" = true) (k_add_set : PySem.W.keepIn K (.ref f_add_set) = true)
    (a_product_of : PySem.W.nsIn K mainGlobals "product_of" = some (some (.ref f_product_of))) (l_product_of : K.lookup f_product_of = some ⟨oc_product_of, od_product_of, .func (PySem.W.fnOf "product_of" "product_of" (defArgs sd_product_of) (defBody sd_product_of) (defScope sd_product_of) .none kV_product_of dc_product_of pm_product_of an_product_of cd_product_of ct_product_of), sl_product_of⟩) (c_product_of : PySem.W.codeIn K cd_product_of "product_of" = true) (k_product_of : PySem.W.keepIn K (.ref f_product_of) = true)
    (a_repeated_until_settled : PySem.W.nsIn K mainGlobals "repeated_until_settled" = some (some (.ref f_repeated_until_settled))) (l_repeated_until_settled : K.lookup f_repeated_until_settled = some ⟨oc_repeated_until_settled, od_repeated_until_settled, .func (PySem.W.fnOf "repeated_until_settled" "repeated_until_settled" (defArgs sd_repeated_until_settled) (defBody sd_repeated_until_settled) (defScope sd_repeated_until_settled) .none kV_repeated_until_settled dc_repeated_until_settled pm_repeated_until_settled an_repeated_until_settled cd_repeated_until_settled ct_repeated_until_settled), sl_repeated_until_settled⟩) (c_repeated_until_settled : PySem.W.codeIn K cd_repeated_until_settled "repeated_until_settled" = true) (k_repeated_until_settled : PySem.W.keepIn K (.ref f_repeated_until_settled) = true)
    (a_settled : PySem.W.nsIn K mainGlobals "settled" = some (some (.ref f_settled))) (l_settled : K.lookup f_settled = some ⟨oc_settled, od_settled, .func (PySem.W.fnOf "settled" "settled" (defArgs sd_settled) (defBody sd_settled) (defScope sd_settled) .none kV_settled dc_settled pm_settled an_settled cd_settled ct_settled), sl_settled⟩) (c_settled : PySem.W.codeIn K cd_settled "settled" = true) (k_settled : PySem.W.keepIn K (.ref f_settled) = true)
    (a_turned : PySem.W.nsIn K mainGlobals "turned" = some (some (.ref f_turned))) (l_turned : K.lookup f_turned = some ⟨oc_turned, od_turned, .func (PySem.W.fnOf "turned" "turned" (defArgs sd_turned) (defBody sd_turned) (defScope sd_turned) .none kV_turned dc_turned pm_turned an_turned cd_turned ct_turned), sl_turned⟩) (c_turned : PySem.W.codeIn K cd_turned "turned" = true) (k_turned : PySem.W.keepIn K (.ref f_turned) = true)
    (a_add_made_of : PySem.W.nsIn K mainGlobals "add_made_of" = some (some (.ref f_add_made_of))) (l_add_made_of : K.lookup f_add_made_of = some ⟨oc_add_made_of, od_add_made_of, .func (PySem.W.fnOf "add_made_of" "add_made_of" (defArgs sd_add_made_of) (defBody sd_add_made_of) (defScope sd_add_made_of) .none kV_add_made_of dc_add_made_of pm_add_made_of an_add_made_of cd_add_made_of ct_add_made_of), sl_add_made_of⟩) (c_add_made_of : PySem.W.codeIn K cd_add_made_of "add_made_of" = true) (k_add_made_of : PySem.W.keepIn K (.ref f_add_made_of) = true)
    (a_family_of : PySem.W.nsIn K mainGlobals "family_of" = some (some (.ref f_family_of))) (l_family_of : K.lookup f_family_of = some ⟨oc_family_of, od_family_of, .func (PySem.W.fnOf "family_of" "family_of" (defArgs sd_family_of) (defBody sd_family_of) (defScope sd_family_of) .none kV_family_of dc_family_of pm_family_of an_family_of cd_family_of ct_family_of), sl_family_of⟩) (c_family_of : PySem.W.codeIn K cd_family_of "family_of" = true) (k_family_of : PySem.W.keepIn K (.ref f_family_of) = true)
    (a_have_common : PySem.W.nsIn K mainGlobals "have_common" = some (some (.ref f_have_common))) (l_have_common : K.lookup f_have_common = some ⟨oc_have_common, od_have_common, .func (PySem.W.fnOf "have_common" "have_common" (defArgs sd_have_common) (defBody sd_have_common) (defScope sd_have_common) .none kV_have_common dc_have_common pm_have_common an_have_common cd_have_common ct_have_common), sl_have_common⟩) (c_have_common : PySem.W.codeIn K cd_have_common "have_common" = true) (k_have_common : PySem.W.keepIn K (.ref f_have_common) = true)
    (a_meeting : PySem.W.nsIn K mainGlobals "meeting" = some (some (.ref f_meeting))) (l_meeting : K.lookup f_meeting = some ⟨oc_meeting, od_meeting, .func (PySem.W.fnOf "meeting" "meeting" (defArgs sd_meeting) (defBody sd_meeting) (defScope sd_meeting) .none kV_meeting dc_meeting pm_meeting an_meeting cd_meeting ct_meeting), sl_meeting⟩) (c_meeting : PySem.W.codeIn K cd_meeting "meeting" = true) (k_meeting : PySem.W.keepIn K (.ref f_meeting) = true)
    (a__law_subset : PySem.W.nsIn K mainGlobals "_law_subset" = some (some (.ref f__law_subset))) (l__law_subset : K.lookup f__law_subset = some ⟨oc__law_subset, od__law_subset, .func (PySem.W.fnOf "_law_subset" "_law_subset" (defArgs sd__law_subset) (defBody sd__law_subset) (defScope sd__law_subset) .none kV__law_subset dc__law_subset pm__law_subset an__law_subset cd__law_subset ct__law_subset), sl__law_subset⟩) (c__law_subset : PySem.W.codeIn K cd__law_subset "_law_subset" = true) (k__law_subset : PySem.W.keepIn K (.ref f__law_subset) = true)
    (a__law_meets : PySem.W.nsIn K mainGlobals "_law_meets" = some (some (.ref f__law_meets))) (l__law_meets : K.lookup f__law_meets = some ⟨oc__law_meets, od__law_meets, .func (PySem.W.fnOf "_law_meets" "_law_meets" (defArgs sd__law_meets) (defBody sd__law_meets) (defScope sd__law_meets) .none kV__law_meets dc__law_meets pm__law_meets an__law_meets cd__law_meets ct__law_meets), sl__law_meets⟩) (c__law_meets : PySem.W.codeIn K cd__law_meets "_law_meets" = true) (k__law_meets : PySem.W.keepIn K (.ref f__law_meets) = true)
    (a__law_product : PySem.W.nsIn K mainGlobals "_law_product" = some (some (.ref f__law_product))) (l__law_product : K.lookup f__law_product = some ⟨oc__law_product, od__law_product, .func (PySem.W.fnOf "_law_product" "_law_product" (defArgs sd__law_product) (defBody sd__law_product) (defScope sd__law_product) .none kV__law_product dc__law_product pm__law_product an__law_product cd__law_product ct__law_product), sl__law_product⟩) (c__law_product : PySem.W.codeIn K cd__law_product "_law_product" = true) (k__law_product : PySem.W.keepIn K (.ref f__law_product) = true)
    (a__law_power : PySem.W.nsIn K mainGlobals "_law_power" = some (some (.ref f__law_power))) (l__law_power : K.lookup f__law_power = some ⟨oc__law_power, od__law_power, .func (PySem.W.fnOf "_law_power" "_law_power" (defArgs sd__law_power) (defBody sd__law_power) (defScope sd__law_power) .none kV__law_power dc__law_power pm__law_power an__law_power cd__law_power ct__law_power), sl__law_power⟩) (c__law_power : PySem.W.codeIn K cd__law_power "_law_power" = true) (k__law_power : PySem.W.keepIn K (.ref f__law_power) = true)
    (a__law_settling : PySem.W.nsIn K mainGlobals "_law_settling" = some (some (.ref f__law_settling))) (l__law_settling : K.lookup f__law_settling = some ⟨oc__law_settling, od__law_settling, .func (PySem.W.fnOf "_law_settling" "_law_settling" (defArgs sd__law_settling) (defBody sd__law_settling) (defScope sd__law_settling) .none kV__law_settling dc__law_settling pm__law_settling an__law_settling cd__law_settling ct__law_settling), sl__law_settling⟩) (c__law_settling : PySem.W.codeIn K cd__law_settling "_law_settling" = true) (k__law_settling : PySem.W.keepIn K (.ref f__law_settling) = true)
    (a__law_turned : PySem.W.nsIn K mainGlobals "_law_turned" = some (some (.ref f__law_turned))) (l__law_turned : K.lookup f__law_turned = some ⟨oc__law_turned, od__law_turned, .func (PySem.W.fnOf "_law_turned" "_law_turned" (defArgs sd__law_turned) (defBody sd__law_turned) (defScope sd__law_turned) .none kV__law_turned dc__law_turned pm__law_turned an__law_turned cd__law_turned ct__law_turned), sl__law_turned⟩) (c__law_turned : PySem.W.codeIn K cd__law_turned "_law_turned" = true) (k__law_turned : PySem.W.keepIn K (.ref f__law_turned) = true)
    (a__law_closed : PySem.W.nsIn K mainGlobals "_law_closed" = some (some (.ref f__law_closed))) (l__law_closed : K.lookup f__law_closed = some ⟨oc__law_closed, od__law_closed, .func (PySem.W.fnOf "_law_closed" "_law_closed" (defArgs sd__law_closed) (defBody sd__law_closed) (defScope sd__law_closed) .none kV__law_closed dc__law_closed pm__law_closed an__law_closed cd__law_closed ct__law_closed), sl__law_closed⟩) (c__law_closed : PySem.W.codeIn K cd__law_closed "_law_closed" = true) (k__law_closed : PySem.W.keepIn K (.ref f__law_closed) = true)
    (a_law : PySem.W.nsIn K mainGlobals "law" = some (some (.ref f_law))) (l_law : K.lookup f_law = some ⟨oc_law, od_law, .func (PySem.W.fnOf "law" "law" (defArgs sd_law) (defBody sd_law) (defScope sd_law) .none kV_law dc_law pm_law an_law cd_law ct_law), sl_law⟩) (c_law : PySem.W.codeIn K cd_law "law" = true) (k_law : PySem.W.keepIn K (.ref f_law) = true)
    (z_range : PySem.W.nsIn K mainGlobals "range" = some none)
    (z_int : PySem.W.nsIn K mainGlobals "int" = some none)
    (z_len : PySem.W.nsIn K mainGlobals "len" = some none)
    (z_max : PySem.W.nsIn K mainGlobals "max" = some none)
    (z_min : PySem.W.nsIn K mainGlobals "min" = some none)
    (z_tuple : PySem.W.nsIn K mainGlobals "tuple" = some none)
    (z_all : PySem.W.nsIn K mainGlobals "all" = some none)
    (z_list : PySem.W.nsIn K mainGlobals "list" = some none)
    (z_sorted : PySem.W.nsIn K mainGlobals "sorted" = some none)
    (z_set : PySem.W.nsIn K mainGlobals "set" = some none)
    (z_enumerate : PySem.W.nsIn K mainGlobals "enumerate" = some none)
    (z_any : PySem.W.nsIn K mainGlobals "any" = some none)
    (z_isinstance : PySem.W.nsIn K mainGlobals "isinstance" = some none)
    (z_bool : PySem.W.nsIn K mainGlobals "bool" = some none)
    {t_MOST_VALUES : Tok} (g_MOST_VALUES : PySem.W.nsIn K mainGlobals "MOST_VALUES" = some (some (.int 4 t_MOST_VALUES)))
    {t_MOST_LETTERS : Tok} (g_MOST_LETTERS : PySem.W.nsIn K mainGlobals "MOST_LETTERS" = some (some (.int 3 t_MOST_LETTERS)))
    : ∃ fd : FuncData, (∀ (s : Shared) (v : Value), BindsTo s fd ⟨[v], []⟩ [("script", v)]) ∧ ∀ base : Heap, K.In base → base.Ns mainGlobals mg → FnOk l.prog w K mg base CX0 8 fa fd ["script"] (toSp K s_law) := by
  have e := hfa.symm.trans (PySem.W.mg_of X G a_law)
  cases e
  have F__law_draws := fun_mk (st := sd__law_draws) l__law_draws c__law_draws k__law_draws
  have b__law_draws := F__law_draws.binds (ps := ["cell", "modulus", "count"]) fun _ _ _ _ _ _ us hl => match us, hl with | [_, _, _], _ => rfl
  have m__law_draws := PySem.W.mg_of X G a__law_draws
  have F__law_box := fun_mk (st := sd__law_box) l__law_box c__law_box k__law_box
  have b__law_box := F__law_box.binds (ps := ["script"]) fun _ _ _ _ _ _ us hl => match us, hl with | [_], _ => rfl
  have m__law_box := PySem.W.mg_of X G a__law_box
  have F__law_next := fun_mk (st := sd__law_next) l__law_next c__law_next k__law_next
  have b__law_next := F__law_next.binds (ps := ["box", "modulus"]) fun _ _ _ _ _ _ us hl => match us, hl with | [_, _], _ => rfl
  have m__law_next := PySem.W.mg_of X G a__law_next
  have F__law_associative := fun_mk (st := sd__law_associative) l__law_associative c__law_associative k__law_associative
  have b__law_associative := F__law_associative.binds (ps := ["table"]) fun _ _ _ _ _ _ us hl => match us, hl with | [_], _ => rfl
  have m__law_associative := PySem.W.mg_of X G a__law_associative
  have F__law_simple := fun_mk (st := sd__law_simple) l__law_simple c__law_simple k__law_simple
  have b__law_simple := F__law_simple.binds (ps := ["kind", "size", "a", "b"]) fun _ _ _ _ _ _ us hl => match us, hl with | [_, _, _, _], _ => rfl
  have m__law_simple := PySem.W.mg_of X G a__law_simple
  have F__law_table := fun_mk (st := sd__law_table) l__law_table c__law_table k__law_table
  have b__law_table := F__law_table.binds (ps := ["box", "size"]) fun _ _ _ _ _ _ us hl => match us, hl with | [_, _], _ => rfl
  have m__law_table := PySem.W.mg_of X G a__law_table
  have F__law_semigroup := fun_mk (st := sd__law_semigroup) l__law_semigroup c__law_semigroup k__law_semigroup
  have b__law_semigroup := F__law_semigroup.binds (ps := ["box", "most"]) fun _ _ _ _ _ _ us hl => match us, hl with | [_, _], _ => rfl
  have m__law_semigroup := PySem.W.mg_of X G a__law_semigroup
  have F_is_associative := fun_mk (st := sd_is_associative) l_is_associative c_is_associative k_is_associative
  have b_is_associative := F_is_associative.binds (ps := ["table"]) fun _ _ _ _ _ _ us hl => match us, hl with | [_], _ => rfl
  have m_is_associative := PySem.W.mg_of X G a_is_associative
  have F_are_below := fun_mk (st := sd_are_below) l_are_below c_are_below k_are_below
  have b_are_below := F_are_below.binds (ps := ["numbers", "many"]) fun _ _ _ _ _ _ us hl => match us, hl with | [_, _], _ => rfl
  have m_are_below := PySem.W.mg_of X G a_are_below
  have F_are_rows := fun_mk (st := sd_are_rows) l_are_rows c_are_rows k_are_rows
  have b_are_rows := F_are_rows.binds (ps := ["rows", "size", "many"]) fun _ _ _ _ _ _ us hl => match us, hl with | [_, _, _], _ => rfl
  have m_are_rows := PySem.W.mg_of X G a_are_rows
  have F_fault_of := fun_mk (st := sd_fault_of) l_fault_of c_fault_of k_fault_of
  have b_fault_of := F_fault_of.binds (ps := ["semigroup"]) fun _ _ _ _ _ _ us hl => match us, hl with | [_], _ => rfl
  have m_fault_of := PySem.W.mg_of X G a_fault_of
  have F_check_semigroup := fun_mk (st := sd_check_semigroup) l_check_semigroup c_check_semigroup k_check_semigroup
  have b_check_semigroup := F_check_semigroup.binds (ps := ["semigroup"]) fun _ _ _ _ _ _ us hl => match us, hl with | [_], _ => rfl
  have m_check_semigroup := PySem.W.mg_of X G a_check_semigroup
  have F_is_rising_set := fun_mk (st := sd_is_rising_set) l_is_rising_set c_is_rising_set k_is_rising_set
  have b_is_rising_set := F_is_rising_set.binds (ps := ["numbers", "many"]) fun _ _ _ _ _ _ us hl => match us, hl with | [_, _], _ => rfl
  have m_is_rising_set := PySem.W.mg_of X G a_is_rising_set
  have F_check_sets := fun_mk (st := sd_check_sets) l_check_sets c_check_sets k_check_sets
  have b_check_sets := F_check_sets.binds (ps := ["semigroup", "sets"]) fun _ _ _ _ _ _ us hl => match us, hl with | [_, _], _ => rfl
  have m_check_sets := PySem.W.mg_of X G a_check_sets
  have F_add_set := fun_mk (st := sd_add_set) l_add_set c_add_set k_add_set
  have b_add_set := F_add_set.binds (ps := ["family", "made", "values"]) fun _ _ _ _ _ _ us hl => match us, hl with | [_, _, _], _ => rfl
  have m_add_set := PySem.W.mg_of X G a_add_set
  have F_product_of := fun_mk (st := sd_product_of) l_product_of c_product_of k_product_of
  have b_product_of := F_product_of.binds (ps := ["table", "one", "two"]) fun _ _ _ _ _ _ us hl => match us, hl with | [_, _, _], _ => rfl
  have m_product_of := PySem.W.mg_of X G a_product_of
  have F_repeated_until_settled := fun_mk (st := sd_repeated_until_settled) l_repeated_until_settled c_repeated_until_settled k_repeated_until_settled
  have b_repeated_until_settled := F_repeated_until_settled.binds (ps := ["table", "one"]) fun _ _ _ _ _ _ us hl => match us, hl with | [_, _], _ => rfl
  have m_repeated_until_settled := PySem.W.mg_of X G a_repeated_until_settled
  have F_settled := fun_mk (st := sd_settled) l_settled c_settled k_settled
  have b_settled := F_settled.binds (ps := ["table", "one"]) fun _ _ _ _ _ _ us hl => match us, hl with | [_, _], _ => rfl
  have m_settled := PySem.W.mg_of X G a_settled
  have F_turned := fun_mk (st := sd_turned) l_turned c_turned k_turned
  have b_turned := F_turned.binds (ps := ["table", "one"]) fun _ _ _ _ _ _ us hl => match us, hl with | [_, _], _ => rfl
  have m_turned := PySem.W.mg_of X G a_turned
  have F_add_made_of := fun_mk (st := sd_add_made_of) l_add_made_of c_add_made_of k_add_made_of
  have b_add_made_of := F_add_made_of.binds (ps := ["table", "family", "number"]) fun _ _ _ _ _ _ us hl => match us, hl with | [_, _, _], _ => rfl
  have m_add_made_of := PySem.W.mg_of X G a_add_made_of
  have F_family_of := fun_mk (st := sd_family_of) l_family_of c_family_of k_family_of
  have b_family_of := F_family_of.binds (ps := ["semigroup"]) fun _ _ _ _ _ _ us hl => match us, hl with | [_], _ => rfl
  have m_family_of := PySem.W.mg_of X G a_family_of
  have F_have_common := fun_mk (st := sd_have_common) l_have_common c_have_common k_have_common
  have b_have_common := F_have_common.binds (ps := ["one", "two"]) fun _ _ _ _ _ _ us hl => match us, hl with | [_, _], _ => rfl
  have m_have_common := PySem.W.mg_of X G a_have_common
  have F_meeting := fun_mk (st := sd_meeting) l_meeting c_meeting k_meeting
  have b_meeting := F_meeting.binds (ps := ["semigroup", "sets"]) fun _ _ _ _ _ _ us hl => match us, hl with | [_, _], _ => rfl
  have m_meeting := PySem.W.mg_of X G a_meeting
  have F__law_subset := fun_mk (st := sd__law_subset) l__law_subset c__law_subset k__law_subset
  have b__law_subset := F__law_subset.binds (ps := ["box", "size"]) fun _ _ _ _ _ _ us hl => match us, hl with | [_, _], _ => rfl
  have m__law_subset := PySem.W.mg_of X G a__law_subset
  have F__law_meets := fun_mk (st := sd__law_meets) l__law_meets c__law_meets k__law_meets
  have b__law_meets := F__law_meets.binds (ps := ["values", "sets"]) fun _ _ _ _ _ _ us hl => match us, hl with | [_, _], _ => rfl
  have m__law_meets := PySem.W.mg_of X G a__law_meets
  have F__law_product := fun_mk (st := sd__law_product) l__law_product c__law_product k__law_product
  have b__law_product := F__law_product.binds (ps := ["table", "one", "two"]) fun _ _ _ _ _ _ us hl => match us, hl with | [_, _, _], _ => rfl
  have m__law_product := PySem.W.mg_of X G a__law_product
  have F__law_power := fun_mk (st := sd__law_power) l__law_power c__law_power k__law_power
  have b__law_power := F__law_power.binds (ps := ["table", "one", "count"]) fun _ _ _ _ _ _ us hl => match us, hl with | [_, _, _], _ => rfl
  have m__law_power := PySem.W.mg_of X G a__law_power
  have F__law_settling := fun_mk (st := sd__law_settling) l__law_settling c__law_settling k__law_settling
  have b__law_settling := F__law_settling.binds (ps := ["table", "one"]) fun _ _ _ _ _ _ us hl => match us, hl with | [_, _], _ => rfl
  have m__law_settling := PySem.W.mg_of X G a__law_settling
  have F__law_turned := fun_mk (st := sd__law_turned) l__law_turned c__law_turned k__law_turned
  have b__law_turned := F__law_turned.binds (ps := ["table", "one"]) fun _ _ _ _ _ _ us hl => match us, hl with | [_, _], _ => rfl
  have m__law_turned := PySem.W.mg_of X G a__law_turned
  have F__law_closed := fun_mk (st := sd__law_closed) l__law_closed c__law_closed k__law_closed
  have b__law_closed := F__law_closed.binds (ps := ["semigroup"]) fun _ _ _ _ _ _ us hl => match us, hl with | [_], _ => rfl
  have m__law_closed := PySem.W.mg_of X G a__law_closed
  have F_law := fun_mk (st := sd_law) l_law c_law k_law
  have b_law := F_law.binds (ps := ["script"]) fun _ _ _ _ _ _ us hl => match us, hl with | [_], _ => rfl
  have m_law := PySem.W.mg_of X G a_law
  have m_range := PySem.W.mg_none_of X G z_range
  have m_int := PySem.W.mg_none_of X G z_int
  have m_len := PySem.W.mg_none_of X G z_len
  have m_max := PySem.W.mg_none_of X G z_max
  have m_min := PySem.W.mg_none_of X G z_min
  have m_tuple := PySem.W.mg_none_of X G z_tuple
  have m_all := PySem.W.mg_none_of X G z_all
  have m_list := PySem.W.mg_none_of X G z_list
  have m_sorted := PySem.W.mg_none_of X G z_sorted
  have m_set := PySem.W.mg_none_of X G z_set
  have m_enumerate := PySem.W.mg_none_of X G z_enumerate
  have m_any := PySem.W.mg_none_of X G z_any
  have m_isinstance := PySem.W.mg_none_of X G z_isinstance
  have m_bool := PySem.W.mg_none_of X G z_bool
  have m_MOST_VALUES := PySem.W.mg_of X G g_MOST_VALUES
  have m_MOST_LETTERS := PySem.W.mg_of X G g_MOST_LETTERS
  refine ⟨PySem.W.fnOf "law" "law" (defArgs sd_law) (defBody sd_law) (defScope sd_law) .none kV_law dc_law pm_law an_law cd_law ct_law, fun s v => .of_eq rfl, fun base _ _ => ?_⟩
  have G__law_draws : FnOk l.prog w K mg base CX0 1 f__law_draws _ ["cell", "modulus", "count"] (toSp K s__law_draws) := ok__law_draws F__law_draws m_range m_int
  have G__law_box : FnOk l.prog w K mg base CX0 2 f__law_box _ ["script"] (spBox K) := ok__law_box F__law_box F__law_draws b__law_draws m__law_draws G__law_draws m_len
  have G__law_next : FnOk l.prog w K mg base CX0 1 f__law_next _ ["box", "modulus"] (toSp K s__law_next) := ok__law_next F__law_next m_int m_len
  have G__law_associative : FnOk l.prog w K mg base CX0 1 f__law_associative _ ["table"] (toSp K s__law_associative) := ok__law_associative F__law_associative m_len m_range
  have G__law_simple : FnOk l.prog w K mg base CX0 1 f__law_simple _ ["kind", "size", "a", "b"] (toSp K s__law_simple) := ok__law_simple F__law_simple m_max m_min m_int
  have G__law_table : FnOk l.prog w K mg base CX0 2 f__law_table _ ["box", "size"] (toSp K s__law_table) := ok__law_table F__law_table F__law_next b__law_next m__law_next G__law_next F__law_associative b__law_associative m__law_associative G__law_associative F__law_simple b__law_simple m__law_simple G__law_simple m_range m_tuple
  have G__law_semigroup : FnOk l.prog w K mg base CX0 3 f__law_semigroup _ ["box", "most"] (toSp K s__law_semigroup) := ok__law_semigroup F__law_semigroup F__law_table b__law_table m__law_table G__law_table F__law_next b__law_next m__law_next G__law_next m_tuple m_range
  have G_is_associative : FnOk l.prog w K mg base CX0 1 f_is_associative _ ["table"] (toSp K s_is_associative) := ok_is_associative F_is_associative m_range m_all m_len
  have G_are_below : FnOk l.prog w K mg base CX0 1 f_are_below _ ["numbers", "many"] (toSp K s_are_below) := ok_are_below F_are_below m_all
  have G_are_rows : FnOk l.prog w K mg base CX0 2 f_are_rows _ ["rows", "size", "many"] (toSp K s_are_rows) := ok_are_rows F_are_rows F_are_below b_are_below m_are_below G_are_below m_all m_len
  have G_fault_of : FnOk l.prog w K mg base CX0 3 f_fault_of _ ["semigroup"] (toSp K s_fault_of) := ok_fault_of F_fault_of F_is_associative b_is_associative m_is_associative G_is_associative F_are_rows b_are_rows m_are_rows G_are_rows F_are_below b_are_below m_are_below G_are_below m_len m_MOST_VALUES m_MOST_LETTERS
  have G_check_semigroup : FnOk l.prog w K mg base CX0 4 f_check_semigroup _ ["semigroup"] (toSp K s_check_semigroup) := ok_check_semigroup F_check_semigroup F_fault_of b_fault_of m_fault_of G_fault_of
  have G_is_rising_set : FnOk l.prog w K mg base CX0 2 f_is_rising_set _ ["numbers", "many"] (toSp K s_is_rising_set) := ok_is_rising_set F_is_rising_set F_are_below b_are_below m_are_below G_are_below m_list m_sorted m_set
  have G_check_sets : FnOk l.prog w K mg base CX0 5 f_check_sets _ ["semigroup", "sets"] (toSp K s_check_sets) := ok_check_sets F_check_sets F_check_semigroup b_check_semigroup m_check_semigroup G_check_semigroup F_is_rising_set b_is_rising_set m_is_rising_set G_is_rising_set m_len
  have G_add_set : FnOk l.prog w K mg base CX0 1 f_add_set _ ["family", "made", "values"] (toSp K s_add_set) := ok_add_set F_add_set
  have G_product_of : FnOk l.prog w K mg base CX0 1 f_product_of _ ["table", "one", "two"] (toSp K s_product_of) := ok_product_of F_product_of m_tuple m_sorted
  have G_repeated_until_settled : FnOk l.prog w K mg base CX0 2 f_repeated_until_settled _ ["table", "one"] (toSp K s_repeated_until_settled) := ok_repeated_until_settled F_repeated_until_settled F_product_of b_product_of m_product_of G_product_of
  have G_settled : FnOk l.prog w K mg base CX0 3 f_settled _ ["table", "one"] (toSp K s_settled) := ok_settled F_settled F_repeated_until_settled b_repeated_until_settled m_repeated_until_settled G_repeated_until_settled
  have G_turned : FnOk l.prog w K mg base CX0 4 f_turned _ ["table", "one"] (toSp K s_turned) := ok_turned F_turned F_settled b_settled m_settled G_settled F_product_of b_product_of m_product_of G_product_of m_tuple m_sorted m_set
  have G_add_made_of : FnOk l.prog w K mg base CX0 5 f_add_made_of _ ["table", "family", "number"] (toSp K s_add_made_of) := ok_add_made_of F_add_made_of F_add_set b_add_set m_add_set G_add_set F_turned b_turned m_turned G_turned F_product_of b_product_of m_product_of G_product_of m_range
  have G_family_of : FnOk l.prog w K mg base CX0 6 f_family_of _ ["semigroup"] (toSp K s_family_of) := ok_family_of F_family_of F_check_semigroup b_check_semigroup m_check_semigroup G_check_semigroup F_add_set b_add_set m_add_set G_add_set F_add_made_of b_add_made_of m_add_made_of G_add_made_of m_enumerate m_len
  have G_have_common : FnOk l.prog w K mg base CX0 1 f_have_common _ ["one", "two"] (toSp K s_have_common) := ok_have_common F_have_common m_any
  have G_meeting : FnOk l.prog w K mg base CX0 7 f_meeting _ ["semigroup", "sets"] (toSp K s_meeting) := ok_meeting F_meeting F_check_sets b_check_sets m_check_sets G_check_sets F_family_of b_family_of m_family_of G_family_of F_have_common b_have_common m_have_common G_have_common m_enumerate m_all
  have G__law_subset : FnOk l.prog w K mg base CX0 2 f__law_subset _ ["box", "size"] (toSp K s__law_subset) := ok__law_subset F__law_subset F__law_next b__law_next m__law_next G__law_next m_tuple m_range
  have G__law_meets : FnOk l.prog w K mg base CX0 1 f__law_meets _ ["values", "sets"] (toSp K s__law_meets) := ok__law_meets F__law_meets m_len
  have G__law_product : FnOk l.prog w K mg base CX0 1 f__law_product _ ["table", "one", "two"] (toSp K s__law_product) := ok__law_product F__law_product m_len m_tuple m_range
  have G__law_power : FnOk l.prog w K mg base CX0 2 f__law_power _ ["table", "one", "count"] (toSp K s__law_power) := ok__law_power F__law_power F__law_product b__law_product m__law_product G__law_product m_range
  have G__law_settling : FnOk l.prog w K mg base CX0 2 f__law_settling _ ["table", "one"] (toSp K s__law_settling) := ok__law_settling F__law_settling F__law_product b__law_product m__law_product G__law_product m_range
  have G__law_turned : FnOk l.prog w K mg base CX0 3 f__law_turned _ ["table", "one"] (toSp K s__law_turned) := ok__law_turned F__law_turned F__law_power b__law_power m__law_power G__law_power F__law_product b__law_product m__law_product G__law_product F__law_settling b__law_settling m__law_settling G__law_settling m_tuple m_range m_len
  have G__law_closed : FnOk l.prog w K mg base CX0 4 f__law_closed _ ["semigroup"] (toSp K s__law_closed) := ok__law_closed F__law_closed F__law_turned b__law_turned m__law_turned G__law_turned F__law_product b__law_product m__law_product G__law_product m_range m_len
  exact ok_law F_law F__law_box b__law_box m__law_box G__law_box F__law_semigroup b__law_semigroup m__law_semigroup G__law_semigroup F_meeting b_meeting m_meeting G_meeting F__law_subset b__law_subset m__law_subset G__law_subset F__law_meets b__law_meets m__law_meets G__law_meets F__law_closed b__law_closed m__law_closed G__law_closed F_family_of b_family_of m_family_of G_family_of F__law_next b__law_next m__law_next G__law_next m_list m_range m_isinstance m_bool m_len m_tuple
end PL
open PySem PySem.W PyProof.Rows
set_option maxHeartbeats 0 in
theorem PySem.Challenge.cw_partfilter_k22_sets_that_meet_holds : PySem.Challenge.rw_partfilter_k22_sets_that_meet.Holds := by
  w_on; o_law; k_head; (case hw => w_witness2)
  k_fill
  refine L2.walk_ofK (l := PySem.Challenge.rw_partfilter_k22_sets_that_meet) (n := 63) (k := 8) (x := "script") (CX := L2.CX0) (sp := fun K => PL.toSp K PL.s_law) rfl (by decide) rfl ⟨rfl, by decide, by decide⟩ (fun w h Y => PySem.W.kIn_of Y) ?F (fun K H a ns hl _ hS => PL.law_sp hl hS) (fun _ _ _ _ h => h)
  case F =>
    intro w mg fa h KX G hmg
    refine' PL.all_mk KX G hmg ?a__law_draws ?l__law_draws ?c__law_draws ?k__law_draws ?a__law_box ?l__law_box ?c__law_box ?k__law_box ?a__law_next ?l__law_next ?c__law_next ?k__law_next ?a__law_associative ?l__law_associative ?c__law_associative ?k__law_associative ?a__law_simple ?l__law_simple ?c__law_simple ?k__law_simple ?a__law_table ?l__law_table ?c__law_table ?k__law_table ?a__law_semigroup ?l__law_semigroup ?c__law_semigroup ?k__law_semigroup ?a_is_associative ?l_is_associative ?c_is_associative ?k_is_associative ?a_are_below ?l_are_below ?c_are_below ?k_are_below ?a_are_rows ?l_are_rows ?c_are_rows ?k_are_rows ?a_fault_of ?l_fault_of ?c_fault_of ?k_fault_of ?a_check_semigroup ?l_check_semigroup ?c_check_semigroup ?k_check_semigroup ?a_is_rising_set ?l_is_rising_set ?c_is_rising_set ?k_is_rising_set ?a_check_sets ?l_check_sets ?c_check_sets ?k_check_sets ?a_add_set ?l_add_set ?c_add_set ?k_add_set ?a_product_of ?l_product_of ?c_product_of ?k_product_of ?a_repeated_until_settled ?l_repeated_until_settled ?c_repeated_until_settled ?k_repeated_until_settled ?a_settled ?l_settled ?c_settled ?k_settled ?a_turned ?l_turned ?c_turned ?k_turned ?a_add_made_of ?l_add_made_of ?c_add_made_of ?k_add_made_of ?a_family_of ?l_family_of ?c_family_of ?k_family_of ?a_have_common ?l_have_common ?c_have_common ?k_have_common ?a_meeting ?l_meeting ?c_meeting ?k_meeting ?a__law_subset ?l__law_subset ?c__law_subset ?k__law_subset ?a__law_meets ?l__law_meets ?c__law_meets ?k__law_meets ?a__law_product ?l__law_product ?c__law_product ?k__law_product ?a__law_power ?l__law_power ?c__law_power ?k__law_power ?a__law_settling ?l__law_settling ?c__law_settling ?k__law_settling ?a__law_turned ?l__law_turned ?c__law_turned ?k__law_turned ?a__law_closed ?l__law_closed ?c__law_closed ?k__law_closed ?a_law ?l_law ?c_law ?k_law ?z_range ?z_int ?z_len ?z_max ?z_min ?z_tuple ?z_all ?z_list ?z_sorted ?z_set ?z_enumerate ?z_any ?z_isinstance ?z_bool ?g_MOST_VALUES ?g_MOST_LETTERS
    (case a__law_draws => k_is); (case l__law_draws => k_is); (case c__law_draws => k_is); (case k__law_draws => k_is); (case a__law_box => k_is); (case l__law_box => k_is); (case c__law_box => k_is); (case k__law_box => k_is); (case a__law_next => k_is); (case l__law_next => k_is); (case c__law_next => k_is); (case k__law_next => k_is); (case a__law_associative => k_is); (case l__law_associative => k_is); (case c__law_associative => k_is); (case k__law_associative => k_is); (case a__law_simple => k_is); (case l__law_simple => k_is); (case c__law_simple => k_is); (case k__law_simple => k_is); (case a__law_table => k_is); (case l__law_table => k_is); (case c__law_table => k_is); (case k__law_table => k_is); (case a__law_semigroup => k_is); (case l__law_semigroup => k_is); (case c__law_semigroup => k_is); (case k__law_semigroup => k_is); (case a_is_associative => k_is); (case l_is_associative => k_is); (case c_is_associative => k_is); (case k_is_associative => k_is); (case a_are_below => k_is); (case l_are_below => k_is); (case c_are_below => k_is); (case k_are_below => k_is); (case a_are_rows => k_is); (case l_are_rows => k_is); (case c_are_rows => k_is); (case k_are_rows => k_is); (case a_fault_of => k_is); (case l_fault_of => k_is); (case c_fault_of => k_is); (case k_fault_of => k_is); (case a_check_semigroup => k_is); (case l_check_semigroup => k_is); (case c_check_semigroup => k_is); (case k_check_semigroup => k_is); (case a_is_rising_set => k_is); (case l_is_rising_set => k_is); (case c_is_rising_set => k_is); (case k_is_rising_set => k_is); (case a_check_sets => k_is); (case l_check_sets => k_is); (case c_check_sets => k_is); (case k_check_sets => k_is); (case a_add_set => k_is); (case l_add_set => k_is); (case c_add_set => k_is); (case k_add_set => k_is); (case a_product_of => k_is); (case l_product_of => k_is); (case c_product_of => k_is); (case k_product_of => k_is); (case a_repeated_until_settled => k_is); (case l_repeated_until_settled => k_is); (case c_repeated_until_settled => k_is); (case k_repeated_until_settled => k_is); (case a_settled => k_is); (case l_settled => k_is); (case c_settled => k_is); (case k_settled => k_is); (case a_turned => k_is); (case l_turned => k_is); (case c_turned => k_is); (case k_turned => k_is); (case a_add_made_of => k_is); (case l_add_made_of => k_is); (case c_add_made_of => k_is); (case k_add_made_of => k_is); (case a_family_of => k_is); (case l_family_of => k_is); (case c_family_of => k_is); (case k_family_of => k_is); (case a_have_common => k_is); (case l_have_common => k_is); (case c_have_common => k_is); (case k_have_common => k_is); (case a_meeting => k_is); (case l_meeting => k_is); (case c_meeting => k_is); (case k_meeting => k_is); (case a__law_subset => k_is); (case l__law_subset => k_is); (case c__law_subset => k_is); (case k__law_subset => k_is); (case a__law_meets => k_is); (case l__law_meets => k_is); (case c__law_meets => k_is); (case k__law_meets => k_is); (case a__law_product => k_is); (case l__law_product => k_is); (case c__law_product => k_is); (case k__law_product => k_is); (case a__law_power => k_is); (case l__law_power => k_is); (case c__law_power => k_is); (case k__law_power => k_is); (case a__law_settling => k_is); (case l__law_settling => k_is); (case c__law_settling => k_is); (case k__law_settling => k_is); (case a__law_turned => k_is); (case l__law_turned => k_is); (case c__law_turned => k_is); (case k__law_turned => k_is); (case a__law_closed => k_is); (case l__law_closed => k_is); (case c__law_closed => k_is); (case k__law_closed => k_is); (case a_law => k_is); (case l_law => k_is); (case c_law => k_is); (case k_law => k_is); (case z_range => k_is); (case z_int => k_is); (case z_len => k_is); (case z_max => k_is); (case z_min => k_is); (case z_tuple => k_is); (case z_all => k_is); (case z_list => k_is); (case z_sorted => k_is); (case z_set => k_is); (case z_enumerate => k_is); (case z_any => k_is); (case z_isinstance => k_is); (case z_bool => k_is); (case g_MOST_VALUES => k_is); (case g_MOST_LETTERS => k_is)
