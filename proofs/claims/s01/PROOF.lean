import PyProof.Rows.All
import PyKp394
import Wide.All
import OpenK.AllK
import Wide.FinOn
import HandS.ForSpec
import HandS.TryMany
import HandS.More
import HandS.CallLocal
import HandS.Zip
import KE.SortKeyHeap
import HandS.Sort
import HandS.SortKw
import HandS.Conv
import HandS.Nested
import Open.SpecLaws
import KE.OsGo
import HandS.Codes
import HandS.Comp
import HandS.Walk
import HandS.Iter
import PySem.Challenge.RW_matchedhides_s01_answers
set_option Elab.async false
set_option maxRecDepth 100000
set_option maxHeartbeats 4000000
/-! Pure mathematics about the specification's own functions: the hide order is the one sorted arrangement; the greedy lots are one fold. -/
namespace KM
open Kp394

/-! ### the hide order -/
/-- kind, thickness, number of a hide, as one order -/
def lt3 (v : Inventory) (i j : Nat) : Prop := (hideAt v i).kind < (hideAt v j).kind ∨ ((hideAt v i).kind = (hideAt v j).kind ∧ ((hideAt v i).thickness < (hideAt v j).thickness ∨ ((hideAt v i).thickness = (hideAt v j).thickness ∧ i < j)))
theorem before_iff {v : Inventory} {i j : Nat} : comesBefore v i j = true ↔ lt3 v i j := by
  unfold comesBefore lt3
  simp only [Bool.or_eq_true, Bool.and_eq_true, decide_eq_true_eq, beq_iff_eq]
theorem lt3_trans {v : Inventory} {i j k : Nat} (h : lt3 v i j) (h' : lt3 v j k) : lt3 v i k := by
  unfold lt3 at *
  omega
theorem lt3_tri {v : Inventory} {i j : Nat} (h : ¬ lt3 v i j) (n : i ≠ j) : lt3 v j i := by
  unfold lt3 at *
  omega
theorem lt3_asymm {v : Inventory} {i j : Nat} (h : lt3 v i j) (h' : lt3 v j i) : False := by
  unfold lt3 at *
  omega
theorem insert_perm (v : Inventory) (i : Nat) : ∀ l : List Nat, (insertHide v i l).Perm (i :: l)
  | [] => List.Perm.refl _
  | j :: r => by
    unfold insertHide
    split
    · exact List.Perm.refl _
    · exact ((insert_perm v i r).cons j).trans (List.Perm.swap i j r)
theorem insert_sorted (v : Inventory) (i : Nat) : ∀ l : List Nat, i ∉ l → l.Pairwise (lt3 v) → (insertHide v i l).Pairwise (lt3 v)
  | [], _, _ => by
    unfold insertHide
    simp
  | j :: r, n, h => by
    have hj := List.pairwise_cons.mp h
    unfold insertHide
    split
    · rename_i c
      have c' := before_iff.mp c
      refine List.pairwise_cons.mpr ⟨fun x hx => ?_, h⟩
      rcases List.mem_cons.mp hx with e | m
      · rw [e]
        exact c'
      · exact lt3_trans c' (hj.1 x m)
    · rename_i c
      have c' : lt3 v j i := lt3_tri (fun z => c (before_iff.mpr z)) fun z => n (by rw [z]; exact List.mem_cons_self ..)
      refine List.pairwise_cons.mpr ⟨fun x hx => ?_, insert_sorted v i r (fun z => n (List.mem_cons_of_mem _ z)) hj.2⟩
      rcases List.mem_cons.mp ((insert_perm v i r).mem_iff.mp hx) with e | m
      · rw [e]
        exact c'
      · exact hj.1 x m
theorem foldr_insert (v : Inventory) : ∀ l : List Nat, l.Nodup → (l.foldr (insertHide v) []).Perm l ∧ (l.foldr (insertHide v) []).Pairwise (lt3 v)
  | [], _ => ⟨List.Perm.refl _, List.Pairwise.nil⟩
  | i :: r, h => by
    have hn := List.nodup_cons.mp h
    obtain ⟨h1, h2⟩ := foldr_insert v r hn.2
    refine ⟨(insert_perm v i _).trans (h1.cons i), insert_sorted v i _ (fun z => hn.1 (h1.mem_iff.mp z)) h2⟩
theorem order_perm (v : Inventory) : (hideOrder v).Perm (List.range v.hides.length) := (foldr_insert v _ List.nodup_range).1
theorem order_sorted (v : Inventory) : (hideOrder v).Pairwise (lt3 v) := (foldr_insert v _ List.nodup_range).2
theorem order_len (v : Inventory) : (hideOrder v).length = v.hides.length := by
  rw [(order_perm v).length_eq, List.length_range]
theorem order_mem {v : Inventory} {i : Nat} : i ∈ hideOrder v ↔ i < v.hides.length := by
  rw [(order_perm v).mem_iff, List.mem_range]
theorem order_nodup (v : Inventory) : (hideOrder v).Nodup := (order_perm v).nodup_iff.mpr List.nodup_range
/-- two arrangements of the same numbers, both in order, are one -/
theorem sorted_one {v : Inventory} : ∀ {l k : List Nat}, l.Perm k → l.Pairwise (lt3 v) → k.Pairwise (lt3 v) → l = k
  | [], k, p, _, _ => (List.nil_perm.mp p).symm
  | i :: l, [], p, _, _ => absurd p.length_eq (by simp)
  | i :: l, j :: k, p, hl, hk => by
    have hl' := List.pairwise_cons.mp hl
    have hk' := List.pairwise_cons.mp hk
    have e : i = j := by
      by_cases e : i = j
      · exact e
      · have m1 : i ∈ k := (List.mem_cons.mp (p.mem_iff.mp (List.mem_cons_self ..))).resolve_left e
        have m2 : j ∈ l := (List.mem_cons.mp (p.mem_iff.mpr (List.mem_cons_self ..))).resolve_left (Ne.symm e)
        exact (lt3_asymm (hl'.1 j m2) (hk'.1 i m1)).elim
    subst e
    rw [sorted_one (List.perm_cons i |>.mp p) hl'.2 hk'.2]
theorem order_unique {v : Inventory} {l : List Nat} (p : l.Perm (List.range v.hides.length)) (h : l.Pairwise (lt3 v)) : l = hideOrder v :=
  sorted_one (p.trans (order_perm v).symm) h (order_sorted v)
/-- .. by an order that is told with ≤: sorted without a swap -/
theorem order_of_le {v : Inventory} {l : List Nat} (p : l.Perm (List.range v.hides.length)) (h : l.Pairwise fun i j => lt3 v i j ∨ i = j) : l = hideOrder v := by
  refine order_unique p ?_
  have n : l.Nodup := p.nodup_iff.mpr List.nodup_range
  exact (List.Pairwise.and h n).imp fun ⟨a, b⟩ => a.resolve_right b
/-- the order hangs on the hides alone -/
theorem order_hides {v u : Inventory} (e : v.hides = u.hides) : hideOrder v = hideOrder u := by
  refine order_unique (by rw [← e]; exact order_perm v) ?_
  have he : ∀ i, hideAt v i = hideAt u i := fun i => by
    unfold hideAt
    rw [e]
  refine (order_sorted v).imp fun {a b} h => ?_
  unfold lt3 at *
  rw [← he, ← he]
  exact h

/-! ### the greedy lots, as one fold that starts with no lot -/
def lotStep (v : Inventory) (lots : List (List Nat)) (j : Nat) : List (List Nat) := match lots.getLast? with
  | none => lots ++ [[j]]
  | some l => if isLot v (l ++ [j]) then lots.dropLast ++ [l ++ [j]] else lots ++ [[j]]
theorem lotStep_none {v : Inventory} {j : Nat} : lotStep v [] j = [[j]] := rfl
theorem lotStep_snoc {v : Inventory} {ls : List (List Nat)} {l : List Nat} {j : Nat} : lotStep v (ls ++ [l]) j = if isLot v (l ++ [j]) then ls ++ [l ++ [j]] else (ls ++ [l]) ++ [[j]] := by
  unfold lotStep
  rw [List.getLast?_append, List.getLast?_singleton]
  simp
theorem lots_fold (v : Inventory) : ∀ (rest : List Nat) (ls : List (List Nat)) (l : List Nat),
    (rest.foldl (fun (lots : List (List Nat) × List Nat) (j : Nat) => if isLot v (lots.2 ++ [j]) then (lots.1, lots.2 ++ [j]) else (lots.1 ++ [lots.2], [j])) (ls, l)).1 ++
      [(rest.foldl (fun (lots : List (List Nat) × List Nat) (j : Nat) => if isLot v (lots.2 ++ [j]) then (lots.1, lots.2 ++ [j]) else (lots.1 ++ [lots.2], [j])) (ls, l)).2] = rest.foldl (lotStep v) (ls ++ [l])
  | [], _, _ => rfl
  | j :: r, ls, l => by
    rw [List.foldl_cons, List.foldl_cons, lotStep_snoc]
    by_cases c : isLot v (l ++ [j]) = true
    · rw [if_pos c, if_pos c]
      exact lots_fold v r ls (l ++ [j])
    · rw [if_neg c, if_neg c]
      exact lots_fold v r (ls ++ [l]) [j]
theorem greedy_fold (v : Inventory) : greedyLots v = (hideOrder v).foldl (lotStep v) [] := by
  unfold greedyLots
  cases hideOrder v with
  | nil => rfl
  | cons i rest => exact lots_fold v rest [] [i]
/-- each lot is there for some hide, and holds hides of the order alone -/
theorem fold_mem (v : Inventory) (P : Nat → Prop) : ∀ (l : List Nat) (ls : List (List Nat)), (∀ j ∈ l, P j) → (∀ x ∈ ls, ∀ j ∈ x, P j) → ∀ x ∈ l.foldl (lotStep v) ls, ∀ j ∈ x, P j
  | [], _, _, h => h
  | j :: r, ls, hl, h => by
    rw [List.foldl_cons]
    refine fold_mem v P r _ (fun k hk => hl k (List.mem_cons_of_mem _ hk)) ?_
    have hj := hl j (List.mem_cons_self ..)
    rcases List.eq_nil_or_concat ls with e | ⟨ks, k, e⟩
    · subst e
      rw [lotStep_none]
      intro x hx i hi
      obtain rfl := List.mem_singleton.mp hx
      obtain rfl := List.mem_singleton.mp hi
      exact hj
    · subst e
      rw [List.concat_eq_append] at h ⊢
      rw [lotStep_snoc]
      split
      · intro x hx i hi
        rcases List.mem_append.mp hx with m | m
        · exact h x (List.mem_append_left _ m) i hi
        · obtain rfl := List.mem_singleton.mp m
          rcases List.mem_append.mp hi with m | m
          · exact h k (List.mem_append_right _ (List.mem_singleton.mpr rfl)) i m
          · obtain rfl := List.mem_singleton.mp m
            exact hj
      · intro x hx i hi
        rcases List.mem_append.mp hx with m | m
        · exact h x m i hi
        · obtain rfl := List.mem_singleton.mp m
          obtain rfl := List.mem_singleton.mp hi
          exact hj
theorem greedy_mem {v : Inventory} {x : List Nat} (h : x ∈ greedyLots v) : ∀ j ∈ x, j < v.hides.length := by
  rw [greedy_fold] at h
  exact fold_mem v (· < v.hides.length) _ _ (fun j hj => order_mem.mp hj) (fun x hx => absurd hx (by simp)) x h
end KM
namespace KM
open Kp394

/-! ### the list of calls: one record a call -/
/-- a call's number and its whole numbers, as they lie in the list -/
def enc (r : Int × List Int) : List Int := r.1 :: (r.2.length : Int) :: (r.2 ++ [0])
theorem enc_len (r : Int × List Int) : (enc r).length = r.2.length + 3 := by
  unfold enc
  simp
def encs (rs : List (Int × List Int)) : List Int := rs.flatMap enc
theorem encs_cons (r : Int × List Int) (rs : List (Int × List Int)) : encs (r :: rs) = enc r ++ encs rs := rfl
theorem encs_append (a b : List (Int × List Int)) : encs (a ++ b) = encs a ++ encs b := List.flatMap_append ..
def okRec (r : Int × List Int) : Prop := Kp394Neutral.asked1 [r.1 :: r.2] = true
theorem asked1_one {p : Int} {ns : List Int} {x : List Int} {xs : List (List Int)} : Kp394Neutral.asked1 ((p :: ns) :: x :: xs) = false := by
  unfold Kp394Neutral.asked1
  split <;> simp_all
theorem rows_len : ∀ (k : Nat) (l : List Int) (xs : List (List Int)) (t : List Int), PyFlat.rows k l = some (xs, t) → xs.length = k
  | 0, l, xs, t, h => by
    unfold PyFlat.rows at h
    cases h
    rfl
  | k + 1, l, xs, t, h => by
    unfold PyFlat.rows at h
    split at h
    · cases h
    · split at h
      · cases h
      · rename_i e
        cases h
        rw [List.length_cons, rows_len k _ _ _ e]
/-- one call, as the program reads it -/
theorem call_is {l : List Int} {c : List (List Int)} {t : List Int} (h : PyWide.call l = some (c, t)) (ha : Kp394Neutral.asked1 c = true) : ∃ r : Int × List Int, l = enc r ++ t ∧ c = [r.1 :: r.2] := by
  match l, h with
  | p :: q, h =>
    unfold PyWide.call at h
    dsimp only at h
    cases e : PyFlat.row q with
    | none =>
      rw [e] at h
      cases h
    | some z =>
      obtain ⟨ns, u⟩ := z
      rw [e] at h
      cases u with
      | nil => cases h
      | cons k t' =>
        dsimp only at h
        by_cases hk : 0 ≤ k
        · rw [if_pos hk] at h
          cases er : PyFlat.rows k.toNat t' with
          | none =>
            rw [er] at h
            cases h
          | some z =>
            obtain ⟨xs, u⟩ := z
            rw [er] at h
            cases h
            cases xs with
            | cons x xs =>
              rw [asked1_one] at ha
              cases ha
            | nil =>
              have k0 := rows_len _ _ _ _ er
              have k1 : k = 0 := by
                have : k.toNat = 0 := k0.symm
                omega
              subst k1
              have eu : t = t' := by
                have er' : PyFlat.rows 0 t' = some ([], t) := er
                unfold PyFlat.rows at er'
                cases er'
                rfl
              subst eu
              refine ⟨(p, ns), ?_, rfl⟩
              match q, e with
              | n :: r, e =>
                unfold PyFlat.row at e
                dsimp only at e
                by_cases c : 0 ≤ n ∧ n.toNat ≤ r.length
                · rw [if_pos c] at e
                  injection e with e
                  injection e with e1 e2
                  have hl : ns.length = n.toNat := by
                    rw [← e1, List.length_take, Nat.min_eq_left c.2]
                  have hn : (ns.length : Int) = n := by omega
                  unfold enc
                  dsimp only
                  rw [hn]
                  have er2 : r = ns ++ (0 :: t) := by
                    rw [← e1, ← e2, List.take_append_drop]
                  rw [er2]
                  simp
                · rw [if_neg c] at e
                  cases e
        · rw [if_neg hk] at h
          cases h
theorem calls_are : ∀ (f : Nat) (l : List Int) (cs : List (List (List Int))), PyWide.calls f l = some cs → (∀ c ∈ cs, Kp394Neutral.asked1 c = true) →
    ∃ rs : List (Int × List Int), l = encs rs ∧ cs = rs.map (fun r => [r.1 :: r.2]) ∧ ∀ r ∈ rs, okRec r
  | f, [], cs, h, _ => by
    refine ⟨[], rfl, ?_, fun r hr => absurd hr (by simp)⟩
    unfold PyWide.calls at h
    cases f <;> (cases h; rfl)
  | 0, p :: r, cs, h, _ => by
    unfold PyWide.calls at h
    cases h
  | f + 1, p :: r, cs, h, ha => by
    unfold PyWide.calls at h
    cases e : PyWide.call (p :: r) with
    | none =>
      rw [e] at h
      cases h
    | some z =>
      obtain ⟨c, t⟩ := z
      rw [e] at h
      dsimp only at h
      cases e2 : PyWide.calls f t with
      | none =>
        rw [e2] at h
        cases h
      | some ds =>
        rw [e2] at h
        cases h
        have hc := ha c (List.mem_cons_self ..)
        obtain ⟨x, e3, e4⟩ := call_is e hc
        obtain ⟨rs, e5, e6, e7⟩ := calls_are f t ds e2 fun d hd => ha d (List.mem_cons_of_mem _ hd)
        refine ⟨x :: rs, ?_, ?_, fun y hy => ?_⟩
        · rw [encs_cons, ← e5]
          exact e3
        · rw [List.map_cons, ← e6, ← e4]
        · rcases List.mem_cons.mp hy with q | m
          · rw [q]
            unfold okRec
            rw [← e4]
            exact hc
          · exact e7 y m
/-- one call from a state: the state behind it, its answer -/
def step1 (s : State) (r : Int × List Int) : State × List Int := Kp394Neutral.step s [r.1 :: r.2]
/-- the answers of the first calls, as they are told -/
def toldOf : State → List (Int × List Int) → List Int
  | _, [] => []
  | s, r :: rs => ((step1 s r).2.length : Int) :: (step1 s r).2 ++ toldOf (step1 s r).1 rs
def stateOf : State → List (Int × List Int) → State
  | s, [] => s
  | s, r :: rs => stateOf (step1 s r).1 rs
theorem told_is : ∀ (s : State) (rs : List (Int × List Int)), PyFlat.told (PyFlat.played Kp394Neutral.step s (rs.map fun r => [r.1 :: r.2])) = toldOf s rs
  | _, [] => rfl
  | s, r :: rs => by
    have ih := told_is (step1 s r).1 rs
    show _ :: _ ++ _ = _
    unfold toldOf
    rw [← ih]
    rfl
theorem toldOf_snoc : ∀ (s : State) (rs : List (Int × List Int)) (r : Int × List Int), toldOf s (rs ++ [r]) = toldOf s rs ++ (((step1 (stateOf s rs) r).2.length : Int) :: (step1 (stateOf s rs) r).2)
  | s, [], r => by simp [toldOf, stateOf]
  | s, q :: rs, r => by
    rw [List.cons_append]
    unfold toldOf stateOf
    rw [toldOf_snoc]
    simp
theorem stateOf_snoc : ∀ (s : State) (rs : List (Int × List Int)) (r : Int × List Int), stateOf s (rs ++ [r]) = (step1 (stateOf s rs) r).1
  | s, [], r => rfl
  | s, q :: rs, r => by
    rw [List.cons_append]
    unfold stateOf
    rw [stateOf_snoc]
theorem asked_is {l : List Int} (h : PyKp394.answers_asked l = true) : ∃ rs : List (Int × List Int), l = encs rs ∧ rs.length ≤ 60 ∧ (∀ r ∈ rs, okRec r) ∧ PyKp394.answers l = toldOf none rs ∧ (toldOf none rs).length ≤ 10000000 := by
  unfold PyKp394.answers_asked at h
  cases e : PyKp394.calls l with
  | none =>
    rw [e] at h
    cases h
  | some cs =>
    rw [e] at h
    dsimp only at h
    simp only [Bool.and_eq_true] at h
    obtain ⟨⟨h1, h2⟩, h3⟩ := h
    unfold Kp394Neutral.asked at h2
    simp only [Bool.and_eq_true, decide_eq_true_eq, List.all_eq_true] at h2
    obtain ⟨rs, e1, e2, e3⟩ := calls_are _ l cs e h2.2.2
    have ans : PyKp394.answers l = toldOf none rs := by
      unfold PyKp394.answers
      rw [e]
      dsimp only
      rw [e2]
      exact told_is _ _
    refine ⟨rs, e1, ?_, e3, ans, ?_⟩
    · have := h2.2.1
      rw [e2, List.length_map] at this
      exact this
    · rw [← ans]
      exact of_decide_eq_true h3
/-- what the first calls answer stands ahead -/
theorem toldOf_append : ∀ (s : State) (a b : List (Int × List Int)), toldOf s (a ++ b) = toldOf s a ++ toldOf (stateOf s a) b
  | _, [], _ => rfl
  | s, r :: a, b => by
    rw [List.cons_append]
    show ((step1 s r).2.length : Int) :: (step1 s r).2 ++ toldOf (step1 s r).1 (a ++ b) = (((step1 s r).2.length : Int) :: (step1 s r).2 ++ toldOf (step1 s r).1 a) ++ toldOf (stateOf (step1 s r).1 a) b
    rw [toldOf_append _ a b, List.append_assoc]
end KM
/-! # Rules of my own: a table of the top by whole numbers, a def out of it called, how many different whole numbers a list has -/
namespace KR
open PySem PySem.Spec PyProof.Rows L2

/-! ### xs[i], xs a dict of the top whose keys are whole numbers -/
def IntKeys : List DictEntry → Prop
  | [] => True
  | e :: r => (∃ i t, e.key = .int i t ∧ e.hash = hashInt i) ∧ IntKeys r
theorem intKeys_at : ∀ {l : List DictEntry}, IntKeys l → ∀ e ∈ l, ∃ i t, e.key = .int i t ∧ e.hash = hashInt i
  | e :: r, ⟨h, q⟩, d, m => by
    rcases List.mem_cons.mp m with z | z
    · rw [z]
      exact h
    · exact intKeys_at q d z
/-- in what the top wrote there is a dict at a; it holds v at i -/
def Row (K : PySem.W.Frag) (a : Addr) (i : Int) (v : V) : Prop :=
  ∃ es n u, K.lookup a = some ⟨.type "dict", none, .dict es n, #[]⟩ ∧ IntKeys es.toList ∧ findBy Value.isInt es i = some u ∧ RelV v u
def rRow (K : PySem.W.Frag) : R2 := fun x y H Q => ∃ a i v, x = .ref a ∧ y = .int i ∧ Row K a i v ∧ Q v H
theorem ix_row {X : Cx} : IxR X (rRow X.K) := by
  intro value slice pins s σ H x y v u Q I rx ry h hs
  obtain ⟨a, i, r, rfl, rfl, ⟨es, n, w, look, keys, found, rel⟩, q⟩ := h
  obtain rfl : v = Value.ref a := rx
  obtain ⟨t, rfl⟩ := ry
  have map : s.heap.MapOf (intKind X.prog X.w) a fun k => findBy Value.isInt es k := by
    refine ⟨_, es, n, I.kIn _ _ look, ⟨rfl, rfl, rfl⟩, rfl, fun e he => ?_, fun _ => rfl⟩
    obtain ⟨i, t, e1, e2⟩ := intKeys_at keys e (Array.mem_toList_iff.mpr he)
    exact ⟨i, by rw [e1]; exact intKind_is _ _ i t, e2⟩
  have got := wpAny_getItem_of (A := X.A) (E := X.xe) (Q := EP X pins σ Q) (intKind_is X.prog X.w i t) map found ⟨r, H, I.tok _, rel, q⟩
  exact tail_any map.typeIs slot_dict_getitem.lookup got hs

/-! ### f(..), f a local name that holds one of several defs, which may raise -/
/-- the def at f keeps sp -/
structure Holds (P : Program) (w : World) (K : PySem.W.Frag) (mg : Str → Option Value) (base : Heap) (k : Nat) (f : Addr) (sp : Sp) : Prop where
  ex : ∃ (fd : FuncData) (ps : List Str), FnOk P w K mg base (L2.CX P w) k f fd ps sp ∧ PySem.W.keepIn K (.ref f) = true ∧ Binds K fd ps []
/-- Is f x: f is the def that the table has for x, whose promise is sp x -/
def tOneOf {ι : Type} (i : Nat) (Is : Addr → ι → Prop) (sp : ι → Sp) (E : XK) (t : TA) : TE := fun σ H Q => ∃ f x, σ[i]? = some (some (.ref f)) ∧ Is f x ∧ t σ H fun vs H1 => sp x vs H1 Q E
theorem pe_oneOf {ι : Type} {Is : Addr → ι → Prop} {sp : ι → Sp} {X : Cx} {k i : Nat} {x : Str} {p pos : Pos} {e : Expr} {es : List Expr} {t : TA} {E : XK} (A : ∀ f x, Is f x → Holds X.prog X.w X.K X.mg X.base k f (sp x)) (hr : Room k X.A) (hN : X.N[i]? = some x) (hv : Vis X.env.scope x)
    (pass : Passes (L2.CX X.prog X.w) X E) (ha : PA X (e :: es) t) (n1 : (x == ("__debug__" : Str)) = false := by decide) (n2 : (x == ("__classdict__" : Str)) = false := by decide)
    (first : starEach (e :: es) X.env = (false, eval e X.env) :: starEach es X.env := by rfl) (plain : (backTo pos (starEach es X.env)).any (·.1) = false := by rfl) : PE X (.Call (.Name x p) (e :: es) [] pos) (tOneOf i Is sp E t) := by
  constructor
  intro pins s σ H Q I h
  obtain ⟨f, y, at_, is, h⟩ := h
  obtain ⟨fd, ps, F, kept, bind⟩ := (A f y is).ex
  have rule := pe_callL (i := i) (p := p) (dvs := []) F hr hN hv kept bind .nil pass ha n1 n2 first plain
  refine rule.run pins s σ H Q I ⟨at_, ?_⟩
  have e0 : (fun (vs : List V) (H1 : Hp) => sp y (vs ++ []) H1 Q E) = fun vs H1 => sp y vs H1 Q E := by
    funext vs H1
    rw [List.append_nil]
  rw [e0]
  exact h

/-! ### a def by its name -/
/-- the module's x is a def that keeps sp; no error leaves it (CX0), or some may -/
structure Def (P : Program) (w : World) (K : PySem.W.Frag) (mg : Str → Option Value) (base : Heap) (CX : CXT) (k : Nat) (x : Str) (sp : Sp) : Prop where
  ex : ∃ (f : Addr) (fd : FuncData) (ps : List Str), FnOk P w K mg base CX k f fd ps sp ∧ mg x = some (.ref f) ∧ PySem.W.keepIn K (.ref f) = true ∧ Binds K fd ps []
/-- a method of the class at C -/
structure Mth (P : Program) (w : World) (K : PySem.W.Frag) (mg : Str → Option Value) (base : Heap) (CX : CXT) (k : Nat) (C : Addr) (m : Str) (sp : Sp) : Prop where
  ex : ∃ (f : Addr) (fd : FuncData) (ps : List Str), Cls K C ∧ Meth K C m f ∧ FnOk P w K mg base CX k f fd ps sp ∧ Binds K fd ps []
/-- a class whose __init__ keeps sp -/
structure Maker (P : Program) (w : World) (K : PySem.W.Frag) (mg : Str → Option Value) (base : Heap) (k : Nat) (x : Str) (C : Addr) (sp : Sp) : Prop where
  ex : ∃ (f : Addr) (fd : FuncData) (ps : List Str), Mk K C f ∧ FnOk P w K mg base L2.CX0 k f fd ps sp ∧ mg x = some (.ref C) ∧ Binds K fd ps []
section
variable {X : Cx} {CX : CXT} {j k : Nat} {C : Addr} {x m : Str} {sp : Sp} {E : XK} {p pos apos : Pos} {e o : Expr} {es : List Expr} {t : TA} {ta : TE}
theorem pe_def (D : Def X.prog X.w X.K X.mg X.base CX j x sp) (hr : Room k X.A) (hg : Gl X x) (pass : Passes CX X E) (ha : PA X (e :: es) t) (le : j ≤ k := by decide) (dbg : (x == ("__debug__" : Str)) = false := by decide)
    (first : starEach (e :: es) X.env = (false, eval e X.env) :: starEach es X.env := by rfl) (plain : (backTo pos (starEach es X.env)).any (·.1) = false := by rfl) : PE X (.Call (.Name x p) (e :: es) [] pos) (tCall sp [] E t) := by
  obtain ⟨f, fd, ps, F, g, kp, b⟩ := D.ex
  exact pe_call F (hr.mono le) hg g kp b .nil pass ha dbg first plain
theorem pe_mth {pl : Sem Bool} (he : PE X o ta) (D : Mth X.prog X.w X.K X.mg X.base CX j C m sp) (hr : Room k X.A) (pass : Passes CX X E) (ha : PA X (e :: es) t) (le : j ≤ k := by decide)
    (first : starEach (e :: es) X.env = (false, eval e X.env) :: starEach es X.env := by rfl) (plain : (backTo pos (starEach es X.env)).any (·.1) = false := by rfl)
    (tree : eval (.Call (.Attribute o m apos) (e :: es) [] pos) X.env = (do
      let ov ← eval o X.env
      standAt apos.atName
      let (f, first) ← holding [ov] (getMethod ov m pl)
      callWith pos f first (backTo pos (starEach (e :: es) X.env)) (backToKw pos (keywordEach [] X.env))) := by rfl) :
    PE X (.Call (.Attribute o m apos) (e :: es) [] pos) (tMeth C m sp [] E ta t) := by
  obtain ⟨f, fd, ps, c, M, F, b⟩ := D.ex
  exact pe_meth he c M F (hr.mono le) b .nil pass ha first plain tree
theorem pe_mth0 {pl : Sem Bool} (he : PE X o ta) (D : Mth X.prog X.w X.K X.mg X.base CX j C m sp) (hr : Room k X.A) (pass : Passes CX X E) (le : j ≤ k := by decide)
    (tree : eval (.Call (.Attribute o m apos) [] [] pos) X.env = (do
      let ov ← eval o X.env
      standAt apos.atName
      let (f, first) ← holding [ov] (getMethod ov m pl)
      callWith pos f first (backTo pos (starEach [] X.env)) (backToKw pos (keywordEach [] X.env))) := by rfl) :
    PE X (.Call (.Attribute o m apos) [] [] pos) (tMeth C m sp [] E ta tNil) := by
  obtain ⟨f, fd, ps, c, M, F, b⟩ := D.ex
  exact pe_meth0 he c M F (hr.mono le) b .nil pass tree
theorem pe_maker (D : Maker X.prog X.w X.K X.mg X.base j x C sp) (hr : Room k X.A) (hg : Gl X x) (ha : PA X (e :: es) t) (le : j + 1 ≤ k := by decide) (dbg : (x == ("__debug__" : Str)) = false := by decide)
    (first : starEach (e :: es) X.env = (false, eval e X.env) :: starEach es X.env := by rfl) (plain : (backTo pos (starEach es X.env)).any (·.1) = false := by rfl) : PE X (.Call (.Name x p) (e :: es) [] pos) (tMake C sp [] E0 t) := by
  obtain ⟨f, fd, ps, M, F, g, b⟩ := D.ex
  exact pe_make M F (hr.mono le) hg g b .nil pass0 ha dbg first plain
theorem pe_maker0 (D : Maker X.prog X.w X.K X.mg X.base j x C sp) (hr : Room k X.A) (hg : Gl X x) (le : j + 1 ≤ k := by decide) (dbg : (x == ("__debug__" : Str)) = false := by decide) : PE X (.Call (.Name x p) [] [] pos) (tMake C sp [] E0 tNil) := by
  obtain ⟨f, fd, ps, M, F, g, b⟩ := D.ex
  exact pe_make0 M F (hr.mono le) hg g b .nil pass0 dbg
end

/-! ### len(set(xs)), xs whole numbers -/
/-- how many different numbers a list holds -/
def differ : List Int → Nat
  | [] => 0
  | n :: r => if n ∈ r then differ r else differ r + 1
theorem differ_le : ∀ l : List Int, differ l ≤ l.length
  | [] => Nat.le_refl _
  | n :: r => by
    have ih := differ_le r
    unfold differ
    rw [List.length_cons]
    split <;> omega
theorem differ_lt : ∀ {l : List Int}, differ l < l.length ↔ ¬ l.Nodup
  | [] => by simp [differ]
  | n :: r => by
    have ih := @differ_lt r
    have le := differ_le r
    unfold differ
    rw [List.length_cons, List.nodup_cons]
    by_cases h : n ∈ r
    · rw [if_pos h]
      constructor
      · intro _ z
        exact z.1 h
      · intro _
        omega
    · rw [if_neg h]
      constructor
      · intro z w
        have := ih.mp (by omega)
        exact this w.2
      · intro z
        have := ih.mpr fun w => z ⟨h, w⟩
        omega
theorem dedup_len (acc : List Int) (n : Int) : (PyProof.Rows.step_dedup acc n) = if n ∈ acc then acc else acc ++ [n] := by
  unfold PyProof.Rows.step_dedup
  by_cases h : n ∈ acc
  · rw [if_pos h, if_pos (show (acc.any fun x => x == n) = true from List.any_eq_true.mpr ⟨n, h, beq_self_eq_true n⟩)]
  · rw [if_neg h, if_neg]
    intro z
    obtain ⟨y, hy, e⟩ := List.any_eq_true.mp z
    rw [eq_of_beq e] at hy
    exact h hy
theorem dedup_fold : ∀ (l acc : List Int), acc.Nodup → (l.foldl PyProof.Rows.step_dedup acc).Nodup ∧ (∀ x, x ∈ l.foldl PyProof.Rows.step_dedup acc ↔ x ∈ acc ∨ x ∈ l)
  | [], acc, h => ⟨h, fun x => by simp⟩
  | n :: r, acc, h => by
    rw [List.foldl_cons, dedup_len]
    by_cases m : n ∈ acc
    · rw [if_pos m]
      obtain ⟨h1, h2⟩ := dedup_fold r acc h
      refine ⟨h1, fun x => (h2 x).trans ?_⟩
      rw [List.mem_cons]
      constructor
      · rintro (z | z)
        · exact .inl z
        · exact .inr (.inr z)
      · rintro (z | z | z)
        · exact .inl z
        · rw [z]
          exact .inl m
        · exact .inr z
    · rw [if_neg m]
      have h' : (acc ++ [n]).Nodup := by
        rw [List.nodup_append]
        refine ⟨h, by simp, fun a ha b hb => ?_⟩
        obtain rfl := List.mem_singleton.mp hb
        rintro rfl
        exact m ha
      obtain ⟨h1, h2⟩ := dedup_fold r _ h'
      refine ⟨h1, fun x => (h2 x).trans ?_⟩
      rw [List.mem_append, List.mem_singleton, List.mem_cons, or_assoc]
theorem differ_of : ∀ (l m : List Int), m.Nodup → (∀ x, x ∈ m ↔ x ∈ l) → m.length = differ l
  | [], m, _, h => by
    have e : m = [] := List.eq_nil_iff_forall_not_mem.mpr fun x hx => absurd ((h x).mp hx) (by simp)
    rw [e]
    rfl
  | n :: r, m, nd, h => by
    unfold differ
    by_cases c : n ∈ r
    · rw [if_pos c]
      refine differ_of r m nd fun x => (h x).trans ?_
      rw [List.mem_cons]
      constructor
      · rintro (z | z)
        · rw [z]
          exact c
        · exact z
      · exact .inr
    · rw [if_neg c]
      have hm : n ∈ m := (h n).mpr (List.mem_cons_self ..)
      have e := differ_of r (m.erase n) (nd.erase n) fun x => by
        rw [nd.mem_erase_iff, h x, List.mem_cons]
        constructor
        · rintro ⟨z, w⟩
          exact w.resolve_left z
        · intro z
          exact ⟨fun e => c (by rw [← e]; exact z), .inr z⟩
      have pos : 0 < m.length := List.length_pos_of_mem hm
      rw [List.length_erase_of_mem hm] at e
      omega
theorem met_len (ns : List Int) : (PyProof.Rows.firstMet (fun i => ns.getD i 0) ns.length).length = differ ns := by
  have e : (List.range ns.length).map (fun i => ns.getD i 0) = ns := by
    apply List.ext_getElem
    · simp
    · intro i h1 h2
      simp [List.getElem_map, List.getD_eq_getElem?_getD, List.getElem?_eq_getElem h2]
  unfold PyProof.Rows.firstMet
  rw [e]
  obtain ⟨h1, h2⟩ := dedup_fold ns [] List.nodup_nil
  exact differ_of ns _ h1 fun x => by simp [h2 x]
def tDiffer (K : PySem.W.Frag) (ta : TE) : TE := fun σ H Q => ta σ H fun x H1 => ∃ (l : Addr) (ns : List Int), x = .ref l ∧ SqL K H1 l (ns.map V.int) ∧ ns.length ≤ 4000 ∧ Q (.int (differ ns : Nat)) H1
theorem pe_differ {X : Cx} {a : Expr} {ta : TE} {p p2 q pos : Pos} (g1 : Gl X "len") (m1 : X.mg "len" = none) (g2 : Gl X "set") (m2 : X.mg "set" = none) (ha : PE X a ta) (calm : X.calm = true := by rfl)
    (one : starEach [a] X.env = (false, eval a X.env) :: starEach [] X.env := by rfl) : PE X (.Call (.Name "len" p) [.Call (.Name "set" p2) [a] [] q] [] pos) (tDiffer X.K ta) := by
  constructor
  intro pins s σ H Q I h
  refine Call_ (ld_blt I g1 m1 boot_len (PyProof.Rows.callWith_builtin1 (PyProof.Rows.args_cons (Call_ (ld_blt I g2 m2 boot_set ?_)) rfl) rfl rfl))
  refine PyProof.Rows.callWith_type1 (PyProof.Rows.args_cons (thn (ha.run pins s σ H _ I h) fun v s1 z => PyProof.Rows.args_nil ?_) one) one rfl
  obtain ⟨x, H1, I1, rx, l, ns, rfl, sq, small, z⟩ := z
  obtain rfl : v = Value.ref l := rx
  obtain ⟨its, rv, pl, _⟩ := I1.list sq
  have size : its.toArray.size = ns.length := by
    have e := rv.length
    rw [List.length_map] at e
    rw [List.size_toArray, ← e]
  have hi : PyProof.Rows.IntsAre its.toArray.toList ns := by
    rw [List.toList_toArray]
    exact RZ.intsAre_vals rv
  refine call_set_list (I1.ok.hd calm) pl.isList hi (by rw [size]; unfold scanBound; omega) fun h' tk st kp => PyProof.Rows.args_nil ?_
  rw [size] at st
  obtain ⟨o, es, ep, t, ho, hex, hd, _, _, _, hf, hn⟩ := st
  rw [met_len] at hn
  have le := differ_le ns
  have I2 : Inv X pins σ H1 { s1 with heap := h', toks := tk } := I1.kept fun b o e => kp b o (Heap.lt_size e) e
  exact call_len_set ho hex hd hf (by rw [hn]; omega) ⟨.int (differ ns : Nat), H1, I2.tok _, ⟨_, by rw [hn]⟩, z⟩
/-! ### raise X(), X an own error class without __init__ -/
/-- the module's x is such a class, at C -/
structure Err (K : PySem.W.Frag) (mg : Str → Option Value) (x : Str) (C : Addr) : Prop where
  at_ : mg x = some (.ref C)
  exc : PySem.W.excIn K C [.type "Exception", .type "BaseException", .type "object"] "Exception.__new__" = true
  kept : PySem.W.keepIn K (.ref C) = true
  base : PySem.W.subIn K (.ref C) (.type "BaseException") = some true
  meta_ : PySem.W.typeIn K (.ref C) = some (.type "type")
theorem pmk_none {X : Cx} {x : Str} {C : Addr} {p pos : Pos} (T : Err X.K X.mg x C) (hg : Gl X x) (dbg : (x == ("__debug__" : Str)) = false := by decide) : PMk X (.Call (.Name x p) [] [] pos) (fun _ H Q => Q (.ref C) none H) := by
  intro pins s σ H Q I h
  refine wpAny_Call_Name_kw (ld_glob I hg T.at_ (PySem.W.callWith_K0 I.kIn T.kept ?_) dbg)
  obtain ⟨_, _, _, _, _, _, _, _, _, _, _, _, _, _, _, _, _, c1, c2, c3, c4⟩ := exc_obj I.kIn T.exc
  exact wpAny_call_exc_subT PySem.F.excBase_Exception c4 c1 c2 c3 (fun h' e made => mk_of I made (raises_own T.base T.meta_) h (I.hok.gone made.new)) (Nat.zero_le _)
/-- the statement, in a def that lets errors out by E -/
theorem ps_out {X : Cx} {x : Str} {C : Addr} {p pos pos' : Pos} {W : WX} (T : Err X.K X.mg x C) (calm : X.calm = true) (tk : Takes X W) (hg : Gl X x) (dbg : (x == ("__debug__" : Str)) = false := by decide) :
    PS X (.Raise (some (.Call (.Name x p) [] [] pos)) none pos') (fun _ σ H => W (.ref C) none σ H) := ps_raise calm tk (pmk_none T hg dbg)
end KR
/-! # sorted(range, key=f), f a def of the program's own that hands back a new tuple of three whole numbers -/
namespace KS
open PySem PySem.Spec PyProof.Rows L2
open PySem.W (KeepsBut EachIs AllAlike Sortable SortsAt dataKind KeyedOut)

/-! ### an object that the rule itself made: pinned, unpinned, changed -/
structure Own (X : Cx) (pins : List (Addr × Obj)) (a : Addr) : Prop where
  new : X.s_0.heap.objs.size ≤ a
  frame : a ≠ X.env.locals
  outer : a ∉ X.fs
  cell : ∀ x c, X.env.cells.lookup x = some c → c ≠ a
  pin : ∀ p ∈ X.pn ++ pins, p.1 ≠ a
section
variable {X : Cx} {pins : List (Addr × Obj)} {σ : L2.St} {H : Hp} {s : Shared} {a : Addr} {o : Obj}
theorem own_new (I : Inv X pins σ H s) (h : s.heap.objs.size ≤ a) : Own X pins a where
  new := Nat.le_trans I.sz h
  frame := Ne.symm (Nat.ne_of_lt (Nat.lt_of_lt_of_le I.lt h))
  outer := I.nofs h
  cell := fun x c e => by
    obtain ⟨v, o, ho, _⟩ := I.cell x c e
    exact Nat.ne_of_lt (Nat.lt_of_lt_of_le (Heap.lt_size ho) h)
  pin := fun p hp => Nat.ne_of_lt (Nat.lt_of_lt_of_le (Heap.lt_size (I.pin p hp).1) h)
theorem pin_on (I : Inv X pins σ H s) (w : Own X pins a) (e : s.heap.get? a = some o) (n : H a = none) (d : ∀ v, o.data ≠ .cell v) : Inv X ((a, o) :: pins) σ H s :=
  I.pins_of fun p hp => by
    rcases List.mem_cons.mp hp with rfl | hp
    · exact ⟨e, n, w.frame, w.outer, d⟩
    · exact I.pin p (List.mem_append_right _ hp)
theorem pin_off {p : Addr × Obj} (I : Inv X (p :: pins) σ H s) : Inv X pins σ H s := I.pins_of fun _ hq => I.pin _ (List.mem_append_right _ (List.mem_cons_of_mem _ hq))
theorem pin_at {p : Addr × Obj} (I : Inv X (p :: pins) σ H s) : s.heap.get? p.1 = some p.2 ∧ H p.1 = none :=
  have z := I.pin p (List.mem_append_right _ (List.mem_cons_self ..))
  ⟨z.1, z.2.1⟩
/-- the pinned object changes -/
theorem pin_turn {h' : Heap} {o' : Obj} {t' : Nat} (I : Inv X ((a, o) :: pins) σ H s) (w : Own X pins a) (k : ∀ b u, b ≠ a → s.heap.get? b = some u → h'.get? b = some u) (e : h'.get? a = some o') (d : ∀ v, o'.data ≠ .cell v) :
    Inv X ((a, o') :: pins) σ H { s with heap := h', toks := t' } :=
  pin_on (Inv.turned (pin_off I) k (pin_at I).2 w.frame (.inr w.new) w.cell w.pin) w e (pin_at I).2 d
end
abbrev Lst (vs : Array Value) (e : Nat) : Obj := { cls := .type "list", data := .seq vs e }
theorem lst_cell {vs : Array Value} {e : Nat} : ∀ v, (Lst vs e).data ≠ .cell v := fun _ z => by cases z

/-! ### the keys: a few whole numbers, as one kind -/
structure KeyT (T : Type) where
  dat : T → PyData
  tup : T → List V
  le : T → T → Bool
  dle : ∀ {B : Type} (k : B → T), PySem.W.dataLe false (fun b => dat (k b)) = fun p q => le (k p) (k q)
  reads : ∀ {k : T} {its : List Value}, Vals (tup k) its → ∃ ds, dat k = .tuple ds ∧ ∀ h : Heap, ReadsAll h its ds []
  alike : ∀ k k' : T, PySem.W.alike (dat k) (dat k') = true
  shape : ∀ k, ∃ a ds, dat k = .tuple (a :: ds)
  depth : ∀ k, (dat k).depth ≤ 10
def key3 (k : Int × Int × Int) : PyData := .tuple [.int k.1, .int k.2.1, .int k.2.2]
def le3 (p q : Int × Int × Int) : Bool := decide (p.1 < q.1 ∨ (p.1 = q.1 ∧ (p.2.1 < q.2.1 ∨ (p.2.1 = q.2.1 ∧ p.2.2 ≤ q.2.2))))
theorem lex_cons {i j : Int} {p q : List PyData} : PySem.W.dataLt (.tuple (.int i :: p)) (.tuple (.int j :: q)) = (if i = j then PySem.W.dataLt (.tuple p) (.tuple q) else decide (i < j)) := by
  have al : PySem.W.alike (.int i) (.int j) = true := by unfold PySem.W.alike; rfl
  have ei : PyData.eqv (.int i) (.int j) = (i == j) := by simp [PyData.eqv]
  show PyProof.Rows.lexLt itemOrd (PySem.W.keyToksAll (.int i :: p)) (PySem.W.keyToksAll (.int j :: q)) = _
  rw [PySem.W.dataLt_cons al, ei, PySem.W.dataLt_int]
  by_cases h : i = j
  · rw [if_pos h, if_pos (by rw [h]; exact beq_self_eq_true j)]
    rfl
  · rw [if_neg h, if_neg (by rw [beq_iff_eq]; exact h)]
theorem lex_nil : PySem.W.dataLt (.tuple []) (.tuple []) = false := by decide +kernel
theorem key3_lt (p q : Int × Int × Int) : PySem.W.dataLt (key3 p) (key3 q) = decide (p.1 < q.1 ∨ (p.1 = q.1 ∧ (p.2.1 < q.2.1 ∨ (p.2.1 = q.2.1 ∧ p.2.2 < q.2.2)))) := by
  obtain ⟨a, b, c⟩ := p
  obtain ⟨a', b', c'⟩ := q
  unfold key3
  rw [lex_cons, lex_cons, lex_cons, lex_nil]
  dsimp only
  by_cases h1 : a = a' <;> by_cases h2 : b = b' <;> by_cases h3 : c = c' <;> simp [h1, h2, h3]
theorem key3_le {β : Type} (k : β → Int × Int × Int) : PySem.W.dataLe false (fun b => key3 (k b)) = fun p q => le3 (k p) (k q) := by
  funext p q
  show (!PySem.W.dataLt (key3 (k q)) (key3 (k p))) = _
  rw [key3_lt]
  unfold le3
  by_cases h : (k q).1 < (k p).1 ∨ (k q).1 = (k p).1 ∧ ((k q).2.1 < (k p).2.1 ∨ (k q).2.1 = (k p).2.1 ∧ (k q).2.2 < (k p).2.2)
  · rw [decide_eq_true h, decide_eq_false (by omega)]
    rfl
  · rw [decide_eq_false h, decide_eq_true (by omega)]
    rfl
theorem alike_int (i j : Int) : PySem.W.alike (.int i) (.int j) = true := by unfold PySem.W.alike; rfl
def Y3 : KeyT (Int × Int × Int) where
  dat := key3
  tup := fun k => [.int k.1, .int k.2.1, .int k.2.2]
  le := le3
  dle := key3_le
  reads := fun {k its} rv => by
    match its, rv with
    | [_, _, _], .cons ⟨t1, e1⟩ (.cons ⟨t2, e2⟩ (.cons ⟨t3, e3⟩ .nil)) =>
      subst e1 e2 e3
      exact ⟨_, rfl, fun h => ReadsAll.cons (.int _ _) (ReadsAll.cons (.int _ _) (ReadsAll.cons (.int _ _) .nil))⟩
  alike := fun k k' => by
    unfold key3 PySem.W.alike
    simp [PySem.W.alikeAll, PySem.W.alike]
  shape := fun k => ⟨_, _, rfl⟩
  depth := fun k => by
    unfold key3
    simp [PyData.depth, PyData.depthAll]
def key2 (k : Int × Int) : PyData := .tuple [.int k.1, .int k.2]
def le2 (p q : Int × Int) : Bool := decide (p.1 < q.1 ∨ (p.1 = q.1 ∧ p.2 ≤ q.2))
theorem key2_lt (p q : Int × Int) : PySem.W.dataLt (key2 p) (key2 q) = decide (p.1 < q.1 ∨ (p.1 = q.1 ∧ p.2 < q.2)) := by
  obtain ⟨a, b⟩ := p
  obtain ⟨a', b'⟩ := q
  unfold key2
  rw [lex_cons, lex_cons, lex_nil]
  dsimp only
  by_cases h1 : a = a' <;> by_cases h2 : b = b' <;> simp [h1, h2]
theorem key2_le {β : Type} (k : β → Int × Int) : PySem.W.dataLe false (fun b => key2 (k b)) = fun p q => le2 (k p) (k q) := by
  funext p q
  show (!PySem.W.dataLt (key2 (k q)) (key2 (k p))) = _
  rw [key2_lt]
  unfold le2
  by_cases h : (k q).1 < (k p).1 ∨ (k q).1 = (k p).1 ∧ (k q).2 < (k p).2
  · rw [decide_eq_true h, decide_eq_false (by omega)]
    rfl
  · rw [decide_eq_false h, decide_eq_true (by omega)]
    rfl
def Y2 : KeyT (Int × Int) where
  dat := key2
  tup := fun k => [.int k.1, .int k.2]
  le := le2
  dle := key2_le
  reads := fun {k its} rv => by
    match its, rv with
    | [_, _], .cons ⟨t1, e1⟩ (.cons ⟨t2, e2⟩ .nil) =>
      subst e1 e2
      exact ⟨_, rfl, fun h => ReadsAll.cons (.int _ _) (ReadsAll.cons (.int _ _) .nil)⟩
  alike := fun k k' => by
    unfold key2 PySem.W.alike
    simp [PySem.W.alikeAll, PySem.W.alike]
  shape := fun k => ⟨_, _, rfl⟩
  depth := fun k => by
    unfold key2
    simp [PyData.depth, PyData.depthAll]
/-- at the value v stands the key k -/
def At3 {T : Type} (Y : KeyT T) (H : Hp) (v : Value) (k : T) : Prop := ∃ p, v = .ref p ∧ H p = some (.tup (Y.tup k))
theorem At3.ext {T : Type} {Y : KeyT T} {H H' : Hp} {v : Value} {k : T} (x : At3 Y H v k) (t : ∀ b xs, H b = some (.tup xs) → H' b = some (.tup xs)) : At3 Y H' v k := by
  obtain ⟨p, e, q⟩ := x
  exact ⟨p, e, t _ _ q⟩
theorem At3.reads {T : Type} {Y : KeyT T} {P : Program} {w : World} {H : Hp} {h : Heap} (ok : HOk P w H h) {v : Value} {k : T} (x : At3 Y H v k) : Reads h v (Y.dat k) [] := by
  obtain ⟨p, rfl, q⟩ := x
  obtain ⟨_, its, rv, ob, e, c, n, d⟩ := ok p _ q
  obtain ⟨ds, ed, rd⟩ := Y.reads rv
  rw [ed]
  exact Reads.tuple e c d (rd h)
/-- what a call of the key's def does, for each number below n, wherever J holds -/
def Calls {T : Type} (Y : KeyT T) (X : Cx) (σ : L2.St) (A : Around) (n : Nat) (f : Addr) (key : Nat → T) (J : Hp → Prop) : Prop :=
  ∀ (pins : List (Addr × Obj)) (H : Hp) (s : Shared) (i : Nat) (t : Tok), i < n → Inv X pins σ H s → J H →
    wpAny (model X.prog X.w) A (call (.ref f) [.int i t]) (fun v s' => ∃ H', Inv X pins σ H' s' ∧ J H' ∧ (∀ b xs, H b = some (.tup xs) → H' b = some (.tup xs)) ∧ At3 Y H' v (key i)) (fun _ _ => False) s
section
variable {T : Type} {Y : KeyT T} {X : Cx} {pins : List (Addr × Obj)} {σ : L2.St} {H : Hp} {s : Shared} {n : Nat} {f : Addr} {key : Nat → T} {J : Hp → Prop} {a kS : Addr} {A : Around} {vs : List Value} {e2 : Nat}
/-- behind i calls -/
def Fold (Y : KeyT T) (X : Cx) (pins : List (Addr × Obj)) (σ : L2.St) (kS a : Addr) (e2 : Nat) (key : Nat → T) (J : Hp → Prop) (i : Nat) (s : Shared) : Prop :=
  ∃ H kA e1, Inv X ((kS, Lst kA e1) :: (a, Lst #[] e2) :: pins) σ H s ∧ J H ∧ EachIs (At3 Y H) kA.toList ((List.range i).map key)
theorem each_more {α β : Type} {R : α → β → Prop} {x : α} {y : β} (h : R x y) : ∀ {as : List α} {bs : List β}, EachIs R as bs → EachIs R (as ++ [x]) (bs ++ [y])
  | _, _, .nil => .cons h .nil
  | _, _, .cons r t => .cons r (each_more h t)
theorem each_mono {α β : Type} {R S : α → β → Prop} (h : ∀ a b, R a b → S a b) : ∀ {as : List α} {bs : List β}, EachIs R as bs → EachIs S as bs
  | _, _, .nil => .nil
  | _, _, .cons r t => .cons (h _ _ r) (each_mono h t)
theorem each_map {α β γ : Type} {R : α → γ → Prop} {g : β → γ} : ∀ {as : List α} {bs : List β}, EachIs (fun a b => R a (g b)) as bs → EachIs R as (bs.map g)
  | _, _, .nil => .nil
  | _, _, .cons r t => .cons r (each_map t)
theorem fold_step (C : Calls Y X σ A n f key J) (wk : Own X ((a, Lst #[] e2) :: pins) kS) (hz : n ≤ 1000) {i : Nat} {t : Tok} (hi : i < n) (h : Fold Y X pins σ kS a e2 key J i s) :
    wpAny (model X.prog X.w) A (call (.ref f) [.int i t]) (fun v s' => wpAny (model X.prog X.w) A (Builtin.List.listUpdate (.ref kS) (·.push v)) (fun _ s'' => Fold Y X pins σ kS a e2 key J (i + 1) s'') (fun _ _ => False) s') (fun _ _ => False) s := by
  obtain ⟨H, kA, e1, I, hJ, hk⟩ := h
  refine wpAny_mono (C _ H s i t hi I hJ) (fun v s' z => ?_) fun _ _ z => z
  obtain ⟨H', I', hJ', ht, h3⟩ := z
  have hs : kA.size = i := by
    have q := hk.length
    rw [Array.length_toList, List.length_map, List.length_range] at q
    exact q
  obtain ⟨ek, _⟩ := pin_at I'
  obtain ⟨c, hc⟩ : ∃ c, (s'.heap.update kS (Obj.mapSeq (·.push v))).get? kS = some (Lst (kA.push v) c) := ⟨_, get?_update_seq ek (·.push v)⟩
  have sb := Heap.SameBut.update s'.heap kS (Obj.mapSeq (·.push v))
  have line : n < sizeLine := by
    rw [sizeLine_eq]
    omega
  refine listUpdate_at ek rfl ?_ (by omega) (by rw [Array.size_push]; omega)
  refine ⟨H', kA.push v, c, pin_turn I' wk (fun b u hb e => (sb.2 b hb).trans e) hc lst_cell, hJ', ?_⟩
  rw [Array.toList_push, List.range_succ, List.map_append]
  exact each_more h3 (each_mono (fun v k x => x.ext ht) hk)
/-- the whole of list.sort(key=f) on a list of 0 .. n - 1 at a -/
theorem sort_by {P : PySem.Fin → Shared → Prop} {E : Value → Shared → Prop} {m : Nat} (C : Calls Y X σ A n f key J) (hz : n ≤ 1000) (hu : A.units + 100 < cLine) (I : Inv X ((a, Lst vs.toArray m) :: pins) σ H s) (wa : Own X pins a) (hJ : J H)
    (hv : EachIs (fun (v : Value) (i : Nat) => ∃ t, v = .int i t) vs (List.range n))
    (h : ∀ (H' : Hp) (s' : Shared) (out : List Value) (c : Nat), Inv X ((a, Lst out.toArray c) :: pins) σ H' s' → J H' → EachIs (fun (v : Value) (i : Nat) => ∃ t, v = .int i t) out ((List.range n).mergeSort fun p q => Y.le (key p) (key q)) → P (.done (.ret .none)) s') :
    wpAny (model X.prog X.w) A (ksk_tree a (.ref f) false) P E s := by
  have hlen : vs.length = n := by
    rw [hv.length, List.length_range]
  have line : n < sizeLine := by
    rw [sizeLine_eq]
    omega
  obtain ⟨ea, na⟩ := pin_at I
  have lt_a := Heap.lt_size ea
  obtain ⟨c0, ec⟩ : ∃ c0, (s.heap.update a (Obj.mapSeq fun _ => (#[] : Array Value))).get? a = some (Lst #[] c0) := ⟨_, get?_update_seq ea fun _ => #[]⟩
  have sb := Heap.SameBut.update s.heap a (Obj.mapSeq fun _ => (#[] : Array Value))
  have I1 : Inv X ((a, Lst #[] c0) :: pins) σ H { s with heap := s.heap.update a (Obj.mapSeq fun _ => (#[] : Array Value)) } := pin_turn (t' := s.toks) I wa (fun b u hb e => (sb.2 b hb).trans e) ec lst_cell
  unfold ksk_tree
  refine wpAny_bind (listItems_at ea rfl ?_)
  refine wpAny_bind (listUpdate_at ea rfl ?_ (by show vs.toArray.size ≤ sizeLine; rw [List.size_toArray]; omega) (Nat.zero_le _))
  refine wpAny_bind (seqEpoch_at (xs := #[]) (n := c0) ec rfl ?_)
  refine wpAny_bind (wpAny_newTuple ?_ (by show vs.length ≤ _; omega))
  refine wpAny_bind (wpAny_newList ?_ (Nat.zero_le _))
  refine wpAny_holding ?_
  -- the keys' own list
  generalize hg : (s.heap.update a (Obj.mapSeq fun _ => (#[] : Array Value))).push { cls := .type "tuple", data := .seq vs.toArray } = g
  have kg : ∀ b u, (s.heap.update a (Obj.mapSeq fun _ => (#[] : Array Value))).get? b = some u → g.get? b = some u := fun b u e => by
    rw [← hg]
    exact Heap.get?_push_of_some _ e
  have I2 : Inv X ((a, Lst #[] c0) :: pins) σ H { s with heap := g } := I1.kept (t' := s.toks) kg
  have wk : Own X ((a, Lst #[] c0) :: pins) g.objs.size := own_new I2 (Nat.le_refl _)
  have ek : (g.push (Lst #[] 0)).get? g.objs.size = some (Lst #[] 0) := Heap.get?_push_size _ rfl
  have I3 : Inv X ((g.objs.size, Lst #[] 0) :: (a, Lst #[] c0) :: pins) σ H { s with heap := g.push (Lst #[] 0) } :=
    pin_on (I2.kept (t' := s.toks) fun b u e => Heap.get?_push_of_some _ e) wk ek (I2.hok.fresh (Nat.le_refl _)) lst_cell
  have hka : g.objs.size ≠ a := Ne.symm (wk.pin _ (List.mem_append_right _ (List.mem_cons_self ..)))
  generalize g.objs.size = kS at wk I3 hka
  show wpAny _ A (ksk_rest a (.ref f) false vs.toArray c0 (.ref kS)) P E { s with heap := g.push (Lst #[] 0) }
  unfold ksk_rest
  refine wpAny_bind (wpAny_rule ?_)
  rw [← Array.forIn_toList]
  refine wpAny_bind (ksk_fold (fun i s' => Fold Y X pins σ kS a c0 key J i s') vs 0 _ ⟨H, #[], 0, I3, hJ, .nil⟩ (fun j x s' hx hf => ?_) fun s' hf => ?_)
  · have hj : j < n := by
      have q := (List.getElem?_eq_some_iff.mp hx).1
      omega
    obtain ⟨t, rfl⟩ : ∃ t, x = .int j t := by
      have q := hv.zip (x, j) (List.mem_of_getElem? (i := j) (by rw [List.getElem?_zip_eq_some]; exact ⟨hx, by rw [List.getElem?_range hj]⟩))
      exact q
    rw [Nat.zero_add] at hf ⊢
    refine wpAny_bind (wpAny_attempt (wpAny_mono (fold_step (t := t) C wk hz hj hf) (fun v s2 z => ?_) fun _ _ z => z.elim))
    refine wpAny_bind (wpAny_mono z (fun _ s3 z3 => ?_) fun _ _ z => z.elim)
    exact wpAny_pure ⟨rfl, z3⟩
  · obtain ⟨H', kA, e1, I', hJ', hk⟩ := hf
    rw [Nat.zero_add, hlen] at hk
    obtain ⟨nk, hkn⟩ := pin_at I'
    obtain ⟨nA, han⟩ := pin_at (pin_off I')
    have size : kA.size = vs.length := by
      have q := hk.length
      rw [Array.length_toList, List.length_map, List.length_range] at q
      omega
    have rd : EachIs (fun v k => ∃ as, Reads s'.heap v k as) kA.toList (((List.range n).map key).map Y.dat) := by
      have q : EachIs (fun v k => ∃ as, Reads s'.heap v (Y.dat k) as) kA.toList ((List.range n).map key) := each_mono (fun v k x => ⟨[], x.reads I'.hok⟩) hk
      exact each_map q
    have kin : ∀ d, d ∈ ((List.range n).map key).map Y.dat → ∃ k, d = Y.dat k := fun d hd => by
      obtain ⟨k, _, e⟩ := List.mem_map.mp hd
      exact ⟨k, e.symm⟩
    have hal : AllAlike (((List.range n).map key).map Y.dat) := fun d hd d' hd' => by
      obtain ⟨k, rfl⟩ := kin d hd
      obtain ⟨k', rfl⟩ := kin d' hd'
      exact Y.alike k k'
    have hsk : Sortable (((List.range n).map key).map Y.dat) := .inl fun d hd => by
      obtain ⟨k, rfl⟩ := kin d hd
      exact Y.shape k
    have hdp : ∀ d, d ∈ ((List.range n).map key).map Y.dat → A.units + d.depth < cLine := fun d hd => by
      obtain ⟨k, rfl⟩ := kin d hd
      have q := Y.depth k
      omega
    refine wpAny_bind (listItems_at nk rfl ?_)
    refine PySem.W.keyH_end (h₁ := PySem.W.hideAll s'.heap [kS]) (κ := dataKind s'.heap (((List.range n).map key).map Y.dat)) (fun b o _ e => PySem.W.of_hideAll _ e) (PySem.W.hideAll_none _ (List.mem_singleton.mpr rfl)) nk nA hka
      (SortsAt.data rd hal hsk hdp) size (by omega) fun h' tk c kp eo => ?_
    have wk' : Own X pins kS := ⟨wk.new, wk.frame, wk.outer, wk.cell, fun p hp => wk.pin p (by
      rcases List.mem_append.mp hp with m | m
      · exact List.mem_append_left _ m
      · exact List.mem_append_right _ (List.mem_cons_of_mem _ m))⟩
    have kept : ∀ b o, b ≠ a → b ≠ kS → s'.heap.get? b = some o → h'.get? b = some o := fun b o h1 h2 e => kp b o h1 (PySem.W.hideAll_get _ e (by simpa using h2))
    have I4 : Inv X pins σ H' { s' with heap := h', toks := tk } := by
      refine (pin_off (pin_off I')).step (g' := s'.gens) (d' := s'.drawn) (ch := [a, kS]) (fun b hb => ?_) (fun b o _ _ hc e _ => ?_) (fun b o _ _ hc e _ => ?_) (fun _ _ _ _ n => n) (fun b o hc e => ?_) (fun _ _ e => e) (fun _ _ _ e => e) (fun b ps e => ⟨#[], by rw [e]; simp⟩)
        (fun mm hm => ?_) (fun b u e => ?_) I'.bare
      · rcases List.mem_cons.mp hb with rfl | hb
        · exact ⟨.inr wa.new, wa.frame, wa.cell, wa.pin⟩
        · obtain rfl := List.mem_singleton.mp hb
          exact ⟨.inr wk'.new, wk'.frame, wk'.cell, wk'.pin⟩
      · exact kept b o (fun z => hc (by simp [z])) (fun z => hc (by simp [z])) e
      · exact ⟨o.slots, kept b o (fun z => hc (by simp [z])) (fun z => hc (by simp [z])) e⟩
      · exact ⟨o, kept b o (fun z => hc (by simp [z])) (fun z => hc (by simp [z])) e⟩
      · obtain ⟨o, es, ep, ho, r⟩ := hm
        exact ⟨o, es, ep, kept _ o wa.frame.symm wk'.frame.symm ho, r⟩
      · refine (I'.hok b u e).stay (fun c v hc q => kept c v ?_ ?_ q) (fun _ q => q) fun _ _ q => q
        · rintro rfl
          rcases hc with rfl | hc
          · rw [han] at e
            cases e
          · rw [han] at hc
            cases hc
        · rintro rfl
          rcases hc with rfl | hc
          · rw [hkn] at e
            cases e
          · rw [hkn] at hc
            cases hc
    refine h H' _ _ c (pin_on I4 wa eo han lst_cell) hJ' ?_
    have ko : KeyedOut false (((List.range n).map fun i => Y.dat (key i))) vs (PySem.W.sortVals (dataKind s'.heap (((List.range n).map key).map Y.dat)) false kA.toList vs) := by
      have e : ((List.range n).map fun i => Y.dat (key i)) = ((List.range n).map key).map Y.dat := by
        rw [List.map_map]
        rfl
      rw [e]
      exact ⟨s'.heap, kA.toList, hal, rfl, rd⟩
    have q := PySem.W.keyedOut_each (bs := List.range n) (fun i => Y.dat (key i)) ko hv
    rw [Y.dle key] at q
    exact q
end
/-! ### sorted(range(n), key=f), the range an object that is tracked -/
theorem each_ints {out : List Value} {is : List Nat} (h : EachIs (fun (v : Value) (i : Nat) => ∃ t, v = .int i t) out is) : Vals (is.map fun i => V.int (i : Nat)) out := by
  induction h with
  | nil => exact .nil
  | cons r _ ih => exact .cons r ih
def sortedBy {T : Type} (Y : KeyT T) (n : Nat) (key : Nat → T) : List Nat := (List.range n).mergeSort fun p q => Y.le (key p) (key q)
theorem sortedBy_perm {T : Type} (Y : KeyT T) (n : Nat) (key : Nat → T) : (sortedBy Y n key).Perm (List.range n) := List.mergeSort_perm _ _
theorem le3_total (p q : Int × Int × Int) : (le3 p q || le3 q p) = true := by
  unfold le3
  rw [Bool.or_eq_true, decide_eq_true_eq, decide_eq_true_eq]
  omega
theorem le3_trans {p q r : Int × Int × Int} (h : le3 p q = true) (h' : le3 q r = true) : le3 p r = true := by
  unfold le3 at *
  rw [decide_eq_true_eq] at *
  omega
theorem sortedBy_pairwise (n : Nat) (key : Nat → Int × Int × Int) : (sortedBy Y3 n key).Pairwise fun p q => le3 (key p) (key q) = true :=
  List.pairwise_mergeSort (le := fun p q => le3 (key p) (key q)) (fun _ _ _ h h' => le3_trans h h') (fun p q => le3_total (key p) (key q)) _
theorem le2_total (p q : Int × Int) : (le2 p q || le2 q p) = true := by
  unfold le2
  rw [Bool.or_eq_true, decide_eq_true_eq, decide_eq_true_eq]
  omega
theorem le2_trans {p q r : Int × Int} (h : le2 p q = true) (h' : le2 q r = true) : le2 p r = true := by
  unfold le2 at *
  rw [decide_eq_true_eq] at *
  omega
theorem sortedBy2_pairwise (n : Nat) (key : Nat → Int × Int) : (sortedBy Y2 n key).Pairwise fun p q => le2 (key p) (key q) = true :=
  List.pairwise_mergeSort (le := fun p q => le2 (key p) (key q)) (fun _ _ _ h h' => le2_trans h h') (fun p q => le2_total (key p) (key q)) _
theorem items_each {acc : Array Value} {n : Nat} (h : ItemsOf (fun i v => ∃ t, v = Value.int ((0 : Int) + (i : Nat) * 1) t) acc n) : EachIs (fun (v : Value) (i : Nat) => ∃ t, v = .int i t) acc.toList (List.range n) := by
  have g : ∀ (l : List Value) (k : Nat), (∀ (j : Nat) (v : Value), l[j]? = some v → ∃ t, v = Value.int ((k + j : Nat) : Int) t) → EachIs (fun (v : Value) (i : Nat) => ∃ t, v = .int i t) l ((List.range l.length).map (k + ·)) := by
    intro l
    induction l with
    | nil => exact fun _ _ => .nil
    | cons v l ih =>
      intro k hk
      rw [List.length_cons, List.range_succ_eq_map, List.map_cons, List.map_map]
      refine .cons (hk 0 v rfl) ?_
      have q := ih (k + 1) fun j u hj => by
        obtain ⟨t, e⟩ := hk (j + 1) u hj
        exact ⟨t, by rw [e]; congr 1; omega⟩
      have e : ((List.range l.length).map ((k + ·) ∘ Nat.succ)) = (List.range l.length).map ((k + 1) + ·) := by
        apply List.map_congr_left
        intro j _
        show k + (j + 1) = k + 1 + j
        omega
      rw [e]
      exact q
  have q := g acc.toList 0 fun j v hj => by
    obtain ⟨t, e⟩ := h.2 j v (by rw [← hj, Array.getElem?_toList])
    exact ⟨t, by rw [e]; congr 1; omega⟩
  rw [Array.length_toList, h.1] at q
  have e : (List.range n).map (0 + ·) = List.range n := by
    have z : (fun x => 0 + x) = (id : Nat → Nat) := by
      funext x
      exact Nat.zero_add x
    rw [z, List.map_id]
  rw [e] at q
  exact q
section
variable {T : Type} {Y : KeyT T} {X : Cx} {pins : List (Addr × Obj)} {σ : L2.St} {H : Hp} {s : Shared} {n : Nat} {f r : Addr} {key : Nat → T} {J : Hp → Prop} {Q : VK}
theorem sorted_run (I : Inv X pins σ H s) (hd : X.A.handled = none) (hu : X.A.units + 200 < cLine) (hr : H r = some (.rng 0 n)) (hz : n ≤ 1000) (C : Calls Y X σ X.A.in1.in1 n f key J) (hJ : J H)
    (q : ∀ (H' : Hp) (p : Addr), J H' → H' p = none → Q (.ref p) (upd H' p (.lst ((sortedBy Y n key).map fun i => V.int (i : Nat))))) :
    wpAny (model X.prog X.w) X.A (call (.builtin "sorted") [.ref r] [(Str.ofString "key", .ref f)]) (EP X pins σ Q) X.xe s := by
  have line : n < sizeLine := by
    rw [sizeLine_eq]
    omega
  obtain ⟨t, u, v, er⟩ := I.hok r _ hr
  refine call_function_entry_kw kind_sorted plain_sorted entry_sorted (ksk_s1 _ _) ?_
  unfold Builtin.«sorted»
  have step1 : wpAny (model X.prog X.w) X.A.in1 (checkCount "sorted" 1 1 1) (fun _ s' => s' = s) X.xe s := wpAny_pure rfl
  refine wpAny_bind (wpAny_mono step1 (fun _ s' z => ?_) fun _ _ z => z)
  subst z
  have small : Builtin.Range.small 0 (n : Int) 1 = true := small_one (by decide) (by decide) (by omega) (by omega)
  have size : Builtin.Range.rangeSize 0 (n : Int) 1 = n := by
    rw [rangeSize_nat]
    omega
  have isR : IsRange s'.heap r 0 n 1 t u v := er
  refine wpAny_bind (collect_range (A := X.A.in1) hd isR small size (by omega) fun h' tk acc kp hi => ?_)
  have I1 : Inv X pins σ H { s' with heap := h', toks := tk } := I.kept kp
  have hv := items_each hi
  have hlen : acc.toList.length = n := by
    rw [hv.length, List.length_range]
  have wa : Own X pins h'.objs.size := own_new I1 (Nat.le_refl _)
  have ea : (h'.push (Lst acc.toList.toArray 0)).get? h'.objs.size = some (Lst acc.toList.toArray 0) := Heap.get?_push_size _ rfl
  have I2 : Inv X ((h'.objs.size, Lst acc.toList.toArray 0) :: pins) σ H { s' with heap := h'.push (Lst acc.toList.toArray 0), toks := tk } :=
    pin_on (I1.kept (t' := tk) fun b u e => Heap.get?_push_of_some _ e) wa ea (I1.hok.fresh (Nat.le_refl _)) lst_cell
  refine wpAny_bind (wpAny_newList ?_ (by omega))
  generalize h'.objs.size = a at wa I2
  have typ : ({ s' with heap := h'.push (Lst acc.toList.toArray 0), toks := tk } : Shared).TypeIs (.ref a) "list" := ⟨_, (pin_at I2).1, rfl⟩
  have fin : wpAny (model X.prog X.w) X.A.in1 (call (.builtin "list.sort") [.ref a] [(Str.ofString "key", .ref f)])
      (fun _ s2 => ∃ (H' : Hp) (out : List Value) (c : Nat), Inv X ((a, Lst out.toArray c) :: pins) σ H' s2 ∧ J H' ∧ EachIs (fun (v : Value) (i : Nat) => ∃ t, v = .int i t) out (sortedBy Y n key)) X.xe { s' with heap := h'.push (Lst acc.toList.toArray 0), toks := tk } := by
    refine wpAny_call_entry_kw slot_list_sort typ entry_list_sort ?_ (ksk_l1 _ _)
    rw [ksk_t1]
    exact sort_by (A := X.A.in1.in1) C hz (by show X.A.units + 1 + 1 + 100 < cLine; omega) I2 wa hJ hv fun H' s2 out c I' hJ' ho => ⟨_, rfl, H', out, c, I', hJ', ho⟩
  refine wpAny_bind (wpAny_holding (wpAny_mono fin (fun _ s2 z => ?_) fun _ _ z => z))
  obtain ⟨H', out, c, I', hJ', ho⟩ := z
  obtain ⟨eo, no⟩ := pin_at I'
  -- from now on the list is tracked
  have rv := each_ints ho
  have hl : ((sortedBy Y n key).map fun i => V.int (i : Nat)).length ≤ sizeLine := by
    rw [List.length_map, (sortedBy_perm Y n key).length_eq, List.length_range]
    omega
  refine wpAny_pure ⟨.ref a, rfl, .ref a, upd H' a (.lst ((sortedBy Y n key).map fun i => V.int (i : Nat))), ?_, rfl, q H' a hJ' no⟩
  have ne : ∀ b u, H' b = some u → b ≠ a := fun b u e z => by
    rw [z, no] at e
    cases e
  have ok : HOk X.prog X.w (upd H' a (.lst ((sortedBy Y n key).map fun i => V.int (i : Nat)))) s2.heap := fun b u e => by
    by_cases hb : b = a
    · subst hb
      rw [upd_same] at e
      cases e
      exact ⟨hl, out, c, rv, eo⟩
    · rw [upd_ne hb] at e
      exact (I'.hok b u e).stay (fun _ _ _ q => q) (fun c q => (upd_ne (ne c _ q)).trans q) fun c xs q => (upd_ne (ne c _ q)).trans q
  refine (pin_off I').step (h' := s2.heap) (g' := s2.gens) (d' := s2.drawn) (t' := s2.toks) (ch := [a]) (fun b hb => ?_) (fun _ _ _ _ _ e _ => e) (fun _ o _ _ _ e _ => ⟨o.slots, e⟩) (fun b o hc e n => ?_) (fun _ o _ e => ⟨o, e⟩)
    (fun b xs e => (upd_ne (ne b _ e)).trans e) (fun b o u e => (upd_ne (ne b _ e)).trans e) (fun b ps e => ⟨#[], by rw [upd_ne (ne b _ e), e]; simp⟩) (fun _ hm => hm) ok I'.bare
  · obtain rfl := List.mem_singleton.mp hb
    exact ⟨.inr wa.new, wa.frame, wa.cell, wa.pin⟩
  · exact (upd_ne fun z => hc (by simp [z])).trans n
end

/-! ### the expression: sorted(e, key=f), f a def made here -/
section
variable {T : Type} {Y : KeyT T} {X : Cx} {σ : L2.St} {k n : Nat} {f c : Addr} {F : NdefX.NF} {x : Str} {fr : List Str} {js : List Nat} {sp : List (Option V) → Sp} {key : Nat → T} {J : Hp → Prop}
theorem calls_nested (Fn : NdefX.NOk X.prog X.w X.K X.mg X.base L2.CX0 k f F [x] fr sp) (cp : X.Ok → NdefX.Caps X F.cl fr js) (hr : Room (k + 2) X.A) (there : ∀ H, J H → H f = some (NdefX.FnO f F) ∧ H F.c = some (LamX.CodeO F.c F.qual))
    (due : ∀ (H : Hp) (i : Nat), i < n → J H → sp (js.map (NdefX.slotAt σ)) [.int i] H (fun v H' => J H' ∧ ∃ p, v = .ref p ∧ H' p = some (.tup (Y.tup (key i)))) fun _ _ _ => False) :
    Calls Y X σ X.A.in1.in1 n f key J := by
  intro pins H s i t hi I hJ
  obtain ⟨hf, hc⟩ := there H hJ
  refine wpAny_call (codeAny_mono (Fn.run X.A.in1.in1 X.stack s H [.int i t] [.int i] _ _ _ (Room.in1 (k := k) (Room.in1 (k := k + 1) hr)) I.env0.in1.in1 hf hc (NdefX.cells_of I (cp I.ok)) (.cons ⟨t, rfl⟩ .nil) (due H i hi hJ)) fun r s' z => ?_)
  match r, z with
  | .error e, z => exact False.elim z
  | .ok .next, z => exact False.elim z
  | .ok .brk, z => exact False.elim z
  | .ok .cont, z => exact False.elim z
  | .ok (.ret u), z =>
    obtain ⟨v, H', os, bare, un, ok, rv, hJ', p, rfl, hp⟩ := z
    obtain ⟨h', g, d, tk, os'⟩ := s'
    obtain rfl : os' = s.os := os
    have I' : Inv X pins σ H' { s with heap := h', gens := g, drawn := d, toks := tk } := I.call (ch := []) un ok bare fun b m => absurd m List.not_mem_nil
    exact ⟨H', I', hJ', un.tups, p, rv, hp⟩
end
/-- sorted(e, key=f): e makes a range from 0, f holds a def made here (mk); key i: what it makes of i; J: what holds between its calls -/
def tSortBy {T : Type} (Y : KeyT T) (mk : Addr → NdefX.NF) (js : List Nat) (sp : Addr → Addr → List (Option V) → Sp) (ta tk : TA) : TE := fun σ H Q => ta σ H fun xs H1 => tk σ H1 fun ys H2 =>
  ∃ (r f c : Addr) (n : Nat) (key : Nat → T) (J : Hp → Prop), xs = [.ref r] ∧ ys = [.ref f] ∧ H2 r = some (.rng 0 n) ∧ n ≤ 1000 ∧ J H2 ∧ (∀ H, J H → H f = some (NdefX.FnO f (mk c)) ∧ H (mk c).c = some (LamX.CodeO (mk c).c (mk c).qual)) ∧
    (∀ (H : Hp) (i : Nat), i < n → J H → sp f c (js.map (NdefX.slotAt σ)) [.int i] H (fun v H' => J H' ∧ ∃ p, v = .ref p ∧ H' p = some (.tup (Y.tup (key i)))) fun _ _ _ => False) ∧
    ∀ (H' : Hp) (p : Addr), J H' → H' p = none → Q (.ref p) (upd H' p (.lst ((sortedBy Y n key).map fun i => V.int (i : Nat))))
section
variable {T : Type} {Y : KeyT T} {X : Cx} {k : Nat} {mk : Addr → NdefX.NF} {cl : List (Str × Addr)} {x : Str} {fr : List Str} {js : List Nat} {sp : Addr → Addr → List (Option V) → Sp} {p pos : Pos} {e : Expr} {kws : List Keyword} {ta tk : TA}
theorem pe_sortedBy (Fn : ∀ f c, NdefX.NOk X.prog X.w X.K X.mg X.base L2.CX0 k f (mk c) [x] fr (sp f c)) (hcl : ∀ c, (mk c).cl = cl) (cp : X.Ok → NdefX.Caps X cl fr js) (hr : Room (k + 2) X.A) (hg : Gl X "sorted") (hm : X.mg "sorted" = none) (ha : PA X [e] ta) (hk : PK X kws tk)
    (one : backTo pos (starEach [e] X.env) = (false, eval e X.env) :: backTo pos (starEach [] X.env) := by rfl) (plain : (backTo pos (starEach [e] X.env)).any (·.1) = false := by rfl)
    (named : (backToKw pos (keywordEach kws X.env)).all (·.1.isSome) = true := by rfl) (nostar : (backToKw pos (keywordEach kws X.env)).any (·.1.isNone) = false := by rfl)
    (key : (backToKw pos (keywordEach kws X.env)).filterMap (·.1) = [Str.ofString "key"] := by rfl) :
    PE X (.Call (.Name "sorted" p) [e] kws pos) (tSortBy Y mk js sp ta tk) := by
  have bt : bootBuiltins "sorted" = some (.builtin "sorted") := by decide +kernel
  refine ⟨fun pins s σ H Q I h => wpAny_Call_Name_kw (ld_blt I hg hm bt (PyProof.Rows.callWith_kw (thn (ha.run pos pins s σ H _ I h) fun us s1 z1 => ?_) one plain named nostar))⟩
  obtain ⟨xs, H1, I1, rx, z1⟩ := z1
  refine thn (hk.run pos pins s1 σ H1 _ I1 z1) fun ws s2 z2 => ?_
  obtain ⟨ys, H2, I2, ry, r, f, c, n, ky, J, rfl, rfl, hr1, hn, hJ, there, due, q⟩ := z2
  obtain ⟨u1, rfl, e1⟩ := vals1 rx
  obtain ⟨u2, rfl, e2⟩ := vals1 ry
  obtain rfl : u1 = Value.ref r := e1
  obtain rfl : u2 = Value.ref f := e2
  rw [key]
  have un := hr.un
  exact sorted_run I2 hr.hd (by omega) hr1 hn (calls_nested (Fn f c) (fun ok => by rw [hcl c]; exact cp ok) hr there due) hJ q
end
/-! ### range(n) as a value -/
section
variable {X : Cx}
theorem cr_range1 : CallR X (.type "range") (fun vs H Q => ∃ j, vs = [V.int j] ∧ ∀ p, H p = none → Q (.ref p) (upd H p (.rng 0 j))) := by
  intro pins s σ H vs us Q I r h
  obtain ⟨j, rfl, q⟩ := h
  obtain ⟨u1, rfl, t, rfl⟩ := vals1 r
  have fresh := I.hok.fresh (Nat.le_refl s.heap.objs.size)
  refine call_range_1 ⟨.ref s.heap.objs.size, upd H s.heap.objs.size (.rng 0 j), I.laid (fun b o e => Heap.get?_push_of_some _ e) (Nat.le_refl _) ?_, rfl, q _ fresh⟩
  exact ⟨_, t, _, Heap.get?_push_size _ rfl⟩
end
end KS
/-! # A row against a Lean function, one list of whole numbers handed in, where defs that run make defs of their own: the tables of their code objects are tracked from the start -/
namespace KT
open PySem PySem.Spec PyProof.Rows L2
open PySem.W (WData Codec OpenSpec Well WellAll ReadsW)

abbrev Empty : Obj := { cls := .none, data := .fields #[] }
abbrev Given (us : List Value) : Obj := { cls := .type "list", data := .seq us.toArray }
/-- the numbers of a list that was laid for the row -/
theorem laid_ints {p : Params} {h : Heap} : ∀ {us : List Value} {ns : List Int}, WellAll p h us (ns.map WData.int) → IntsAre us ns
  | _, [], q => by
    cases q
    exact .nil
  | _, n :: r, q => by
    cases q with
    | cons q1 q2 =>
      cases q1 with
      | int i t => exact .cons n t (laid_ints q2)
/-- the heap at the row's call, as the top left it: names, built-ins, the code objects with their empty tables -/
structure Stand (K : PySem.W.Frag) (mg mb : Str → Option Value) (tabs : List (Addr × Addr)) (h : Heap) : Prop where
  kin : K.In h
  main : h.Ns mainGlobals mg
  builtin : h.Ns builtinsNs mb
  booted : ∀ x : Str, x ≠ "__name__" → mb x = bootBuiltins x
  calm : h.NoLimit
  empty : ∀ t ∈ tabs, h.get? t.2 = some Empty
  out : ∀ t ∈ tabs, K.lookup t.2 = none
  code : ∀ t ∈ tabs, PySem.W.CodeHd h t.1 t.2
  module_ : ∃ (m : Addr) (o : Obj), mg "__builtins__" = some (.ref m) ∧ m ≠ builtinsNs ∧ h.get? m = some o ∧ o.cls = .type "module" ∧ o.dict = some builtinsNs ∧ o.data = .plain
/-- nothing is tracked but sequences that are never written and empty tables, none of them written by the top -/
structure Few (K : PySem.W.Frag) (tabs : List (Addr × Addr)) (H : Hp) (h : Heap) : Prop where
  is : ∀ b u, H b = some u → K.lookup b = none ∧ ((∃ t ∈ tabs, t.2 = b ∧ u = .tbl #[]) ∨ (∃ us, h.get? b = some (Given us)) ∧ ∃ o v, u = .frz o v)
  all : ∀ t ∈ tabs, H t.2 = some (.tbl #[])
section
variable {P : Program} {w : World} {K : PySem.W.Frag} {mg mb : Str → Option Value} {tabs : List (Addr × Addr)} {h : Heap} {H : Hp}
theorem Few.free (f : Few K tabs H h) (S : Stand K mg mb tabs h) {b : Addr} {o : Obj} (e : h.get? b = some o) (n1 : ∀ us : List Value, o ≠ Given us) (n2 : o ≠ Empty) : H b = none := by
  cases q : H b with
  | none => rfl
  | some u =>
    rcases (f.is b u q).2 with ⟨t, ht, rfl, _⟩ | ⟨⟨us, g⟩, _⟩
    · exact (n2 (Option.some.inj (e.symm.trans (S.empty t ht)))).elim
    · exact (n1 us (Option.some.inj (e.symm.trans g))).elim
theorem Few.freeK (f : Few K tabs H h) {b : Addr} {o : Obj} (e : K.lookup b = some o) : H b = none := by
  cases q : H b with
  | none => rfl
  | some u =>
    have z := (f.is b u q).1
    rw [e] at z
    cases z
theorem Few.ns (f : Few K tabs H h) (S : Stand K mg mb tabs h) {b : Addr} {m : Str → Option Value} (x : h.Ns b m) : (hidT h H).Ns b m := by
  obtain ⟨o, es, n, e, d, r⟩ := x
  refine ⟨o, es, n, hidT_get e (f.free S e (fun us z => ?_) fun z => ?_), d, r⟩ <;> (rw [z] at d; cases d)
theorem Few.kin (f : Few K tabs H h) (S : Stand K mg mb tabs h) : K.In (hidT h H) := fun _ _ e => hidT_get (S.kin _ _ e) (f.freeK e)
theorem Few.mod (f : Few K tabs H h) (S : Stand K mg mb tabs h) : L2.Mod K mg (hidT h H) where
  kin := f.kin S
  glob := f.ns S S.main
  blt := ⟨mb, f.ns S S.builtin, S.booted⟩
  nolimit := by
    obtain ⟨m, x, y⟩ := S.calm
    exact ⟨m, f.ns S x, y⟩
theorem Few.tab (f : Few K tabs H h) (S : Stand K mg mb tabs h) {t : Addr × Addr} (ht : t ∈ tabs) : LamX.TabB (hidT h H) mg t.1 t.2 := by
  have et := S.empty t ht
  constructor
  · have c := S.code t ht
    obtain ⟨o, us, a1, a2, a3, a4, a5, a6, a7, x1, x2, x3, x4, more⟩ := c
    refine ⟨o, us, a1, a2, a3, a4, a5, a6, a7, hidT_get x1 (f.free S x1 (fun _ z => ?_) fun z => ?_), x2, x3, x4, more⟩
    · rw [z] at x2
      exact absurd (Value.type.inj x2) (by decide)
    · rw [z] at x2
      cases x2
  · obtain ⟨m, o, y1, y2, y3, y4, y5, y6⟩ := S.module_
    have n1 : m ≠ t.2 := by
      rintro rfl
      rw [et] at y3
      cases y3
      cases y6
    have n2 : m ≠ mainGlobals := by
      rintro rfl
      obtain ⟨_, _, _, g1, g2, _⟩ := S.main
      rw [g1] at y3
      cases y3
      rw [g2] at y6
      cases y6
    refine ⟨m, o, y1, y2, n2, n1, hidT_get y3 (f.free S y3 (fun _ z => ?_) fun z => ?_), y4, y5, y6⟩
    · rw [z] at y6
      cases y6
    · rw [z] at y6
      cases y6
  · intro z
    obtain ⟨_, _, _, g1, g2, _⟩ := S.main
    rw [z, et] at g1
    cases g1
    cases g2
/-- what a call over such a heap leaves of it: all but the tables as it was, these grown -/
theorem Few.old (f : Few K tabs H h) (S : Stand K mg mb tabs h) {H' : Hp} {h' : Heap} (ok : HOk P w H h) (ok' : HOk P w H' h') (un : Un [] [] H H' h h') : OldK h h' ∧ K.In h' := by
  have rest : ∀ b o, (∀ t ∈ tabs, t.2 ≠ b) → h.get? b = some o → h'.get? b = some o := by
    intro b o n e
    cases q : H b with
    | none => exact un.keep b o e q (by simp) (by simp)
    | some u =>
      rcases (f.is b u q).2 with ⟨t, ht, z, _⟩ | ⟨_, o1, v, z⟩
      · exact (n t ht z).elim
      · subst z
        have g1 : h.get? b = some o1 := (ok b _ q).1
        have g2 : h'.get? b = some o1 := (ok' b _ (un.frzs b o1 v q)).1
        rw [g2, ← g1, e]
  refine ⟨⟨fun b o e => ?_, fun b o e => un.there b o e (by simp)⟩, fun b o e => rest b o (fun t ht z => ?_) (S.kin b o e)⟩
  · by_cases hb : ∃ t ∈ tabs, t.2 = b
    · obtain ⟨t, ht, rfl⟩ := hb
      obtain ⟨more, g⟩ := un.tbls t.2 #[] (f.all t ht)
      have e0 := S.empty t ht
      obtain rfl := Option.some.inj (e.symm.trans e0)
      have g2 := ok' t.2 _ g
      rw [Array.empty_append] at g2
      exact Or.inr (Or.inl ⟨PySem.Heap.TableAt.isCodeTable ((S.code t ht).tab e0), rfl, #[], more, rfl, by rw [Array.empty_append]; exact g2⟩)
    · exact .inl (rest b o (fun t ht z => hb ⟨t, ht, z⟩) e)
  · have q := S.out t ht
    rw [z, e] at q
    cases q
/-- what is tracked at the row's call -/
def atCall (K : PySem.W.Frag) (tabs : List (Addr × Addr)) (a : Addr) (us : List Value) (ns : List Int) : Hp := fun b =>
  if ∃ t ∈ tabs, t.2 = b then some (.tbl #[]) else if b = a ∧ K.lookup a = none then some (.frz (Given us) (.lst (ns.map V.int))) else none
variable {a : Addr} {us : List Value} {ns : List Int}
theorem atCall_few (S : Stand K mg mb tabs h) (ha : h.get? a = some (Given us)) : Few K tabs (atCall K tabs a us ns) h where
  is := fun b u q => by
    unfold atCall at q
    split at q
    · rename_i c
      obtain ⟨t, ht, rfl⟩ := c
      cases q
      exact ⟨S.out t ht, .inl ⟨t, ht, rfl, rfl⟩⟩
    · split at q
      · rename_i c
        obtain ⟨rfl, hk⟩ := c
        cases q
        exact ⟨hk, .inr ⟨⟨us, ha⟩, _, _, rfl⟩⟩
      · cases q
  all := fun t ht => if_pos ⟨t, ht, rfl⟩
theorem atCall_ok (S : Stand K mg mb tabs h) (ha : h.get? a = some (Given us)) (hi : IntsAre us ns) (hl : ns.length ≤ sizeLine) : HOk P w (atCall K tabs a us ns) h ∧ SqL K (atCall K tabs a us ns) a (ns.map V.int) := by
  have hv := vals_ints hi
  have nt : ¬ ∃ t ∈ tabs, t.2 = a := fun ⟨t, ht, z⟩ => by
    have q := S.empty t ht
    rw [z, ha] at q
    exact absurd (congrArg Obj.cls (Option.some.inj q)) (by intro z; cases z)
  have hlen : (ns.map V.int).length ≤ sizeLine := by
    rw [List.length_map]
    exact hl
  constructor
  · intro b u q
    unfold atCall at q
    split at q
    · rename_i c
      obtain ⟨t, ht, rfl⟩ := c
      cases q
      exact S.empty t ht
    · split at q
      · rename_i c
        obtain ⟨rfl, hk⟩ := c
        cases q
        exact ⟨ha, hlen, us, _, hv, ha⟩
      · cases q
  · cases hk : K.lookup a with
    | none => exact Or.inl (Or.inr ⟨Given us, (if_neg nt).trans (if_pos ⟨rfl, hk⟩)⟩)
    | some o =>
      have e := S.kin a o hk
      rw [ha] at e
      obtain rfl := Option.some.inj e
      refine Or.inr ⟨Given us, us.toArray, _, hk, rfl, rfl, rfl, ?_, by simpa using hv⟩
      have e1 := hi.length
      show us.toArray.size ≤ sizeLine
      rw [List.size_toArray]
      omega
/-- the row's call -/
theorem run {CX : CXT} {k : Nat} {fa : Addr} {fd : FuncData} {x : Str} {sp : Sp} {s : Shared} {R : PySem.W.WRecords} {cl : Str → Option Addr} {d : WData} (S : Stand K mg mb tabs s.heap) (bare : s.gens = #[]) (room : Room k callerA)
    (ha : s.heap.get? a = some (Given us)) (hi : IntsAre us ns) (hl : ns.length ≤ sizeLine) (bind : ∀ (s : Shared) (u : Value), BindsTo s fd ⟨[u], []⟩ [(x, u)])
    (holds : ∀ base : Heap, K.In base → base.Ns mainGlobals mg → (∀ t ∈ tabs, LamX.TabB base mg t.1 t.2) → FnOk P w K mg base CX k fa fd [x] sp)
    (due : ∀ H : Hp, (∀ t ∈ tabs, H t.2 = some (.tbl #[])) → SqL K H a (ns.map V.int) → sp [.ref a] H (fun v H' => Dw K H' v d) fun _ _ _ => False)
    (none_out : ∀ H e s', CX [] H s (fun _ _ _ => False) e s' → False) :
    codeAny (model P w) callerA (.call (.ref fa) ⟨[.ref a], []⟩) (fun r s' => ∃ u as, r = .ok (.ret u) ∧ ReadsW R cl s'.heap u d as ∧ OldK s.heap s'.heap ∧ s'.os = s.os ∧ AllBare s'.gens) s := by
  have few := atCall_few (ns := ns) S ha
  obtain ⟨ok, sq⟩ := atCall_ok (P := P) (w := w) S ha hi hl
  generalize atCall K tabs a us ns = H at few ok sq
  have env : Env0 P w K mg (hidT s.heap H) callerA [] s H := by
    refine ⟨rfl, few.mod S, fun b o => of_hidT, ?_, trivial, fun b hb => ?_, ok, .of_eq bare⟩
    · rw [hidT_size]
      exact Nat.le_refl _
    · exact absurd (show b ∈ ([] : List Addr) from hb) List.not_mem_nil
  have F := holds _ (few.kin S) (few.ns S S.main) fun t ht => few.tab S ht
  refine codeAny_mono (F.run callerA [] s H ⟨[.ref a], []⟩ [.ref a] [.ref a] _ _ room env (bind s (.ref a)) (.cons rfl .nil) (due H few.all sq)) fun r s' z => ?_
  match r, z with
  | .error e, z => exact (none_out H e s' z).elim
  | .ok .next, z => exact z.elim
  | .ok .brk, z => exact z.elim
  | .ok .cont, z => exact z.elim
  | .ok (.ret u), z =>
    obtain ⟨v, H', z1, z2, z3, z4, z5, z6⟩ := z
    obtain ⟨old, kin⟩ := few.old S ok z4 z3
    obtain ⟨as, read⟩ := Dw.reads (R := R) (cl := cl) z4 kin d v u z6 z5
    exact ⟨u, as, rfl, read, old, z1, z2⟩
end
/-- what is to be shown of the row's def, at the heap that the top leaves -/
def Due (r : OpenSpec) (w : World) (K : PySem.W.Frag) (CX : CXT) (k : Nat) (x : Str) (mg : Str → Option Value) (fa : Addr) (h : Heap) : Prop :=
  ∃ (fd : FuncData) (tabs : List (Addr × Addr)) (sp : Sp), (∀ t ∈ tabs, PySem.W.CodeHd h t.1 t.2 ∧ h.get? t.2 = some Empty ∧ K.lookup t.2 = none) ∧ (∀ (s : Shared) (u : Value), BindsTo s fd ⟨[u], []⟩ [(x, u)]) ∧
    (∀ (H : Hp) (a : Addr) (ns : List Int) (q : Codec.denoteAll r.args), Codec.encAll r.args q = [WData.list (ns.map WData.int)] → Codec.withinAll r.args q = true → Codec.app r.args r.asked q = true → (∀ t ∈ tabs, H t.2 = some (.tbl #[])) → SqL K H a (ns.map V.int) →
      sp [.ref a] H (fun v H' => Dw K H' v (r.ret.enc (Codec.app r.args r.f q))) fun _ _ _ => False) ∧
    ∀ base : Heap, K.In base → base.Ns mainGlobals mg → (∀ t ∈ tabs, LamX.TabB base mg t.1 t.2) → FnOk r.prog w K mg base CX k fa fd [x] sp
/-- what k_headS leaves, from that -/
theorem walk {r : OpenSpec} {k : Nat} {q : Program} {loose : List Str} {XP : (Str → Option Value) → Heap → Prop} {YP : World → Heap → Prop} {d : DefRec} {K : Params → PySem.W.Frag} {CX : CXT} {x : Str}
    (well : r.wellSaid = true) (one : ∀ a : Codec.denoteAll r.args, ∃ ns : List Int, Codec.encAll r.args a = [WData.list (ns.map WData.int)]) (room : Room k callerA) (kin : ∀ (w : World) (h : Heap), YP w h → (K w.params).In h)
    (F : ∀ (w : World) (mean : ExcName → Option Value) (mg mb : Str → Option Value) (fa : Addr) (h : Heap), (K w.params).In h → Top q (PySem.W.looseW q loose) mean mg mb h → mg d.name = some (.ref fa) → Due r w (K w.params) CX k x mg fa h)
    (none_out : ∀ (H : Hp) (s : Shared) (e : Value) (s' : Shared), CX [] H s (fun _ _ _ => False) e s' → False) : PySem.W.WalkOS q loose XP YP r d [] (fun f vs => PySem.call f vs) := by
  intro w s₀ s mg mb G Y fa o pm cd doc dV kV _ _ _ _ hmg bare args vals as pre lay _ wa _
  obtain ⟨a, dec, asked⟩ := PySem.W.os_pre_some pre
  have enc := Codec.encAll_of_decAll r.args args a dec
  obtain ⟨rfl, within⟩ := enc
  have X := kin w _ Y
  obtain ⟨ns, en⟩ := one a
  obtain ⟨fd, tabs, sp, ht, bind, due, holds⟩ := F w _ mg mb fa _ X G.T hmg
  have S : Stand (K w.params) mg mb tabs s.heap := ⟨X, G.T.g, G.T.b, G.T.builtins, G.T.nolimit, fun t m => (ht t m).2.1, fun t m => (ht t m).2.2, fun t m => (ht t m).1, G.T.bmain⟩
  have len : ns.length ≤ sizeLine := by
    have hm : WData.list (ns.map WData.int) ∈ Codec.encAll r.args a := by rw [en]; exact List.mem_singleton.mpr rfl
    have h1 : WData.weightAll (ns.map WData.int) ≤ 1048576 := layable_weight lay _ hm
    have h2 := Nat.le_trans (PySem.W.length_le_weightAllW _) h1
    rw [List.length_map] at h2
    exact Nat.le_trans h2 (by decide)
  obtain ⟨ad, us, rfl, obj, all⟩ : ∃ (ad : Addr) (us : List Value), vals = [.ref ad] ∧ s.heap.get? ad = some (Given us) ∧ WellAll w.params s.heap us (ns.map WData.int) := by
    rw [en] at wa
    match vals, wa with
    | [_], .cons (.list g1 g2) .nil => exact ⟨_, _, rfl, g1, g2⟩
  refine PySem.W.enter_call (codeAny_mono (run (R := []) (cl := classAt s₀.heap) (d := r.ret.enc (Codec.app r.args r.f a)) S bare room obj (laid_ints all) len bind holds (fun H h1 h2 => due H ad ns a en within asked h1 h2) fun H e s' => none_out H s e s') fun res s' z => ?_)
  obtain ⟨u, bs, rfl, y1, y2, y3, y4⟩ := z
  refine ⟨.inl ⟨u, _, bs, rfl, fun _ => rfl, y1, ?_, fun z => Bool.noConfusion (show false = true from z)⟩, y2, y3, y4⟩
  exact (OpenSpec.post_iff well within _ _).mpr rfl
end KT
/-! # The program's statements by name, their names by slot (printed by gen_text.py) -/
namespace KX
open PySem PySem.Spec PyProof.Rows L2
def top (i : Nat) : Stmt := PySem.Challenge.pw_matchedhides_s01_answers.main.body.getD i (.Pass ⟨0, 0, 0, 0⟩)
/-- Hide_init -/
abbrev s_Hide_init : Stmt := inClass (top 7) 0
abbrev n_Hide_init : List Str := ["self", "kind", "thickness", "area"]
theorem sc_Hide_init : FnScope n_Hide_init ["self", "kind", "thickness", "area"] (defScope s_Hide_init) := ⟨rfl, rfl, rfl, by decide +kernel, rfl, by decide +kernel, by decide +kernel⟩
/-- hides_at -/
abbrev s_hides_at : Stmt := top 8
abbrev n_hides_at : List Str := ["hides", "numbers", "number"]
theorem sc_hides_at : FnScope n_hides_at ["hides", "numbers"] (defScope s_hides_at) := ⟨rfl, rfl, rfl, by decide +kernel, rfl, by decide +kernel, by decide +kernel⟩
/-- area_of -/
abbrev s_area_of : Stmt := top 9
abbrev n_area_of : List Str := ["hides", "hide"]
theorem sc_area_of : FnScope n_area_of ["hides"] (defScope s_area_of) := ⟨rfl, rfl, rfl, by decide +kernel, rfl, by decide +kernel, by decide +kernel⟩
/-- Inventory_init -/
abbrev s_Inventory_init : Stmt := inClass (top 10) 0
abbrev n_Inventory_init : List Str := ["self", "tolerance", "lot_size"]
theorem sc_Inventory_init : FnScope n_Inventory_init ["self", "tolerance", "lot_size"] (defScope s_Inventory_init) := ⟨rfl, rfl, rfl, by decide +kernel, rfl, by decide +kernel, by decide +kernel⟩
/-- Inventory_check_number -/
abbrev s_Inventory_check_number : Stmt := inClass (top 10) 1
abbrev n_Inventory_check_number : List Str := ["self", "number"]
theorem sc_Inventory_check_number : FnScope n_Inventory_check_number ["self", "number"] (defScope s_Inventory_check_number) := ⟨rfl, rfl, rfl, by decide +kernel, rfl, by decide +kernel, by decide +kernel⟩
/-- Inventory_hide_at -/
abbrev s_Inventory_hide_at : Stmt := inClass (top 10) 2
abbrev n_Inventory_hide_at : List Str := ["self", "number"]
theorem sc_Inventory_hide_at : FnScope n_Inventory_hide_at ["self", "number"] (defScope s_Inventory_hide_at) := ⟨rfl, rfl, rfl, by decide +kernel, rfl, by decide +kernel, by decide +kernel⟩
/-- Inventory_different_hides -/
abbrev s_Inventory_different_hides : Stmt := inClass (top 10) 3
abbrev n_Inventory_different_hides : List Str := ["self", "numbers", "number"]
theorem sc_Inventory_different_hides : FnScope n_Inventory_different_hides ["self", "numbers"] (defScope s_Inventory_different_hides) := ⟨rfl, rfl, rfl, by decide +kernel, rfl, by decide +kernel, by decide +kernel⟩
/-- Request_init -/
abbrev s_Request_init : Stmt := inClass (top 11) 0
abbrev n_Request_init : List Str := ["self"]
theorem sc_Request_init : FnScope n_Request_init ["self"] (defScope s_Request_init) := ⟨rfl, rfl, rfl, by decide +kernel, rfl, by decide +kernel, by decide +kernel⟩
/-- Request_existing_inventory -/
abbrev s_Request_existing_inventory : Stmt := inClass (top 11) 1
abbrev n_Request_existing_inventory : List Str := ["self"]
theorem sc_Request_existing_inventory : FnScope n_Request_existing_inventory ["self"] (defScope s_Request_existing_inventory) := ⟨rfl, rfl, rfl, by decide +kernel, rfl, by decide +kernel, by decide +kernel⟩
/-- check_limits -/
abbrev s_check_limits : Stmt := top 19
abbrev n_check_limits : List Str := ["tolerance", "lot_size"]
theorem sc_check_limits : FnScope n_check_limits ["tolerance", "lot_size"] (defScope s_check_limits) := ⟨rfl, rfl, rfl, by decide +kernel, rfl, by decide +kernel, by decide +kernel⟩
/-- check_kind -/
abbrev s_check_kind : Stmt := top 20
abbrev n_check_kind : List Str := ["kind"]
theorem sc_check_kind : FnScope n_check_kind ["kind"] (defScope s_check_kind) := ⟨rfl, rfl, rfl, by decide +kernel, rfl, by decide +kernel, by decide +kernel⟩
/-- check_measures -/
abbrev s_check_measures : Stmt := top 21
abbrev n_check_measures : List Str := ["kind", "thickness", "area"]
theorem sc_check_measures : FnScope n_check_measures ["kind", "thickness", "area"] (defScope s_check_measures) := ⟨rfl, rfl, rfl, by decide +kernel, rfl, by decide +kernel, by decide +kernel⟩
/-- numbers_in_order -/
abbrev s_numbers_in_order : Stmt := top 23
abbrev n_numbers_in_order : List Str := ["hides", "rank"]
theorem sc_numbers_in_order : FnScope n_numbers_in_order ["hides"] (defScope s_numbers_in_order) := ⟨rfl, rfl, rfl, by decide +kernel, rfl, by decide +kernel, by decide +kernel⟩
/-- hides_match -/
abbrev s_hides_match : Stmt := top 24
abbrev n_hides_match : List Str := ["one", "other", "tolerance"]
theorem sc_hides_match : FnScope n_hides_match ["one", "other", "tolerance"] (defScope s_hides_match) := ⟨rfl, rfl, rfl, by decide +kernel, rfl, by decide +kernel, by decide +kernel⟩
/-- any_two_match -/
abbrev s_any_two_match : Stmt := top 25
abbrev n_any_two_match : List Str := ["hides", "tolerance", "place", "one", "other"]
theorem sc_any_two_match : FnScope n_any_two_match ["hides", "tolerance"] (defScope s_any_two_match) := ⟨rfl, rfl, rfl, by decide +kernel, rfl, by decide +kernel, by decide +kernel⟩
/-- make_lot -/
abbrev s_make_lot : Stmt := top 26
abbrev n_make_lot : List Str := ["hides", "tolerance", "lot_size"]
theorem sc_make_lot : FnScope n_make_lot ["hides", "tolerance", "lot_size"] (defScope s_make_lot) := ⟨rfl, rfl, rfl, by decide +kernel, rfl, by decide +kernel, by decide +kernel⟩
/-- lots_in_order -/
abbrev s_lots_in_order : Stmt := top 27
abbrev n_lots_in_order : List Str := ["hides", "tolerance", "lot_size", "lots", "number"]
theorem sc_lots_in_order : FnScope n_lots_in_order ["hides", "tolerance", "lot_size"] (defScope s_lots_in_order) := ⟨rfl, rfl, rfl, by decide +kernel, rfl, by decide +kernel, by decide +kernel⟩
/-- incompatible_in_order -/
abbrev s_incompatible_in_order : Stmt := top 28
abbrev n_incompatible_in_order : List Str := ["hides", "tolerance", "taken", "number"]
theorem sc_incompatible_in_order : FnScope n_incompatible_in_order ["hides", "tolerance"] (defScope s_incompatible_in_order) := ⟨rfl, rfl, rfl, by decide +kernel, rfl, by decide +kernel, by decide +kernel⟩
/-- numbers_of_kind -/
abbrev s_numbers_of_kind : Stmt := top 30
abbrev n_numbers_of_kind : List Str := ["hides", "kind", "number"]
theorem sc_numbers_of_kind : FnScope n_numbers_of_kind ["hides", "kind"] (defScope s_numbers_of_kind) := ⟨rfl, rfl, rfl, by decide +kernel, rfl, by decide +kernel, by decide +kernel⟩
/-- leaving_over -/
abbrev s_leaving_over : Stmt := top 31
abbrev n_leaving_over : List Str := ["numbers", "place"]
theorem sc_leaving_over : FnScope n_leaving_over ["numbers", "place"] (defScope s_leaving_over) := ⟨rfl, rfl, rfl, by decide +kernel, rfl, by decide +kernel, by decide +kernel⟩
/-- difference_of -/
abbrev s_difference_of : Stmt := top 32
abbrev n_difference_of : List Str := ["hides", "paired", "difference", "place"]
theorem sc_difference_of : FnScope n_difference_of ["hides", "paired"] (defScope s_difference_of) := ⟨rfl, rfl, rfl, by decide +kernel, rfl, by decide +kernel, by decide +kernel⟩
/-- paired_in_order -/
abbrev s_paired_in_order : Stmt := top 33
abbrev n_paired_in_order : List Str := ["hides", "kind", "ordered", "best", "place", "other"]
theorem sc_paired_in_order : FnScope n_paired_in_order ["hides", "kind"] (defScope s_paired_in_order) := ⟨rfl, rfl, rfl, by decide +kernel, rfl, by decide +kernel, by decide +kernel⟩
/-- runs_in_order -/
abbrev s_runs_in_order : Stmt := top 35
abbrev n_runs_in_order : List Str := ["hides", "tolerance", "ordered", "runs", "first", "behind", "run"]
theorem sc_runs_in_order : FnScope n_runs_in_order ["hides", "tolerance"] (defScope s_runs_in_order) := ⟨rfl, rfl, rfl, by decide +kernel, rfl, by decide +kernel, by decide +kernel⟩
/-- largest_part -/
abbrev s_largest_part : Stmt := top 36
abbrev n_largest_part : List Str := ["hides", "run", "lot_size", "rank", "places", "place"]
theorem sc_largest_part : FnScope n_largest_part ["hides", "run", "lot_size"] (defScope s_largest_part) := ⟨rfl, rfl, rfl, by decide +kernel, rfl, by decide +kernel, by decide +kernel⟩
/-- largest_of_lots -/
abbrev s_largest_of_lots : Stmt := top 37
abbrev n_largest_of_lots : List Str := ["hides", "tolerance", "lot_size", "largest", "run", "part"]
theorem sc_largest_of_lots : FnScope n_largest_of_lots ["hides", "tolerance", "lot_size"] (defScope s_largest_of_lots) := ⟨rfl, rfl, rfl, by decide +kernel, rfl, by decide +kernel, by decide +kernel⟩
/-- create -/
abbrev s_create : Stmt := top 39
abbrev n_create : List Str := ["request", "numbers"]
theorem sc_create : FnScope n_create ["request", "numbers"] (defScope s_create) := ⟨rfl, rfl, rfl, by decide +kernel, rfl, by decide +kernel, by decide +kernel⟩
/-- add_hide -/
abbrev s_add_hide : Stmt := top 40
abbrev n_add_hide : List Str := ["inventory", "numbers", "number"]
theorem sc_add_hide : FnScope n_add_hide ["inventory", "numbers"] (defScope s_add_hide) := ⟨rfl, rfl, rfl, by decide +kernel, rfl, by decide +kernel, by decide +kernel⟩
/-- remove_hide -/
abbrev s_remove_hide : Stmt := top 41
abbrev n_remove_hide : List Str := ["inventory", "numbers"]
theorem sc_remove_hide : FnScope n_remove_hide ["inventory", "numbers"] (defScope s_remove_hide) := ⟨rfl, rfl, rfl, by decide +kernel, rfl, by decide +kernel, by decide +kernel⟩
/-- get_hide -/
abbrev s_get_hide : Stmt := top 42
abbrev n_get_hide : List Str := ["inventory", "numbers", "hide"]
theorem sc_get_hide : FnScope n_get_hide ["inventory", "numbers"] (defScope s_get_hide) := ⟨rfl, rfl, rfl, by decide +kernel, rfl, by decide +kernel, by decide +kernel⟩
/-- set_limits -/
abbrev s_set_limits : Stmt := top 43
abbrev n_set_limits : List Str := ["inventory", "numbers", "previous"]
theorem sc_set_limits : FnScope n_set_limits ["inventory", "numbers"] (defScope s_set_limits) := ⟨rfl, rfl, rfl, by decide +kernel, rfl, by decide +kernel, by decide +kernel⟩
/-- thin_hide -/
abbrev s_thin_hide : Stmt := top 44
abbrev n_thin_hide : List Str := ["inventory", "numbers", "hide", "previous"]
theorem sc_thin_hide : FnScope n_thin_hide ["inventory", "numbers"] (defScope s_thin_hide) := ⟨rfl, rfl, rfl, by decide +kernel, rfl, by decide +kernel, by decide +kernel⟩
/-- hide_order -/
abbrev s_hide_order : Stmt := top 45
abbrev n_hide_order : List Str := ["inventory", "numbers", "ordered"]
theorem sc_hide_order : FnScope n_hide_order ["inventory", "numbers"] (defScope s_hide_order) := ⟨rfl, rfl, rfl, by decide +kernel, rfl, by decide +kernel, by decide +kernel⟩
/-- are_compatible -/
abbrev s_are_compatible : Stmt := top 46
abbrev n_are_compatible : List Str := ["inventory", "numbers", "one", "other"]
theorem sc_are_compatible : FnScope n_are_compatible ["inventory", "numbers"] (defScope s_are_compatible) := ⟨rfl, rfl, rfl, by decide +kernel, rfl, by decide +kernel, by decide +kernel⟩
/-- is_lot -/
abbrev s_is_lot : Stmt := top 47
abbrev n_is_lot : List Str := ["inventory", "numbers", "hides"]
theorem sc_is_lot : FnScope n_is_lot ["inventory", "numbers"] (defScope s_is_lot) := ⟨rfl, rfl, rfl, by decide +kernel, rfl, by decide +kernel, by decide +kernel⟩
/-- lots_of -/
abbrev s_lots_of : Stmt := top 48
abbrev n_lots_of : List Str := ["inventory", "hides"]
theorem sc_lots_of : FnScope n_lots_of ["inventory", "hides"] (defScope s_lots_of) := ⟨rfl, rfl, rfl, by decide +kernel, rfl, by decide +kernel, by decide +kernel⟩
/-- fewest_lots -/
abbrev s_fewest_lots : Stmt := top 49
abbrev n_fewest_lots : List Str := ["inventory", "numbers"]
theorem sc_fewest_lots : FnScope n_fewest_lots ["inventory", "numbers"] (defScope s_fewest_lots) := ⟨rfl, rfl, rfl, by decide +kernel, rfl, by decide +kernel, by decide +kernel⟩
/-- greedy_lots -/
abbrev s_greedy_lots : Stmt := top 50
abbrev n_greedy_lots : List Str := ["inventory", "numbers", "lots", "told", "lot"]
theorem sc_greedy_lots : FnScope n_greedy_lots ["inventory", "numbers"] (defScope s_greedy_lots) := ⟨rfl, rfl, rfl, by decide +kernel, rfl, by decide +kernel, by decide +kernel⟩
/-- incompatible_hides -/
abbrev s_incompatible_hides : Stmt := top 51
abbrev n_incompatible_hides : List Str := ["inventory", "numbers", "taken"]
theorem sc_incompatible_hides : FnScope n_incompatible_hides ["inventory", "numbers"] (defScope s_incompatible_hides) := ⟨rfl, rfl, rfl, by decide +kernel, rfl, by decide +kernel, by decide +kernel⟩
/-- largest_lot -/
abbrev s_largest_lot : Stmt := top 52
abbrev n_largest_lot : List Str := ["inventory", "numbers", "lot"]
theorem sc_largest_lot : FnScope n_largest_lot ["inventory", "numbers"] (defScope s_largest_lot) := ⟨rfl, rfl, rfl, by decide +kernel, rfl, by decide +kernel, by decide +kernel⟩
/-- total_area -/
abbrev s_total_area : Stmt := top 53
abbrev n_total_area : List Str := ["inventory", "numbers"]
theorem sc_total_area : FnScope n_total_area ["inventory", "numbers"] (defScope s_total_area) := ⟨rfl, rfl, rfl, by decide +kernel, rfl, by decide +kernel, by decide +kernel⟩
/-- best_pairs -/
abbrev s_best_pairs : Stmt := top 54
abbrev n_best_pairs : List Str := ["inventory", "numbers", "paired"]
theorem sc_best_pairs : FnScope n_best_pairs ["inventory", "numbers"] (defScope s_best_pairs) := ⟨rfl, rfl, rfl, by decide +kernel, rfl, by decide +kernel, by decide +kernel⟩
/-- least_tolerance -/
abbrev s_least_tolerance : Stmt := top 55
abbrev n_least_tolerance : List Str := ["inventory", "numbers", "tolerance"]
theorem sc_least_tolerance : FnScope n_least_tolerance ["inventory", "numbers"] (defScope s_least_tolerance) := ⟨rfl, rfl, rfl, by decide +kernel, rfl, by decide +kernel, by decide +kernel⟩
/-- lots_without_hide -/
abbrev s_lots_without_hide : Stmt := top 56
abbrev n_lots_without_hide : List Str := ["inventory", "numbers", "others"]
theorem sc_lots_without_hide : FnScope n_lots_without_hide ["inventory", "numbers"] (defScope s_lots_without_hide) := ⟨rfl, rfl, rfl, by decide +kernel, rfl, by decide +kernel, by decide +kernel⟩
/-- lots_with_hide -/
abbrev s_lots_with_hide : Stmt := top 57
abbrev n_lots_with_hide : List Str := ["inventory", "numbers", "hides"]
theorem sc_lots_with_hide : FnScope n_lots_with_hide ["inventory", "numbers"] (defScope s_lots_with_hide) := ⟨rfl, rfl, rfl, by decide +kernel, rfl, by decide +kernel, by decide +kernel⟩
/-- status -/
abbrev s_status : Stmt := top 58
abbrev n_status : List Str := ["inventory", "numbers"]
theorem sc_status : FnScope n_status ["inventory", "numbers"] (defScope s_status) := ⟨rfl, rfl, rfl, by decide +kernel, rfl, by decide +kernel, by decide +kernel⟩
/-- result_of -/
abbrev s_result_of : Stmt := top 60
abbrev n_result_of : List Str := ["request", "operation", "numbers", "inventory", "carry_out"]
theorem sc_result_of : FnScope n_result_of ["request", "operation", "numbers"] (defScope s_result_of) := ⟨rfl, rfl, rfl, by decide +kernel, rfl, by decide +kernel, by decide +kernel⟩
/-- answer_of -/
abbrev s_answer_of : Stmt := top 62
abbrev n_answer_of : List Str := ["request", "operation", "numbers"]
theorem sc_answer_of : FnScope n_answer_of ["request", "operation", "numbers"] (defScope s_answer_of) := ⟨rfl, rfl, rfl, by decide +kernel, rfl, by decide +kernel, by decide +kernel⟩
/-- answers -/
abbrev s_answers : Stmt := top 63
abbrev n_answers : List Str := ["calls", "request", "told", "place", "first", "behind", "answer"]
theorem sc_answers : FnScope n_answers ["calls"] (defScope s_answers) := ⟨rfl, rfl, rfl, by decide +kernel, rfl, by decide +kernel, by decide +kernel⟩
end KX
/-! # How the inventory lies in the heap; what the top has written; a def by its name -/
namespace KX
open PySem PySem.Spec PyProof.Rows L2
open Kp394 (Hide Inventory)

/-! ### fields -/
theorem lk_here {k : Str} {v : V} {r : List (Str × V)} : List.lookup k ((k, v) :: r) = some v := by
  have e : (k == k) = true := beq_self_eq_true k
  simp only [List.lookup, e]
theorem lk_past {k g : Str} {v : V} {r : List (Str × V)} (h : (k == g) = false) : List.lookup k ((g, v) :: r) = List.lookup k r := by
  simp only [List.lookup, h]
theorem put_here {f : Str} {v x : V} {r : List (Str × V)} : putF f v ((f, x) :: r) = (f, v) :: r := if_pos rfl
theorem put_past {f g : Str} {v x : V} {r : List (Str × V)} (h : ¬ g = f) : putF f v ((g, x) :: r) = (g, x) :: putF f v r := if_neg h

/-! ### a hide -/
def hideF (h : Hide) : List (Str × V) := [("kind", .int (h.kind : Nat)), ("thickness", .int (h.thickness : Nat)), ("area", .int (h.area : Nat))]
def HideAt (C : Addr) (H : Hp) (a : Addr) (h : Hide) : Prop := ∃ dx, H a = some (.ins C dx (hideF h))
theorem hide_kind (h : Hide) : (hideF h).lookup ("kind" : Str) = some (.int (h.kind : Nat)) := lk_here
theorem hide_thickness (h : Hide) : (hideF h).lookup ("thickness" : Str) = some (.int (h.thickness : Nat)) := (lk_past (by decide +kernel)).trans lk_here
theorem hide_area (h : Hide) : (hideF h).lookup ("area" : Str) = some (.int (h.area : Nat)) := (lk_past (by decide +kernel)).trans ((lk_past (by decide +kernel)).trans lk_here)
theorem hide_thin (h : Hide) (t : Nat) : putF "thickness" (.int (t : Nat)) (hideF h) = hideF { h with thickness := t } := (put_past (by decide +kernel)).trans (congrArg _ put_here)
theorem hide_new (k t a : Nat) : putF "area" (.int (a : Nat)) (putF "thickness" (.int (t : Nat)) (putF "kind" (.int (k : Nat)) [])) = hideF ⟨k, t, a⟩ := by
  show putF "area" (.int (a : Nat)) (putF "thickness" (.int (t : Nat)) [("kind", .int (k : Nat))]) = _
  rw [put_past (by decide +kernel)]
  show putF "area" (.int (a : Nat)) [("kind", .int (k : Nat)), ("thickness", .int (t : Nat))] = _
  rw [put_past (by decide +kernel), put_past (by decide +kernel)]
  rfl
/-! ### all but what stands in fp, and the tables of code objects, is as it was; nothing is forgotten -/
structure Kept (fp : List Addr) (H H' : Hp) : Prop where
  at_ : ∀ b o, H b = some o → b ∉ fp → (∀ ps, o ≠ .tbl ps) → H' b = some o
  back : ∀ b, H' b = none → H b = none
theorem Kept.refl (fp : List Addr) (H : Hp) : Kept fp H H := ⟨fun _ _ e _ _ => e, fun _ e => e⟩
theorem Kept.trans {fp : List Addr} {H H1 H2 : Hp} (k : Kept fp H H1) (k' : Kept fp H1 H2) : Kept fp H H2 := ⟨fun b o e n t => k'.at_ b o (k.at_ b o e n t) n t, fun b e => k.back b (k'.back b e)⟩
theorem Kept.mono {fp fp' : List Addr} {H H' : Hp} (k : Kept fp H H') (s : ∀ b ∈ fp, b ∈ fp') : Kept fp' H H' := ⟨fun b o e n t => k.at_ b o e (fun m => n (s b m)) t, k.back⟩
theorem upd_back {H : Hp} {p b : Addr} {o : HO} (e : upd H p o b = none) : H b = none := NdefX.upd_none e
theorem Kept.new {fp : List Addr} {H : Hp} {p : Addr} {o : HO} (n : H p = none) : Kept fp H (upd H p o) := ⟨fun _ _ e _ _ => (upd_ne (ne_of_none e n)).trans e, fun _ e => upd_back e⟩
theorem Kept.put {H : Hp} {p : Addr} {o : HO} : Kept [p] H (upd H p o) := ⟨fun b _ e n _ => (upd_ne fun z => n (by rw [z]; exact List.mem_singleton.mpr rfl)).trans e, fun _ e => upd_back e⟩
theorem Kept.ext {H H' : Hp} (k : LamX.ExtN H H') (n : ∀ b, H' b = none → H b = none) {fp : List Addr} : Kept fp H H' := ⟨fun b o e _ t => k b o e t, n⟩
/-- what is new behind it was new ahead of it; what was there is no new one -/
theorem Kept.ne {fp : List Addr} {H H' : Hp} (k : Kept fp H H') {a b : Addr} {o : HO} (e : H a = some o) (n : H' b = none) : a ≠ b := ne_of_none e (k.back b n)
theorem lst_tbl {xs : List V} : ∀ ps, HO.lst xs ≠ .tbl ps := fun _ z => by cases z
theorem ins_tbl {C dx : Addr} {fs : List (Str × V)} : ∀ ps, HO.ins C dx fs ≠ .tbl ps := fun _ z => by cases z
theorem frz_tbl {o : Obj} {u : HO} : ∀ ps, HO.frz o u ≠ .tbl ps := fun _ z => by cases z
theorem Kept.hide {fp : List Addr} {H H' : Hp} (k : Kept fp H H') {C a : Addr} {h : Hide} (x : HideAt C H a h) (n : a ∉ fp) : HideAt C H' a h := by
  obtain ⟨dx, e⟩ := x
  exact ⟨dx, k.at_ _ _ e n ins_tbl⟩
theorem Kept.seq {fp : List Addr} {H H' : Hp} (k : Kept fp H H') {K : PySem.W.Frag} {a : Addr} {xs : List V} (x : SqL K H a xs) (n : a ∉ fp) : SqL K H' a xs := by
  rcases x with (x | ⟨o, x⟩) | x
  · exact .inl (.inl (k.at_ _ _ x n lst_tbl))
  · exact .inl (.inr ⟨o, k.at_ _ _ x n frz_tbl⟩)
  · exact .inr x

/-! ### the hides, one object each -/
structure Held (C : Addr) (H : Hp) (as : List Addr) (hs : List Hide) : Prop where
  len : as.length = hs.length
  at_ : ∀ (i : Nat) (a : Addr) (h : Hide), as[i]? = some a → hs[i]? = some h → HideAt C H a h
  nd : as.Nodup
theorem Held.get {C : Addr} {H : Hp} {as : List Addr} {hs : List Hide} (x : Held C H as hs) {i : Nat} {h : Hide} (e : hs[i]? = some h) : ∃ a, as[i]? = some a ∧ HideAt C H a h := by
  have q := (List.getElem?_eq_some_iff.mp e).1
  have e2 : as[i]? = some (as[i]'(by rw [x.len]; exact q)) := List.getElem?_eq_getElem _
  exact ⟨_, e2, x.at_ i _ h e2 e⟩
theorem Held.of {C : Addr} {H : Hp} {as : List Addr} {hs : List Hide} (x : Held C H as hs) {a : Addr} (m : a ∈ as) : ∃ h, h ∈ hs ∧ HideAt C H a h := by
  obtain ⟨i, e⟩ := List.mem_iff_getElem?.mp m
  have q := (List.getElem?_eq_some_iff.mp e).1
  have e2 : hs[i]? = some (hs[i]'(by rw [← x.len]; exact q)) := List.getElem?_eq_getElem _
  exact ⟨_, List.mem_of_getElem? e2, x.at_ i a _ e e2⟩
theorem Held.kept {C : Addr} {H H' : Hp} {as : List Addr} {hs : List Hide} (x : Held C H as hs) {fp : List Addr} (k : Kept fp H H') (n : ∀ a ∈ as, a ∉ fp) : Held C H' as hs :=
  ⟨x.len, fun i a h e e' => k.hide (x.at_ i a h e e') (n a (List.mem_of_getElem? e)), x.nd⟩
theorem Held.nil {C : Addr} {H : Hp} : Held C H [] [] := ⟨rfl, fun i a h e => by simp at e, List.nodup_nil⟩
theorem Held.more {C : Addr} {H : Hp} {as : List Addr} {hs : List Hide} {a : Addr} {h : Hide} (x : Held C H as hs) (y : HideAt C H a h) (n : a ∉ as) : Held C H (as ++ [a]) (hs ++ [h]) where
  len := by rw [List.length_append, List.length_append, x.len]; rfl
  at_ := fun i b g e e' => by
    rw [List.getElem?_append] at e e'
    by_cases c : i < as.length
    · rw [if_pos c] at e
      rw [if_pos (by rw [← x.len]; exact c)] at e'
      exact x.at_ i b g e e'
    · rw [if_neg c] at e
      rw [if_neg (by rw [← x.len]; exact c), ← x.len] at e'
      cases q : i - as.length with
      | zero =>
        rw [q] at e e'
        cases e
        cases e'
        exact y
      | succ j =>
        rw [q] at e
        simp at e
  nd := by
    rw [List.nodup_append]
    refine ⟨x.nd, by simp, fun b hb c hc => ?_⟩
    obtain rfl := List.mem_singleton.mp hc
    rintro rfl
    exact n hb
theorem Held.less {C : Addr} {H : Hp} {as : List Addr} {hs : List Hide} (x : Held C H as hs) (k : Nat) : Held C H (as.eraseIdx k) (hs.eraseIdx k) where
  len := by rw [List.length_eraseIdx, List.length_eraseIdx, x.len]
  at_ := fun i a h e e' => by
    rw [List.getElem?_eraseIdx] at e e'
    by_cases c : i < k
    · rw [if_pos c] at e e'
      exact x.at_ i a h e e'
    · rw [if_neg c] at e e'
      exact x.at_ (i + 1) a h e e'
  nd := x.nd.sublist (List.eraseIdx_sublist ..)
theorem Held.set {C : Addr} {H H' : Hp} {as : List Addr} {hs : List Hide} {i : Nat} {a : Addr} {h : Hide} (x : Held C H as hs) (e : as[i]? = some a) (y : HideAt C H' a h) (k : Kept [a] H H') : Held C H' as (hs.set i h) where
  len := by rw [List.length_set]; exact x.len
  at_ := fun j b g e1 e2 => by
    rw [List.getElem?_set] at e2
    by_cases c : i = j
    · subst c
      rw [if_pos rfl] at e2
      split at e2
      · cases e2
        rw [e] at e1
        cases e1
        exact y
      · cases e2
    · rw [if_neg c] at e2
      refine k.hide (x.at_ j b g e1 e2) fun m => c ?_
      obtain rfl := List.mem_singleton.mp m
      obtain ⟨p, q⟩ := List.getElem?_eq_some_iff.mp e
      obtain ⟨p', q'⟩ := List.getElem?_eq_some_iff.mp e1
      exact (List.getElem_inj x.nd).mp (q.trans q'.symm)
  nd := x.nd

/-! ### the inventory -/
def invF (v : Inventory) (l : Addr) : List (Str × V) := [("tolerance", .int (v.tolerance : Nat)), ("lot_size", .int (v.lotSize : Nat)), ("hides", .ref l)]
theorem inv_tolerance (v : Inventory) (l : Addr) : (invF v l).lookup ("tolerance" : Str) = some (.int (v.tolerance : Nat)) := lk_here
theorem inv_lot_size (v : Inventory) (l : Addr) : (invF v l).lookup ("lot_size" : Str) = some (.int (v.lotSize : Nat)) := (lk_past (by decide +kernel)).trans lk_here
theorem inv_hides (v : Inventory) (l : Addr) : (invF v l).lookup ("hides" : Str) = some (.ref l) := (lk_past (by decide +kernel)).trans ((lk_past (by decide +kernel)).trans lk_here)
theorem inv_limits (v : Inventory) (l : Addr) (t n : Nat) : putF "lot_size" (.int (n : Nat)) (putF "tolerance" (.int (t : Nat)) (invF v l)) = invF { v with tolerance := t, lotSize := n } l := by
  have e : putF "tolerance" (.int (t : Nat)) (invF v l) = invF { v with tolerance := t } l := put_here
  rw [e]
  exact (put_past (by decide +kernel)).trans (congrArg _ put_here)
theorem inv_new (t n : Nat) (l : Addr) : putF "hides" (.ref l) (putF "lot_size" (.int (n : Nat)) (putF "tolerance" (.int (t : Nat)) [])) = invF ⟨[], t, n⟩ l := by
  show putF "hides" (.ref l) (putF "lot_size" (.int (n : Nat)) [("tolerance", .int (t : Nat))]) = _
  rw [put_past (by decide +kernel)]
  show putF "hides" (.ref l) [("tolerance", .int (t : Nat)), ("lot_size", .int (n : Nat))] = _
  rw [put_past (by decide +kernel), put_past (by decide +kernel)]
  rfl
theorem invF_hides (v : Inventory) (hs : List Hide) (l : Addr) : invF { v with hides := hs } l = invF v l := rfl
/-- addresses of the classes -/
structure Ad where
  no : Addr
  such : Addr
  out : Addr
  many : Addr
  noth : Addr
  hide : Addr
  inv : Addr
  req : Addr
/-- at i the inventory v, its hides' list at l, the hides at as -/
structure InvAt (A : Ad) (H : Hp) (i l : Addr) (as : List Addr) (v : Inventory) : Prop where
  obj : ∃ dx, H i = some (.ins A.inv dx (invF v l))
  lst : H l = some (.lst (as.map V.ref))
  held : Held A.hide H as v.hides
  few : v.hides.length ≤ 12
  big : ∀ h ∈ v.hides, 1 ≤ h.area
  lot : 1 ≤ v.lotSize
theorem InvAt.kept {A : Ad} {H H' : Hp} {i l : Addr} {as : List Addr} {v : Inventory} (x : InvAt A H i l as v) {fp : List Addr} (k : Kept fp H H') (n : ∀ b ∈ i :: l :: as, b ∉ fp) : InvAt A H' i l as v where
  obj := by
    obtain ⟨dx, e⟩ := x.obj
    exact ⟨dx, k.at_ _ _ e (n i (List.mem_cons_self ..)) ins_tbl⟩
  lst := k.at_ _ _ x.lst (n l (List.mem_cons_of_mem _ (List.mem_cons_self ..))) lst_tbl
  held := x.held.kept k fun a ha => n a (List.mem_cons_of_mem _ (List.mem_cons_of_mem _ ha))
  few := x.few
  big := x.big
  lot := x.lot
theorem InvAt.same {A : Ad} {H H' : Hp} {i l : Addr} {as : List Addr} {v : Inventory} (x : InvAt A H i l as v) (k : Kept [] H H') : InvAt A H' i l as v := x.kept k fun _ _ m => absurd m List.not_mem_nil
/-- the request's object -/
def reqF (o : V) : List (Str × V) := [("inventory", o)]
theorem req_inventory (o : V) : (reqF o).lookup ("inventory" : Str) = some o := lk_here
theorem req_put (o u : V) : putF "inventory" u (reqF o) = reqF u := put_here
/-- at r the request, its inventory st; fp: all objects that belong to it -/
inductive StAt (A : Ad) (H : Hp) (r : Addr) : Option Inventory → List Addr → Prop
  | none {dx : Addr} : H r = some (.ins A.req dx (reqF .non)) → StAt A H r none [r]
  | some {dx i l : Addr} {as : List Addr} {v : Inventory} : H r = some (.ins A.req dx (reqF (.ref i))) → InvAt A H i l as v → r ≠ i → r ∉ as → StAt A H r (some v) (r :: i :: l :: as)
theorem StAt.kept {A : Ad} {H H' : Hp} {r : Addr} {st : Option Inventory} {fp fp' : List Addr} (x : StAt A H r st fp) (k : Kept fp' H H') (n : ∀ b ∈ fp, b ∉ fp') : StAt A H' r st fp := by
  cases x with
  | none e => exact .none (k.at_ _ _ e (n _ (List.mem_cons_self ..)) ins_tbl)
  | some e y n1 n2 => exact .some (k.at_ _ _ e (n _ (List.mem_cons_self ..)) ins_tbl) (y.kept k fun b hb => n b (List.mem_cons_of_mem _ hb)) n1 n2
end KX
/-! # What the top has written; the limits -/
namespace KX
open PySem PySem.Spec PyProof.Rows L2
open Kp394 (Hide Inventory)

/-- a constant of the module -/
def Const (mg : Str → Option Value) (x : Str) (v : V) : Prop := ∃ u, mg x = some u ∧ RelV v u
structure Txt (K : PySem.W.Frag) (mg : Str → Option Value) (A : Ad) : Prop where
  no : KR.Err K mg "NoInventory" A.no
  such : KR.Err K mg "NoSuchHide" A.such
  out : KR.Err K mg "OutsideLimits" A.out
  many : KR.Err K mg "TooManyHides" A.many
  noth : KR.Err K mg "NothingFound" A.noth
  hide : Cls K A.hide
  hideK : NoAttr K A.hide "kind"
  hideT : NoAttr K A.hide "thickness"
  hideA : NoAttr K A.hide "area"
  inv : Cls K A.inv
  invT : NoAttr K A.inv "tolerance"
  invL : NoAttr K A.inv "lot_size"
  invH : NoAttr K A.inv "hides"
  req : Cls K A.req
  reqI : NoAttr K A.req "inventory"
  cKind : Const mg "GREATEST_KIND" (.int 2)
  cThick : Const mg "GREATEST_THICKNESS" (.int 60)
  cArea : Const mg "GREATEST_AREA" (.int 60)
  cTol : Const mg "GREATEST_TOLERANCE" (.int 60)
  cLot : Const mg "GREATEST_LOT_SIZE" (.int 12)
  cMost : Const mg "MOST_HIDES" (.int 12)
  len : mg "len" = none
  set_ : mg "set" = none
  sum : mg "sum" = none
  sorted : mg "sorted" = none
  range : mg "range" = none
  abs : mg "abs" = none
  enumerate : mg "enumerate" = none

/-! ### promises -/
/-- check_limits -/
def spLimits (A : Ad) : Sp := fun vs H Q E => ∃ t n : Nat, vs = [.int (t : Nat), .int (n : Nat)] ∧ (Kp394.validLimits t n = true → Q .non H) ∧ (Kp394.validLimits t n = false → E (.ref A.out) none H)
/-- check_kind -/
def spKind (A : Ad) : Sp := fun vs H Q E => ∃ k : Nat, vs = [.int (k : Nat)] ∧ (k ≤ 2 → Q .non H) ∧ (¬ k ≤ 2 → E (.ref A.out) none H)
/-- check_measures -/
def spMeasures (A : Ad) : Sp := fun vs H Q E => ∃ k t a : Nat, vs = [.int (k : Nat), .int (t : Nat), .int (a : Nat)] ∧ (Kp394.validHide k t a = true → Q .non H) ∧ (Kp394.validHide k t a = false → E (.ref A.out) none H)
section
variable {P : Program} {w : World} {K : PySem.W.Frag} {mg : Str → Option Value} {base : Heap} {A : Ad}
theorem ok_limits {f : Addr} {fd : FuncData} (F : Fun K "check_limits" "check_limits" s_check_limits f fd) (T : Txt K mg A) : FnOk P w K mg base (L2.CX P w) 1 f fd ["tolerance", "lot_size"] (spLimits A) := by
  refine F.okX sc_check_limits (fun vs H Q E h => ?_) (fun cdv Ar outer s H vs Q E hr h => ⟨_, pss_cons (ps_if (pt_cmpR op_gt (pv 0) (C8.pe_gc rfl T.cTol) (nomark _)) (pss_one (KR.ps_out T.out rfl (takes_of rfl rfl rfl rfl) rfl)) pss_nil)
    (pss_one (ps_if (PW.pt (pw_or (pt_cmpR op_lt (pv 1) pe_int (nomark _)) (pw_or1 (pt_cmpR op_gt (pv 1) (C8.pe_gc rfl T.cLot) (nomark _))))) (pss_one (KR.ps_out T.out rfl (takes_of rfl rfl rfl rfl) rfl)) pss_nil)), ?_⟩)
  · obtain ⟨t, n, rfl, _⟩ := h
    rfl
  · obtain ⟨t, n, rfl, yes, no⟩ := h
    have bad : ¬ (t ≤ 60 ∧ 1 ≤ n ∧ n ≤ 12) → E (.ref A.out) none H := fun z => no (by
      unfold Kp394.validLimits Kp394.maxHides
      rw [Bool.and_assoc, ← Bool.decide_and, ← Bool.decide_and]
      exact decide_eq_false z)
    refine ⟨_, rfl, _, _, rfl, rfl, _, rfl, ite2 (fun c => ?_) (fun c => ?_)⟩
    · have c := of_decide_eq_true c
      exact bad (by omega)
    have c := of_decide_eq_false (Bool.not_eq_true _ ▸ c)
    refine ⟨_, rfl, _, _, rfl, rfl, _, rfl, ite2 (fun d => ?_) (fun d => ?_)⟩
    · have d := of_decide_eq_true d
      exact iteT (bad (by omega))
    have d := of_decide_eq_false (Bool.not_eq_true _ ▸ d)
    refine ⟨_, rfl, _, _, rfl, rfl, _, rfl, ite2 (fun e => ?_) (fun e => ?_)⟩
    · have e := of_decide_eq_true e
      exact bad (by omega)
    have e := of_decide_eq_false (Bool.not_eq_true _ ▸ e)
    refine yes ?_
    unfold Kp394.validLimits Kp394.maxHides
    rw [Bool.and_assoc, ← Bool.decide_and, ← Bool.decide_and]
    exact decide_eq_true (by omega)
theorem ok_kind {f : Addr} {fd : FuncData} (F : Fun K "check_kind" "check_kind" s_check_kind f fd) (T : Txt K mg A) : FnOk P w K mg base (L2.CX P w) 1 f fd ["kind"] (spKind A) := by
  refine F.okX sc_check_kind (fun vs H Q E h => ?_) (fun cdv Ar outer s H vs Q E hr h => ⟨_, pss_one (ps_if (pt_cmpR op_gt (pv 0) (C8.pe_gc rfl T.cKind) (nomark _)) (pss_one (KR.ps_out T.out rfl (takes_of rfl rfl rfl rfl) rfl)) pss_nil), ?_⟩)
  · obtain ⟨k, rfl, _⟩ := h
    rfl
  · obtain ⟨k, rfl, yes, no⟩ := h
    refine ⟨_, rfl, _, _, rfl, rfl, _, rfl, ite2 (fun c => ?_) (fun c => ?_)⟩
    · have c := of_decide_eq_true c
      exact no (by omega)
    · have c := of_decide_eq_false (Bool.not_eq_true _ ▸ c)
      exact yes (by omega)
theorem ok_measures {f : Addr} {fd : FuncData} (F : Fun K "check_measures" "check_measures" s_check_measures f fd) (T : Txt K mg A) (D : KR.Def P w K mg base (L2.CX P w) 1 "check_kind" (spKind A)) : FnOk P w K mg base (L2.CX P w) 2 f fd ["kind", "thickness", "area"] (spMeasures A) := by
  refine F.okX sc_check_measures (fun vs H Q E h => ?_) (fun cdv Ar outer s H vs Q E hr h => ⟨_, pss_cons (ps_expr (KR.pe_def D hr rfl (passes_call (takes_of rfl rfl rfl rfl) fun _ _ _ _ z => z) (pa_cons (pv 0) pa_nil)))
    (pss_cons (ps_if (PW.pt (pw_or (pt_cmpR op_lt (pv 1) pe_int (nomark _)) (pw_or1 (pt_cmpR op_gt (pv 1) (C8.pe_gc rfl T.cThick) (nomark _))))) (pss_one (KR.ps_out T.out rfl (takes_of rfl rfl rfl rfl) rfl)) pss_nil)
    (pss_one (ps_if (PW.pt (pw_or (pt_cmpR op_lt (pv 2) pe_int (nomark _)) (pw_or1 (pt_cmpR op_gt (pv 2) (C8.pe_gc rfl T.cArea) (nomark _))))) (pss_one (KR.ps_out T.out rfl (takes_of rfl rfl rfl rfl) rfl)) pss_nil))), ?_⟩)
  · obtain ⟨k, t, a, rfl, _⟩ := h
    rfl
  · obtain ⟨k, t, a, rfl, yes, no⟩ := h
    have bad : ¬ (k ≤ 2 ∧ 1 ≤ t ∧ t ≤ 60 ∧ 1 ≤ a ∧ a ≤ 60) → E (.ref A.out) none H := fun z => no (by
      unfold Kp394.validHide
      rw [Bool.and_assoc, Bool.and_assoc, Bool.and_assoc, ← Bool.decide_and, ← Bool.decide_and, ← Bool.decide_and, ← Bool.decide_and]
      exact decide_eq_false z)
    refine ⟨_, rfl, k, rfl, fun c => ?_, fun c => bad (by omega)⟩
    refine ⟨_, rfl, _, _, rfl, rfl, _, rfl, ite2 (fun d => ?_) (fun d => ?_)⟩
    · have d := of_decide_eq_true d
      exact iteT (bad (by omega))
    have d := of_decide_eq_false (Bool.not_eq_true _ ▸ d)
    refine ⟨_, rfl, _, _, rfl, rfl, _, rfl, ite2 (fun e => ?_) (fun e => ?_)⟩
    · have e := of_decide_eq_true e
      exact bad (by omega)
    have e := of_decide_eq_false (Bool.not_eq_true _ ▸ e)
    refine ⟨_, rfl, _, _, rfl, rfl, _, rfl, ite2 (fun g => ?_) (fun g => ?_)⟩
    · have g := of_decide_eq_true g
      exact iteT (bad (by omega))
    have g := of_decide_eq_false (Bool.not_eq_true _ ▸ g)
    refine ⟨_, rfl, _, _, rfl, rfl, _, rfl, ite2 (fun b => ?_) (fun b => ?_)⟩
    · have b := of_decide_eq_true b
      exact bad (by omega)
    have b := of_decide_eq_false (Bool.not_eq_true _ ▸ b)
    refine yes ?_
    unfold Kp394.validHide
    rw [Bool.and_assoc, Bool.and_assoc, Bool.and_assoc, ← Bool.decide_and, ← Bool.decide_and, ← Bool.decide_and, ← Bool.decide_and]
    exact decide_eq_true (by omega)
end
end KX
/-! # Lists of hides, of numbers; hides_at, area_of -/
namespace KX
open PySem PySem.Spec PyProof.Rows L2
open Kp394 (Hide Inventory)

/-- whole numbers that are not negative, as the program holds them -/
def nums (ms : List Nat) : List V := ms.map fun m => V.int (m : Nat)
theorem nums_int (ms : List Nat) : nums ms = (ms.map fun m => ((m : Nat) : Int)).map V.int := by
  unfold nums
  rw [List.map_map]
  rfl
theorem nums_at {ms : List Nat} {i : Nat} {y : V} (h : (nums ms)[i]? = some y) : ∃ m, ms[i]? = some m ∧ y = .int (m : Nat) := by
  unfold nums at h
  rw [List.getElem?_map] at h
  cases e : ms[i]? with
  | none =>
    rw [e] at h
    cases h
  | some m =>
    rw [e] at h
    exact ⟨m, rfl, (Option.some.inj h).symm⟩
/-! ### all that was tracked is as it was -/
abbrev Ext (H H' : Hp) : Prop := ∀ b o, H b = some o → H' b = some o
theorem Ext.refl (H : Hp) : Ext H H := fun _ _ e => e
theorem Ext.trans {H H1 H2 : Hp} (a : Ext H H1) (b : Ext H1 H2) : Ext H H2 := fun c o e => b c o (a c o e)
theorem Ext.new {H : Hp} {p : Addr} {o : HO} (n : H p = none) : Ext H (upd H p o) := fun _ _ e => (upd_ne (ne_of_none e n)).trans e
theorem Ext.kept {H H' : Hp} (e : Ext H H') {fp : List Addr} : Kept fp H H' := ⟨fun b o q _ _ => e b o q, fun b n => by
  cases q : H b with
  | none => rfl
  | some o =>
    rw [e b o q] at n
    cases n⟩
theorem Ext.hide {H H' : Hp} (e : Ext H H') {C a : Addr} {h : Hide} (x : HideAt C H a h) : HideAt C H' a h := e.kept (fp := []) |>.hide x List.not_mem_nil
theorem Ext.seq {H H' : Hp} (e : Ext H H') {K : PySem.W.Frag} {a : Addr} {xs : List V} (x : SqL K H a xs) : SqL K H' a xs := e.kept (fp := []) |>.seq x List.not_mem_nil

/-! ### slices -/
theorem cut_to (xs : List V) (i : Nat) : cutV xs none (some (i : Nat)) = xs.take i := by
  unfold cutV
  rw [HT.sIx_none, HT.sIx_nat, List.drop_zero, Nat.sub_zero, List.take_eq_take_min, Nat.min_assoc, Nat.min_self, ← List.take_eq_take_min]
theorem cut_both (xs : List V) (i j : Nat) (h : i ≤ j) (h' : j ≤ xs.length) : cutV xs (some (i : Nat)) (some (j : Nat)) = (xs.drop i).take (j - i) := by
  unfold cutV
  rw [HT.sIx_nat, HT.sIx_nat, Nat.min_eq_left h', Nat.min_eq_left (by omega)]

/-- a list of hides, by their addresses (a hide may stand in it twice) -/
structure Line (C : Addr) (H : Hp) (bs : List Addr) (gs : List Hide) : Prop where
  len : bs.length = gs.length
  at_ : ∀ (i : Nat) (a : Addr) (h : Hide), bs[i]? = some a → gs[i]? = some h → HideAt C H a h
theorem Line.get {C : Addr} {H : Hp} {bs : List Addr} {gs : List Hide} (x : Line C H bs gs) {i : Nat} {a : Addr} (e : bs[i]? = some a) : ∃ h, gs[i]? = some h ∧ HideAt C H a h := by
  have q := (List.getElem?_eq_some_iff.mp e).1
  have e2 : gs[i]? = some (gs[i]'(by rw [← x.len]; exact q)) := List.getElem?_eq_getElem _
  exact ⟨_, e2, x.at_ i a _ e e2⟩
theorem Line.ext {C : Addr} {H H' : Hp} {bs : List Addr} {gs : List Hide} (x : Line C H bs gs) (e : Ext H H') : Line C H' bs gs := ⟨x.len, fun i a h e1 e2 => e.hide (x.at_ i a h e1 e2)⟩
theorem Line.kept {C : Addr} {H H' : Hp} {bs : List Addr} {gs : List Hide} (x : Line C H bs gs) {fp : List Addr} (k : Kept fp H H') (n : ∀ a ∈ bs, a ∉ fp) : Line C H' bs gs := ⟨x.len, fun i a h e1 e2 => k.hide (x.at_ i a h e1 e2) (n a (List.mem_of_getElem? e1))⟩
/-- of an inventory's hides, by their numbers -/
theorem Held.line {C : Addr} {H : Hp} {as : List Addr} {hs : List Hide} (x : Held C H as hs) {l : List Nat} (n : ∀ i ∈ l, i < hs.length) : Line C H (l.map fun i => as.getD i 0) (l.map fun i => hs.getD i ⟨0, 0, 0⟩) where
  len := by rw [List.length_map, List.length_map]
  at_ := fun j a h e1 e2 => by
    rw [List.getElem?_map] at e1 e2
    cases e : l[j]? with
    | none =>
      rw [e] at e1
      cases e1
    | some i =>
      rw [e] at e1 e2
      cases e1
      cases e2
      have c := n i (List.mem_of_getElem? e)
      have eh : hs[i]? = some hs[i] := List.getElem?_eq_getElem c
      obtain ⟨b, eb, hb⟩ := x.get eh
      show HideAt C H (as.getD i 0) (hs.getD i ⟨0, 0, 0⟩)
      rw [List.getD_eq_getElem?_getD, List.getD_eq_getElem?_getD, eh, eb]
      exact hb

/-- a comprehension without a test -/
theorem yes_go {σ : L2.St} {H : Hp} {A B : Hp → Prop} (h : A H) : tYes σ H fun b H' => if b = true then A H' else B H' := iteT (B := B H) h
/-! ### promises -/
/-- hides_at -/
def spAt (K : PySem.W.Frag) : Sp := fun vs H Q _ => ∃ (l n : Addr) (as : List Addr) (ms : List Nat), vs = [.ref l, .ref n] ∧ SqL K H l (as.map V.ref) ∧ SqL K H n (nums ms) ∧ (∀ m ∈ ms, m < as.length) ∧ ms.length ≤ 100 ∧
  ∀ (p : Addr) (H' : Hp), H p = none → H' p = some (.lst ((ms.map fun m => as.getD m 0).map V.ref)) → Ext H H' → Q (.ref p) H'
/-- area_of -/
def areaB (gs : List Hide) : Nat := (gs.map fun g => g.area).sum
def spArea (A : Ad) (K : PySem.W.Frag) : Sp := fun vs H Q _ => ∃ (l : Addr) (bs : List Addr) (gs : List Hide), vs = [.ref l] ∧ SqL K H l (bs.map V.ref) ∧ Line A.hide H bs gs ∧ gs.length ≤ 100 ∧ ∀ H', Ext H H' → Q (.int (areaB gs : Nat)) H'
theorem area_sum (gs : List Hide) : (gs.map fun g => ((g.area : Nat) : Int)).sum = ((areaB gs : Nat) : Int) := by
  unfold areaB
  induction gs with
  | nil => rfl
  | cons g r ih =>
    rw [List.map_cons, List.map_cons, List.sum_cons, List.sum_cons, ih]
    omega
theorem small1000 {m : Nat} (h : m ≤ 1000) : m < sizeLine := by
  rw [sizeLine_eq]
  omega
section
variable {P : Program} {w : World} {K : PySem.W.Frag} {mg : Str → Option Value} {base : Heap} {A : Ad} {f : Addr} {fd : FuncData}
theorem ok_hides_at (F : Fun K "hides_at" "hides_at" s_hides_at f fd) : FnOk P w K mg base L2.CX0 1 f fd ["hides", "numbers"] (spAt K) := by
  refine F.ok sc_hides_at (fun vs H Q E h => ?_) (fun cdv Ar outer s H vs Q E hr h => ⟨_, pss_one (ps_ret (pe_lc (own := [("number", 2)]) (g := gName 2) (tt := tYes) rfl sc_hides_at.nd (pi_list (pv 1)) (blkOk_by (N := n_hides_at) (sc := defScope s_hides_at) (by decide +kernel))
    (fun _ _ _ _ _ => pg_name (i := 2) sc_hides_at.nd rfl (.inl rfl)) (fun _ _ _ _ _ => pts_nil) (fun _ _ _ _ _ => pe_ix (r := rIxL K) ix_list (pv 0) (pv 2) (fun _ _ => rfl)))), ?_⟩)
  · obtain ⟨l, n, as, ms, rfl, _⟩ := h
    rfl
  · obtain ⟨l, n, as, ms, rfl, sl, sn, lt, few, q⟩ := h
    refine ⟨_, rfl, n, rfl, ⟨_, sn⟩, fun D nD => ?_⟩
    refine lc_it (walk_list (xs := nums ms)) (fun m H' => H' = upd H D (.lst (((ms.take m).map fun i => as.getD i 0).map V.ref))) rfl (fun m H' _ z => by rw [z]; exact (Ext.new nD).seq sn) ?_ ?_
    · rintro m y H1 H2 hm rfl ⟨rfl, hy⟩
      obtain ⟨u, eu, rfl⟩ := nums_at hy
      have hu := lt u (List.mem_of_getElem? eu)
      have ea : as[u]? = some as[u] := List.getElem?_eq_getElem hu
      refine ⟨rfl, yes_go ?_⟩
      refine ⟨_, rfl, _, rfl, l, _, _, _, rfl, rfl, (Ext.new nD).seq sl, atI_nat (by rw [List.getElem?_map, ea]; rfl), _, upd_same, small1000 ?_, ?_⟩
      · rw [List.length_map, List.length_map, List.length_take]
        omega
      · rw [upd_upd]
        congr 2
        rw [List.take_add_one, eu, List.map_append, List.map_append]
        simp only [Option.toList_some, List.map_cons, List.map_nil, List.getD_eq_getElem?_getD, ea, Option.getD_some]
    · rintro H1 rfl
      have lenk : (nums ms).length = ms.length := by
        unfold nums
        rw [List.length_map]
      rw [lenk, List.take_of_length_le (Nat.le_refl _)]
      exact q D _ nD upd_same (Ext.new nD)
theorem ok_area (F : Fun K "area_of" "area_of" s_area_of f fd) (T : Txt K mg A) : FnOk P w K mg base L2.CX0 1 f fd ["hides"] (spArea A K) := by
  refine F.ok sc_area_of (fun vs H Q E h => ?_) (fun cdv Ar outer s H vs Q E hr h => ⟨_, pss_one (ps_ret (pe_callB (cr_sum rfl) (by rfl) T.sum (by decide +kernel) (pa_cons (pe_lc (own := [("hide", 1)]) (g := gName 1) (tt := tYes) (te := tFld K (tVar 1) "area") rfl sc_area_of.nd (pi_list (pv 0)) (blkOk_by (N := n_area_of) (sc := defScope s_area_of) (by decide +kernel))
    (fun _ _ _ _ _ => pg_name (i := 1) sc_area_of.nd rfl (.inl rfl)) (fun _ _ _ _ _ => pts_nil) (fun _ _ _ _ _ => pe_fld (pv 1) rfl)) pa_nil))), ?_⟩)
  · obtain ⟨l, bs, gs, rfl, _⟩ := h
    rfl
  · obtain ⟨l, bs, gs, rfl, sl, line, few, q⟩ := h
    refine ⟨_, rfl, l, rfl, ⟨_, sl⟩, fun D nD => ?_⟩
    refine lc_it (walk_list (xs := bs.map V.ref)) (fun m H' => H' = upd H D (.lst (((gs.take m).map fun g => ((g.area : Nat) : Int)).map V.int))) rfl (fun m H' _ z => by rw [z]; exact (Ext.new nD).seq sl) ?_ ?_
    · rintro m y H1 H2 hm rfl ⟨rfl, hy⟩
      rw [List.getElem?_map] at hy
      cases eb : bs[m]? with
      | none =>
        rw [eb] at hy
        cases hy
      | some b =>
        rw [eb] at hy
        cases hy
        obtain ⟨g, eg, hb⟩ := line.get eb
        obtain ⟨dx, hg⟩ := (Ext.new (o := .lst (((gs.take m).map fun g => ((g.area : Nat) : Int)).map V.int)) nD).hide hb
        refine ⟨rfl, yes_go ?_⟩
        refine ⟨_, rfl, b, _, dx, _, _, rfl, hg, T.hide, T.hideA, hide_area g, _, upd_same, small1000 ?_, ?_⟩
        · rw [List.length_map, List.length_map, List.length_take]
          omega
        · rw [upd_upd]
          congr 2
          rw [List.take_add_one, eg, List.map_append, List.map_append]
          rfl
    · rintro H1 rfl
      have lenk : (bs.map V.ref).length = gs.length := by rw [List.length_map, line.len]
      rw [lenk, List.take_of_length_le (Nat.le_refl _)]
      refine ⟨D, _, rfl, SqL.of upd_same, ?_⟩
      rw [area_sum]
      exact q _ (Ext.new nD)
end
end KX
/-! # Hides, the inventory, the request: their classes -/
namespace KX
open PySem PySem.Spec PyProof.Rows L2
open Kp394 (Hide Inventory)

/-- what is raised: an error of the class at C, in the heap as it was, but for new objects -/
abbrev Out (E : XK) (C : Addr) (H : Hp) : Prop := E (.ref C) none H
theorem inv_check_number (v : Inventory) (l : Addr) : (invF v l).lookup ("check_number" : Str) = none := (lk_past (by decide +kernel)).trans ((lk_past (by decide +kernel)).trans ((lk_past (by decide +kernel)).trans rfl))
theorem inv_hide_at (v : Inventory) (l : Addr) : (invF v l).lookup ("hide_at" : Str) = none := (lk_past (by decide +kernel)).trans ((lk_past (by decide +kernel)).trans ((lk_past (by decide +kernel)).trans rfl))
theorem inv_different_hides (v : Inventory) (l : Addr) : (invF v l).lookup ("different_hides" : Str) = none := (lk_past (by decide +kernel)).trans ((lk_past (by decide +kernel)).trans ((lk_past (by decide +kernel)).trans rfl))
theorem req_existing (o : V) : (reqF o).lookup ("existing_inventory" : Str) = none := (lk_past (by decide +kernel)).trans rfl

/-- all but p is as it was -/
abbrev ExtBut (p : Addr) (H H' : Hp) : Prop := ∀ b o, H b = some o → b ≠ p → H' b = some o
/-- behind a new object's __init__ -/
theorem Ext.made {H H1 : Hp} {x dx C : Addr} (nx : H x = none) (nd : H dx = none) (k : ExtBut x (upd (upd H dx (.own x)) x (.ins C dx [])) H1) : Ext H H1 :=
  fun b o e => k b o ((upd_ne (ne_of_none e nx)).trans ((upd_ne (ne_of_none e nd)).trans e)) (ne_of_none e nx)
/-! ### promises -/
def spHideInit (A : Ad) : Sp := fun vs H Q _ => ∃ (p dx : Addr) (k t a : Nat), vs = [.ref p, .int (k : Nat), .int (t : Nat), .int (a : Nat)] ∧ H p = some (.ins A.hide dx []) ∧ ∀ H' : Hp, HideAt A.hide H' p ⟨k, t, a⟩ → ExtBut p H H' → Q .non H'
def spInvInit (A : Ad) : Sp := fun vs H Q _ => ∃ (p dx : Addr) (t n : Nat), vs = [.ref p, .int (t : Nat), .int (n : Nat)] ∧ H p = some (.ins A.inv dx []) ∧ 1 ≤ n ∧ ∀ (H' : Hp) (l : Addr), InvAt A H' p l [] ⟨[], t, n⟩ → ExtBut p H H' → H l = none → Q .non H'
def spReqInit (A : Ad) : Sp := fun vs H Q _ => ∃ (p dx : Addr), vs = [.ref p] ∧ H p = some (.ins A.req dx []) ∧ ∀ H' : Hp, StAt A H' p none [p] → ExtBut p H H' → Q .non H'
def spCheckNumber (A : Ad) : Sp := fun vs H Q E => ∃ (i l : Addr) (as : List Addr) (v : Inventory) (k : Nat), vs = [.ref i, .int (k : Nat)] ∧ InvAt A H i l as v ∧ (k < v.hides.length → Q .non H) ∧ (¬ k < v.hides.length → E (.ref A.such) none H)
def spHideAt (A : Ad) : Sp := fun vs H Q E => ∃ (i l : Addr) (as : List Addr) (v : Inventory) (k : Nat), vs = [.ref i, .int (k : Nat)] ∧ InvAt A H i l as v ∧ (∀ a h, as[k]? = some a → v.hides[k]? = some h → HideAt A.hide H a h → Q (.ref a) H) ∧ (¬ k < v.hides.length → E (.ref A.such) none H)
def spExisting (A : Ad) : Sp := fun vs H Q E => ∃ (r : Addr) (st : Option Inventory) (fp : List Addr), vs = [.ref r] ∧ StAt A H r st fp ∧ (st = none → E (.ref A.no) none H) ∧ (∀ dx i, H r = some (.ins A.req dx (reqF (.ref i))) → st ≠ none → Q (.ref i) H)
section
variable {P : Program} {w : World} {K : PySem.W.Frag} {mg : Str → Option Value} {base : Heap} {A : Ad} {f : Addr} {fd : FuncData}
theorem ok_hide_init (F : Fun K "__init__" "Hide.__init__" s_Hide_init f fd) (T : Txt K mg A) : FnOk P w K mg base L2.CX0 1 f fd ["self", "kind", "thickness", "area"] (spHideInit A) := by
  refine F.ok sc_Hide_init (fun vs H Q E h => ?_) (fun cdv Ar outer s H vs Q E hr h => ⟨_, pss_cons (ps_fld (pv 0) (pv 1) rfl) (pss_cons (ps_fld (pv 0) (pv 2) rfl) (pss_one (ps_fld (pv 0) (pv 3) rfl))), ?_⟩)
  · obtain ⟨p, dx, k, t, a, rfl, _⟩ := h
    rfl
  · obtain ⟨p, dx, k, t, a, rfl, hp, q⟩ := h
    refine ⟨_, rfl, _, rfl, p, _, dx, [], rfl, hp, T.hide, T.hideK, (by show 0 < 1000; decide), ?_⟩
    refine ⟨_, rfl, _, rfl, p, _, dx, _, rfl, upd_same, T.hide, T.hideT, (by show 1 < 1000; decide), ?_⟩
    refine ⟨_, rfl, _, rfl, p, _, dx, _, rfl, upd_same, T.hide, T.hideA, (by show 2 < 1000; decide), ?_⟩
    refine q _ ⟨dx, upd_same.trans (congrArg (fun z => some (HO.ins A.hide dx z)) (hide_new k t a))⟩ ?_
    rw [upd_upd, upd_upd]
    exact fun b o e n => (upd_ne n).trans e
theorem ok_inv_init (F : Fun K "__init__" "Inventory.__init__" s_Inventory_init f fd) (T : Txt K mg A) : FnOk P w K mg base L2.CX0 1 f fd ["self", "tolerance", "lot_size"] (spInvInit A) := by
  refine F.ok sc_Inventory_init (fun vs H Q E h => ?_) (fun cdv Ar outer s H vs Q E hr h => ⟨_, pss_cons (ps_fld (pv 0) (pv 1) rfl) (pss_cons (ps_fld (pv 0) (pv 2) rfl) (pss_one (ps_fld (pv 0) (pe_lst pa_nil) rfl))), ?_⟩)
  · obtain ⟨p, dx, t, n, rfl, _⟩ := h
    rfl
  · obtain ⟨p, dx, t, n, rfl, hp, n1, q⟩ := h
    refine ⟨_, rfl, _, rfl, p, _, dx, [], rfl, hp, T.inv, T.invT, (by show 0 < 1000; decide), ?_⟩
    refine ⟨_, rfl, _, rfl, p, _, dx, _, rfl, upd_same, T.inv, T.invL, (by show 1 < 1000; decide), ?_⟩
    refine ⟨Nat.zero_le _, fun l hl => ?_⟩
    rw [upd_upd] at hl ⊢
    have lp : l ≠ p := fun z => by
      rw [z, upd_same] at hl
      cases hl
    rw [upd_ne lp] at hl
    refine ⟨_, rfl, p, _, dx, _, rfl, (upd_ne lp.symm).trans upd_same, T.inv, T.invH, (by show 2 < 1000; decide), ?_⟩
    refine q _ l ⟨⟨dx, upd_same.trans (congrArg (fun z => some (HO.ins A.inv dx z)) (inv_new t n l))⟩, (upd_ne lp).trans upd_same, .nil, Nat.zero_le _, fun h m => absurd m List.not_mem_nil, n1⟩ (fun b o e bp => ?_) hl
    rw [upd_ne bp, upd_ne (ne_of_none e hl), upd_ne bp]
    exact e
theorem ok_req_init (F : Fun K "__init__" "Request.__init__" s_Request_init f fd) (T : Txt K mg A) : FnOk P w K mg base L2.CX0 1 f fd ["self"] (spReqInit A) := by
  refine F.ok sc_Request_init (fun vs H Q E h => ?_) (fun cdv Ar outer s H vs Q E hr h => ⟨_, pss_one (ps_fld (pv 0) pe_non rfl), ?_⟩)
  · obtain ⟨p, dx, rfl, _⟩ := h
    rfl
  · obtain ⟨p, dx, rfl, hp, q⟩ := h
    refine ⟨_, rfl, p, _, dx, [], rfl, hp, T.req, T.reqI, (by show 0 < 1000; decide), ?_⟩
    exact q _ (.none upd_same) fun b o e n => (upd_ne n).trans e
theorem ok_check_number (F : Fun K "check_number" "Inventory.check_number" s_Inventory_check_number f fd) (T : Txt K mg A) : FnOk P w K mg base (L2.CX P w) 1 f fd ["self", "number"] (spCheckNumber A) := by
  refine F.okX sc_Inventory_check_number (fun vs H Q E h => ?_) (fun cdv Ar outer s H vs Q E hr h => ⟨_, pss_one (ps_if (pt_cmpR op_ge (pv 1) (pe_callB call_len_seq (by rfl) T.len PySem.boot_len (pa_cons (pe_fld (pv 0) rfl) pa_nil)) (nomark _)) (pss_one (KR.ps_out T.such rfl (takes_of rfl rfl rfl rfl) rfl)) pss_nil), ?_⟩)
  · obtain ⟨i, l, as, v, k, rfl, _⟩ := h
    rfl
  · obtain ⟨i, l, as, v, k, rfl, x, yes, no⟩ := h
    obtain ⟨dx, ei⟩ := x.obj
    have len : (as.map V.ref).length = v.hides.length := by rw [List.length_map, x.held.len]
    refine ⟨_, rfl, _, rfl, i, _, dx, _, _, rfl, ei, T.inv, T.invH, inv_hides v l, l, _, rfl, .inl (.inl (.inl x.lst)), _, _, rfl, rfl, _, rfl, ite2 (fun c => ?_) (fun c => ?_)⟩
    · have c := of_decide_eq_true c
      exact no (by omega)
    · have c := of_decide_eq_false (Bool.not_eq_true _ ▸ c)
      exact yes (by omega)
theorem ok_hide_at (F : Fun K "hide_at" "Inventory.hide_at" s_Inventory_hide_at f fd) (T : Txt K mg A) (D : KR.Mth P w K mg base (L2.CX P w) 1 A.inv "check_number" (spCheckNumber A)) : FnOk P w K mg base (L2.CX P w) 2 f fd ["self", "number"] (spHideAt A) := by
  refine F.okX sc_Inventory_hide_at (fun vs H Q E h => ?_) (fun cdv Ar outer s H vs Q E hr h => ⟨_, pss_cons (ps_expr (KR.pe_mth (pv 0) D hr (passes_call (takes_of rfl rfl rfl rfl) fun _ _ _ _ z => z) (pa_cons (pv 1) pa_nil)))
    (pss_one (ps_ret (pe_ix ix_list (pe_fld (pv 0) rfl) (pv 1) (fun _ _ => rfl)))), ?_⟩)
  · obtain ⟨i, l, as, v, k, rfl, _⟩ := h
    rfl
  · obtain ⟨i, l, as, v, k, rfl, x, yes, no⟩ := h
    obtain ⟨dx, ei⟩ := x.obj
    refine ⟨_, rfl, i, dx, _, rfl, ei, inv_check_number v l, _, rfl, i, l, as, v, k, rfl, x, fun c => ?_, no⟩
    have eh : v.hides[k]? = some v.hides[k] := List.getElem?_eq_getElem c
    obtain ⟨a, ea, ha⟩ := x.held.get eh
    refine ⟨_, rfl, i, _, dx, _, _, rfl, ei, T.inv, T.invH, inv_hides v l, _, rfl, l, _, _, _, rfl, rfl, SqL.of x.lst, atI_nat (by rw [List.getElem?_map, ea]; rfl), ?_⟩
    exact yes a _ ea eh ha
theorem ok_existing (F : Fun K "existing_inventory" "Request.existing_inventory" s_Request_existing_inventory f fd) (T : Txt K mg A) : FnOk P w K mg base (L2.CX P w) 1 f fd ["self"] (spExisting A) := by
  refine F.okX sc_Request_existing_inventory (fun vs H Q E h => ?_) (fun cdv Ar outer s H vs Q E hr h => ⟨_, pss_cons (ps_if (pt_cmpR op_isN (pe_fld (pv 0) rfl) pe_non (nomark _)) (pss_one (KR.ps_out T.no rfl (takes_of rfl rfl rfl rfl) rfl)) pss_nil)
    (pss_one (ps_ret (pe_fld (pv 0) rfl))), ?_⟩)
  · obtain ⟨r, st, fp, rfl, _⟩ := h
    rfl
  · obtain ⟨r, st, fp, rfl, x, no, yes⟩ := h
    cases x with
    | none e => exact ⟨_, rfl, r, _, _, _, _, rfl, e, T.req, T.reqI, req_inventory _, rfl, _, rfl, iteT (no rfl)⟩
    | some e y n1 n2 =>
      refine ⟨_, rfl, r, _, _, _, _, rfl, e, T.req, T.reqI, req_inventory _, rfl, _, rfl, iteF ?_⟩
      exact ⟨_, rfl, r, _, _, _, _, rfl, e, T.req, T.reqI, req_inventory _, yes _ _ e (by simp)⟩
end
end KX
/-! # The hide order: sorted by a def's keys -/
namespace KX
open PySem PySem.Spec PyProof.Rows L2
open Kp394 (Hide Inventory)

/-- the order of these hides -/
def ordOf (hs : List Hide) : List Nat := Kp394.hideOrder ⟨hs, 0, 0⟩
theorem ordOf_is (v : Inventory) : Kp394.hideOrder v = ordOf v.hides := KM.order_hides rfl
theorem ordOf_len (hs : List Hide) : (ordOf hs).length = hs.length := KM.order_len _
theorem ordOf_mem {hs : List Hide} {i : Nat} : i ∈ ordOf hs ↔ i < hs.length := KM.order_mem
/-- a hide's rank -/
def rank (hs : List Hide) (i : Nat) : Int × Int × Int := (((hs.getD i ⟨0, 0, 0⟩).kind : Nat), ((hs.getD i ⟨0, 0, 0⟩).thickness : Nat), (i : Nat))
theorem sortedBy_is (hs : List Hide) : KS.sortedBy KS.Y3 hs.length (rank hs) = ordOf hs := by
  refine KM.order_of_le (KS.sortedBy_perm KS.Y3 _ _) ?_
  refine (KS.sortedBy_pairwise hs.length (rank hs)).imp fun {i j} h => ?_
  have h' : rank hs i = rank hs i ∧ KS.le3 (rank hs i) (rank hs j) = true := ⟨rfl, h⟩
  unfold KS.le3 rank at h'
  have q := of_decide_eq_true h'.2
  unfold KM.lt3 Kp394.hideAt
  dsimp only at q ⊢
  omega
/-- the def within numbers_in_order -/
abbrev s_rank : Stmt := (defBody s_numbers_in_order).getD 0 (.Pass ⟨0, 0, 0, 0⟩)
abbrev n_rank : List Str := ["number", "hides", "hide"]
def spRank (A : Ad) : List (Option V) → Sp := fun ws vs H Q _ => ∃ (l : Addr) (as : List Addr) (hs : List Hide) (k : Nat), ws = [some (.ref l)] ∧ vs = [.int (k : Nat)] ∧ H l = some (.lst (as.map V.ref)) ∧ Held A.hide H as hs ∧ k < hs.length ∧
  ∀ p, H p = none → Q (.ref p) (upd H p (.tup [.int (rank hs k).1, .int (rank hs k).2.1, .int (rank hs k).2.2]))
theorem sc_rank : NdefX.NScope n_rank ["number"] ["hides"] (C8.fnScope s_rank) := NdefX.nscope_by (by decide +kernel)
section
variable {P : Program} {w : World} {K : PySem.W.Frag} {mg : Str → Option Value} {base : Heap} {A : Ad}
theorem ok_rank (T : Txt K mg A) {f c : Addr} {qual : Str} {cl : List (Str × Addr)} : NdefX.NOk P w K mg base L2.CX0 1 f (NdefX.NF.of s_rank "rank" qual cl c) ["number"] ["hides"] (spRank A) := by
  refine NdefX.nok_of sc_rank (fun doc pm ctv us hl => match us, hl with | [_], _ => rfl) (fun ws vs H Q E h => ?_) (fun Ar outer s H vs ws Q E hr hf hc lw h => ⟨_, pss_cons (ps_set (i := 2) sc_rank.nd rfl (.inl rfl) (pe_ix ix_list (pv 1) (pv 0) (fun _ _ => rfl)))
    (pss_one (ps_ret (pe_tup (pa_cons (pe_fld (pv 2) rfl) (pa_cons (pe_fld (pv 2) rfl) (pa_cons (pv 0) pa_nil)))))), ?_⟩)
  · obtain ⟨l, as, hs, k, _, rfl, _⟩ := h
    rfl
  · obtain ⟨l, as, hs, k, rfl, rfl, hl, held, lt, q⟩ := h
    have eh : hs[k]? = some hs[k] := List.getElem?_eq_getElem lt
    obtain ⟨a, ea, dx, ha⟩ := held.get eh
    refine ⟨_, rfl, _, rfl, l, _, _, _, rfl, rfl, SqL.of hl, atI_nat (by rw [List.getElem?_map, ea]; rfl), ?_⟩
    refine ⟨_, rfl, a, _, dx, _, _, rfl, ha, T.hide, T.hideK, hide_kind _, _, rfl, a, _, dx, _, _, rfl, ha, T.hide, T.hideT, hide_thickness _, _, rfl, (by show 3 ≤ sizeLine; decide), fun p hp => ?_⟩
    have z := q p hp
    unfold rank at z
    rw [List.getD_eq_getElem?_getD, eh] at z
    exact z
/-! ### numbers_in_order -/
/-- the name that its inner def gets -/
abbrev nmOrder : Nat → Nat → Str := fun _ _ => (envOfC "numbers_in_order" (defScope s_numbers_in_order) 0 0 .none).qual ++ "rank"
abbrev mkRank (env : Env) (c : Addr) : NdefX.NF := NdefX.NF.of s_rank "rank" (env.qual ++ "rank") (cloFrom env.cells (C8.fnScope s_rank).names []) c
abbrev envOrder (L f : Addr) (cd : Value) : Env := envOfC "numbers_in_order" (defScope s_numbers_in_order) L f cd
def spOrder (A : Ad) (T : List NdefX.NTab) : Sp := fun vs H Q _ => ∃ (l : Addr) (as : List Addr) (hs : List Hide), vs = [.ref l] ∧ H l = some (.lst (as.map V.ref)) ∧ Held A.hide H as hs ∧ hs.length ≤ 13 ∧ NdefX.TabsN T H ∧
  ∀ (H' : Hp) (p : Addr), Kept [] H H' → NdefX.TabsN T H' → H p = none → H' p = some (.lst (nums (ordOf hs))) → Q (.ref p) H'
theorem ok_order (T : Txt K mg A) {tabs : List NdefX.NTab} {f c Pt : Addr} {oc kV doc pm ct : Value} {od an : Option Addr} {osl : Array (Option Value)}
    (lk : K.lookup f = some ⟨oc, od, .func (PySem.W.fnOf "numbers_in_order" "numbers_in_order" (defArgs s_numbers_in_order) (defBody s_numbers_in_order) (defScope s_numbers_in_order) .none kV doc pm an (.ref c) ct), osl⟩) (hcd : PySem.W.codeIn K (.ref c) "numbers_in_order" = true)
    (TB : LamX.TabB base mg c Pt) (mem : (Pt, nmOrder) ∈ tabs) (uniq : ∀ p ∈ tabs, p.1 = Pt → p.2 = nmOrder) :
    FnOk P w K mg base L2.CX0 4 f (PySem.W.fnOf "numbers_in_order" "numbers_in_order" (defArgs s_numbers_in_order) (defBody s_numbers_in_order) (defScope s_numbers_in_order) .none kV doc pm an (.ref c) ct) ["hides"] (spOrder A tabs) := by
  have free : ∀ y ∈ (C8.fnScope s_rank).names, y.2 = .free → (defScope s_numbers_in_order).names.lookup y.1 = some .cell ∨ (defScope s_numbers_in_order).names.lookup y.1 = some .free := NdefX.ndef_free (fr := ["hides"]) (by decide +kernel)
  have fr : ∀ y ∈ (["hides"] : List Str), (y, NameKind.free) ∈ (C8.fnScope s_rank).names := NdefX.ndef_fr (sc := defScope s_numbers_in_order) (by decide +kernel)
  refine fn_of lk hcd sc_numbers_in_order (fun vs H Q E h => ?_) (fun Ar outer s H vs Q E hr h => ⟨_, pss_cons (NdefX.ps_ndefMS (st := s_rank) (i := 1) (T := tabs) (nm := nmOrder) (name := "rank") rfl TB rfl mem rfl uniq free rfl rfl rfl sc_numbers_in_order.nd rfl (.inl rfl) (.inr rfl))
    (pss_one (ps_ret (KS.pe_sortedBy (Y := KS.Y3) (k := 1) (js := [0]) (mk := mkRank (envOrder s.heap.objs.size f (.ref c))) (cl := cloFrom (envOrder s.heap.objs.size f (.ref c)).cells (C8.fnScope s_rank).names []) (sp := fun _ _ => spRank A) (fun f c => ok_rank T) (fun c => rfl) (fun ok => NdefX.Caps.made ok free fr rfl) hr rfl T.sorted
      (pa_cons (pe_callTy KS.cr_range1 (by rfl) T.range boot_range (pa_cons (pe_callB call_len_seq (by rfl) T.len PySem.boot_len (pa_cons (pv 0) pa_nil)) pa_nil)) pa_nil) (pk_cons (pv 1) pk_nil)))), ?_⟩)
  · obtain ⟨l, as, hs, rfl, _⟩ := h
    rfl
  · obtain ⟨l, as, hs, rfl, hl, held, few, tb, q⟩ := h
    have len : (as.map V.ref).length = hs.length := by rw [List.length_map, held.len]
    refine ⟨tb, fun g c' H1 e1 n1 tb1 g0 hg hc => ?_⟩
    have l1 : H1 l = some (.lst (as.map V.ref)) := e1 _ _ hl lst_tbl
    refine ⟨_, rfl, l, _, rfl, .inl (.inl (.inl l1)), _, rfl, fun r r0 => ?_⟩
    rw [len]
    -- what holds between the calls of the key's def
    let J : Hp → Prop := fun H' => Kept [] H H' ∧ NdefX.TabsN tabs H' ∧ (∀ b, H' b = none → H b = none) ∧ H' g = some (NdefX.FnO g (mkRank (envOrder s.heap.objs.size f (.ref c)) c')) ∧ H' c' = some (LamX.CodeO c' (mkRank (envOrder s.heap.objs.size f (.ref c)) c').qual)
    have fno : ∀ (a : Addr) (F : NdefX.NF) ps, NdefX.FnO a F ≠ .tbl ps := fun a F ps => NdefX.fnO_ne ps
    have J0 : J (upd H1 r (.rng 0 (hs.length : Nat))) := by
      refine ⟨(Kept.ext e1 n1).trans (Kept.new r0), tb1.ext fun b o e => (upd_ne (ne_of_none e r0)).trans e, fun b e => n1 b (NdefX.upd_none e), (upd_ne (ne_of_none hg r0)).trans hg, (upd_ne (ne_of_none hc r0)).trans hc⟩
    refine ⟨_, rfl, r, g, c', hs.length, rank hs, J, rfl, rfl, upd_same, by omega, J0, fun H' j => ⟨j.2.2.2.1, j.2.2.2.2⟩, fun H' i hi j => ?_, fun H' p j hp => ?_⟩
    · obtain ⟨k, t2, n2, h3, h4⟩ := j
      refine ⟨l, as, hs, i, rfl, rfl, k.at_ _ _ hl List.not_mem_nil lst_tbl, held.kept k fun _ _ => List.not_mem_nil, hi, fun p hp => ⟨⟨k.trans (Kept.new hp), t2.ext fun b o e => (upd_ne (ne_of_none e hp)).trans e, fun b e => n2 b (NdefX.upd_none e), (upd_ne (ne_of_none h3 hp)).trans h3, (upd_ne (ne_of_none h4 hp)).trans h4⟩, p, rfl, upd_same⟩⟩
    · obtain ⟨k, t2, n2, _, _⟩ := j
      rw [sortedBy_is]
      exact q _ p (k.trans (Kept.new hp)) (t2.ext fun b o e => (upd_ne (ne_of_none e hp)).trans e) (n2 p hp) upd_same
end
end KX
/-! # What matches, what makes a lot, the greedy lots -/
namespace KX
open PySem PySem.Spec PyProof.Rows L2
open Kp394 (Hide Inventory)

/-! ### two hides that match -/
def matchB (g h : Hide) (t : Nat) : Bool := (g.kind == h.kind) && decide (g.thickness ≤ h.thickness + t) && decide (h.thickness ≤ g.thickness + t)
theorem match_is (v : Inventory) (i j : Nat) : Kp394.areCompatible v i j = matchB (Kp394.hideAt v i) (Kp394.hideAt v j) v.tolerance := rfl
theorem match_iff {g h : Hide} {t : Nat} : matchB g h t = true ↔ g.kind = h.kind ∧ g.thickness ≤ h.thickness + t ∧ h.thickness ≤ g.thickness + t := by
  unfold matchB
  rw [Bool.and_eq_true, Bool.and_eq_true, beq_iff_eq, decide_eq_true_eq, decide_eq_true_eq, and_assoc]
theorem match_self (g : Hide) (t : Nat) : matchB g g t = true := match_iff.mpr ⟨rfl, Nat.le_add_right .., Nat.le_add_right ..⟩
theorem match_comm (g h : Hide) (t : Nat) : matchB g h t = matchB h g t := by
  rw [Bool.eq_iff_iff, match_iff, match_iff]
  omega
/-- these hides, each on its own, make a lot -/
def lotB (gs : List Hide) (t n : Nat) : Bool := decide (gs.length ≤ n) && gs.all fun g => gs.all fun h => matchB g h t
theorem lot_is (v : Inventory) (l : List Nat) : Kp394.isLot v l = lotB (l.map (Kp394.hideAt v)) v.tolerance v.lotSize := by
  unfold Kp394.isLot Kp394.allCompatible lotB
  rw [List.length_map, List.all_map]
  congr 2
  funext i
  show (l.all fun j => _) = (l.map _).all _
  rw [List.all_map]
  rfl
/-- any two of the first i match -/
def Upto (gs : List Hide) (t i : Nat) : Prop := ∀ (a b : Nat) (g h : Hide), b < a → a < i → gs[a]? = some g → gs[b]? = some h → matchB g h t = true
theorem lot_of {gs : List Hide} {t n : Nat} (len : gs.length ≤ n) (u : Upto gs t gs.length) : lotB gs t n = true := by
  unfold lotB
  rw [Bool.and_eq_true, decide_eq_true_eq, List.all_eq_true]
  refine ⟨len, fun g hg => List.all_eq_true.mpr fun h hh => ?_⟩
  obtain ⟨a, ea⟩ := List.mem_iff_getElem?.mp hg
  obtain ⟨b, eb⟩ := List.mem_iff_getElem?.mp hh
  have la := (List.getElem?_eq_some_iff.mp ea).1
  have lb := (List.getElem?_eq_some_iff.mp eb).1
  rcases Nat.lt_trichotomy a b with c | c | c
  · rw [match_comm]
    exact u b a h g c lb eb ea
  · subst c
    rw [ea] at eb
    cases eb
    exact match_self g t
  · exact u a b g h c la ea eb
theorem lot_not {gs : List Hide} {t n a b : Nat} {g h : Hide} (ea : gs[a]? = some g) (eb : gs[b]? = some h) (m : matchB g h t = false) : lotB gs t n = false := by
  cases e : lotB gs t n with
  | false => rfl
  | true =>
    unfold lotB at e
    rw [Bool.and_eq_true, List.all_eq_true] at e
    have q := List.all_eq_true.mp (e.2 g (List.mem_of_getElem? ea)) h (List.mem_of_getElem? eb)
    rw [m] at q
    cases q
/-! ### promises -/
def spMatch (A : Ad) : Sp := fun vs H Q _ => ∃ (a b : Addr) (g h : Hide) (t : Nat), vs = [.ref a, .ref b, .int (t : Nat)] ∧ HideAt A.hide H a g ∧ HideAt A.hide H b h ∧ Q (.bl (matchB g h t)) H
/-- any two of these match -/
def allB (gs : List Hide) (t : Nat) : Bool := gs.all fun g => gs.all fun h => matchB g h t
theorem lotB_is (gs : List Hide) (t n : Nat) : lotB gs t n = (decide (gs.length ≤ n) && allB gs t) := rfl
theorem allB_of {gs : List Hide} {t : Nat} (u : Upto gs t gs.length) : allB gs t = true := by
  have q := lot_of (Nat.le_refl _) u
  rw [lotB_is, Bool.and_eq_true] at q
  exact q.2
theorem allB_not {gs : List Hide} {t a b : Nat} {g h : Hide} (ea : gs[a]? = some g) (eb : gs[b]? = some h) (m : matchB g h t = false) : allB gs t = false := by
  have q := lot_not (n := gs.length) ea eb m
  rw [lotB_is, decide_eq_true (Nat.le_refl _), Bool.true_and] at q
  exact q
def spAny (A : Ad) (K : PySem.W.Frag) : Sp := fun vs H Q _ => ∃ (l : Addr) (bs : List Addr) (gs : List Hide) (t : Nat), vs = [.ref l, .int (t : Nat)] ∧ SqL K H l (bs.map V.ref) ∧ Line A.hide H bs gs ∧ ∀ H', Ext H H' → Q (.bl (allB gs t)) H'
def spMake (A : Ad) (K : PySem.W.Frag) : Sp := fun vs H Q _ => ∃ (l : Addr) (bs : List Addr) (gs : List Hide) (t n : Nat), vs = [.ref l, .int (t : Nat), .int (n : Nat)] ∧ SqL K H l (bs.map V.ref) ∧ Line A.hide H bs gs ∧ ∀ H', Ext H H' → Q (.bl (lotB gs t n)) H'
section
variable {P : Program} {w : World} {K : PySem.W.Frag} {mg : Str → Option Value} {base : Heap} {A : Ad} {f : Addr} {fd : FuncData}
theorem ok_match (F : Fun K "hides_match" "hides_match" s_hides_match f fd) (T : Txt K mg A) : FnOk P w K mg base L2.CX0 1 f fd ["one", "other", "tolerance"] (spMatch A) := by
  refine F.ok sc_hides_match (fun vs H Q E h => ?_) (fun cdv Ar outer s H vs Q E hr h => ⟨_, pss_one (ps_ret (pe_and (pe_cmpR op_eq (pe_fld (pv 0) rfl) (pe_fld (pv 1) rfl) (nomark _))
    (pe_one (pe_cmpR op_le (pe_callB call_abs (by rfl) T.abs (by decide +kernel) (pa_cons (pe_op op_sub (pe_fld (pv 0) rfl) (pe_fld (pv 1) rfl)) pa_nil)) (pv 2) (nomark _))))), ?_⟩)
  · obtain ⟨a, b, g, h, t, rfl, _⟩ := h
    rfl
  · obtain ⟨a, b, g, h, t, rfl, ⟨da, ha⟩, ⟨db, hb⟩, q⟩ := h
    refine ⟨_, rfl, a, _, da, _, _, rfl, ha, T.hide, T.hideK, hide_kind _, _, rfl, b, _, db, _, _, rfl, hb, T.hide, T.hideK, hide_kind _, rfl, _, rfl, ite2 (fun c => ?_) (fun c => ?_)⟩
    · have c := of_decide_eq_true c
      refine ⟨_, rfl, a, _, da, _, _, rfl, ha, T.hide, T.hideT, hide_thickness _, _, rfl, b, _, db, _, _, rfl, hb, T.hide, T.hideT, hide_thickness _, _, _, rfl, rfl, _, rfl, _, rfl, _, _, rfl, rfl, ?_⟩
      have e : matchB g h t = decide ((if ((g.thickness : Nat) : Int) - (h.thickness : Nat) < 0 then -(((g.thickness : Nat) : Int) - (h.thickness : Nat)) else ((g.thickness : Nat) : Int) - (h.thickness : Nat)) ≤ ((t : Nat) : Int)) := by
        have ck : g.kind = h.kind := by
          injection c with c
          omega
        rw [Bool.eq_iff_iff, match_iff, decide_eq_true_eq]
        split <;> omega
      rw [e] at q
      exact q
    · have c := of_decide_eq_false (Bool.not_eq_true _ ▸ c)
      have e : matchB g h t = false := by
        rw [Bool.eq_false_iff]
        intro z
        exact c (by rw [(match_iff.mp z).1])
      rw [e] at q
      exact q
theorem ok_any (F : Fun K "any_two_match" "any_two_match" s_any_two_match f fd) (T : Txt K mg A) (D : KR.Def P w K mg base L2.CX0 1 "hides_match" (spMatch A)) : FnOk P w K mg base L2.CX0 2 f fd ["hides", "tolerance"] (spAny A K) := by
  refine F.ok sc_any_two_match (fun vs H Q E h => ?_) (fun cdv Ar outer s H vs Q E hr h => ⟨_, pss_cons (ps_for PassesOwn.never rfl (pi_enum (by rfl) T.enumerate (pa_cons (pv 0) pa_nil)) (pg_tup rfl (pgs_cons (pg_name (i := 2) sc_any_two_match.nd rfl (.inl rfl)) (pgs_cons (pg_name (i := 3) sc_any_two_match.nd rfl (.inl rfl)) pgs_nil)))
      (pss_one (ps_for PassesOwn.never rfl (pi_list (pe_slice sl_list (pv 0) po_none (po_some (pv 2)))) (pg_name (i := 4) sc_any_two_match.nd rfl (.inl rfl))
        (pss_one (ps_if (pt_not (pt_val (KR.pe_def D hr rfl pass0 (pa_cons (pv 3) (pa_cons (pv 4) (pa_cons (pv 1) pa_nil)))))) (pss_one (ps_ret pe_bl)) pss_nil)))))
    (pss_one (ps_ret pe_bl)), ?_⟩)
  · obtain ⟨l, bs, gs, t, rfl, _⟩ := h
    rfl
  · obtain ⟨l, bs, gs, t, rfl, sq, line, q⟩ := h
    have lenV : (bs.map V.ref).length = gs.length := by rw [List.length_map, line.len]
    -- the outer loop: behind i hides any two of the first i match
    refine ⟨_, rfl, l, _, rfl, sq, for_it (walk_enum (xs := bs.map V.ref)) (fun i σ H' => ∃ a b d, σ = [some (.ref l), some (.int (t : Nat)), a, b, d] ∧ Ext H H' ∧ Upto gs t i)
      ⟨_, _, _, rfl, Ext.refl H, fun a b g h h1 h2 => by omega⟩ (fun i σ H' _ ⟨_, _, _, _, e, _⟩ => e.seq sq) ?_ ?_⟩
    · rintro i y σ H1 H2 hi ⟨s3, s4, s5, rfl, e1, up⟩ ⟨tp, x1, x2, rfl, n0, rfl, hx1, hx2⟩
      cases hx1
      replace hx2 : (bs.map V.ref)[i]? = some x2 := hx2
      rw [List.getElem?_map] at hx2
      cases eb : bs[i]? with
      | none =>
        rw [eb] at hx2
        cases hx2
      | some b =>
        rw [eb] at hx2
        cases hx2
        obtain ⟨g, eg, _⟩ := line.get eb
        have e2 : Ext H (upd H1 tp (.tup [.int (i : Nat), .ref b])) := e1.trans (Ext.new n0)
        refine ⟨tp, _, rfl, SqT.of upd_same, rfl, _, _, rfl, _, _, rfl, rfl, ?_⟩
        -- the inner loop's list: the hides ahead
        refine ⟨_, rfl, _, rfl, _, rfl, l, _, rfl, e2.seq sq, fun p hp => ⟨p, rfl, ⟨_, SqL.of upd_same⟩, ?_⟩⟩
        have e3 := e2.trans (Ext.new (o := .lst (cutV (bs.map V.ref) none (some (i : Nat)))) hp)
        rw [cut_to] at e3 ⊢
        refine for_it (walk_list (xs := (bs.map V.ref).take i)) (fun j σ H' => ∃ d, σ = [some (.ref l), some (.int (t : Nat)), some (.int (i : Nat)), some (.ref b), d] ∧ H' = upd (upd H1 tp (.tup [.int (i : Nat), .ref b])) p (.lst ((bs.map V.ref).take i)) ∧
          ∀ (k : Nat) (h : Hide), k < j → k < i → gs[k]? = some h → matchB g h t = true) ⟨_, rfl, rfl, fun k h z => by omega⟩ (fun j σ H' _ ⟨_, _, z, _⟩ => by rw [z]; exact SqL.of upd_same) ?_ ?_
        · rintro j y σ H3 H4 hj ⟨d, rfl, rfl, inner⟩ ⟨rfl, hy⟩
          have ji : j < i := by
            rw [List.length_take] at hj
            omega
          rw [List.getElem?_take, if_pos ji, List.getElem?_map] at hy
          cases ed : bs[j]? with
          | none =>
            rw [ed] at hy
            cases hy
          | some d' =>
            rw [ed] at hy
            cases hy
            obtain ⟨h, eh, _⟩ := line.get ed
            refine ⟨_, rfl, _, rfl, _, rfl, b, d', g, h, t, rfl, e3.hide (line.at_ i b g eb eg), e3.hide (line.at_ j d' h ed eh), _, rfl, ite2 (fun m => ?_) (fun m => ?_)⟩
            · have m : matchB g h t = false := by
                cases z : matchB g h t with
                | false => rfl
                | true =>
                  rw [z] at m
                  cases m
              have z := q _ e3
              rw [allB_not eg eh m] at z
              exact z
            · have m : matchB g h t = true := by
                cases z : matchB g h t with
                | true => rfl
                | false =>
                  rw [z] at m
                  exact absurd rfl m
              refine ⟨_, rfl, rfl, fun k h' hk hki ek => ?_⟩
              by_cases z : k = j
              · subst z
                rw [eh] at ek
                cases ek
                exact m
              · exact inner k h' (by omega) hki ek
        · rintro σ H3 ⟨d, rfl, rfl, inner⟩
          have lt : ((bs.map V.ref).take i).length = i := by
            rw [List.length_take]
            omega
          rw [lt] at inner
          refine ⟨_, _, _, rfl, e3, fun a b' g' h' h1 h2 ea eb' => ?_⟩
          by_cases z : a = i
          · subst z
            rw [eg] at ea
            cases ea
            exact inner b' h' h1 h1 eb'
          · exact up a b' g' h' h1 (by omega) ea eb'
    · rintro σ H1 ⟨s3, s4, s5, rfl, e1, up⟩
      rw [lenV] at up
      have z := q H1 e1
      rw [allB_of up] at z
      exact z
theorem ok_make (F : Fun K "make_lot" "make_lot" s_make_lot f fd) (T : Txt K mg A) (D : KR.Def P w K mg base L2.CX0 2 "any_two_match" (spAny A K)) : FnOk P w K mg base L2.CX0 3 f fd ["hides", "tolerance", "lot_size"] (spMake A K) := by
  refine F.ok sc_make_lot (fun vs H Q E h => ?_) (fun cdv Ar outer s H vs Q E hr h => ⟨_, pss_one (ps_ret (pe_and (pe_cmpR op_le (pe_callB call_len_seq (by rfl) T.len PySem.boot_len (pa_cons (pv 0) pa_nil)) (pv 2) (nomark _))
    (pe_one (KR.pe_def D hr rfl pass0 (pa_cons (pv 0) (pa_cons (pv 1) pa_nil)))))), ?_⟩)
  · obtain ⟨l, bs, gs, t, n, rfl, _⟩ := h
    rfl
  · obtain ⟨l, bs, gs, t, n, rfl, sq, line, q⟩ := h
    have lenV : (bs.map V.ref).length = gs.length := by rw [List.length_map, line.len]
    refine ⟨_, rfl, l, _, rfl, .inl sq, _, rfl, _, _, rfl, rfl, _, rfl, ite2 (fun c => ?_) (fun c => ?_)⟩
    · have c := of_decide_eq_true c
      refine ⟨_, rfl, _, rfl, l, bs, gs, t, rfl, sq, line, fun H' e => ?_⟩
      have z := q H' e
      rw [lotB_is, decide_eq_true (by omega), Bool.true_and] at z
      exact z
    · have c := of_decide_eq_false (Bool.not_eq_true _ ▸ c)
      have z := q H (Ext.refl H)
      rw [lotB_is, decide_eq_false (by omega), Bool.false_and] at z
      exact z
end
end KX
/-! # The greedy lots -/
namespace KX
open PySem PySem.Spec PyProof.Rows L2
open Kp394 (Hide Inventory)

/-! ### what the fold keeps -/
/-- behind i hides: at most i lots, each of at most i hides, all of them there -/
structure Tame (n i : Nat) (lots : List (List Nat)) : Prop where
  few : lots.length ≤ i
  short : ∀ x ∈ lots, x.length ≤ i
  in_ : ∀ x ∈ lots, ∀ j ∈ x, j < n
theorem tame_step {v : Inventory} {n i j : Nat} {lots : List (List Nat)} (h : Tame n i lots) (hj : j < n) : Tame n (i + 1) (KM.lotStep v lots j) := by
  rcases List.eq_nil_or_concat lots with e | ⟨ks, k, e⟩
  · subst e
    rw [KM.lotStep_none]
    refine ⟨Nat.le_add_left .., fun x hx => ?_, fun x hx y hy => ?_⟩
    · obtain rfl := List.mem_singleton.mp hx
      exact Nat.le_add_left ..
    · obtain rfl := List.mem_singleton.mp hx
      obtain rfl := List.mem_singleton.mp hy
      exact hj
  · rw [List.concat_eq_append] at e
    subst e
    have hk := h.short k (List.mem_append_right _ (List.mem_singleton.mpr rfl))
    have hf := h.few
    rw [List.length_append, List.length_singleton] at hf
    rw [KM.lotStep_snoc]
    split
    · refine ⟨by rw [List.length_append, List.length_singleton]; omega, fun x hx => ?_, fun x hx y hy => ?_⟩
      · rcases List.mem_append.mp hx with m | m
        · exact Nat.le_succ_of_le (h.short x (List.mem_append_left _ m))
        · obtain rfl := List.mem_singleton.mp m
          rw [List.length_append, List.length_singleton]
          omega
      · rcases List.mem_append.mp hx with m | m
        · exact h.in_ x (List.mem_append_left _ m) y hy
        · obtain rfl := List.mem_singleton.mp m
          rcases List.mem_append.mp hy with m | m
          · exact h.in_ k (List.mem_append_right _ (List.mem_singleton.mpr rfl)) y m
          · obtain rfl := List.mem_singleton.mp m
            exact hj
    · refine ⟨by rw [List.length_append, List.length_append, List.length_singleton, List.length_singleton]; omega, fun x hx => ?_, fun x hx y hy => ?_⟩
      · rcases List.mem_append.mp hx with m | m
        · exact Nat.le_succ_of_le (h.short x m)
        · obtain rfl := List.mem_singleton.mp m
          exact Nat.le_add_left ..
      · rcases List.mem_append.mp hx with m | m
        · exact h.in_ x m y hy
        · obtain rfl := List.mem_singleton.mp m
          obtain rfl := List.mem_singleton.mp hy
          exact hj
/-- the greedy lots of these hides -/
def lotsOf (hs : List Hide) (t n : Nat) : List (List Nat) := Kp394.greedyLots ⟨hs, t, n⟩
theorem lotsOf_fold (hs : List Hide) (t n : Nat) : lotsOf hs t n = (ordOf hs).foldl (KM.lotStep ⟨hs, t, n⟩) [] := by
  unfold lotsOf
  rw [KM.greedy_fold, ordOf_is]
/-! ### lists of whole numbers, one object each -/
structure Boxes (H : Hp) (ps : List Addr) (lots : List (List Nat)) : Prop where
  len : ps.length = lots.length
  at_ : ∀ (i : Nat) (p : Addr) (x : List Nat), ps[i]? = some p → lots[i]? = some x → H p = some (.lst (nums x))
  nd : ps.Nodup
theorem Boxes.kept {H H' : Hp} {ps : List Addr} {lots : List (List Nat)} (b : Boxes H ps lots) {fp : List Addr} (k : Kept fp H H') (n : ∀ p ∈ ps, p ∉ fp) : Boxes H' ps lots :=
  ⟨b.len, fun i p x e1 e2 => k.at_ _ _ (b.at_ i p x e1 e2) (n p (List.mem_of_getElem? e1)) lst_tbl, b.nd⟩
theorem Boxes.some_ {H : Hp} {ps : List Addr} {lots : List (List Nat)} (b : Boxes H ps lots) {p : Addr} (m : p ∈ ps) : ∃ x, H p = some (.lst x) := by
  obtain ⟨i, e⟩ := List.mem_iff_getElem?.mp m
  have q := (List.getElem?_eq_some_iff.mp e).1
  have e2 : lots[i]? = some (lots[i]'(by rw [← b.len]; exact q)) := List.getElem?_eq_getElem _
  exact ⟨_, b.at_ i p _ e e2⟩
theorem Boxes.nil {H : Hp} : Boxes H [] [] := ⟨rfl, fun i p x e => by simp at e, List.nodup_nil⟩
/-- one more, a new object -/
theorem Boxes.more {H : Hp} {ps : List Addr} {lots : List (List Nat)} (b : Boxes H ps lots) {p : Addr} {x : List Nat} (n : p ∉ ps) (e : H p = some (.lst (nums x))) : Boxes H (ps ++ [p]) (lots ++ [x]) where
  len := by rw [List.length_append, List.length_append, b.len]; rfl
  at_ := fun i q y e1 e2 => by
    rw [List.getElem?_append] at e1 e2
    by_cases c : i < ps.length
    · rw [if_pos c] at e1
      rw [if_pos (by rw [← b.len]; exact c)] at e2
      exact b.at_ i q y e1 e2
    · rw [if_neg c] at e1
      rw [if_neg (by rw [← b.len]; exact c), ← b.len] at e2
      cases z : i - ps.length with
      | zero =>
        rw [z] at e1 e2
        cases e1
        cases e2
        exact e
      | succ j =>
        rw [z] at e1
        simp at e1
  nd := by
    rw [List.nodup_append]
    refine ⟨b.nd, by simp, fun a ha c hc => ?_⟩
    obtain rfl := List.mem_singleton.mp hc
    rintro rfl
    exact n ha
/-- all but the last -/
theorem Boxes.front {H : Hp} {ps : List Addr} {p : Addr} {lots : List (List Nat)} {x : List Nat} (b : Boxes H (ps ++ [p]) (lots ++ [x])) : Boxes H ps lots ∧ H p = some (.lst (nums x)) ∧ p ∉ ps := by
  have len := b.len
  rw [List.length_append, List.length_append, List.length_singleton, List.length_singleton] at len
  have nd := List.nodup_append.mp b.nd
  refine ⟨⟨by omega, fun i q y e1 e2 => ?_, nd.1⟩, ?_, fun m => nd.2.2 p m p (List.mem_singleton.mpr rfl) rfl⟩
  · have l1 := (List.getElem?_eq_some_iff.mp e1).1
    have l2 := (List.getElem?_eq_some_iff.mp e2).1
    exact b.at_ i q y (by rw [List.getElem?_append_left l1]; exact e1) (by rw [List.getElem?_append_left l2]; exact e2)
  · exact b.at_ ps.length p x (by simp) (by rw [show ps.length = lots.length by omega]; simp)
/-- behind i hides: the lots at ps, their list at L, the order's list at o; H: the heap ahead of it all -/
structure LotsAt (tabs : List NdefX.NTab) (hs : List Hide) (H : Hp) (L o : Addr) (i : Nat) (ps : List Addr) (lots : List (List Nat)) (H' : Hp) : Prop where
  kept : Kept [] H H'
  tabs_ : NdefX.TabsN tabs H'
  order : H' o = some (.lst (nums (ordOf hs)))
  list : H' L = some (.lst (ps.map V.ref))
  boxes : Boxes H' ps lots
  new : ∀ p ∈ ps, H p = none ∧ p ≠ L ∧ p ≠ o
  tame : Tame hs.length i lots
section
variable {tabs : List NdefX.NTab} {hs : List Hide} {H H2 H4 : Hp} {L o : Addr} {i j : Nat} {ps : List Addr} {lots : List (List Nat)}
theorem LotsAt.ext (x : LotsAt tabs hs H L o i ps lots H2) (e : Ext H2 H4) : LotsAt tabs hs H L o i ps lots H4 :=
  ⟨x.kept.trans e.kept, x.tabs_.ext e, e _ _ x.order, e _ _ x.list, x.boxes.kept (fp := []) e.kept fun _ _ => List.not_mem_nil, x.new, x.tame⟩
/-- a new lot -/
theorem LotsAt.add (x : LotsAt tabs hs H L o i ps lots H2) (oL : o ≠ L) (hL : H L = none) {p : Addr} (n : H2 p = none) (hj : Tame hs.length (i + 1) (lots ++ [[j]])) :
    LotsAt tabs hs H L o (i + 1) (ps ++ [p]) (lots ++ [[j]]) (upd (upd H2 p (.lst (nums [j]))) L (.lst ((ps ++ [p]).map V.ref))) := by
  have pL : p ≠ L := fun z => by
    rw [z, x.list] at n
    cases n
  have po : p ≠ o := fun z => by
    rw [z, x.order] at n
    cases n
  have old : ∀ b u, H2 b = some u → b ≠ L → upd (upd H2 p (.lst (nums [j]))) L (.lst ((ps ++ [p]).map V.ref)) b = some u := fun b u e h => by
    rw [upd_ne h, upd_ne (ne_of_none e n)]
    exact e
  have np : p ∉ ps := fun m => by
    obtain ⟨y, e⟩ := x.boxes.some_ m
    rw [n] at e
    cases e
  refine ⟨⟨fun b u e m tt => ?_, fun b e => x.kept.back b (upd_back (upd_back e))⟩, fun q hq => ?_, old _ _ x.order oL, upd_same, ?_, fun q m => ?_, hj⟩
  · exact old _ _ (x.kept.at_ b u e m tt) fun z => by
      rw [z, hL] at e
      cases e
  · obtain ⟨ts, t1, t2, t3⟩ := x.tabs_ q hq
    refine ⟨ts, old _ _ t1 fun z => ?_, t2, fun pos cv hc => ?_⟩
    · rw [z, x.list] at t1
      cases t1
    · obtain ⟨c, c1, c2⟩ := t3 pos cv hc
      refine ⟨c, c1, old _ _ c2 fun z => ?_⟩
      rw [z, x.list] at c2
      have c2 := Option.some.inj c2
      unfold LamX.CodeO at c2
      cases c2
  · refine Boxes.more (x := [j]) ⟨x.boxes.len, fun k q y e1 e2 => old _ _ (x.boxes.at_ k q y e1 e2) (x.new q (List.mem_of_getElem? e1)).2.1, x.boxes.nd⟩ np ?_
    rw [upd_ne pL]
    exact upd_same
  · rcases List.mem_append.mp m with m | m
    · exact x.new q m
    · obtain rfl := List.mem_singleton.mp m
      exact ⟨x.kept.back _ n, pL, po⟩
/-- the hide joins the last lot -/
theorem LotsAt.join {ks : List (List Nat)} {k : List Nat} {q : Addr} (x : LotsAt tabs hs H L o i (ps ++ [q]) (ks ++ [k]) H2) (hj : Tame hs.length (i + 1) (ks ++ [k ++ [j]])) :
    LotsAt tabs hs H L o (i + 1) (ps ++ [q]) (ks ++ [k ++ [j]]) (upd H2 q (.lst (nums (k ++ [j])))) := by
  obtain ⟨b1, b2, b3⟩ := x.boxes.front
  have nq := x.new q (List.mem_append_right _ (List.mem_singleton.mpr rfl))
  have old : ∀ b u, H2 b = some u → b ≠ q → upd H2 q (.lst (nums (k ++ [j]))) b = some u := fun b u e h => (upd_ne h).trans e
  refine ⟨⟨fun b u e m tt => ?_, fun b e => x.kept.back b (upd_back e)⟩, fun p hp => ?_, old _ _ x.order nq.2.2.symm, old _ _ x.list nq.2.1.symm, ?_, x.new, hj⟩
  · exact old _ _ (x.kept.at_ b u e m tt) fun z => by
      rw [z, nq.1] at e
      cases e
  · obtain ⟨ts, t1, t2, t3⟩ := x.tabs_ p hp
    refine ⟨ts, old _ _ t1 fun z => ?_, t2, fun pos cv hc => ?_⟩
    · rw [z, b2] at t1
      cases t1
    · obtain ⟨c, c1, c2⟩ := t3 pos cv hc
      refine ⟨c, c1, old _ _ c2 fun z => ?_⟩
      rw [z, b2] at c2
      have c2 := Option.some.inj c2
      unfold LamX.CodeO at c2
      cases c2
  · refine Boxes.more ⟨b1.len, fun m p y e1 e2 => old _ _ (b1.at_ m p y e1 e2) fun z => ?_, b1.nd⟩ b3 upd_same
    exact b3 (by rw [← z]; exact List.mem_of_getElem? e1)
end
def spLots (A : Ad) (T : List NdefX.NTab) : Sp := fun vs H Q _ => ∃ (l : Addr) (as : List Addr) (hs : List Hide) (t n : Nat), vs = [.ref l, .int (t : Nat), .int (n : Nat)] ∧ H l = some (.lst (as.map V.ref)) ∧ Held A.hide H as hs ∧ hs.length ≤ 13 ∧ NdefX.TabsN T H ∧
  ∀ (H' : Hp) (L : Addr) (ps : List Addr), Kept [] H H' → NdefX.TabsN T H' → H L = none → H' L = some (.lst (ps.map V.ref)) → Boxes H' ps (lotsOf hs t n) → (∀ p ∈ ps, H p = none) → L ∉ ps → Q (.ref L) H'
section
variable {P : Program} {w : World} {K : PySem.W.Frag} {mg : Str → Option Value} {base : Heap} {A : Ad} {f : Addr} {fd : FuncData} {tabs : List NdefX.NTab}
theorem ok_lots (F : Fun K "lots_in_order" "lots_in_order" s_lots_in_order f fd) (T : Txt K mg A) (D1 : KR.Def P w K mg base L2.CX0 4 "numbers_in_order" (spOrder A tabs)) (D2 : KR.Def P w K mg base L2.CX0 3 "make_lot" (spMake A K)) (D3 : KR.Def P w K mg base L2.CX0 1 "hides_at" (spAt K)) :
    FnOk P w K mg base L2.CX0 5 f fd ["hides", "tolerance", "lot_size"] (spLots A tabs) := by
  refine F.ok sc_lots_in_order (fun vs H Q E h => ?_) (fun cdv Ar outer s H vs Q E hr h => ⟨_, pss_cons (ps_set (i := 3) sc_lots_in_order.nd rfl (.inl rfl) (pe_lst pa_nil))
    (pss_cons (ps_for PassesOwn.never rfl (pi_list (KR.pe_def D1 hr rfl pass0 (pa_cons (pv 0) pa_nil))) (pg_name (i := 4) sc_lots_in_order.nd rfl (.inl rfl))
      (pss_one (ps_if (PW.pt (pw_and (pt_truth (pv 3) (by intro _; rfl)) (pw_and1 (pt_val (KR.pe_def D2 hr rfl pass0 (pa_cons
          (KR.pe_def D3 hr rfl pass0 (pa_cons (pv 0) (pa_cons (pe_op op_cat (pe_ix ix_list (pv 3) (pe_un un_neg pe_int) (fun _ _ => rfl)) (pe_lst (pa_cons (pv 4) pa_nil))) pa_nil)))
          (pa_cons (pv 1) (pa_cons (pv 2) pa_nil))))))))
        (pss_one (ps_expr (pe_bm PySem.F.plainAttrs_list PySem.F.slot_list_append PySem.F.type_list_append mt_append (pe_ix ix_list (pv 3) (pe_un un_neg pe_int) (fun _ _ => rfl)) (pa_cons (pv 4) pa_nil))))
        (pss_one (ps_expr (pe_bm PySem.F.plainAttrs_list PySem.F.slot_list_append PySem.F.type_list_append mt_append (pv 3) (pa_cons (pe_lst (pa_cons (pv 4) pa_nil)) pa_nil)))))))
    (pss_one (ps_ret (pv 3)))), ?_⟩)
  · obtain ⟨l, as, hs, t, n, rfl, _⟩ := h
    rfl
  · obtain ⟨l, as, hs, t, n, rfl, hl, held, few, tb, q⟩ := h
    have lens : ∀ x, x ∈ ordOf hs → x < hs.length := fun x hx => ordOf_mem.mp hx
    -- lots = []: a new list at L
    refine ⟨Nat.zero_le _, fun L hL => ?_⟩
    -- the hides in their order: a new list at o
    refine ⟨_, rfl, l, as, hs, rfl, (upd_ne (ne_of_none hl hL)).trans hl, held.kept (fp := []) (Kept.new hL) (fun _ _ => List.not_mem_nil), few, tb.ext fun b o e => (upd_ne (ne_of_none e hL)).trans e, fun H1 o k1 tb1 no ho => ?_⟩
    have oL : o ≠ L := fun z => by
      rw [z, upd_same] at no
      cases no
    have ho0 : H o = none := by
      rw [upd_ne oL] at no
      exact no
    have k0 : Kept [] H H1 := (Kept.new hL).trans k1
    have hL1 : H1 L = some (.lst []) := k1.at_ _ _ upd_same List.not_mem_nil lst_tbl
    have lenO : (nums (ordOf hs)).length = hs.length := by
      unfold nums
      rw [List.length_map, ordOf_len]
    refine ⟨o, rfl, ⟨_, SqL.of ho⟩, for_it (walk_list (xs := nums (ordOf hs))) (fun i σ H' => ∃ d ps, σ = [some (.ref l), some (.int (t : Nat)), some (.int (n : Nat)), some (.ref L), d] ∧ LotsAt tabs hs H L o i ps (((ordOf hs).take i).foldl (KM.lotStep ⟨hs, t, n⟩) []) H')
      ⟨_, [], rfl, k0, tb1, ho, hL1, .nil, fun _ m => absurd m List.not_mem_nil, ⟨Nat.le_refl _, fun _ m => absurd m List.not_mem_nil, fun _ m => absurd m List.not_mem_nil⟩⟩ (fun i σ H' _ ⟨_, _, _, x⟩ => SqL.of x.order) ?_ ?_⟩
    · rintro i y σ H2 H3 hi ⟨d, ps, rfl, x⟩ ⟨rfl, hy⟩
      rw [lenO] at hi
      obtain ⟨j, ej, rfl⟩ := nums_at hy
      have hj : j < hs.length := lens j (List.mem_of_getElem? ej)
      have next : ((ordOf hs).take (i + 1)).foldl (KM.lotStep ⟨hs, t, n⟩) [] = KM.lotStep ⟨hs, t, n⟩ (((ordOf hs).take i).foldl (KM.lotStep ⟨hs, t, n⟩) []) j := by
        rw [List.take_add_one, ej, List.foldl_append]
        rfl
      rw [next]
      have tame' : Tame hs.length (i + 1) (KM.lotStep ⟨hs, t, n⟩ (((ordOf hs).take i).foldl (KM.lotStep ⟨hs, t, n⟩) []) j) := tame_step x.tame hj
      generalize ((ordOf hs).take i).foldl (KM.lotStep ⟨hs, t, n⟩) [] = lots at x tame' ⊢
      have small : ∀ m : Nat, m ≤ 1000 → m < sizeLine := fun m h => small1000 h
      rcases List.eq_nil_or_concat lots with e | ⟨ks, k, e⟩
      · -- the first lot
        subst e
        rw [KM.lotStep_none] at tame' ⊢
        have e0 : ps = [] := List.length_eq_zero_iff.mp x.boxes.len
        subst e0
        refine ⟨_, rfl, false, .inl ⟨_, SqL.of x.list, rfl⟩, iteF (iteF ?_)⟩
        refine ⟨_, rfl, .inl ⟨rfl, _, SqL.of x.list⟩, _, rfl, (by show 1 ≤ sizeLine; decide), fun p hp => ?_⟩
        have pL : L ≠ p := ne_of_none x.list hp
        refine ⟨L, _, _, rfl, rfl, (upd_ne pL).trans x.list, small _ (by simp), _, [p], rfl, ?_⟩
        exact x.add (j := j) oL hL hp tame'
      · rw [List.concat_eq_append] at e
        subst e
        obtain ⟨qs, q1, e0⟩ : ∃ qs q1, ps = qs ++ [q1] := by
          rcases List.eq_nil_or_concat ps with e | ⟨a, b, e⟩
          · have z := x.boxes.len
            rw [e] at z
            simp at z
          · exact ⟨a, b, by rw [e, List.concat_eq_append]⟩
        subst e0
        obtain ⟨b1, b2, b3⟩ := x.boxes.front
        have nq := x.new q1 (List.mem_append_right _ (List.mem_singleton.mpr rfl))
        have hk := x.tame.short k (List.mem_append_right _ (List.mem_singleton.mpr rfl))
        have kin := x.tame.in_ k (List.mem_append_right _ (List.mem_singleton.mpr rfl))
        have lenL : ((qs ++ [q1]).map V.ref).length ≤ 100 := by
          rw [List.length_map, x.boxes.len]
          have := x.tame.few
          omega
        have last : atI ((qs ++ [q1]).map V.ref) (-1) = some (.ref q1) := by
          rw [List.map_append]
          exact atI_last _ _
        have eL : (!((qs ++ [q1]).map V.ref).isEmpty) = true := by
          rw [List.map_append]
          cases qs.map V.ref <;> rfl
        have line : ∀ m ∈ k ++ [j], m < hs.length := fun m hm => by
          rcases List.mem_append.mp hm with z | z
          · exact kin m z
          · rw [List.mem_singleton.mp z]
            exact hj
        have held2 : Held A.hide H3 as hs := held.kept x.kept fun _ _ => List.not_mem_nil
        have hl2 : H3 l = some (.lst (as.map V.ref)) := x.kept.at_ _ _ hl List.not_mem_nil lst_tbl
        rw [KM.lotStep_snoc] at tame' ⊢
        refine ⟨_, rfl, true, .inl ⟨_, SqL.of x.list, eL.symm⟩, iteT ?_⟩
        -- lots[-1] + [number]
        refine ⟨_, rfl, _, rfl, _, rfl, L, _, _, _, rfl, rfl, SqL.of x.list, last, _, rfl, (by show 1 ≤ sizeLine; decide), fun p1 n1 => ?_⟩
        have e1 : Ext H3 (upd H3 p1 (.lst [.int (j : Nat)])) := Ext.new n1
        refine ⟨q1, p1, _, _, rfl, rfl, e1 _ _ b2, upd_same, ?_, fun p2 n2 => ?_⟩
        · have z := small ((nums k).length + 1) (by unfold nums; rw [List.length_map]; omega)
          exact Nat.le_of_lt z
        have cat : nums k ++ [V.int (j : Nat)] = nums (k ++ [j]) := by
          unfold nums
          rw [List.map_append]
          rfl
        rw [cat]
        have e2 : Ext H3 (upd (upd H3 p1 (.lst [.int (j : Nat)])) p2 (.lst (nums (k ++ [j])))) := e1.trans (Ext.new n2)
        -- the hides with these numbers: a new list at D
        refine ⟨l, p2, as, k ++ [j], rfl, e2.seq (SqL.of hl2), SqL.of upd_same, fun m hm => by rw [held.len]; exact line m hm, ?_, fun D H4 nD hD e2' => ?_⟩
        · rw [List.length_append, List.length_singleton]
          omega
        · have e3 := e2.trans e2'
          have ln := held2.line line
          refine ⟨_, rfl, _, rfl, D, _, _, t, n, rfl, SqL.of hD, ln.ext e3, fun H5 e4 => ?_⟩
          have lotv : Kp394.isLot ⟨hs, t, n⟩ (k ++ [j]) = lotB ((k ++ [j]).map fun i => hs.getD i ⟨0, 0, 0⟩) t n := lot_is _ _
          rw [← lotv]
          have x5 := x.ext (e3.trans e4)
          refine ⟨_, rfl, ite2 (fun c => ?_) (fun c => ?_)⟩
          · rw [if_pos c] at tame' ⊢
            have b5 := x5.boxes.front.2.1
            refine ⟨_, rfl, _, rfl, L, _, _, _, rfl, rfl, SqL.of x5.list, last, .inl ⟨rfl, _, SqL.of b5⟩, _, rfl, q1, _, _, rfl, rfl, b5, small _ ?_, _, qs ++ [q1], rfl, ?_⟩
            · unfold nums
              rw [List.length_map]
              omega
            · rw [cat]
              exact x5.join tame'
          · rw [if_neg c] at tame' ⊢
            refine ⟨_, rfl, .inl ⟨rfl, _, SqL.of x5.list⟩, _, rfl, (by show 1 ≤ sizeLine; decide), fun p hp => ?_⟩
            have pL : L ≠ p := ne_of_none x5.list hp
            refine ⟨L, _, _, rfl, rfl, (upd_ne pL).trans x5.list, small _ (by omega), _, (qs ++ [q1]) ++ [p], rfl, ?_⟩
            have z := x5.add (j := j) oL hL hp tame'
            rw [List.map_append (l₁ := qs ++ [q1])] at z
            exact z
    · rintro σ H2 ⟨d, ps, rfl, x⟩
      have bx := x.boxes
      rw [lenO, List.take_of_length_le (by rw [ordOf_len]; exact Nat.le_refl _), ← lotsOf_fold] at bx
      exact ⟨_, rfl, q H2 L ps x.kept x.tabs_ hL x.list bx (fun p m => (x.new p m).1) fun m => (x.new L m).2.1 rfl⟩
end
end KX
/-! # The incompatible hides -/
namespace KX
open PySem PySem.Spec PyProof.Rows L2
open Kp394 (Hide Inventory)

/-! ### a list of our own changes -/
theorem Kept.put_new {H H' : Hp} {p : Addr} {o : HO} (k : Kept [] H H') (n : H p = none) : Kept [] H (upd H' p o) :=
  ⟨fun b u e m t => (upd_ne (ne_of_none e n)).trans (k.at_ b u e m t), fun b e => k.back b (upd_back e)⟩
theorem tabs_put {tabs : List NdefX.NTab} {H : Hp} {p : Addr} {xs : List V} {o : HO} (x : NdefX.TabsN tabs H) (e : H p = some (.lst xs)) : NdefX.TabsN tabs (upd H p o) := fun q hq => by
  obtain ⟨ts, t1, t2, t3⟩ := x q hq
  refine ⟨ts, (upd_ne fun z => ?_).trans t1, t2, fun pos cv hc => ?_⟩
  · rw [z, e] at t1
    cases t1
  · obtain ⟨c, c1, c2⟩ := t3 pos cv hc
    refine ⟨c, c1, (upd_ne fun z => ?_).trans c2⟩
    rw [z, e] at c2
    have c2 := Option.some.inj c2
    unfold LamX.CodeO at c2
    cases c2
theorem nums_len (ms : List Nat) : (nums ms).length = ms.length := by
  unfold nums
  rw [List.length_map]
theorem nums_cat (ms ks : List Nat) : nums ms ++ nums ks = nums (ms ++ ks) := by
  unfold nums
  rw [List.map_append]
theorem nums_one (m : Nat) : nums [m] = [V.int (m : Nat)] := rfl
/-- the hide with a number -/
theorem Held.num {C : Addr} {H : Hp} {as : List Addr} {hs : List Hide} (x : Held C H as hs) {i : Nat} (c : i < hs.length) : ∃ a, as[i]? = some a ∧ HideAt C H a (hs.getD i ⟨0, 0, 0⟩) := by
  have eh : hs[i]? = some hs[i] := List.getElem?_eq_getElem c
  obtain ⟨a, ea, ha⟩ := x.get eh
  refine ⟨a, ea, ?_⟩
  rw [List.getD_eq_getElem?_getD, eh]
  exact ha

/-! ### the fold -/
def incStep (v : Inventory) (l : List Nat) (i : Nat) : List Nat := match l.getLast? with
  | none => [i]
  | some j => if Kp394.areCompatible v i j then l else l ++ [i]
def incOf (hs : List Hide) (t : Nat) : List Nat := Kp394.incompatibleHides ⟨hs, t, 0⟩
theorem incOf_is (v : Inventory) : Kp394.incompatibleHides v = incOf v.hides v.tolerance := by
  unfold incOf Kp394.incompatibleHides
  rw [ordOf_is v, ordOf_is]
  rfl
theorem incOf_fold (hs : List Hide) (t : Nat) : incOf hs t = (ordOf hs).foldl (incStep ⟨hs, t, 0⟩) [] := by
  unfold incOf Kp394.incompatibleHides
  rw [ordOf_is]
  rfl
theorem incStep_snoc {v : Inventory} {l : List Nat} {j i : Nat} : incStep v (l ++ [j]) i = if Kp394.areCompatible v i j then l ++ [j] else l ++ [j] ++ [i] := by
  unfold incStep
  rw [List.getLast?_append, List.getLast?_singleton]
  rfl
/-- what is taken: few, and there -/
structure Some_ (n i : Nat) (l : List Nat) : Prop where
  few : l.length ≤ i
  in_ : ∀ j ∈ l, j < n
theorem some_step {v : Inventory} {n i j : Nat} {l : List Nat} (h : Some_ n i l) (hj : j < n) : Some_ n (i + 1) (incStep v l j) := by
  have add : Some_ n (i + 1) (l ++ [j]) := by
    refine ⟨by rw [List.length_append, List.length_singleton]; have := h.few; omega, fun x hx => ?_⟩
    rcases List.mem_append.mp hx with m | m
    · exact h.in_ x m
    · rw [List.mem_singleton.mp m]
      exact hj
  rcases List.eq_nil_or_concat l with e | ⟨ks, k, e⟩
  · subst e
    exact add
  · rw [List.concat_eq_append] at e
    subst e
    rw [incStep_snoc]
    split
    · exact ⟨Nat.le_succ_of_le h.few, h.in_⟩
    · exact add
def spIncomp (A : Ad) (T : List NdefX.NTab) : Sp := fun vs H Q _ => ∃ (l : Addr) (as : List Addr) (hs : List Hide) (t : Nat), vs = [.ref l, .int (t : Nat)] ∧ H l = some (.lst (as.map V.ref)) ∧ Held A.hide H as hs ∧ hs.length ≤ 13 ∧ NdefX.TabsN T H ∧
  ∀ (H' : Hp) (p : Addr), Kept [] H H' → NdefX.TabsN T H' → H p = none → H' p = some (.lst (nums (incOf hs t))) → Q (.ref p) H'
section
variable {P : Program} {w : World} {K : PySem.W.Frag} {mg : Str → Option Value} {base : Heap} {A : Ad} {f : Addr} {fd : FuncData} {tabs : List NdefX.NTab}
theorem ok_incomp (F : Fun K "incompatible_in_order" "incompatible_in_order" s_incompatible_in_order f fd) (T : Txt K mg A) (D1 : KR.Def P w K mg base L2.CX0 4 "numbers_in_order" (spOrder A tabs)) (D2 : KR.Def P w K mg base L2.CX0 1 "hides_match" (spMatch A)) :
    FnOk P w K mg base L2.CX0 5 f fd ["hides", "tolerance"] (spIncomp A tabs) := by
  refine F.ok sc_incompatible_in_order (fun vs H Q E h => ?_) (fun cdv Ar outer s H vs Q E hr h => ⟨_, pss_cons (ps_set (i := 2) sc_incompatible_in_order.nd rfl (.inl rfl) (pe_lst pa_nil))
    (pss_cons (ps_for PassesOwn.never rfl (pi_list (KR.pe_def D1 hr rfl pass0 (pa_cons (pv 0) pa_nil))) (pg_name (i := 3) sc_incompatible_in_order.nd rfl (.inl rfl))
      (pss_one (ps_if (PW.pt (pw_or (pt_not (pt_truth (pv 2) (by intro _; rfl))) (pw_or1 (pt_not (pt_val (KR.pe_def D2 hr rfl pass0 (pa_cons
          (pe_ix ix_list (pv 0) (pe_ix ix_list (pv 2) (pe_un un_neg pe_int) (fun _ _ => rfl)) (fun _ _ => rfl)) (pa_cons (pe_ix ix_list (pv 0) (pv 3) (fun _ _ => rfl)) (pa_cons (pv 1) pa_nil)))))))))
        (pss_one (ps_expr (pe_bm PySem.F.plainAttrs_list PySem.F.slot_list_append PySem.F.type_list_append mt_append (pv 2) (pa_cons (pv 3) pa_nil)))) pss_nil)))
    (pss_one (ps_ret (pv 2)))), ?_⟩)
  · obtain ⟨l, as, hs, t, rfl, _⟩ := h
    rfl
  · obtain ⟨l, as, hs, t, rfl, hl, held, few, tb, q⟩ := h
    refine ⟨Nat.zero_le _, fun L hL => ?_⟩
    refine ⟨_, rfl, l, as, hs, rfl, (upd_ne (ne_of_none hl hL)).trans hl, held.kept (fp := []) (Kept.new hL) (fun _ _ => List.not_mem_nil), few, tb.ext fun b o e => (upd_ne (ne_of_none e hL)).trans e, fun H1 o k1 tb1 no ho => ?_⟩
    have k0 : Kept [] H H1 := (Kept.new hL).trans k1
    have hL1 : H1 L = some (.lst []) := k1.at_ _ _ upd_same List.not_mem_nil lst_tbl
    have oL : o ≠ L := fun z => by
      rw [z, upd_same] at no
      cases no
    refine ⟨o, rfl, ⟨_, SqL.of ho⟩, for_it (walk_list (xs := nums (ordOf hs))) (fun i σ H' => ∃ d, σ = [some (.ref l), some (.int (t : Nat)), some (.ref L), d] ∧ Kept [] H H' ∧ NdefX.TabsN tabs H' ∧ H' o = some (.lst (nums (ordOf hs))) ∧
        H' L = some (.lst (nums (((ordOf hs).take i).foldl (incStep ⟨hs, t, 0⟩) []))) ∧ Some_ hs.length i (((ordOf hs).take i).foldl (incStep ⟨hs, t, 0⟩) []))
      ⟨_, rfl, k0, tb1, ho, hL1, Nat.le_refl _, fun j m => absurd m List.not_mem_nil⟩ (fun i σ H' _ ⟨_, _, _, _, x, _⟩ => SqL.of x) ?_ ?_⟩
    · rintro i y σ H2 H3 hi ⟨d, rfl, k2, tb2, o2, l2, sm⟩ ⟨rfl, hy⟩
      rw [nums_len, ordOf_len] at hi
      obtain ⟨j, ej, rfl⟩ := nums_at hy
      have hj : j < hs.length := ordOf_mem.mp (List.mem_of_getElem? ej)
      have next : ((ordOf hs).take (i + 1)).foldl (incStep ⟨hs, t, 0⟩) [] = incStep ⟨hs, t, 0⟩ (((ordOf hs).take i).foldl (incStep ⟨hs, t, 0⟩) []) j := by
        rw [List.take_add_one, ej, List.foldl_append]
        rfl
      rw [next]
      have sm' : Some_ hs.length (i + 1) (incStep ⟨hs, t, 0⟩ (((ordOf hs).take i).foldl (incStep ⟨hs, t, 0⟩) []) j) := some_step sm hj
      generalize ((ordOf hs).take i).foldl (incStep ⟨hs, t, 0⟩) [] = ks at l2 sm sm' ⊢
      have hl2 := k2.at_ _ _ hl List.not_mem_nil lst_tbl
      have held2 : Held A.hide H3 as hs := held.kept k2 fun _ _ => List.not_mem_nil
      have put : ∀ xs : List Nat, incStep ⟨hs, t, 0⟩ ks j = xs → Some_ hs.length (i + 1) xs → ∃ d, [some (V.ref l), some (.int (t : Nat)), some (.ref L), some (.int (j : Nat))] = [some (V.ref l), some (.int (t : Nat)), some (.ref L), d] ∧ Kept [] H (upd H3 L (.lst (nums xs))) ∧ NdefX.TabsN tabs (upd H3 L (.lst (nums xs))) ∧
          (upd H3 L (.lst (nums xs))) o = some (.lst (nums (ordOf hs))) ∧ (upd H3 L (.lst (nums xs))) L = some (.lst (nums xs)) ∧ Some_ hs.length (i + 1) xs := fun xs _ s => ⟨_, rfl, k2.put_new hL, tabs_put tb2 l2, (upd_ne oL).trans o2, upd_same, s⟩
      have lenk := sm.few
      have small : (nums ks).length < sizeLine := small1000 (by rw [nums_len]; omega)
      rcases List.eq_nil_or_concat ks with e | ⟨ls, k, e⟩
      · subst e
        have z := put [j] rfl sm'
        refine ⟨_, rfl, false, .inl ⟨_, SqL.of l2, rfl⟩, iteT ?_⟩
        exact ⟨_, rfl, .inl ⟨rfl, _, SqL.of l2⟩, _, rfl, L, _, _, rfl, rfl, l2, small, z⟩
      · rw [List.concat_eq_append] at e
        subst e
        have hk := sm.in_ k (List.mem_append_right _ (List.mem_singleton.mpr rfl))
        obtain ⟨a1, ea1, ha1⟩ := held2.num hk
        obtain ⟨a2, ea2, ha2⟩ := held2.num hj
        have last : atI (nums (ls ++ [k])) (-1) = some (.int (k : Nat)) := by
          rw [← nums_cat]
          exact atI_last _ _
        have full : (!(nums (ls ++ [k])).isEmpty) = true := by
          rw [← nums_cat]
          cases nums ls <;> rfl
        rw [incStep_snoc] at sm'
        have mt : matchB (hs.getD k ⟨0, 0, 0⟩) (hs.getD j ⟨0, 0, 0⟩) t = Kp394.areCompatible ⟨hs, t, 0⟩ j k := match_comm _ _ _
        refine ⟨_, rfl, true, .inl ⟨_, SqL.of l2, full.symm⟩, iteF ?_⟩
        refine ⟨_, rfl, _, rfl, _, rfl, L, _, _, _, rfl, rfl, SqL.of l2, last, l, _, _, _, rfl, rfl, SqL.of hl2, atI_nat (by rw [List.getElem?_map, ea1]; rfl), ?_⟩
        refine ⟨_, rfl, _, rfl, l, _, _, _, rfl, rfl, SqL.of hl2, atI_nat (by rw [List.getElem?_map, ea2]; rfl), _, rfl, a1, a2, _, _, t, rfl, ha1, ha2, ?_⟩
        rw [mt, incStep_snoc]
        cases c : Kp394.areCompatible ⟨hs, t, 0⟩ j k with
        | true =>
          rw [c, if_pos rfl] at sm'
          refine ⟨_, rfl, iteF ?_⟩
          rw [if_pos rfl]
          exact ⟨_, rfl, k2, tb2, o2, l2, sm'⟩
        | false =>
          rw [c, if_neg Bool.false_ne_true] at sm'
          refine ⟨_, rfl, iteT ?_⟩
          rw [if_neg Bool.false_ne_true]
          have z := put (ls ++ [k] ++ [j]) (by rw [incStep_snoc, c]; rfl) sm'
          rw [← nums_cat (ls ++ [k]) [j]] at z
          refine ⟨_, rfl, .inl ⟨rfl, _, SqL.of l2⟩, _, rfl, L, _, _, rfl, rfl, l2, small, ?_⟩
          rw [← nums_cat (ls ++ [k]) [j]]
          exact z
    · rintro σ H2 ⟨d, rfl, k2, tb2, o2, l2, sm⟩
      rw [nums_len, List.take_of_length_le (Nat.le_refl _), ← incOf_fold] at l2
      exact ⟨_, rfl, q H2 L k2 tb2 hL l2⟩
end
end KX
/-! # The best pairs, as the program finds them: pure mathematics -/
namespace KX
open Kp394 (Hide Inventory)

def th (hs : List Hide) (i : Nat) : Nat := (hs.getD i ⟨0, 0, 0⟩).thickness
/-- by how much two thicknesses differ -/
def gap (hs : List Hide) (a b : Nat) : Nat := (th hs a - th hs b) + (th hs b - th hs a)
def gaps (hs : List Hide) : List Nat → Nat
  | a :: b :: r => gap hs a b + gaps hs r
  | _ => 0
theorem gaps_more (hs : List Hide) (a b : Nat) : ∀ (n : Nat) (l : List Nat), l.length = 2 * n → gaps hs (l ++ [a, b]) = gaps hs l + gap hs a b
  | 0, [], _ => by simp [gaps]
  | n + 1, x :: y :: r, h => by
    rw [List.cons_append, List.cons_append]
    unfold gaps
    rw [gaps_more hs a b n r (by simp at h; omega)]
    omega
theorem gaps_one (hs : List Hide) (a : Nat) : ∀ (n : Nat) (l : List Nat), l.length = 2 * n → gaps hs (l ++ [a]) = gaps hs l
  | 0, [], _ => by simp [gaps]
  | n + 1, x :: y :: r, h => by
    rw [List.cons_append, List.cons_append]
    unfold gaps
    rw [gaps_one hs a n r (by simp at h; omega)]
/-- the numbers of a kind, in order -/
def kindOf (hs : List Hide) (k : Nat) : List Nat := (ordOf hs).filter fun i => (hs.getD i ⟨0, 0, 0⟩).kind == k
theorem kindOf_is (v : Inventory) (k : Nat) : Kp394.hidesOfKind v k = kindOf v.hides k := by
  unfold Kp394.hidesOfKind kindOf
  rw [ordOf_is]
  rfl
theorem kindOf_mem {hs : List Hide} {k i : Nat} (h : i ∈ kindOf hs k) : i < hs.length := ordOf_mem.mp (List.mem_filter.mp h).1
theorem kindOf_len (hs : List Hide) (k : Nat) : (kindOf hs k).length ≤ hs.length := by
  rw [← ordOf_len hs]
  exact List.length_filter_le _ _
/-- within a kind the thicknesses rise -/
def Rise (hs : List Hide) (l : List Nat) : Prop := l.Pairwise fun a b => th hs a ≤ th hs b
theorem kindOf_rise (hs : List Hide) (k : Nat) : Rise hs (kindOf hs k) := by
  have s : (kindOf hs k).Pairwise (KM.lt3 ⟨hs, 0, 0⟩) := (KM.order_sorted ⟨hs, 0, 0⟩).sublist List.filter_sublist
  have kd : ∀ i ∈ kindOf hs k, (hs.getD i ⟨0, 0, 0⟩).kind = k := fun i m => by
    have q := (List.mem_filter.mp m).2
    exact eq_of_beq q
  unfold Rise
  have both := List.Pairwise.and_mem.mp s
  refine both.imp fun {a b} ⟨ma, mb, h⟩ => ?_
  have ka := kd a ma
  have kb := kd b mb
  unfold KM.lt3 Kp394.hideAt at h
  dsimp only at h
  unfold th
  omega
theorem total_is (v : Inventory) : ∀ l : List Nat, Rise v.hides l → Kp394.totalDifference v (Kp394.pairUp l) = gaps v.hides l
  | [], _ => rfl
  | [_], _ => rfl
  | a :: b :: r, h => by
    have h1 := List.pairwise_cons.mp h
    have h2 := List.pairwise_cons.mp h1.2
    have ih := total_is v r h2.2
    have le := h1.1 b (List.mem_cons_self ..)
    unfold Kp394.pairUp gaps
    unfold Kp394.totalDifference at ih ⊢
    rw [List.map_cons, List.sum_cons, ih]
    unfold gap
    show th v.hides b - th v.hides a + _ = _
    omega
theorem pairUp_len : ∀ (n : Nat) (l : List Nat), l.length = 2 * n → (Kp394.pairUp l).length = n
  | 0, [], _ => rfl
  | n + 1, a :: b :: r, h => by
    unfold Kp394.pairUp
    rw [List.length_cons, pairUp_len n r (by simp at h; omega)]
theorem pairUp_flat : ∀ (n : Nat) (l : List Nat), l.length = 2 * n → ((Kp394.pairUp l).flatMap fun x => [x.1, x.2]) = l
  | 0, [], _ => rfl
  | n + 1, a :: b :: r, h => by
    unfold Kp394.pairUp
    rw [List.flatMap_cons, pairUp_flat n r (by simp at h; omega)]
    rfl
/-- the numbers with the one at p behind all others -/
def leave (l : List Nat) (p : Nat) : List Nat := l.eraseIdx p ++ [l.getD p 0]
theorem leave_len {l : List Nat} {p : Nat} (h : p < l.length) : (leave l p).length = l.length := by
  unfold leave
  rw [List.length_append, List.length_eraseIdx, if_pos h, List.length_singleton]
  omega
theorem leave_mem {l : List Nat} {p x : Nat} (h : p < l.length) (m : x ∈ leave l p) : x ∈ l := by
  unfold leave at m
  rcases List.mem_append.mp m with q | q
  · exact (List.eraseIdx_sublist ..).subset q
  · rw [List.mem_singleton.mp q, List.getD_eq_getElem?_getD, List.getElem?_eq_getElem h]
    exact List.getElem_mem h
def bestStep (hs : List Hide) (l best : List Nat) (p : Nat) : List Nat := if gaps hs (leave l p) < gaps hs best then leave l p else best
/-- behind i turns -/
def bestUpto (hs : List Hide) (l : List Nat) (i : Nat) : List Nat := (List.range i).foldl (fun b j => bestStep hs l b (1 + j)) (leave l 0)
theorem bestUpto_more (hs : List Hide) (l : List Nat) (i : Nat) : bestUpto hs l (i + 1) = bestStep hs l (bestUpto hs l i) (1 + i) := by
  unfold bestUpto
  rw [List.range_succ, List.foldl_append]
  rfl
def pairedOf (hs : List Hide) (k : Nat) : List Nat := if (kindOf hs k).length % 2 = 0 then kindOf hs k else bestUpto hs (kindOf hs k) ((kindOf hs k).length - 1)
/-- what best is: one of those that leave one over -/
theorem bestUpto_is (hs : List Hide) (l : List Nat) : ∀ i, i < l.length → ∃ p, p < l.length ∧ bestUpto hs l i = leave l p
  | 0, h => ⟨0, h, rfl⟩
  | i + 1, h => by
    obtain ⟨p, lt, e⟩ := bestUpto_is hs l i (by omega)
    rw [bestUpto_more]
    unfold bestStep
    split
    · exact ⟨1 + i, by omega, rfl⟩
    · exact ⟨p, lt, e⟩
theorem pairedOf_mem {hs : List Hide} {k i : Nat} (h : i ∈ pairedOf hs k) : i < hs.length := by
  unfold pairedOf at h
  split at h
  · exact kindOf_mem h
  · obtain ⟨p, lt, e⟩ := bestUpto_is hs (kindOf hs k) ((kindOf hs k).length - 1) (by omega)
    rw [e] at h
    exact kindOf_mem (leave_mem lt h)
theorem pairedOf_len (hs : List Hide) (k : Nat) : (pairedOf hs k).length = (kindOf hs k).length := by
  unfold pairedOf
  split
  · rfl
  · obtain ⟨p, lt, e⟩ := bestUpto_is hs (kindOf hs k) ((kindOf hs k).length - 1) (by omega)
    rw [e, leave_len lt]
/-- the specification's fold finds the same -/
theorem spec_fold (v : Inventory) (l : List Nat) (d : Nat → Nat) (hd : ∀ p, p < l.length → d p = gaps v.hides (leave l p)) : ∀ i, i < l.length →
    ∃ p, p < l.length ∧ bestUpto v.hides l i = leave l p ∧ (List.range (i + 1)).foldl (fun (best : Option (Nat × Nat)) (q : Nat) => match best with
      | none => some (q, d q)
      | some b => if d q < b.2 then some (q, d q) else best) none = some (p, d p)
  | 0, h => ⟨0, h, rfl, rfl⟩
  | i + 1, h => by
    obtain ⟨p, lt, e1, e2⟩ := spec_fold v l d hd i (by omega)
    rw [bestUpto_more, List.range_succ, List.foldl_append, e2, e1]
    have e3 : 1 + i = i + 1 := by omega
    rw [e3]
    unfold bestStep
    rw [← hd p lt, ← hd (i + 1) h]
    by_cases c : d (i + 1) < d p
    · rw [if_pos c]
      exact ⟨i + 1, h, rfl, if_pos c⟩
    · rw [if_neg c]
      exact ⟨p, lt, rfl, if_neg c⟩
/-- the answer: the sum, how many pairs, these, the one left over -/
theorem pairs_are (v : Inventory) (k : Nat) : Kp394.totalDifference v (Kp394.bestPairs v k).1 = gaps v.hides (pairedOf v.hides k) ∧ (Kp394.bestPairs v k).1.length = (pairedOf v.hides k).length / 2 ∧
    ((Kp394.bestPairs v k).1.flatMap fun x => [x.1, x.2]) ++ (Kp394.bestPairs v k).2.toList = pairedOf v.hides k := by
  have rise := kindOf_rise v.hides k
  unfold Kp394.bestPairs
  dsimp only
  rw [kindOf_is]
  rw [pairedOf_len]
  unfold pairedOf
  generalize kindOf v.hides k = l at rise ⊢
  by_cases c : l.length % 2 = 0
  · rw [if_pos c, if_pos c]
    refine ⟨total_is v l rise, pairUp_len _ l (by omega), ?_⟩
    dsimp only
    rw [pairUp_flat (l.length / 2) l (by omega)]
    simp
  · rw [if_neg c, if_neg c]
    have half : ∀ p, p < l.length → (l.eraseIdx p).length = 2 * (l.length / 2) := fun p lt => by
      rw [List.length_eraseIdx, if_pos lt]
      omega
    have hd : ∀ p, p < l.length → Kp394.totalDifference v (Kp394.pairUp (l.eraseIdx p)) = gaps v.hides (leave l p) := fun p lt => by
      unfold leave
      rw [gaps_one v.hides _ _ _ (half p lt)]
      exact total_is v _ (rise.sublist (List.eraseIdx_sublist ..))
    obtain ⟨p, lt, e1, e2⟩ := spec_fold v l (fun p => Kp394.totalDifference v (Kp394.pairUp (l.eraseIdx p))) hd (l.length - 1) (by omega)
    have e3 : l.length - 1 + 1 = l.length := by omega
    rw [e3] at e2
    rw [e1]
    generalize hF : List.foldl _ none (List.range l.length) = r
    have er : r = some (p, Kp394.totalDifference v (Kp394.pairUp (l.eraseIdx p))) := by
      rw [← hF]
      exact e2
    subst er
    dsimp only
    refine ⟨hd p lt, pairUp_len _ _ (half p lt), ?_⟩
    rw [pairUp_flat _ _ (half p lt)]
    unfold leave
    rw [List.getD_eq_getElem?_getD, List.getElem?_eq_getElem lt]
    rfl
end KX
/-! # Runs, their largest parts, the largest lot: pure mathematics -/
namespace KX
open Kp394 (Hide Inventory)

/-! ### the runs -/
def hd (hs : List Hide) (i : Nat) : Hide := hs.getD i ⟨0, 0, 0⟩
def runB (hs : List Hide) (t : Nat) (l : List Nat) : Bool := allB (l.map fun i => hs.getD i ⟨0, 0, 0⟩) t
def piece (hs : List Hide) (a j : Nat) : List Nat := ((ordOf hs).drop a).take (j + 1)
def runsAt (hs : List Hide) (t a j : Nat) : List (List Nat) := ((List.range j).map (piece hs a)).filter (runB hs t)
def runsTo (hs : List Hide) (t a : Nat) : List (List Nat) := (List.range a).flatMap fun b => runsAt hs t b (hs.length - b)
def runsOf (hs : List Hide) (t : Nat) : List (List Nat) := runsTo hs t hs.length
theorem all_is (v : Inventory) (l : List Nat) : Kp394.allCompatible v l = runB v.hides v.tolerance l := by
  unfold Kp394.allCompatible runB allB
  rw [List.all_map]
  congr 1
  funext i
  show (l.all fun j => _) = (l.map _).all _
  rw [List.all_map]
  rfl
theorem runs_are (v : Inventory) : Kp394.compatibleRuns v = runsOf v.hides v.tolerance := by
  have e : Kp394.allCompatible v = runB v.hides v.tolerance := by
    funext l
    exact all_is v l
  unfold Kp394.compatibleRuns runsOf runsTo runsAt
  rw [ordOf_is, ordOf_len, e]
  rfl
theorem runsAt_more (hs : List Hide) (t a j : Nat) : runsAt hs t a (j + 1) = if runB hs t (piece hs a j) then runsAt hs t a j ++ [piece hs a j] else runsAt hs t a j := by
  unfold runsAt
  rw [List.range_succ, List.map_append, List.filter_append]
  by_cases c : runB hs t (piece hs a j) = true
  · rw [if_pos c, List.map_cons, List.map_nil, List.filter_cons_of_pos c, List.filter_nil]
  · rw [if_neg c, List.map_cons, List.map_nil, List.filter_cons_of_neg c, List.filter_nil, List.append_nil]
theorem runsTo_more (hs : List Hide) (t a : Nat) : runsTo hs t (a + 1) = runsTo hs t a ++ runsAt hs t a (hs.length - a) := by
  unfold runsTo
  rw [List.range_succ, List.flatMap_append, List.flatMap_cons, List.flatMap_nil, List.append_nil]
theorem piece_mem {hs : List Hide} {a j x : Nat} (h : x ∈ piece hs a j) : x < hs.length :=
  ordOf_mem.mp (List.mem_of_mem_drop (List.mem_of_mem_take h))
theorem piece_len {hs : List Hide} {a j : Nat} (h : a + j < hs.length) : (piece hs a j).length = j + 1 := by
  unfold piece
  rw [List.length_take, List.length_drop, ordOf_len]
  omega
theorem runsOf_mem {hs : List Hide} {t : Nat} {r : List Nat} (h : r ∈ runsOf hs t) : r ≠ [] ∧ (∀ x ∈ r, x < hs.length) ∧ r.length ≤ hs.length := by
  unfold runsOf runsTo at h
  obtain ⟨a, ha, m⟩ := List.mem_flatMap.mp h
  unfold runsAt at m
  obtain ⟨j, hj, e⟩ := List.mem_map.mp (List.mem_filter.mp m).1
  rw [List.mem_range] at ha hj
  subst e
  have len := piece_len (hs := hs) (a := a) (j := j) (by omega)
  refine ⟨fun z => ?_, fun x hx => piece_mem hx, by omega⟩
  rw [z] at len
  simp at len
theorem runsOf_some {hs : List Hide} (t : Nat) (h : hs ≠ []) : runsOf hs t ≠ [] := by
  have pos : 0 < hs.length := List.length_pos_iff.mpr h
  intro z
  have m : piece hs 0 0 ∈ runsOf hs t := by
    unfold runsOf runsTo
    refine List.mem_flatMap.mpr ⟨0, List.mem_range.mpr pos, ?_⟩
    unfold runsAt
    refine List.mem_filter.mpr ⟨List.mem_map.mpr ⟨0, List.mem_range.mpr (by omega), rfl⟩, ?_⟩
    have len := piece_len (hs := hs) (a := 0) (j := 0) (by omega)
    match piece hs 0 0, len with
    | [x], _ =>
      unfold runB allB
      simp [match_self]
  rw [z] at m
  exact List.not_mem_nil m
theorem runsAt_len (hs : List Hide) (t a j : Nat) : (runsAt hs t a j).length ≤ j := by
  unfold runsAt
  refine Nat.le_trans (List.length_filter_le _ _) ?_
  rw [List.length_map, List.length_range]
  exact Nat.le_refl _
theorem runsTo_len (hs : List Hide) (t : Nat) : ∀ a, (runsTo hs t a).length ≤ a * hs.length
  | 0 => by simp [runsTo]
  | a + 1 => by
    rw [runsTo_more, List.length_append, Nat.succ_mul]
    have h1 := runsTo_len hs t a
    have h2 := runsAt_len hs t a (hs.length - a)
    omega

/-! ### a run's largest part -/
/-- the area at a place of the run -/
def arAt (hs : List Hide) (run : List Nat) (p : Nat) : Nat := (hs.getD (run.getD p 0) ⟨0, 0, 0⟩).area
def ahead (hs : List Hide) (run : List Nat) (q p : Nat) : Prop := arAt hs run p < arAt hs run q ∨ (arAt hs run q = arAt hs run p ∧ q < p)
instance (hs : List Hide) (run : List Nat) (q p : Nat) : Decidable (ahead hs run q p) := by
  unfold ahead
  exact inferInstance
def prank (hs : List Hide) (run : List Nat) (p : Nat) : Int × Int := (-((arAt hs run p : Nat) : Int), (p : Nat))
def placesOf (hs : List Hide) (run : List Nat) : List Nat := KS.sortedBy KS.Y2 run.length (prank hs run)
theorem places_sorted (hs : List Hide) (run : List Nat) : (placesOf hs run).Pairwise (ahead hs run) := by
  have h := KS.sortedBy2_pairwise run.length (prank hs run)
  have nd : (placesOf hs run).Nodup := (KS.sortedBy_perm KS.Y2 _ _).nodup_iff.mpr List.nodup_range
  refine (List.Pairwise.and h nd).imp fun {p q} ⟨a, b⟩ => ?_
  unfold KS.le2 prank at a
  have a := of_decide_eq_true a
  dsimp only at a
  unfold ahead
  omega
/-- how many places are ahead of a place -/
def before (hs : List Hide) (run : List Nat) (p : Nat) : Nat := ((List.range run.length).filter fun q => decide (ahead hs run q p)).length
theorem count_at {hs : List Hide} {run : List Nat} : ∀ {s : List Nat} {i p : Nat}, s.Pairwise (ahead hs run) → s[i]? = some p → (s.filter fun q => decide (ahead hs run q p)).length = i
  | [], i, p, _, e => by simp at e
  | x :: r, 0, p, h, e => by
    obtain rfl : x = p := Option.some.inj e
    have h1 := List.pairwise_cons.mp h
    have none_ : ∀ q ∈ x :: r, ¬ (decide (ahead hs run q x) = true) := fun q hq z => by
      have z := of_decide_eq_true z
      rcases List.mem_cons.mp hq with e | m
      · subst e
        unfold ahead at z
        omega
      · have y := h1.1 q m
        unfold ahead at z y
        omega
    rw [List.filter_eq_nil_iff.mpr none_]
    rfl
  | x :: r, i + 1, p, h, e => by
    have h1 := List.pairwise_cons.mp h
    have m : p ∈ r := List.mem_of_getElem? (i := i) e
    have y : (fun q => decide (ahead hs run q p)) x = true := decide_eq_true (h1.1 p m)
    rw [List.filter_cons_of_pos (p := fun q => decide (ahead hs run q p)) y, List.length_cons, count_at h1.2 e]
theorem before_at {hs : List Hide} {run : List Nat} {i p : Nat} (e : (placesOf hs run)[i]? = some p) : before hs run p = i := by
  unfold before
  rw [← ((KS.sortedBy_perm KS.Y2 run.length (prank hs run)).filter _).length_eq]
  exact count_at (places_sorted hs run) e
theorem filter_take (P : Nat → Bool) : ∀ (l : List Nat) (n : Nat), (∀ i p, l[i]? = some p → (P p = true ↔ i < n)) → l.filter P = l.take n
  | [], n, _ => by simp
  | x :: r, 0, h => by
    have hx : ¬ P x = true := fun z => by have := (h 0 x rfl).mp z; omega
    rw [List.filter_cons_of_neg hx, List.take_zero]
    refine List.filter_eq_nil_iff.mpr fun q hq z => ?_
    obtain ⟨i, e⟩ := List.mem_iff_getElem?.mp hq
    have := (h (i + 1) q e).mp z
    omega
  | x :: r, n + 1, h => by
    have hx : P x = true := (h 0 x rfl).mpr (by omega)
    rw [List.filter_cons_of_pos hx, List.take_succ_cons, filter_take P r n fun i p e => (h (i + 1) p e).trans (by omega)]
/-- the places of the part, as they are taken, are a rearrangement of those in order -/
def partPlaces (hs : List Hide) (run : List Nat) (n : Nat) : List Nat := (List.range run.length).filter fun p => decide (before hs run p < n)
theorem taken_perm (hs : List Hide) (run : List Nat) (n : Nat) : ((placesOf hs run).take n).Perm (partPlaces hs run n) := by
  have e := filter_take (fun p => decide (before hs run p < n)) (placesOf hs run) n fun i p e => by rw [decide_eq_true_eq, before_at e]
  rw [← e]
  exact (KS.sortedBy_perm KS.Y2 run.length (prank hs run)).filter _
/-- two rising arrangements of the same whole numbers are one -/
theorem rising_one : ∀ {l k : List Int}, l.Perm k → l.Pairwise (· ≤ ·) → k.Pairwise (· ≤ ·) → l = k
  | [], k, p, _, _ => (List.nil_perm.mp p).symm
  | i :: l, [], p, _, _ => absurd p.length_eq (by simp)
  | i :: l, j :: k, p, hl, hk => by
    have hl' := List.pairwise_cons.mp hl
    have hk' := List.pairwise_cons.mp hk
    have e : i = j := by
      by_cases e : i = j
      · exact e
      · have m1 : i ∈ k := (List.mem_cons.mp (p.mem_iff.mp (List.mem_cons_self ..))).resolve_left e
        have m2 : j ∈ l := (List.mem_cons.mp (p.mem_iff.mpr (List.mem_cons_self ..))).resolve_left (Ne.symm e)
        exact Int.le_antisymm (hl'.1 j m2) (hk'.1 i m1)
    subst e
    rw [rising_one (List.perm_cons i |>.mp p) hl'.2 hk'.2]
theorem sorted_places {hs : List Hide} {run : List Nat} {n : Nat} {ns : List Int} (p : ns.Perm (((placesOf hs run).take n).map fun m => ((m : Nat) : Int))) (r : ns.Pairwise (· ≤ ·)) : ns = (partPlaces hs run n).map fun m => ((m : Nat) : Int) := by
  refine rising_one (p.trans ((taken_perm hs run n).map _)) r ?_
  rw [List.pairwise_map]
  have lt : (List.range run.length).Pairwise (· < ·) := List.pairwise_lt_range
  exact (lt.sublist List.filter_sublist).imp fun {a b} h => by omega
def partOf (hs : List Hide) (run : List Nat) (n : Nat) : List Nat := (partPlaces hs run n).map fun p => run.getD p 0
theorem zip_is (run : List Nat) : run.zipIdx = (List.range run.length).map fun p => (run.getD p 0, p) := by
  apply List.ext_getElem
  · simp
  · intro i h1 h2
    have lt : i < run.length := by simpa using h1
    simp [List.getD_eq_getElem?_getD, List.getElem?_eq_getElem lt]
theorem part_is (v : Inventory) (run : List Nat) : Kp394.largestOf v run = partOf v.hides run v.lotSize := by
  have rk : ∀ p, Kp394.rankIn v run (run.getD p 0) p = before v.hides run p := fun p => by
    unfold Kp394.rankIn before
    rw [zip_is, List.filter_map, List.length_map]
    congr 2
    funext q
    show (decide (arAt v.hides run p < arAt v.hides run q) || (arAt v.hides run q == arAt v.hides run p && decide (q < p))) = decide (ahead v.hides run q p)
    rw [Bool.eq_iff_iff, Bool.or_eq_true, Bool.and_eq_true, decide_eq_true_eq, decide_eq_true_eq, decide_eq_true_eq, beq_iff_eq]
    rfl
  unfold Kp394.largestOf partOf partPlaces
  rw [zip_is, List.filter_map, List.map_map]
  congr 2
  funext p
  show decide (Kp394.rankIn v run (run.getD p 0) p < v.lotSize) = _
  rw [rk]
theorem partPlaces_mem {hs : List Hide} {run : List Nat} {n p : Nat} (h : p ∈ partPlaces hs run n) : p < run.length := List.mem_range.mp (List.mem_filter.mp h).1
theorem partOf_mem {hs : List Hide} {run : List Nat} {n x : Nat} (h : x ∈ partOf hs run n) : x ∈ run := by
  obtain ⟨p, m, e⟩ := List.mem_map.mp h
  have lt := partPlaces_mem m
  rw [← e, List.getD_eq_getElem?_getD, List.getElem?_eq_getElem lt]
  exact List.getElem_mem lt
theorem partOf_len (hs : List Hide) (run : List Nat) (n : Nat) : (partOf hs run n).length ≤ run.length := by
  unfold partOf
  rw [List.length_map]
  refine Nat.le_trans (List.length_filter_le _ _) ?_
  rw [List.length_range]
  exact Nat.le_refl _
theorem partOf_some {hs : List Hide} {run : List Nat} {n : Nat} (h : run ≠ []) (n1 : 1 ≤ n) : partOf hs run n ≠ [] := by
  intro z
  unfold partOf at z
  have z := List.map_eq_nil_iff.mp z
  have len := (taken_perm hs run n).length_eq
  rw [z, List.length_take] at len
  have l2 := (KS.sortedBy_perm KS.Y2 run.length (prank hs run)).length_eq
  rw [List.length_range] at l2
  have pos := List.length_pos_iff.mpr h
  unfold placesOf at len
  rw [List.length_nil] at len
  omega

/-! ### the largest lot -/
def areaN (hs : List Hide) (l : List Nat) : Nat := areaB (l.map fun i => hs.getD i ⟨0, 0, 0⟩)
theorem area_is (v : Inventory) (l : List Nat) : Kp394.areaOf v l = areaN v.hides l := by
  unfold Kp394.areaOf areaN areaB
  rw [List.map_map]
  rfl
def largeStep (hs : List Hide) (n : Nat) (b run : List Nat) : List Nat := if areaN hs b < areaN hs (partOf hs run n) then partOf hs run n else b
def largeOf (hs : List Hide) (t n : Nat) : List Nat := (runsOf hs t).foldl (largeStep hs n) []
theorem area_pos {hs : List Hide} (big : ∀ h ∈ hs, 1 ≤ h.area) : ∀ {l : List Nat}, l ≠ [] → (∀ x ∈ l, x < hs.length) → 0 < areaN hs l
  | [], n, _ => absurd rfl n
  | x :: r, _, h => by
    have lt := h x (List.mem_cons_self ..)
    have e : hs.getD x ⟨0, 0, 0⟩ = hs[x] := by rw [List.getD_eq_getElem?_getD, List.getElem?_eq_getElem lt]; rfl
    have b := big _ (List.getElem_mem lt)
    unfold areaN areaB
    rw [List.map_cons, List.map_cons, List.sum_cons, e]
    omega
/-- what the fold holds: hides that are there -/
theorem large_mem {hs : List Hide} {n : Nat} : ∀ (rs : List (List Nat)) (b : List Nat), (∀ r ∈ rs, ∀ x ∈ r, x < hs.length) → (∀ x ∈ b, x < hs.length) → ∀ x ∈ rs.foldl (largeStep hs n) b, x < hs.length
  | [], b, _, h => h
  | r :: rs, b, hr, h => by
    rw [List.foldl_cons]
    refine large_mem rs _ (fun q hq => hr q (List.mem_cons_of_mem _ hq)) fun x hx => ?_
    unfold largeStep at hx
    split at hx
    · exact hr r (List.mem_cons_self ..) x (partOf_mem hx)
    · exact h x hx
theorem large_len {hs : List Hide} {n m : Nat} : ∀ (rs : List (List Nat)) (b : List Nat), (∀ r ∈ rs, r.length ≤ m) → b.length ≤ m → (rs.foldl (largeStep hs n) b).length ≤ m
  | [], b, _, h => h
  | r :: rs, b, hr, h => by
    rw [List.foldl_cons]
    refine large_len rs _ (fun q hq => hr q (List.mem_cons_of_mem _ hq)) ?_
    unfold largeStep
    split
    · exact Nat.le_trans (partOf_len hs r n) (hr r (List.mem_cons_self ..))
    · exact h
theorem spec_large (v : Inventory) : ∀ (rs : List (List Nat)) (b : List Nat), rs.foldl (fun (best : Option (List Nat)) (run : List Nat) => match best with
    | none => some (Kp394.largestOf v run)
    | some b => if Kp394.areaOf v b < Kp394.areaOf v (Kp394.largestOf v run) then some (Kp394.largestOf v run) else best) (some b) = some (rs.foldl (largeStep v.hides v.lotSize) b)
  | [], _ => rfl
  | r :: rs, b => by
    rw [List.foldl_cons, List.foldl_cons]
    unfold largeStep
    dsimp only
    rw [area_is, area_is, part_is]
    split
    · exact spec_large v rs _
    · exact spec_large v rs _
theorem large_none (v : Inventory) (h : v.hides = []) : Kp394.largestLot v = none := by
  unfold Kp394.largestLot
  rw [runs_are, h]
  rfl
theorem large_some (v : Inventory) (h : v.hides ≠ []) (big : ∀ g ∈ v.hides, 1 ≤ g.area) (lot : 1 ≤ v.lotSize) : Kp394.largestLot v = some (largeOf v.hides v.tolerance v.lotSize) := by
  unfold Kp394.largestLot largeOf
  rw [runs_are]
  have ne := runsOf_some v.tolerance h
  have all : ∀ r ∈ runsOf v.hides v.tolerance, r ≠ [] ∧ (∀ x ∈ r, x < v.hides.length) ∧ r.length ≤ v.hides.length := fun r hr => runsOf_mem hr
  match runsOf v.hides v.tolerance, ne, all with
  | r :: rs, _, all =>
    have a := all r (List.mem_cons_self ..)
    have first : largeStep v.hides v.lotSize [] r = Kp394.largestOf v r := by
      unfold largeStep
      rw [part_is]
      exact if_pos (Nat.lt_of_le_of_lt (Nat.le_of_eq rfl) (area_pos big (partOf_some a.1 lot) fun x hx => a.2.1 x (partOf_mem hx)))
    rw [List.foldl_cons, List.foldl_cons, first]
    exact spec_large v rs _
theorem largeOf_mem {hs : List Hide} {t n x : Nat} (h : x ∈ largeOf hs t n) : x < hs.length :=
  large_mem _ _ (fun r hr => (runsOf_mem hr).2.1) (fun x m => absurd m List.not_mem_nil) x h
theorem largeOf_len (hs : List Hide) (t n : Nat) : (largeOf hs t n).length ≤ hs.length := large_len _ _ (fun r hr => (runsOf_mem hr).2.2) (Nat.zero_le _)
end KX
/-! # The pairs of a kind -/
namespace KX
open PySem PySem.Spec PyProof.Rows L2
open Kp394 (Hide Inventory)

theorem cut_from (xs : List V) (i : Nat) : cutV xs (some (i : Nat)) none = xs.drop i := by
  unfold cutV
  rw [HT.sIx_none, HT.sIx_nat]
  by_cases c : i ≤ xs.length
  · rw [Nat.min_eq_left c, List.take_of_length_le (by rw [List.length_drop]; exact Nat.le_refl _)]
  · rw [Nat.min_eq_right (by omega), Nat.sub_self, List.take_zero, List.drop_of_length_le (by omega)]
theorem nums_take (ms : List Nat) (i : Nat) : (nums ms).take i = nums (ms.take i) := by
  unfold nums
  rw [List.map_take]
theorem nums_drop (ms : List Nat) (i : Nat) : (nums ms).drop i = nums (ms.drop i) := by
  unfold nums
  rw [List.map_drop]
theorem nums_get {ms : List Nat} {i m : Nat} (h : ms[i]? = some m) : (nums ms)[i]? = some (V.int (m : Nat)) := by
  unfold nums
  rw [List.getElem?_map, h]
  rfl
/-! ### promises -/
def spKindOf (A : Ad) (T : List NdefX.NTab) : Sp := fun vs H Q _ => ∃ (l : Addr) (as : List Addr) (hs : List Hide) (k : Nat), vs = [.ref l, .int (k : Nat)] ∧ H l = some (.lst (as.map V.ref)) ∧ Held A.hide H as hs ∧ hs.length ≤ 13 ∧ NdefX.TabsN T H ∧
  ∀ (H' : Hp) (p : Addr), Kept [] H H' → NdefX.TabsN T H' → H p = none → H' p = some (.lst (nums (kindOf hs k))) → Q (.ref p) H'
def spLeave (K : PySem.W.Frag) : Sp := fun vs H Q _ => ∃ (n : Addr) (ms : List Nat) (k : Nat), vs = [.ref n, .int (k : Nat)] ∧ SqL K H n (nums ms) ∧ k < ms.length ∧ ms.length ≤ 100 ∧
  ∀ (p : Addr) (H' : Hp), H p = none → H' p = some (.lst (nums (leave ms k))) → Ext H H' → Q (.ref p) H'
def spGaps (A : Ad) (K : PySem.W.Frag) : Sp := fun vs H Q _ => ∃ (l n : Addr) (as : List Addr) (hs : List Hide) (ms : List Nat), vs = [.ref l, .ref n] ∧ H l = some (.lst (as.map V.ref)) ∧ Held A.hide H as hs ∧ SqL K H n (nums ms) ∧ (∀ m ∈ ms, m < hs.length) ∧ ms.length ≤ 13 ∧
  Q (.int (gaps hs ms : Nat)) H
def spPaired (A : Ad) (T : List NdefX.NTab) : Sp := fun vs H Q _ => ∃ (l : Addr) (as : List Addr) (hs : List Hide) (k : Nat), vs = [.ref l, .int (k : Nat)] ∧ H l = some (.lst (as.map V.ref)) ∧ Held A.hide H as hs ∧ hs.length ≤ 13 ∧ NdefX.TabsN T H ∧
  ∀ (H' : Hp) (p : Addr), Kept [] H H' → NdefX.TabsN T H' → H p = none → H' p = some (.lst (nums (pairedOf hs k))) → Q (.ref p) H'
theorem rg2 : ∀ n : Nat, n ≤ 13 → RgC 1 (n : Int) 2 (n / 2) := by
  intro n h
  have all : ∀ m : Fin 14, (Builtin.Range.small 1 ((m.val : Nat) : Int) 2 = true ∧ Builtin.Range.rangeSize 1 ((m.val : Nat) : Int) 2 = ((m.val / 2 : Nat) : Int)) := by decide +kernel
  exact ⟨by decide, by decide, (all ⟨n, by omega⟩).1, (all ⟨n, by omega⟩).2⟩
theorem gap_abs (a b : Nat) : (if ((a : Nat) : Int) - (b : Nat) < 0 then -(((a : Nat) : Int) - (b : Nat)) else ((a : Nat) : Int) - (b : Nat)) = (((b - a) + (a - b) : Nat) : Int) := by
  split <;> omega
section
variable {P : Program} {w : World} {K : PySem.W.Frag} {mg : Str → Option Value} {base : Heap} {A : Ad} {f : Addr} {fd : FuncData} {tabs : List NdefX.NTab}
theorem ok_kindOf (F : Fun K "numbers_of_kind" "numbers_of_kind" s_numbers_of_kind f fd) (T : Txt K mg A) (D : KR.Def P w K mg base L2.CX0 4 "numbers_in_order" (spOrder A tabs)) : FnOk P w K mg base L2.CX0 5 f fd ["hides", "kind"] (spKindOf A tabs) := by
  refine F.ok sc_numbers_of_kind (fun vs H Q E h => ?_) (fun cdv Ar outer s H vs Q E hr h => ⟨_, pss_one (ps_ret (pe_lc (own := [("number", 2)]) (g := gName 2) (tt := tTest (tOp rEq (tFld K (tOp (rIxL K) (tVar 0) (tVar 2)) "kind") (tVar 1))) (te := tVar 2) rfl sc_numbers_of_kind.nd (pi_list (KR.pe_def D hr rfl pass0 (pa_cons (pv 0) pa_nil)))
    (blkOk_by (N := n_numbers_of_kind) (sc := defScope s_numbers_of_kind) (by decide +kernel))
    (fun _ _ _ _ _ => pg_name (i := 2) sc_numbers_of_kind.nd rfl (.inl rfl)) (fun _ _ _ _ _ => pts_one (pt_cmpR op_eq (pe_fld (pe_ix (r := rIxL K) ix_list (pv 0) (pv 2) (fun _ _ => rfl)) rfl) (pv 1) (nomark _))) (fun _ _ _ _ _ => pv 2))), ?_⟩)
  · obtain ⟨l, as, hs, k, rfl, _⟩ := h
    rfl
  · obtain ⟨l, as, hs, k, rfl, hl, held, few, tb, q⟩ := h
    refine ⟨_, rfl, l, as, hs, rfl, hl, held, few, tb, fun H1 o k1 tb1 no ho => ?_⟩
    refine ⟨o, rfl, ⟨_, SqL.of ho⟩, fun D nD => ?_⟩
    refine lc_it (walk_list (xs := nums (ordOf hs))) (fun m H' => H' = upd H1 D (.lst (nums (((ordOf hs).take m).filter fun i => (hs.getD i ⟨0, 0, 0⟩).kind == k)))) rfl (fun m H' _ z => by rw [z]; exact (Ext.new nD).seq (SqL.of ho)) ?_ ?_
    · rintro m y H2 H3 hm rfl ⟨rfl, hy⟩
      obtain ⟨u, eu, rfl⟩ := nums_at hy
      have hu : u < hs.length := ordOf_mem.mp (List.mem_of_getElem? eu)
      have e2 := Ext.new (o := .lst (nums (((ordOf hs).take m).filter fun i => (hs.getD i ⟨0, 0, 0⟩).kind == k))) nD
      have held2 : Held A.hide H1 as hs := held.kept k1 fun _ _ => List.not_mem_nil
      obtain ⟨a, ea, ha⟩ := held2.num hu
      obtain ⟨dx, hg⟩ := e2.hide ha
      have hl2 := e2 _ _ (k1.at_ _ _ hl List.not_mem_nil lst_tbl)
      have lenm : (((ordOf hs).take m).filter fun i => (hs.getD i ⟨0, 0, 0⟩).kind == k).length ≤ 13 := by
        refine Nat.le_trans (List.length_filter_le _ _) ?_
        rw [List.length_take, ordOf_len]
        omega
      refine ⟨rfl, _, rfl, _, rfl, l, _, _, _, rfl, rfl, SqL.of hl2, atI_nat (by rw [List.getElem?_map, ea]; rfl), a, _, dx, _, _, rfl, hg, T.hide, T.hideK, hide_kind _, _, rfl, rfl, _, rfl, ?_⟩
      have same : decide (V.int ((hs.getD u ⟨0, 0, 0⟩).kind : Nat) = V.int (k : Nat)) = ((hs.getD u ⟨0, 0, 0⟩).kind == k) := by
        rw [Bool.eq_iff_iff, decide_eq_true_eq, beq_iff_eq]
        constructor
        · intro z
          injection z with z
          omega
        · intro z
          rw [z]
      rw [same]
      refine ite2 (fun c => ?_) (fun c => ?_)
      · refine ⟨_, rfl, _, upd_same, small1000 (by rw [nums_len]; omega), ?_⟩
        rw [upd_upd]
        congr 2
        rw [List.take_add_one, eu, List.filter_append, Option.toList_some, List.filter_cons_of_pos (p := fun i => (hs.getD i ⟨0, 0, 0⟩).kind == k) c, List.filter_nil, ← nums_cat]
        rfl
      · rw [List.take_add_one, eu, List.filter_append, Option.toList_some, List.filter_cons_of_neg (p := fun i => (hs.getD i ⟨0, 0, 0⟩).kind == k) c, List.filter_nil, List.append_nil]
    · rintro H2 rfl
      rw [nums_len, List.take_of_length_le (Nat.le_refl _)]
      refine q _ D (k1.trans (Kept.new nD)) (tb1.ext fun b o e => (upd_ne (ne_of_none e nD)).trans e) (k1.back D nD) upd_same
theorem ok_leave (F : Fun K "leaving_over" "leaving_over" s_leaving_over f fd) : FnOk P w K mg base L2.CX0 1 f fd ["numbers", "place"] (spLeave K) := by
  refine F.ok sc_leaving_over (fun vs H Q E h => ?_) (fun cdv Ar outer s H vs Q E hr h => ⟨_, pss_one (ps_ret (pe_op op_cat (pe_op op_cat (pe_slice sl_list (pv 0) po_none (po_some (pv 1))) (pe_slice sl_list (pv 0) (po_some (pe_op op_add (pv 1) pe_int)) po_none))
    (pe_lst (pa_cons (pe_ix ix_list (pv 0) (pv 1) (fun _ _ => rfl)) pa_nil)))), ?_⟩)
  · obtain ⟨n, ms, k, rfl, _⟩ := h
    rfl
  · obtain ⟨n, ms, k, rfl, sq, lt, few, q⟩ := h
    have ek : ms[k]? = some ms[k] := List.getElem?_eq_getElem lt
    refine ⟨_, rfl, _, rfl, _, rfl, n, _, rfl, sq, fun p1 n1 => ?_⟩
    have e1 := Ext.new (o := .lst (cutV (nums ms) none (some ((k : Nat) : Int)))) n1
    refine ⟨_, rfl, _, rfl, _, _, rfl, rfl, _, rfl, n, _, rfl, e1.seq sq, fun p2 n2 => ?_⟩
    have cutk : cutV (nums ms) (some (((k : Nat) : Int) + 1)) none = nums (ms.drop (k + 1)) := by
      have z := cut_from (nums ms) (k + 1)
      rw [nums_drop] at z
      exact z
    have cutt : cutV (nums ms) none (some ((k : Nat) : Int)) = nums (ms.take k) := by rw [cut_to, nums_take]
    rw [cutt] at e1 n2 ⊢
    have cutk' : cutV (nums ms) (some (((k : Nat) : Int) + 1)) none = nums (ms.drop (k + 1)) := cutk
    rw [cutk']
    have p12 : p1 ≠ p2 := fun z => by
      rw [← z, upd_same] at n2
      cases n2
    have e2 := e1.trans (Ext.new (o := .lst (nums (ms.drop (k + 1)))) n2)
    have lt1 : (ms.take k).length ≤ 100 := by
      rw [List.length_take]
      omega
    have lt2 : (ms.drop (k + 1)).length ≤ 100 := by
      rw [List.length_drop]
      omega
    refine ⟨p1, p2, _, _, rfl, rfl, (upd_ne p12).trans upd_same, upd_same, ?_, fun p3 n3 => ?_⟩
    · rw [nums_len, nums_len]
      exact Nat.le_of_lt (small1000 (by omega))
    have e3 := e2.trans (Ext.new (o := .lst (nums (ms.take k) ++ nums (ms.drop (k + 1)))) n3)
    refine ⟨_, rfl, _, rfl, n, _, _, _, rfl, rfl, e3.seq sq, atI_nat (nums_get ek), (by show 1 ≤ sizeLine; decide), fun p4 n4 => ?_⟩
    have p34 : p3 ≠ p4 := fun z => by
      rw [← z, upd_same] at n4
      cases n4
    have e4 := e3.trans (Ext.new (o := .lst [V.int ((ms[k] : Nat) : Int)]) n4)
    refine ⟨p3, p4, _, _, rfl, rfl, (upd_ne p34).trans upd_same, upd_same, ?_, fun p5 n5 => ?_⟩
    · rw [List.length_append, nums_len, nums_len]
      exact Nat.le_of_lt (small1000 (by simp; omega))
    refine q p5 _ ?_ ?_ (e4.trans (Ext.new n5))
    · cases z : H p5 with
      | none => rfl
      | some o =>
        rw [e4 _ _ z] at n5
        cases n5
    · rw [upd_same]
      unfold leave
      rw [nums_cat, ← nums_one, nums_cat, List.eraseIdx_eq_take_drop_succ, List.getD_eq_getElem?_getD, ek]
      rfl
theorem ok_gaps (F : Fun K "difference_of" "difference_of" s_difference_of f fd) (T : Txt K mg A) : FnOk P w K mg base L2.CX0 1 f fd ["hides", "paired"] (spGaps A K) := by
  refine F.ok sc_difference_of (fun vs H Q E h => ?_) (fun cdv Ar outer s H vs Q E hr h => ⟨_, pss_cons (ps_set (i := 2) sc_difference_of.nd rfl (.inl rfl) pe_int)
    (pss_cons (ps_for PassesOwn.never rfl (pi_range3 (by rfl) T.range (pa_cons pe_int (pa_cons (pe_callB call_len_seq (by rfl) T.len PySem.boot_len (pa_cons (pv 1) pa_nil)) (pa_cons pe_int pa_nil)))) (pg_name (i := 3) sc_difference_of.nd rfl (.inl rfl))
      (pss_one (ps_aug (i := 2) sc_difference_of.nd rfl (.inl rfl) (pe_callB call_abs (by rfl) T.abs (by decide +kernel) (pa_cons (pe_op op_sub
        (pe_fld (pe_ix ix_list (pv 0) (pe_ix ix_list (pv 1) (pv 3) (fun _ _ => rfl)) (fun _ _ => rfl)) rfl)
        (pe_fld (pe_ix ix_list (pv 0) (pe_ix ix_list (pv 1) (pe_op op_sub (pv 3) pe_int) (fun _ _ => rfl)) (fun _ _ => rfl)) rfl)) pa_nil)) ip_add)))
    (pss_one (ps_ret (pv 2)))), ?_⟩)
  · obtain ⟨l, n, as, hs, ms, rfl, _⟩ := h
    rfl
  · obtain ⟨l, n, as, hs, ms, rfl, hl, held, sq, lt, few, q⟩ := h
    refine ⟨_, rfl, n, _, rfl, .inl sq, 1, ((nums ms).length : Nat), 2, ms.length / 2, rfl, by rw [nums_len]; exact rg2 _ few, ?_⟩
    refine for_it walk_rangeC (fun i σ H' => H' = H ∧ ∃ d, σ = [some (.ref l), some (.ref n), some (.int (gaps hs (ms.take (2 * i)) : Nat)), d]) ⟨rfl, _, rfl⟩ (fun _ _ _ _ _ => trivial) ?_ ?_
    · rintro i y σ H2 H3 hi ⟨rfl, d, rfl⟩ ⟨rfl, rfl⟩
      have l1 : 2 * i + 1 < ms.length := by omega
      have l0 : 2 * i < ms.length := by omega
      have e1 : ms[2 * i + 1]? = some ms[2 * i + 1] := List.getElem?_eq_getElem l1
      have e0 : ms[2 * i]? = some ms[2 * i] := List.getElem?_eq_getElem l0
      generalize ms[2 * i + 1] = b at e1
      generalize ms[2 * i] = a at e0
      obtain ⟨ab, eab, db, hb⟩ := held.num (lt b (List.mem_of_getElem? e1))
      obtain ⟨aa, eaa, da, ha⟩ := held.num (lt a (List.mem_of_getElem? e0))
      have i1 : ((1 : Int) + (i : Nat) * 2) = ((2 * i + 1 : Nat) : Int) := by omega
      have i0 : ((1 : Int) + (i : Nat) * 2) - 1 = ((2 * i : Nat) : Int) := by omega
      refine ⟨_, rfl, _, rfl, _, rfl, _, rfl, n, _, _, _, rfl, rfl, sq, by rw [i1]; exact atI_nat (nums_get e1), l, _, _, _, rfl, rfl, SqL.of hl, atI_nat (by rw [List.getElem?_map, eab]; rfl), ab, _, db, _, _, rfl, hb, T.hide, T.hideT, hide_thickness _, ?_⟩
      refine ⟨_, rfl, _, rfl, _, rfl, _, _, rfl, rfl, n, _, _, _, rfl, rfl, sq, by rw [i0]; exact atI_nat (nums_get e0), l, _, _, _, rfl, rfl, SqL.of hl, atI_nat (by rw [List.getElem?_map, eaa]; rfl), aa, _, da, _, _, rfl, ha, T.hide, T.hideT, hide_thickness _, ?_⟩
      refine ⟨_, _, rfl, rfl, _, rfl, _, _, rfl, rfl, rfl, some (.int ((1 : Int) + (i : Nat) * 2)), ?_⟩
      have tk : ms.take (2 * (i + 1)) = ms.take (2 * i) ++ [a, b] := by
        rw [show 2 * (i + 1) = 2 * i + 1 + 1 by omega, List.take_add_one, List.take_add_one, e0, e1, List.append_assoc]
        rfl
      rw [tk, gaps_more hs a b i (ms.take (2 * i)) (by rw [List.length_take]; omega)]
      rw [gap_abs]
      show [some (V.ref l), some (V.ref n), some (V.int _), _] = _
      unfold gap th
      rw [Int.natCast_add]
      rfl
    · rintro σ H2 ⟨rfl, d, rfl⟩
      have fin : gaps hs (ms.take (2 * (ms.length / 2))) = gaps hs ms := by
        by_cases c : ms.length % 2 = 0
        · rw [List.take_of_length_le (by omega)]
        · have l0 : 2 * (ms.length / 2) < ms.length := by omega
          have e0 : ms[2 * (ms.length / 2)]? = some ms[2 * (ms.length / 2)] := List.getElem?_eq_getElem l0
          have z := gaps_one hs ms[2 * (ms.length / 2)] (ms.length / 2) (ms.take (2 * (ms.length / 2))) (by rw [List.length_take]; omega)
          rw [← z]
          congr 1
          have y : ms.take (2 * (ms.length / 2) + 1) = ms.take (2 * (ms.length / 2)) ++ [ms[2 * (ms.length / 2)]] := by
            rw [List.take_add_one, e0]
            rfl
          rw [← y, List.take_of_length_le (by omega)]
      rw [fin]
      exact ⟨_, rfl, q⟩
end
end KX
/-! # The best pairs -/
namespace KX
open PySem PySem.Spec PyProof.Rows L2
open Kp394 (Hide Inventory)

section
variable {P : Program} {w : World} {K : PySem.W.Frag} {mg : Str → Option Value} {base : Heap} {A : Ad} {f : Addr} {fd : FuncData} {tabs : List NdefX.NTab}
theorem ok_paired (F : Fun K "paired_in_order" "paired_in_order" s_paired_in_order f fd) (T : Txt K mg A) (D1 : KR.Def P w K mg base L2.CX0 5 "numbers_of_kind" (spKindOf A tabs)) (D2 : KR.Def P w K mg base L2.CX0 1 "leaving_over" (spLeave K)) (D3 : KR.Def P w K mg base L2.CX0 1 "difference_of" (spGaps A K)) :
    FnOk P w K mg base L2.CX0 6 f fd ["hides", "kind"] (spPaired A tabs) := by
  refine F.ok sc_paired_in_order (fun vs H Q E h => ?_) (fun cdv Ar outer s H vs Q E hr h => ⟨_, pss_cons (ps_set (i := 2) sc_paired_in_order.nd rfl (.inl rfl) (KR.pe_def D1 hr rfl pass0 (pa_cons (pv 0) (pa_cons (pv 1) pa_nil))))
    (pss_cons (ps_if (pt_cmpR op_eq (pe_op op_mod (pe_callB call_len_seq (by rfl) T.len PySem.boot_len (pa_cons (pv 2) pa_nil)) pe_int) pe_int (nomark _)) (pss_one (ps_ret (pv 2))) pss_nil)
    (pss_cons (ps_set (i := 3) sc_paired_in_order.nd rfl (.inl rfl) (KR.pe_def D2 hr rfl pass0 (pa_cons (pv 2) (pa_cons pe_int pa_nil))))
    (pss_cons (ps_for PassesOwn.never rfl (pi_range2 (by rfl) T.range (pa_cons pe_int (pa_cons (pe_callB call_len_seq (by rfl) T.len PySem.boot_len (pa_cons (pv 2) pa_nil)) pa_nil))) (pg_name (i := 4) sc_paired_in_order.nd rfl (.inl rfl))
      (pss_cons (ps_set (i := 5) sc_paired_in_order.nd rfl (.inl rfl) (KR.pe_def D2 hr rfl pass0 (pa_cons (pv 2) (pa_cons (pv 4) pa_nil))))
      (pss_one (ps_if (pt_cmpR op_lt (KR.pe_def D3 hr rfl pass0 (pa_cons (pv 0) (pa_cons (pv 5) pa_nil))) (KR.pe_def D3 hr rfl pass0 (pa_cons (pv 0) (pa_cons (pv 3) pa_nil))) (nomark _))
        (pss_one (ps_set (i := 3) sc_paired_in_order.nd rfl (.inl rfl) (pv 5))) pss_nil))))
    (pss_one (ps_ret (pv 3)))))), ?_⟩)
  · obtain ⟨l, as, hs, k, rfl, _⟩ := h
    rfl
  · obtain ⟨l, as, hs, k, rfl, hl, held, few, tb, q⟩ := h
    refine ⟨_, rfl, _, rfl, l, as, hs, k, rfl, hl, held, few, tb, fun H1 o k1 tb1 no ho => ?_⟩
    have lenK := kindOf_len hs k
    have pair : pairedOf hs k = if (kindOf hs k).length % 2 = 0 then kindOf hs k else bestUpto hs (kindOf hs k) ((kindOf hs k).length - 1) := rfl
    have mem : ∀ i ∈ kindOf hs k, i < hs.length := fun i m => kindOf_mem m
    rw [pair] at q
    generalize kindOf hs k = ks at ho lenK q mem
    refine ⟨_, rfl, o, _, rfl, .inl (SqL.of ho), _, _, rfl, rfl, (by show (0 : Int) < 2; decide), rfl, _, rfl, ?_⟩
    have odd : decide (V.int (((nums ks).length : Nat) % 2 : Int) = V.int 0) = decide (ks.length % 2 = 0) := by
      rw [Bool.eq_iff_iff, decide_eq_true_eq, decide_eq_true_eq, nums_len]
      constructor
      · intro z
        injection z with z
        omega
      · intro z
        have : ((ks.length : Int) % 2) = 0 := by omega
        rw [this]
    rw [odd]
    refine ite2 (fun c => ?_) (fun c => ?_)
    · rw [if_pos (of_decide_eq_true c)] at q
      exact ⟨_, rfl, q H1 o k1 tb1 no ho⟩
    have c := of_decide_eq_false (Bool.not_eq_true _ ▸ c)
    rw [if_neg c] at q
    have pos : 0 < ks.length := by omega
    refine ⟨_, rfl, o, ks, 0, rfl, SqL.of ho, pos, by omega, fun b H2 nb hb e2 => ?_⟩
    refine ⟨_, rfl, o, _, rfl, .inl (e2.seq (SqL.of ho)), 1, _, rfl, ⟨by decide, by decide, ?_, ?_⟩, ?_⟩
    · rw [nums_len]
      omega
    · rw [nums_len]
      omega
    have turns : (((nums ks).length : Nat) - 1 : Int).toNat = ks.length - 1 := by
      rw [nums_len]
      omega
    rw [turns]
    refine for_it walk_range (fun i σ H' => ∃ d1 d2 b, σ = [some (.ref l), some (.int (k : Nat)), some (.ref o), some (.ref b), d1, d2] ∧ Kept [] H H' ∧ NdefX.TabsN tabs H' ∧ H' o = some (.lst (nums ks)) ∧ H b = none ∧ H' b = some (.lst (nums (bestUpto hs ks i))))
      ⟨_, _, b, rfl, k1.trans e2.kept, tb1.ext e2, e2 _ _ ho, k1.back b nb, hb⟩ (fun _ _ _ _ _ => trivial) ?_ ?_
    · rintro i y σ H3 H4 hi ⟨d1, d2, b, rfl, k3, tb3, o3, nb, hb⟩ ⟨rfl, rfl⟩
      have lt : 1 + i < ks.length := by omega
      have cast : ((1 : Int) + (i : Nat)) = ((1 + i : Nat) : Int) := by omega
      refine ⟨_, rfl, _, rfl, o, ks, 1 + i, congrArg (fun z => [V.ref o, V.int z]) cast, SqL.of o3, lt, by omega, fun c H5 nc hc e5 => ?_⟩
      have k5 : Kept [] H H5 := k3.trans e5.kept
      have held5 : Held A.hide H5 as hs := held.kept k5 fun _ _ => List.not_mem_nil
      have hl5 := k5.at_ _ _ hl List.not_mem_nil lst_tbl
      obtain ⟨pb, lb, eb⟩ := bestUpto_is hs ks i (by omega)
      have memB : ∀ m ∈ bestUpto hs ks i, m < hs.length := fun m h => mem m (leave_mem lb (by rw [← eb]; exact h))
      have lenB : (bestUpto hs ks i).length ≤ 13 := by
        rw [eb, leave_len lb]
        omega
      refine ⟨_, rfl, _, rfl, l, c, as, hs, leave ks (1 + i), rfl, hl5, held5, SqL.of hc, fun m h => mem m (leave_mem lt h), by rw [leave_len lt]; omega, ?_⟩
      refine ⟨_, rfl, _, rfl, l, b, as, hs, bestUpto hs ks i, rfl, hl5, held5, SqL.of (e5 _ _ hb), memB, lenB, ?_⟩
      rw [bestUpto_more]
      unfold bestStep
      refine ⟨_, _, rfl, rfl, _, rfl, ite2 (fun z => ?_) (fun z => ?_)⟩
      · have z := of_decide_eq_true z
        rw [if_pos (by omega)]
        exact ⟨_, rfl, _, _, c, rfl, k5, tb3.ext e5, e5 _ _ o3, k3.back c nc, hc⟩
      · have z := of_decide_eq_false (Bool.not_eq_true _ ▸ z)
        rw [if_neg (by omega)]
        exact ⟨_, _, b, rfl, k5, tb3.ext e5, e5 _ _ o3, nb, e5 _ _ hb⟩
    · rintro σ H3 ⟨d1, d2, b, rfl, k3, tb3, o3, nb, hb⟩
      exact ⟨_, rfl, q H3 b k3 tb3 nb hb⟩
end
end KX
/-! # The runs -/
namespace KX
open PySem PySem.Spec PyProof.Rows L2
open Kp394 (Hide Inventory)

/-- lists at ps, their list at R; the order's list at o; H: the heap ahead of it all -/
structure RunsAt (tabs : List NdefX.NTab) (hs : List Hide) (H : Hp) (R o : Addr) (ps : List Addr) (runs : List (List Nat)) (H' : Hp) : Prop where
  kept : Kept [] H H'
  tabs_ : NdefX.TabsN tabs H'
  order : H' o = some (.lst (nums (ordOf hs)))
  list : H' R = some (.lst (ps.map V.ref))
  boxes : Boxes H' ps runs
  new : ∀ p ∈ ps, H p = none ∧ p ≠ R ∧ p ≠ o
section
variable {tabs : List NdefX.NTab} {hs : List Hide} {H H2 H4 : Hp} {R o : Addr} {ps : List Addr} {runs : List (List Nat)}
theorem RunsAt.ext (x : RunsAt tabs hs H R o ps runs H2) (e : Ext H2 H4) : RunsAt tabs hs H R o ps runs H4 :=
  ⟨x.kept.trans e.kept, x.tabs_.ext e, e _ _ x.order, e _ _ x.list, x.boxes.kept (fp := []) e.kept fun _ _ => List.not_mem_nil, x.new⟩
/-- one more run, a new list -/
theorem RunsAt.add (x : RunsAt tabs hs H R o ps runs H2) (oR : o ≠ R) (hR : H R = none) {p : Addr} {run : List Nat} (n : H2 p = none) (e : Ext H2 H4) (hp : H4 p = some (.lst (nums run))) :
    RunsAt tabs hs H R o (ps ++ [p]) (runs ++ [run]) (upd H4 R (.lst ((ps ++ [p]).map V.ref))) := by
  have pR : p ≠ R := fun z => by
    rw [z, x.list] at n
    cases n
  have po : p ≠ o := fun z => by
    rw [z, x.order] at n
    cases n
  have np : p ∉ ps := fun m => by
    obtain ⟨y, q⟩ := x.boxes.some_ m
    rw [n] at q
    cases q
  have x4 := x.ext e
  refine ⟨x4.kept.put_new hR, tabs_put x4.tabs_ x4.list, (upd_ne oR).trans x4.order, upd_same, ?_, fun q m => ?_⟩
  · refine Boxes.more (x := run) ⟨x4.boxes.len, fun k q y e1 e2 => (upd_ne (x.new q (List.mem_of_getElem? e1)).2.1).trans (x4.boxes.at_ k q y e1 e2), x4.boxes.nd⟩ np ?_
    rw [upd_ne pR]
    exact hp
  · rcases List.mem_append.mp m with m | m
    · exact x.new q m
    · obtain rfl := List.mem_singleton.mp m
      exact ⟨x.kept.back _ n, pR, po⟩
end
def spRuns (A : Ad) (T : List NdefX.NTab) : Sp := fun vs H Q _ => ∃ (l : Addr) (as : List Addr) (hs : List Hide) (t : Nat), vs = [.ref l, .int (t : Nat)] ∧ H l = some (.lst (as.map V.ref)) ∧ Held A.hide H as hs ∧ hs.length ≤ 12 ∧ NdefX.TabsN T H ∧
  ∀ (H' : Hp) (R : Addr) (ps : List Addr), Kept [] H H' → NdefX.TabsN T H' → H R = none → H' R = some (.lst (ps.map V.ref)) → Boxes H' ps (runsOf hs t) → (∀ p ∈ ps, H p = none) → Q (.ref R) H'
section
variable {P : Program} {w : World} {K : PySem.W.Frag} {mg : Str → Option Value} {base : Heap} {A : Ad} {f : Addr} {fd : FuncData} {tabs : List NdefX.NTab}
theorem ok_runs (F : Fun K "runs_in_order" "runs_in_order" s_runs_in_order f fd) (T : Txt K mg A) (D1 : KR.Def P w K mg base L2.CX0 4 "numbers_in_order" (spOrder A tabs)) (D2 : KR.Def P w K mg base L2.CX0 2 "any_two_match" (spAny A K)) (D3 : KR.Def P w K mg base L2.CX0 1 "hides_at" (spAt K)) :
    FnOk P w K mg base L2.CX0 5 f fd ["hides", "tolerance"] (spRuns A tabs) := by
  refine F.ok sc_runs_in_order (fun vs H Q E h => ?_) (fun cdv Ar outer s H vs Q E hr h => ⟨_, pss_cons (ps_set (i := 2) sc_runs_in_order.nd rfl (.inl rfl) (KR.pe_def D1 hr rfl pass0 (pa_cons (pv 0) pa_nil)))
    (pss_cons (ps_set (i := 3) sc_runs_in_order.nd rfl (.inl rfl) (pe_lst pa_nil))
    (pss_cons (ps_for PassesOwn.never rfl (pi_range1 (by rfl) T.range (pa_cons (pe_callB call_len_seq (by rfl) T.len PySem.boot_len (pa_cons (pv 2) pa_nil)) pa_nil)) (pg_name (i := 4) sc_runs_in_order.nd rfl (.inl rfl))
      (pss_one (ps_for PassesOwn.never rfl (pi_range2 (by rfl) T.range (pa_cons (pe_op op_add (pv 4) pe_int) (pa_cons (pe_op op_add (pe_callB call_len_seq (by rfl) T.len PySem.boot_len (pa_cons (pv 2) pa_nil)) pe_int) pa_nil))) (pg_name (i := 5) sc_runs_in_order.nd rfl (.inl rfl))
        (pss_cons (ps_set (i := 6) sc_runs_in_order.nd rfl (.inl rfl) (pe_slice sl_list (pv 2) (po_some (pv 4)) (po_some (pv 5))))
        (pss_one (ps_if (pt_val (KR.pe_def D2 hr rfl pass0 (pa_cons (KR.pe_def D3 hr rfl pass0 (pa_cons (pv 0) (pa_cons (pv 6) pa_nil))) (pa_cons (pv 1) pa_nil))))
          (pss_one (ps_expr (pe_bm PySem.F.plainAttrs_list PySem.F.slot_list_append PySem.F.type_list_append mt_append (pv 3) (pa_cons (pv 6) pa_nil)))) pss_nil))))))
    (pss_one (ps_ret (pv 3))))), ?_⟩)
  · obtain ⟨l, as, hs, t, rfl, _⟩ := h
    rfl
  · obtain ⟨l, as, hs, t, rfl, hl, held, few, tb, q⟩ := h
    refine ⟨_, rfl, l, as, hs, rfl, hl, held, by omega, tb, fun H1 o k1 tb1 no ho => ?_⟩
    refine ⟨Nat.zero_le _, fun R nR => ?_⟩
    have oR : o ≠ R := fun z => by
      rw [← z, ho] at nR
      cases nR
    have hR : H R = none := k1.back R nR
    have e1 := Ext.new (o := .lst []) nR
    refine ⟨_, rfl, o, _, rfl, .inl (e1.seq (SqL.of ho)), _, rfl, by omega, by rw [nums_len, ordOf_len]; omega, ?_⟩
    have turns : (((nums (ordOf hs)).length : Nat) : Int).toNat = hs.length := by
      rw [nums_len, ordOf_len]
      omega
    rw [turns]
    refine for_it walk_range (fun a σ H' => ∃ d1 d2 d3 ps, σ = [some (.ref l), some (.int (t : Nat)), some (.ref o), some (.ref R), d1, d2, d3] ∧ RunsAt tabs hs H R o ps (runsTo hs t a) H')
      ⟨_, _, _, [], rfl, k1.trans e1.kept, tb1.ext e1, e1 _ _ ho, upd_same, .nil, fun p m => absurd m List.not_mem_nil⟩ (fun _ _ _ _ _ => trivial) ?_ ?_
    · rintro a y σ H2 H3 ha ⟨d1, d2, d3, ps, rfl, x⟩ ⟨rfl, rfl⟩
      have a0 : ((0 : Int) + (a : Nat)) = ((a : Nat) : Int) := by omega
      have lo : ((0 : Int) + (a : Nat)) + 1 = ((a + 1 : Nat) : Int) := by omega
      refine ⟨_, rfl, _, _, rfl, rfl, _, rfl, o, _, rfl, .inl (SqL.of x.order), _, _, rfl, rfl, _, _, rfl, ⟨by omega, by omega, by omega, by rw [nums_len, ordOf_len]; omega⟩, ?_⟩
      have turns : ((((nums (ordOf hs)).length : Nat) : Int) + 1 - (((0 : Int) + (a : Nat)) + 1)).toNat = hs.length - a := by
        rw [nums_len, ordOf_len]
        omega
      rw [turns]
      refine for_it walk_range (fun j σ H' => ∃ d2 d3 ps, σ = [some (.ref l), some (.int (t : Nat)), some (.ref o), some (.ref R), some (.int ((0 : Int) + (a : Nat))), d2, d3] ∧ RunsAt tabs hs H R o ps (runsTo hs t a ++ runsAt hs t a j) H')
        ⟨_, _, ps, rfl, by rw [show runsAt hs t a 0 = [] from rfl, List.append_nil]; exact x⟩ (fun _ _ _ _ _ => trivial) ?_ ?_
      · rintro j y σ H4 H5 hj ⟨d2, d3, ps, rfl, x⟩ ⟨rfl, rfl⟩
        have cutp : cutV (nums (ordOf hs)) (some ((0 : Int) + (a : Nat))) (some (((0 : Int) + (a : Nat)) + 1 + (j : Nat))) = nums (piece hs a j) := by
          rw [a0, show (((a : Nat) : Int) + 1 + (j : Nat)) = ((a + 1 + j : Nat) : Int) by omega, cut_both _ _ _ (by omega) (by rw [nums_len, ordOf_len]; omega), nums_drop, nums_take]
          unfold piece
          rw [show a + 1 + j - a = j + 1 by omega]
        refine ⟨_, rfl, _, rfl, _, rfl, _, rfl, _, rfl, o, _, rfl, SqL.of x.order, fun r nr => ?_⟩
        rw [cutp]
        have lenP := piece_len (hs := hs) (a := a) (j := j) (by omega)
        have memP : ∀ m ∈ piece hs a j, m < hs.length := fun m h => piece_mem h
        have more : runsTo hs t a ++ runsAt hs t a (j + 1) = if runB hs t (piece hs a j) then runsTo hs t a ++ runsAt hs t a j ++ [piece hs a j] else runsTo hs t a ++ runsAt hs t a j := by
          rw [runsAt_more]
          split
          · rw [List.append_assoc]
          · rfl
        rw [more]
        have few1 : (runsTo hs t a ++ runsAt hs t a j).length ≤ 200 := by
          rw [List.length_append]
          have h1 := runsTo_len hs t a
          have h2 := runsAt_len hs t a j
          have h3 : a * hs.length ≤ 12 * 12 := Nat.mul_le_mul (by omega) few
          omega
        have rb : runB hs t (piece hs a j) = allB ((piece hs a j).map fun i => hs.getD i ⟨0, 0, 0⟩) t := rfl
        rw [rb]
        generalize piece hs a j = run at lenP memP
        generalize runsTo hs t a ++ runsAt hs t a j = runs at x few1
        have e1 := Ext.new (o := .lst (nums run)) nr
        have x1 := x.ext e1
        have held1 : Held A.hide (upd H5 r (.lst (nums run))) as hs := held.kept x1.kept fun _ _ => List.not_mem_nil
        have hl1 := x1.kept.at_ _ _ hl List.not_mem_nil lst_tbl
        refine ⟨_, rfl, _, rfl, l, r, as, run, rfl, SqL.of hl1, SqL.of upd_same, fun m hm => by rw [held.len]; exact memP m hm, by omega, fun D H6 nD hD e2 => ?_⟩
        refine ⟨_, rfl, D, _, _, t, rfl, SqL.of hD, (held1.line memP).ext e2, fun H7 e3 => ?_⟩
        have ee := e1.trans (e2.trans e3)
        have r7 : H7 r = some (.lst (nums run)) := e3 _ _ (e2 _ _ upd_same)
        have x7 := x.ext ee
        refine ⟨_, rfl, ite2 (fun c => ?_) (fun c => ?_)⟩
        · rw [if_pos c]
          have z := x.add oR hR nr ee r7
          rw [List.map_append] at z
          refine ⟨_, rfl, .inl ⟨rfl, _, SqL.of x7.list⟩, _, rfl, R, _, _, rfl, rfl, x7.list, small1000 (by rw [List.length_map, x7.boxes.len]; omega), _, _, ps ++ [r], rfl, z⟩
        · rw [if_neg c]
          exact ⟨_, _, ps, rfl, x7⟩
      · rintro σ H4 ⟨d2, d3, ps, rfl, x⟩
        rw [← runsTo_more] at x
        exact ⟨_, _, _, ps, rfl, x⟩
    · rintro σ H2 ⟨d1, d2, d3, ps, rfl, x⟩
      exact ⟨_, rfl, q H2 R ps x.kept x.tabs_ hR x.list x.boxes fun p m => (x.new p m).1⟩
end
end KX
/-! # A run's largest part: places sorted by a def's keys -/
namespace KX
open PySem PySem.Spec PyProof.Rows L2
open Kp394 (Hide Inventory)

abbrev s_prank : Stmt := (defBody s_largest_part).getD 0 (.Pass ⟨0, 0, 0, 0⟩)
abbrev n_prank : List Str := ["place", "hides", "run"]
def spPrank (A : Ad) : List (Option V) → Sp := fun ws vs H Q _ => ∃ (l r : Addr) (as : List Addr) (hs : List Hide) (run : List Nat) (k : Nat), ws = [some (.ref l), some (.ref r)] ∧ vs = [.int (k : Nat)] ∧ H l = some (.lst (as.map V.ref)) ∧ Held A.hide H as hs ∧
  H r = some (.lst (nums run)) ∧ (∀ m ∈ run, m < hs.length) ∧ k < run.length ∧ ∀ p, H p = none → Q (.ref p) (upd H p (.tup (KS.Y2.tup (prank hs run k))))
theorem sc_prank : NdefX.NScope n_prank ["place"] ["hides", "run"] (C8.fnScope s_prank) := NdefX.nscope_by (by decide +kernel)
section
variable {P : Program} {w : World} {K : PySem.W.Frag} {mg : Str → Option Value} {base : Heap} {A : Ad}
theorem ok_prank (T : Txt K mg A) {f c : Addr} {qual : Str} {cl : List (Str × Addr)} : NdefX.NOk P w K mg base L2.CX0 1 f (NdefX.NF.of s_prank "rank" qual cl c) ["place"] ["hides", "run"] (spPrank A) := by
  refine NdefX.nok_of sc_prank (fun doc pm ctv us hl => match us, hl with | [_], _ => rfl) (fun ws vs H Q E h => ?_) (fun Ar outer s H vs ws Q E hr hf hc lw h => ⟨_, pss_one (ps_ret (pe_tup (pa_cons (pe_un un_neg (pe_fld (pe_ix ix_list (pv 1) (pe_ix ix_list (pv 2) (pv 0) (fun _ _ => rfl)) (fun _ _ => rfl)) rfl))
    (pa_cons (pv 0) pa_nil)))), ?_⟩)
  · obtain ⟨l, r, as, hs, run, k, _, rfl, _⟩ := h
    rfl
  · obtain ⟨l, r, as, hs, run, k, rfl, rfl, hl, held, hr, mem, lt, q⟩ := h
    have ek : run[k]? = some run[k] := List.getElem?_eq_getElem lt
    obtain ⟨a, ea, dx, ha⟩ := held.num (mem run[k] (List.getElem_mem lt))
    refine ⟨_, rfl, _, rfl, _, rfl, r, _, _, _, rfl, rfl, SqL.of hr, atI_nat (nums_get ek), l, _, _, _, rfl, rfl, SqL.of hl, atI_nat (by rw [List.getElem?_map, ea]; rfl), a, _, dx, _, _, rfl, ha, T.hide, T.hideA, hide_area _, _, rfl, _, rfl, (by show 2 ≤ sizeLine; decide), fun p hp => ?_⟩
    have z := q p hp
    have e : KS.Y2.tup (prank hs run k) = [.int (-((((hs.getD run[k] ⟨0, 0, 0⟩).area : Nat)) : Int)), .int (k : Nat)] := by
      show [V.int (-((arAt hs run k : Nat) : Int)), V.int (k : Nat)] = _
      unfold arAt
      rw [List.getD_eq_getElem?_getD (l := run), ek]
      rfl
    rw [e] at z
    exact z
/-- the name that the inner def gets -/
abbrev nmPart : Nat → Nat → Str := fun _ _ => (envOfC "largest_part" (defScope s_largest_part) 0 0 .none).qual ++ "rank"
abbrev mkPrank (env : Env) (c : Addr) : NdefX.NF := NdefX.NF.of s_prank "rank" (env.qual ++ "rank") (cloFrom env.cells (C8.fnScope s_prank).names []) c
abbrev envPart (L f : Addr) (cd : Value) : Env := envOfC "largest_part" (defScope s_largest_part) L f cd
def spPart (A : Ad) (T : List NdefX.NTab) : Sp := fun vs H Q _ => ∃ (l r : Addr) (as : List Addr) (hs : List Hide) (run : List Nat) (n : Nat), vs = [.ref l, .ref r, .int (n : Nat)] ∧ H l = some (.lst (as.map V.ref)) ∧ Held A.hide H as hs ∧ H r = some (.lst (nums run)) ∧ (∀ m ∈ run, m < hs.length) ∧ run.length ≤ 13 ∧
  NdefX.TabsN T H ∧ ∀ (H' : Hp) (p : Addr), Kept [] H H' → NdefX.TabsN T H' → H p = none → H' p = some (.lst (nums (partOf hs run n))) → Q (.ref p) H'
theorem ok_part (T : Txt K mg A) {tabs : List NdefX.NTab} {f c Pt : Addr} {oc kV doc pm ct : Value} {od an : Option Addr} {osl : Array (Option Value)}
    (lk : K.lookup f = some ⟨oc, od, .func (PySem.W.fnOf "largest_part" "largest_part" (defArgs s_largest_part) (defBody s_largest_part) (defScope s_largest_part) .none kV doc pm an (.ref c) ct), osl⟩) (hcd : PySem.W.codeIn K (.ref c) "largest_part" = true)
    (TB : LamX.TabB base mg c Pt) (mem : (Pt, nmPart) ∈ tabs) (uniq : ∀ p ∈ tabs, p.1 = Pt → p.2 = nmPart) :
    FnOk P w K mg base L2.CX0 4 f (PySem.W.fnOf "largest_part" "largest_part" (defArgs s_largest_part) (defBody s_largest_part) (defScope s_largest_part) .none kV doc pm an (.ref c) ct) ["hides", "run", "lot_size"] (spPart A tabs) := by
  have free : ∀ y ∈ (C8.fnScope s_prank).names, y.2 = .free → (defScope s_largest_part).names.lookup y.1 = some .cell ∨ (defScope s_largest_part).names.lookup y.1 = some .free := NdefX.ndef_free (fr := ["hides", "run"]) (by decide +kernel)
  have fr : ∀ y ∈ (["hides", "run"] : List Str), (y, NameKind.free) ∈ (C8.fnScope s_prank).names := NdefX.ndef_fr (sc := defScope s_largest_part) (by decide +kernel)
  refine fn_of lk hcd sc_largest_part (fun vs H Q E h => ?_) (fun Ar outer s H vs Q E hr h => ⟨_, pss_cons (NdefX.ps_ndefMS (st := s_prank) (i := 3) (T := tabs) (nm := nmPart) (name := "rank") rfl TB rfl mem rfl uniq free rfl rfl rfl sc_largest_part.nd rfl (.inl rfl) (.inr rfl))
    (pss_cons (ps_set (i := 4) sc_largest_part.nd rfl (.inl rfl) (pe_slice sl_list (KS.pe_sortedBy (Y := KS.Y2) (k := 1) (js := [0, 1]) (mk := mkPrank (envPart s.heap.objs.size f (.ref c))) (cl := cloFrom (envPart s.heap.objs.size f (.ref c)).cells (C8.fnScope s_prank).names []) (sp := fun _ _ => spPrank A) (fun f c => ok_prank T) (fun c => rfl) (fun ok => NdefX.Caps.made ok free fr rfl) hr rfl T.sorted
      (pa_cons (pe_callTy KS.cr_range1 (by rfl) T.range boot_range (pa_cons (pe_callB call_len_seq (by rfl) T.len PySem.boot_len (pa_cons (pv 1) pa_nil)) pa_nil)) pa_nil) (pk_cons (pv 3) pk_nil)) po_none (po_some (pv 2))))
    (pss_one (ps_ret (pe_lc (own := [("place", 5)]) (g := gName 5) (tt := tYes) rfl sc_largest_part.nd (pi_list (pe_callB cr_sorted (by rfl) T.sorted (by decide +kernel) (pa_cons (pv 4) pa_nil))) (blkOk_by (N := n_largest_part) (sc := defScope s_largest_part) (by decide +kernel))
      (fun _ _ _ _ _ => pg_name (i := 5) sc_largest_part.nd rfl (.inl rfl)) (fun _ _ _ _ _ => pts_nil) (fun _ _ _ _ _ => pe_ix (r := rIxL K) ix_list (pv 1) (pv 5) (fun _ _ => rfl)))))), ?_⟩)
  · obtain ⟨l, r, as, hs, run, n, rfl, _⟩ := h
    rfl
  · obtain ⟨l, r, as, hs, run, n, rfl, hl, held, hrn, inn, few, tb, q⟩ := h
    refine ⟨tb, fun g c' H1 e1 n1 tb1 g0 hg hc => ?_⟩
    have l1 : H1 l = some (.lst (as.map V.ref)) := e1 _ _ hl lst_tbl
    have r1 : H1 r = some (.lst (nums run)) := e1 _ _ hrn lst_tbl
    refine ⟨_, rfl, r, _, rfl, .inl (.inl (.inl r1)), _, rfl, fun x x0 => ?_⟩
    rw [nums_len]
    let J : Hp → Prop := fun H' => Kept [] H H' ∧ NdefX.TabsN tabs H' ∧ (∀ b, H' b = none → H b = none) ∧ H' g = some (NdefX.FnO g (mkPrank (envPart s.heap.objs.size f (.ref c)) c')) ∧ H' c' = some (LamX.CodeO c' (mkPrank (envPart s.heap.objs.size f (.ref c)) c').qual)
    have J0 : J (upd H1 x (.rng 0 (run.length : Nat))) := by
      refine ⟨(Kept.ext e1 n1).trans (Kept.new x0), tb1.ext fun b o e => (upd_ne (ne_of_none e x0)).trans e, fun b e => n1 b (NdefX.upd_none e), (upd_ne (ne_of_none hg x0)).trans hg, (upd_ne (ne_of_none hc x0)).trans hc⟩
    refine ⟨_, rfl, x, g, c', run.length, prank hs run, J, rfl, rfl, upd_same, by omega, J0, fun H' j => ⟨j.2.2.2.1, j.2.2.2.2⟩, fun H' i hi j => ?_, fun H' p j hp => ?_⟩
    · obtain ⟨k, t2, n2, h3, h4⟩ := j
      refine ⟨l, r, as, hs, run, i, rfl, rfl, k.at_ _ _ hl List.not_mem_nil lst_tbl, held.kept k fun _ _ => List.not_mem_nil, k.at_ _ _ hrn List.not_mem_nil lst_tbl, inn, hi, fun p hp => ⟨⟨k.trans (Kept.new hp), t2.ext fun b o e => (upd_ne (ne_of_none e hp)).trans e, fun b e => n2 b (NdefX.upd_none e), (upd_ne (ne_of_none h3 hp)).trans h3, (upd_ne (ne_of_none h4 hp)).trans h4⟩, p, rfl, upd_same⟩⟩
    · obtain ⟨k, t2, n2, _, _⟩ := j
      have e5 := Ext.new (o := .lst ((KS.sortedBy KS.Y2 run.length (prank hs run)).map fun i => V.int (i : Nat))) hp
      -- places: the first n of them
      refine ⟨_, rfl, _, rfl, p, _, rfl, SqL.of upd_same, fun p2 n2' => ?_⟩
      have e6 := e5.trans (Ext.new (o := .lst (cutV ((KS.sortedBy KS.Y2 run.length (prank hs run)).map fun i => V.int (i : Nat)) none (some ((n : Nat) : Int)))) n2')
      have cutp : cutV ((KS.sortedBy KS.Y2 run.length (prank hs run)).map fun i => V.int (i : Nat)) none (some ((n : Nat) : Int)) = (((placesOf hs run).take n).map fun m => ((m : Nat) : Int)).map V.int := by
        rw [cut_to, ← List.map_take, List.map_map]
        rfl
      rw [cutp] at e6 ⊢
      have lenS : ((placesOf hs run).take n).length ≤ 13 := by
        have z := (KS.sortedBy_perm KS.Y2 run.length (prank hs run)).length_eq
        rw [List.length_range] at z
        rw [List.length_take]
        unfold placesOf
        omega
      refine ⟨_, rfl, p2, _, rfl, SqL.of upd_same, by rw [List.length_map]; omega, fun ns p3 perm rise n3 => ?_⟩
      rw [sorted_places perm rise]
      have e7 := e6.trans (Ext.new (o := .lst (((partPlaces hs run n).map fun m => ((m : Nat) : Int)).map V.int)) n3)
      have h3 := (upd_same : upd (upd (upd H' p (.lst ((KS.sortedBy KS.Y2 run.length (prank hs run)).map fun i => V.int (i : Nat)))) p2 (.lst ((((placesOf hs run).take n).map fun m => ((m : Nat) : Int)).map V.int))) p3 (.lst (((partPlaces hs run n).map fun m => ((m : Nat) : Int)).map V.int)) p3 = _)
      rw [← nums_int (partPlaces hs run n)] at h3 e7 ⊢
      generalize upd (upd (upd H' p _) p2 _) p3 _ = H7 at e7 h3 ⊢
      have k7 : Kept [] H H7 := k.trans e7.kept
      refine ⟨p3, rfl, ⟨_, SqL.of h3⟩, fun D nD => ?_⟩
      refine lc_it (walk_list (xs := nums (partPlaces hs run n))) (fun m H2 => H2 = upd H7 D (.lst (nums (((partPlaces hs run n).take m).map fun i => run.getD i 0)))) rfl
        (fun m H2 _ z => by rw [z]; exact (Ext.new nD).seq (SqL.of h3)) ?_ ?_
      · rintro m y H2 H3 hm rfl ⟨rfl, hy⟩
        obtain ⟨u, eu, rfl⟩ := nums_at hy
        have lu : u < run.length := partPlaces_mem (List.mem_of_getElem? eu)
        have er : run[u]? = some run[u] := List.getElem?_eq_getElem lu
        have rr := (k7.trans (Ext.new (o := .lst (nums (((partPlaces hs run n).take m).map fun i => run.getD i 0))) nD).kept).at_ _ _ hrn List.not_mem_nil lst_tbl
        refine ⟨rfl, yes_go ?_⟩
        refine ⟨_, rfl, _, rfl, r, _, _, _, rfl, rfl, SqL.of rr, atI_nat (nums_get er), _, upd_same, small1000 ?_, ?_⟩
        · rw [nums_len] at hm ⊢
          have z := (taken_perm hs run n).length_eq
          rw [List.length_map, List.length_take]
          omega
        · rw [upd_upd]
          congr 2
          rw [List.take_add_one, eu, List.map_append, ← nums_cat, Option.toList_some, List.map_cons, List.map_nil, nums_one, List.getD_eq_getElem?_getD, er]
          rfl
      · rintro H2 rfl
        rw [nums_len, List.take_of_length_le (Nat.le_refl _)]
        have kD := k7.trans (Kept.new (o := .lst (nums ((partPlaces hs run n).map fun i => run.getD i 0))) nD)
        exact q _ D kD ((t2.ext e7).ext (Ext.new nD)) (k7.back D nD) upd_same
end
end KX
/-! # The largest lot -/
namespace KX
open PySem PySem.Spec PyProof.Rows L2
open Kp394 (Hide Inventory)

def spLarge (A : Ad) (T : List NdefX.NTab) : Sp := fun vs H Q _ => ∃ (l : Addr) (as : List Addr) (hs : List Hide) (t n : Nat), vs = [.ref l, .int (t : Nat), .int (n : Nat)] ∧ H l = some (.lst (as.map V.ref)) ∧ Held A.hide H as hs ∧ hs.length ≤ 12 ∧ NdefX.TabsN T H ∧
  ∀ (H' : Hp) (p : Addr), Kept [] H H' → NdefX.TabsN T H' → H p = none → H' p = some (.lst (nums (largeOf hs t n))) → Q (.ref p) H'
section
variable {P : Program} {w : World} {K : PySem.W.Frag} {mg : Str → Option Value} {base : Heap} {A : Ad} {f : Addr} {fd : FuncData} {tabs : List NdefX.NTab}
theorem ok_large (F : Fun K "largest_of_lots" "largest_of_lots" s_largest_of_lots f fd) (T : Txt K mg A) (D1 : KR.Def P w K mg base L2.CX0 5 "runs_in_order" (spRuns A tabs)) (D2 : KR.Def P w K mg base L2.CX0 4 "largest_part" (spPart A tabs)) (D3 : KR.Def P w K mg base L2.CX0 1 "area_of" (spArea A K))
    (D4 : KR.Def P w K mg base L2.CX0 1 "hides_at" (spAt K)) : FnOk P w K mg base L2.CX0 6 f fd ["hides", "tolerance", "lot_size"] (spLarge A tabs) := by
  refine F.ok sc_largest_of_lots (fun vs H Q E h => ?_) (fun cdv Ar outer s H vs Q E hr h => ⟨_, pss_cons (ps_set (i := 3) sc_largest_of_lots.nd rfl (.inl rfl) (pe_lst pa_nil))
    (pss_cons (ps_for PassesOwn.never rfl (pi_list (KR.pe_def D1 hr rfl pass0 (pa_cons (pv 0) (pa_cons (pv 1) pa_nil)))) (pg_name (i := 4) sc_largest_of_lots.nd rfl (.inl rfl))
      (pss_cons (ps_set (i := 5) sc_largest_of_lots.nd rfl (.inl rfl) (KR.pe_def D2 hr rfl pass0 (pa_cons (pv 0) (pa_cons (pv 4) (pa_cons (pv 2) pa_nil)))))
      (pss_one (ps_if (pt_cmpR op_gt (KR.pe_def D3 hr rfl pass0 (pa_cons (KR.pe_def D4 hr rfl pass0 (pa_cons (pv 0) (pa_cons (pv 5) pa_nil))) pa_nil)) (KR.pe_def D3 hr rfl pass0 (pa_cons (KR.pe_def D4 hr rfl pass0 (pa_cons (pv 0) (pa_cons (pv 3) pa_nil))) pa_nil)) (nomark _))
        (pss_one (ps_set (i := 3) sc_largest_of_lots.nd rfl (.inl rfl) (pv 5))) pss_nil))))
    (pss_one (ps_ret (pv 3)))), ?_⟩)
  · obtain ⟨l, as, hs, t, n, rfl, _⟩ := h
    rfl
  · obtain ⟨l, as, hs, t, n, rfl, hl, held, few, tb, q⟩ := h
    refine ⟨Nat.zero_le _, fun L nL => ?_⟩
    have e0 := Ext.new (o := .lst []) nL
    refine ⟨_, rfl, _, rfl, l, as, hs, t, rfl, e0 _ _ hl, held.kept (fp := []) e0.kept (fun _ _ => List.not_mem_nil), few, tb.ext e0, fun H1 R ps k1 tb1 nR hR bx _ => ?_⟩
    have k0 : Kept [] H H1 := e0.kept.trans k1
    have hL1 : H1 L = some (.lst []) := k1.at_ _ _ upd_same List.not_mem_nil lst_tbl
    have inn : ∀ r ∈ runsOf hs t, (∀ x ∈ r, x < hs.length) ∧ r.length ≤ hs.length := fun r hr => (runsOf_mem hr).2
    have lenR : (ps.map V.ref).length = (runsOf hs t).length := by rw [List.length_map, bx.len]
    have out : largeOf hs t n = (runsOf hs t).foldl (largeStep hs n) [] := rfl
    rw [out] at q
    generalize runsOf hs t = runs at bx inn lenR q
    refine ⟨R, rfl, ⟨_, SqL.of hR⟩, for_it (walk_list (xs := ps.map V.ref)) (fun i σ H' => ∃ d1 d2 b, σ = [some (.ref l), some (.int (t : Nat)), some (.int (n : Nat)), some (.ref b), d1, d2] ∧ Kept [] H1 H' ∧ NdefX.TabsN tabs H' ∧ H b = none ∧ H' b = some (.lst (nums ((runs.take i).foldl (largeStep hs n) []))))
      ⟨_, _, L, rfl, Kept.refl _ _, tb1, nL, hL1⟩ (fun i σ H' _ ⟨_, _, _, _, k, _⟩ => SqL.of (k.at_ _ _ hR List.not_mem_nil lst_tbl)) ?_ ?_⟩
    · rintro i y σ H2 H3 hi ⟨d1, d2, b, rfl, k2, tb2, nb, hb⟩ ⟨rfl, hy⟩
      rw [List.getElem?_map] at hy
      cases ep : ps[i]? with
      | none =>
        rw [ep] at hy
        cases hy
      | some p =>
        rw [ep] at hy
        cases hy
        have li : i < runs.length := by
          rw [← lenR]
          exact hi
        have er : runs[i]? = some runs[i] := List.getElem?_eq_getElem li
        have hp1 := bx.at_ i p _ ep er
        obtain ⟨memR, lenr⟩ := inn _ (List.getElem_mem li)
        generalize runs[i] = run at er hp1 memR lenr
        have next : (runs.take (i + 1)).foldl (largeStep hs n) [] = largeStep hs n ((runs.take i).foldl (largeStep hs n) []) run := by
          rw [List.take_add_one, er, List.foldl_append]
          rfl
        have memB : ∀ x ∈ (runs.take i).foldl (largeStep hs n) [], x < hs.length := large_mem _ _ (fun r hr => (inn r (List.mem_of_mem_take hr)).1) fun x m => absurd m List.not_mem_nil
        have lenB : ((runs.take i).foldl (largeStep hs n) []).length ≤ hs.length := large_len _ _ (fun r hr => (inn r (List.mem_of_mem_take hr)).2) (Nat.zero_le _)
        rw [next]
        generalize (runs.take i).foldl (largeStep hs n) [] = best at hb memB lenB
        have k02 : Kept [] H H3 := k0.trans k2
        refine ⟨_, rfl, _, rfl, _, rfl, l, p, as, hs, run, n, rfl, k02.at_ _ _ hl List.not_mem_nil lst_tbl, held.kept k02 (fun _ _ => List.not_mem_nil), k2.at_ _ _ hp1 List.not_mem_nil lst_tbl, memR, by omega, tb2, fun H4 c k4 tb4 nc hc => ?_⟩
        have k04 : Kept [] H H4 := k02.trans k4
        have held4 : Held A.hide H4 as hs := held.kept k04 fun _ _ => List.not_mem_nil
        have hl4 := k04.at_ _ _ hl List.not_mem_nil lst_tbl
        have hb4 := k4.at_ _ _ hb List.not_mem_nil lst_tbl
        have memC : ∀ x ∈ partOf hs run n, x < hs.length := fun x m => memR x (partOf_mem m)
        have lenC : (partOf hs run n).length ≤ run.length := partOf_len hs run n
        unfold largeStep
        generalize partOf hs run n = part at hc memC lenC
        refine ⟨_, rfl, _, rfl, l, c, as, part, rfl, SqL.of hl4, SqL.of hc, fun m hm => by rw [held.len]; exact memC m hm, by omega, fun D H5 nD hD e5 => ?_⟩
        refine ⟨D, _, part.map fun i => hs.getD i ⟨0, 0, 0⟩, rfl, SqL.of hD, (held4.line memC).ext e5, by rw [List.length_map]; omega, fun H6 e6 => ?_⟩
        have e46 := e5.trans e6
        refine ⟨_, rfl, _, rfl, l, b, as, best, rfl, SqL.of (e46 _ _ hl4), SqL.of (e46 _ _ hb4), fun m hm => by rw [held.len]; exact memB m hm, by omega, fun D2 H7 nD2 hD2 e7 => ?_⟩
        have e47 := e46.trans e7
        refine ⟨D2, _, best.map fun i => hs.getD i ⟨0, 0, 0⟩, rfl, SqL.of hD2, (held4.line memB).ext e47, by rw [List.length_map]; omega, fun H8 e8 => ?_⟩
        have e48 := e47.trans e8
        have k8 : Kept [] H1 H8 := k2.trans (k4.trans e48.kept)
        refine ⟨_, _, rfl, rfl, _, rfl, ite2 (fun z => ?_) (fun z => ?_)⟩
        · have z := of_decide_eq_true z
          rw [if_pos (show areaN hs best < areaN hs part by unfold areaN; omega)]
          exact ⟨_, rfl, _, _, c, rfl, k8, tb4.ext e48, k02.back c nc, e48 _ _ hc⟩
        · have z := of_decide_eq_false (Bool.not_eq_true _ ▸ z)
          rw [if_neg (show ¬ areaN hs best < areaN hs part by unfold areaN; omega)]
          exact ⟨_, _, b, rfl, k8, tb4.ext e48, nb, e48 _ _ hb4⟩
    · rintro σ H2 ⟨d1, d2, b, rfl, k2, tb2, nb, hb⟩
      rw [lenR, List.take_of_length_le (Nat.le_refl _)] at hb
      exact ⟨_, rfl, q H2 b (k0.trans k2) tb2 nb hb⟩
end
end KX
/-! # Different hides by their numbers -/
namespace KX
open PySem PySem.Spec PyProof.Rows L2
open Kp394 (Hide Inventory)

theorem dups_len : ∀ (n : Nat) (l : List Nat), l.length ≤ n → l.eraseDups.length ≤ l.length ∧ (l.eraseDups.length = l.length ↔ l.Nodup)
  | _, [], _ => by simp
  | 0, a :: r, h => by simp at h
  | n + 1, a :: r, h => by
    have lf : (r.filter fun b => !b == a).length ≤ r.length := List.length_filter_le _ _
    rw [List.length_cons] at h
    obtain ⟨h1, h2⟩ := dups_len n (r.filter fun b => !b == a) (by omega)
    rw [List.eraseDups_cons, List.length_cons, List.length_cons, List.nodup_cons]
    refine ⟨by omega, fun e => ?_, fun ⟨e1, e2⟩ => ?_⟩
    · have e3 : (r.filter fun b => !b == a).length = r.length := by omega
      have e4 := List.filter_eq_self.mpr (List.length_filter_eq_length_iff.mp e3)
      rw [e4] at e h2
      refine ⟨fun m => ?_, h2.mp (by omega)⟩
      have z := List.length_filter_eq_length_iff.mp e3 a m
      simp at z
    · have e4 : (r.filter fun b => !b == a) = r := List.filter_eq_self.mpr fun b hb => by
        have : b ≠ a := fun z => e1 (by rw [← z]; exact hb)
        simp [this]
      rw [e4] at h2 ⊢
      rw [h2.mpr e2]
theorem nodup_int {ms : List Nat} : (ms.map fun m => ((m : Nat) : Int)).Nodup ↔ ms.Nodup := by
  unfold List.Nodup
  rw [List.pairwise_map]
  constructor
  · intro h
    exact h.imp fun {a b} z e => z (by rw [e])
  · intro h
    exact h.imp fun {a b} z e => z (by omega)
theorem valid_iff {v : Inventory} {ms : List Nat} : Kp394.validHides v ms = true ↔ (∀ m ∈ ms, m < v.hides.length) ∧ ms.Nodup := by
  unfold Kp394.validHides Kp394.isHide
  rw [Bool.and_eq_true, List.all_eq_true, decide_eq_true_eq, (dups_len ms.length ms (Nat.le_refl _)).2]
  simp only [decide_eq_true_eq]
def spDifferent (A : Ad) (K : PySem.W.Frag) : Sp := fun vs H Q E => ∃ (i l n : Addr) (as : List Addr) (v : Inventory) (ms : List Nat), vs = [.ref i, .ref n] ∧ InvAt A H i l as v ∧ SqL K H n (nums ms) ∧ ms.length ≤ 14 ∧
  (Kp394.validHides v ms = true → ∀ (p : Addr) (H' : Hp), H p = none → H' p = some (.lst ((ms.map fun m => as.getD m 0).map V.ref)) → Ext H H' → Q (.ref p) H') ∧ (Kp394.validHides v ms = false → E (.ref A.out) none H)
section
variable {P : Program} {w : World} {K : PySem.W.Frag} {mg : Str → Option Value} {base : Heap} {A : Ad} {f : Addr} {fd : FuncData}
theorem ok_different (F : Fun K "different_hides" "Inventory.different_hides" s_Inventory_different_hides f fd) (T : Txt K mg A) (D : KR.Def P w K mg base L2.CX0 1 "hides_at" (spAt K)) : FnOk P w K mg base (L2.CX P w) 2 f fd ["self", "numbers"] (spDifferent A K) := by
  refine F.okX sc_Inventory_different_hides (fun vs H Q E h => ?_) (fun cdv Ar outer s H vs Q E hr h => ⟨_, pss_cons (ps_if (pt_cmpR op_lt (KR.pe_differ (by rfl) T.len (by rfl) T.set_ (pv 1)) (pe_callB call_len_seq (by rfl) T.len PySem.boot_len (pa_cons (pv 1) pa_nil)) (nomark _)) (pss_one (KR.ps_out T.out rfl (takes_of rfl rfl rfl rfl) rfl)) pss_nil)
    (pss_cons (ps_for (passes_of rfl) rfl (pi_list (pv 1)) (pg_name (i := 2) sc_Inventory_different_hides.nd rfl (.inl rfl))
      (pss_one (ps_if (pt_cmpR op_ge (pv 2) (pe_callB call_len_seq (by rfl) T.len PySem.boot_len (pa_cons (pe_fld (pv 0) rfl) pa_nil)) (nomark _)) (pss_one (KR.ps_out T.out rfl (takes_of rfl rfl rfl rfl) rfl)) pss_nil)))
    (pss_one (ps_ret (KR.pe_def D hr rfl pass0 (pa_cons (pe_fld (pv 0) rfl) (pa_cons (pv 1) pa_nil)))))), ?_⟩)
  · obtain ⟨i, l, n, as, v, ms, rfl, _⟩ := h
    rfl
  · obtain ⟨i, l, n, as, v, ms, rfl, x, sq, few, yes, no⟩ := h
    obtain ⟨dx, ei⟩ := x.obj
    have len : (as.map V.ref).length = v.hides.length := by rw [List.length_map, x.held.len]
    have bad : ¬ ((∀ m ∈ ms, m < v.hides.length) ∧ ms.Nodup) → E (.ref A.out) none H := fun z => no (by
      rw [Bool.eq_false_iff]
      intro y
      exact z (valid_iff.mp y))
    have lenM : (nums ms).length = ms.length := by
      unfold nums
      rw [List.length_map]
    refine ⟨_, rfl, n, ms.map fun m => ((m : Nat) : Int), rfl, by rw [← nums_int]; exact sq, by rw [List.length_map]; omega, _, rfl, n, _, rfl, .inl sq, _, _, rfl, rfl, _, rfl, ite2 (fun c => ?_) (fun c => ?_)⟩
    · have c := of_decide_eq_true c
      refine bad fun z => ?_
      have c : KR.differ (ms.map fun m => ((m : Nat) : Int)) < (ms.map fun m => ((m : Nat) : Int)).length := by
        rw [List.length_map]
        omega
      exact KR.differ_lt.mp c (nodup_int.mpr z.2)
    have c := of_decide_eq_false (Bool.not_eq_true _ ▸ c)
    have nd : ms.Nodup := by
      rw [← nodup_int]
      have z : ¬ KR.differ (ms.map fun m => ((m : Nat) : Int)) < (ms.map fun m => ((m : Nat) : Int)).length := by
        rw [List.length_map]
        omega
      exact Classical.not_not.mp fun y => z (KR.differ_lt.mpr y)
    refine ⟨_, rfl, n, rfl, ⟨_, sq⟩, for_it (walk_list (xs := nums ms)) (fun j σ H' => H' = H ∧ ∃ d, σ = [some (.ref i), some (.ref n), d] ∧ ∀ m ∈ ms.take j, m < v.hides.length) ⟨rfl, _, rfl, fun m h => absurd h List.not_mem_nil⟩ (fun j σ H' _ ⟨z, _⟩ => by rw [z]; exact sq) ?_ ?_⟩
    · rintro j y σ H2 H3 hj ⟨rfl, d, rfl, low⟩ ⟨rfl, hy⟩
      obtain ⟨m, em, rfl⟩ := nums_at hy
      refine ⟨_, rfl, _, rfl, i, _, dx, _, _, rfl, ei, T.inv, T.invH, inv_hides v l, l, _, rfl, .inl (.inl (.inl x.lst)), _, _, rfl, rfl, _, rfl, ite2 (fun c => ?_) (fun c => ?_)⟩
      · have c := of_decide_eq_true c
        exact bad fun z => by
          have := z.1 m (List.mem_of_getElem? em)
          omega
      · have c := of_decide_eq_false (Bool.not_eq_true _ ▸ c)
        refine ⟨rfl, _, rfl, fun u hu => ?_⟩
        rw [List.take_add_one, em] at hu
        rcases List.mem_append.mp hu with q | q
        · exact low u q
        · rw [List.mem_singleton.mp q]
          omega
    · rintro σ H2 ⟨rfl, d, rfl, low⟩
      rw [lenM, List.take_of_length_le (Nat.le_refl _)] at low
      refine ⟨_, rfl, i, _, dx, _, _, rfl, ei, T.inv, T.invH, inv_hides v l, _, rfl, l, n, as, ms, rfl, SqL.of x.lst, sq, fun m hm => by rw [x.held.len]; exact low m hm, by omega, fun p H' np hp e => ?_⟩
      exact yes (valid_iff.mpr ⟨low, nd⟩) p H' np hp e
end
end KX
/-! # One call's step, by the numbers handed in -/
namespace KX
open Kp394 (Hide Inventory)
def asInts (ms : List Nat) : List Int := ms.map fun m => ((m : Nat) : Int)
def stepN (x : Int) (ms : List Nat) (v : Inventory) : Kp394.State × List Int := Kp394Neutral.step (some v) [x :: asInts ms]
def okN (x : Int) (ms : List Nat) : Prop := Kp394Neutral.asked1 [x :: asInts ms] = true
/-- as one answer -/
def rowOf (y : Kp394.State × Kp394.Ans) : Kp394.State × List Int := (y.1, y.2.num :: y.2.nums)
theorem step_of {x : Int} {ms : List Nat} {v : Inventory} {c : Kp394.Call} (h : Kp394Neutral.callOf [x :: asInts ms] = some c) : stepN x ms v = rowOf (Kp394.step (some v) c) := by
  unfold stepN Kp394Neutral.step
  rw [h]
  rfl
theorem toNat_asInts (ms : List Nat) : (asInts ms).map Int.toNat = ms := by
  unfold asInts
  rw [List.map_map]
  have e : (Int.toNat ∘ fun m => ((m : Nat) : Int)) = id := by
    funext m
    exact Int.toNat_natCast m
  rw [e, List.map_id]
section
variable {v : Inventory}
theorem st1 (k t a : Nat) : stepN 1 [k, t, a] v = rowOf (Kp394.step (some v) (.addHide k t a)) := step_of (by show some (Kp394.Call.addHide (k : Int).toNat (t : Int).toNat (a : Int).toNat) = _; rw [Int.toNat_natCast, Int.toNat_natCast, Int.toNat_natCast])
theorem st2 (k : Nat) : stepN 2 [k] v = rowOf (Kp394.step (some v) (.removeHide k)) := step_of (by show some (Kp394.Call.removeHide (k : Int).toNat) = _; rw [Int.toNat_natCast])
theorem st3 (k : Nat) : stepN 3 [k] v = rowOf (Kp394.step (some v) (.getHide k)) := step_of (by show some (Kp394.Call.getHide (k : Int).toNat) = _; rw [Int.toNat_natCast])
theorem st4 (t n : Nat) : stepN 4 [t, n] v = rowOf (Kp394.step (some v) (.setLimits t n)) := step_of (by show some (Kp394.Call.setLimits (t : Int).toNat (n : Int).toNat) = _; rw [Int.toNat_natCast, Int.toNat_natCast])
theorem st5 (k t : Nat) : stepN 5 [k, t] v = rowOf (Kp394.step (some v) (.thinHide k t)) := step_of (by show some (Kp394.Call.thinHide (k : Int).toNat (t : Int).toNat) = _; rw [Int.toNat_natCast, Int.toNat_natCast])
theorem st6 : stepN 6 [] v = rowOf (Kp394.step (some v) .hideOrder) := step_of rfl
theorem st7 (i j : Nat) : stepN 7 [i, j] v = rowOf (Kp394.step (some v) (.areCompatible i j)) := step_of (by show some (Kp394.Call.areCompatible (i : Int).toNat (j : Int).toNat) = _; rw [Int.toNat_natCast, Int.toNat_natCast])
theorem st8 (ms : List Nat) : stepN 8 ms v = rowOf (Kp394.step (some v) (.isLot ms)) := step_of (by show some (Kp394.Call.isLot ((asInts ms).map Int.toNat)) = _; rw [toNat_asInts])
theorem st9 : stepN 9 [] v = rowOf (Kp394.step (some v) .fewestLots) := step_of rfl
theorem st10 : stepN 10 [] v = rowOf (Kp394.step (some v) .greedyLots) := step_of rfl
theorem st11 : stepN 11 [] v = rowOf (Kp394.step (some v) .incompatibleHides) := step_of rfl
theorem st12 : stepN 12 [] v = rowOf (Kp394.step (some v) .largestLot) := step_of rfl
theorem st13 (ms : List Nat) : stepN 13 ms v = rowOf (Kp394.step (some v) (.totalArea ms)) := step_of (by show some (Kp394.Call.totalArea ((asInts ms).map Int.toNat)) = _; rw [toNat_asInts])
theorem st14 (k : Nat) : stepN 14 [k] v = rowOf (Kp394.step (some v) (.bestPairs k)) := step_of (by show some (Kp394.Call.bestPairs (k : Int).toNat) = _; rw [Int.toNat_natCast])
theorem st15 (n : Nat) : stepN 15 [n] v = rowOf (Kp394.step (some v) (.leastTolerance n)) := step_of (by show some (Kp394.Call.leastTolerance (n : Int).toNat) = _; rw [Int.toNat_natCast])
theorem st16 (k : Nat) : stepN 16 [k] v = rowOf (Kp394.step (some v) (.lotsWithoutHide k)) := step_of (by show some (Kp394.Call.lotsWithoutHide (k : Int).toNat) = _; rw [Int.toNat_natCast])
theorem st17 (k t a : Nat) : stepN 17 [k, t, a] v = rowOf (Kp394.step (some v) (.lotsWithHide k t a)) := step_of (by show some (Kp394.Call.lotsWithHide (k : Int).toNat (t : Int).toNat (a : Int).toNat) = _; rw [Int.toNat_natCast, Int.toNat_natCast, Int.toNat_natCast])
theorem st18 : stepN 18 [] v = rowOf (Kp394.step (some v) .status) := step_of rfl
end
/-! ### how many numbers a call has -/
theorem sh0 {x : Int} {ms : List Nat} (hx : x = 6 ∨ x = 9 ∨ x = 10 ∨ x = 11 ∨ x = 12 ∨ x = 18) (h : okN x ms) : ms = [] := by
  unfold okN asInts at h
  match ms, h with
  | [], _ => rfl
  | a :: r, h => rcases hx with e | e | e | e | e | e <;> subst e <;> exact absurd h Bool.false_ne_true
theorem sh1 {x : Int} {ms : List Nat} (hx : x = 2 ∨ x = 3 ∨ x = 14 ∨ x = 15 ∨ x = 16) (h : okN x ms) : ∃ a, ms = [a] := by
  unfold okN asInts at h
  match ms, h with
  | [], h => rcases hx with e | e | e | e | e <;> subst e <;> exact absurd h Bool.false_ne_true
  | [a], _ => exact ⟨a, rfl⟩
  | a :: b :: r, h => rcases hx with e | e | e | e | e <;> subst e <;> exact absurd h Bool.false_ne_true
theorem sh2 {x : Int} {ms : List Nat} (hx : x = 0 ∨ x = 4 ∨ x = 5 ∨ x = 7) (h : okN x ms) : ∃ a b, ms = [a, b] := by
  unfold okN asInts at h
  match ms, h with
  | [], h => rcases hx with e | e | e | e <;> subst e <;> exact absurd h Bool.false_ne_true
  | [a], h => rcases hx with e | e | e | e <;> subst e <;> exact absurd h Bool.false_ne_true
  | [a, b], _ => exact ⟨a, b, rfl⟩
  | a :: b :: c :: r, h => rcases hx with e | e | e | e <;> subst e <;> exact absurd h Bool.false_ne_true
theorem sh3 {x : Int} {ms : List Nat} (hx : x = 1 ∨ x = 17) (h : okN x ms) : ∃ a b c, ms = [a, b, c] := by
  unfold okN asInts at h
  match ms, h with
  | [], h => rcases hx with e | e <;> subst e <;> exact absurd h Bool.false_ne_true
  | [a], h => rcases hx with e | e <;> subst e <;> exact absurd h Bool.false_ne_true
  | [a, b], h => rcases hx with e | e <;> subst e <;> exact absurd h Bool.false_ne_true
  | [a, b, c], _ => exact ⟨a, b, c, rfl⟩
  | a :: b :: c :: d :: r, h => rcases hx with e | e <;> subst e <;> exact absurd h Bool.false_ne_true
theorem shn {x : Int} {ms : List Nat} (hx : x = 8 ∨ x = 13) (h : okN x ms) : ms.length ≤ 14 := by
  unfold okN at h
  have q : (decide ((asInts ms).length ≤ 14)) = true := by
    rcases hx with e | e <;> subst e <;> exact (Bool.and_eq_true _ _ |>.mp h).2
  have q := of_decide_eq_true q
  unfold asInts at q
  rw [List.length_map] at q
  exact q
/-- a call's number -/
theorem num_of {x : Int} {ms : List Nat} (h : okN x ms) : 0 ≤ x ∧ x ≤ 18 := by
  unfold okN at h
  unfold Kp394Neutral.asked1 at h
  split at h <;> first | (rename [x :: asInts ms] = _ => e; injection e with e1; injection e1 with e3 e4; omega) | exact absurd h Bool.false_ne_true
end KX
/-! # What an operation's def promises; those that change the inventory -/
namespace KX
open PySem PySem.Spec PyProof.Rows L2
open Kp394 (Hide Inventory)

/-- an error's class and its code -/
inductive Bad (A : Ad) : Addr → Int → Prop
  | such : Bad A A.such (-2)
  | out : Bad A A.out (-22)
  | many : Bad A A.many (-28)
  | noth : Bad A A.noth (-33)
  | no : Bad A A.no (-11)
structure OpIn (A : Ad) (K : PySem.W.Frag) (tabs : List NdefX.NTab) (x : Int) (H : Hp) (Q : VK) (E : XK) (i l n : Addr) (as : List Addr) (v : Inventory) (ms : List Nat) : Prop where
  inv : InvAt A H i l as v
  seq : SqL K H n (nums ms)
  ok : okN x ms
  tabs_ : NdefX.TabsN tabs H
  out : n ∉ i :: l :: as
  sep : i ∉ as
  yes : ∀ (v' : Inventory) (ans : List Int) (H' : Hp) (l' : Addr) (as' : List Addr) (p : Addr), stepN x ms v = (some v', ans) → InvAt A H' i l' as' v' → i ∉ as' → (∀ b ∈ i :: l' :: as', b ∈ i :: l :: as ∨ H b = none) → Kept (i :: l :: as) H H' → NdefX.TabsN tabs H' → H p = none →
    H' p = some (.lst (ans.map V.int)) → Q (.ref p) H'
  no : ∀ (C : Addr) (c : Int) (H' : Hp), Bad A C c → stepN x ms v = (some v, [c]) → Kept [] H H' → NdefX.TabsN tabs H' → E (.ref C) none H'
def spOp (A : Ad) (K : PySem.W.Frag) (tabs : List NdefX.NTab) (x : Int) : Sp := fun vs H Q E => ∃ (i l n : Addr) (as : List Addr) (v : Inventory) (ms : List Nat), vs = [.ref i, .ref n] ∧ OpIn A K tabs x H Q E i l n as v ms
theorem spOp_len {A : Ad} {K : PySem.W.Frag} {tabs : List NdefX.NTab} {x : Int} {vs : List V} {H : Hp} {Q : VK} {E : XK} (h : spOp A K tabs x vs H Q E) : vs.length = 2 := by
  obtain ⟨i, l, n, as, v, ms, rfl, _⟩ := h
  rfl
section
variable {A : Ad} {K : PySem.W.Frag} {tabs : List NdefX.NTab} {x : Int} {H : Hp} {Q : VK} {E : XK} {i l n : Addr} {as : List Addr} {v : Inventory} {ms : List Nat}
/-- the inventory stays -/
theorem OpIn.same (o : OpIn A K tabs x H Q E i l n as v ms) {ans : List Int} (e : stepN x ms v = (some v, ans)) {H' : Hp} {p : Addr} (k : Kept [] H H') (t : NdefX.TabsN tabs H') (np : H p = none) (hp : H' p = some (.lst (ans.map V.int))) : Q (.ref p) H' :=
  o.yes v ans H' l as p e (o.inv.same k) o.sep (fun _ m => .inl m) (k.mono fun _ m => absurd m List.not_mem_nil) t np hp
/-- a new list, all else as it was -/
theorem OpIn.new (o : OpIn A K tabs x H Q E i l n as v ms) {ans : List Int} (e : stepN x ms v = (some v, ans)) {H' : Hp} {p : Addr} (k : Kept [] H H') (t : NdefX.TabsN tabs H') (np : H' p = none) {xs : List V} (hx : xs = ans.map V.int) : Q (.ref p) (upd H' p (.lst xs)) := by
  subst hx
  exact o.same e (k.trans (Kept.new np)) (t.ext (Ext.new np)) (k.back p np) upd_same
theorem OpIn.bad (o : OpIn A K tabs x H Q E i l n as v ms) {C : Addr} {c : Int} (b : Bad A C c) (e : stepN x ms v = (some v, [c])) : E (.ref C) none H := o.no C c H b e (Kept.refl _ _) o.tabs_
theorem asInts_len (ms : List Nat) : (asInts ms).length = ms.length := by
  unfold asInts
  rw [List.length_map]
theorem nums_asInts (ms : List Nat) : nums ms = (asInts ms).map V.int := nums_int ms
theorem tabs_ins {H : Hp} {p C dx : Addr} {fs : List (Str × V)} {o : HO} (x : NdefX.TabsN tabs H) (e : H p = some (.ins C dx fs)) : NdefX.TabsN tabs (upd H p o) := fun q hq => by
  obtain ⟨ts, t1, t2, t3⟩ := x q hq
  refine ⟨ts, (upd_ne fun z => ?_).trans t1, t2, fun pos cv hc => ?_⟩
  · rw [z, e] at t1
    cases t1
  · obtain ⟨c, c1, c2⟩ := t3 pos cv hc
    refine ⟨c, c1, (upd_ne fun z => ?_).trans c2⟩
    rw [z, e] at c2
    have c2 := Option.some.inj c2
    unfold LamX.CodeO at c2
    cases c2
end
end KX
/-! # Operations that change the inventory -/
namespace KX
open PySem PySem.Spec PyProof.Rows L2
open Kp394 (Hide Inventory)

theorem InvAt.ne_il {A : Ad} {H : Hp} {i l : Addr} {as : List Addr} {v : Inventory} (x : InvAt A H i l as v) : i ≠ l := fun z => by
  obtain ⟨dx, ei⟩ := x.obj
  rw [z, x.lst] at ei
  cases ei
theorem InvAt.l_as {A : Ad} {H : Hp} {i l : Addr} {as : List Addr} {v : Inventory} (x : InvAt A H i l as v) : l ∉ as := fun m => by
  obtain ⟨h, _, dx, e⟩ := x.held.of m
  rw [x.lst] at e
  cases e
theorem InvAt.some_ {A : Ad} {H : Hp} {i l : Addr} {as : List Addr} {v : Inventory} (x : InvAt A H i l as v) {b : Addr} (m : b ∈ i :: l :: as) : ∃ o, H b = some o := by
  rcases List.mem_cons.mp m with e | m
  · obtain ⟨dx, ei⟩ := x.obj
    exact ⟨_, by rw [e]; exact ei⟩
  rcases List.mem_cons.mp m with e | m
  · exact ⟨_, by rw [e]; exact x.lst⟩
  · obtain ⟨h, _, dx, e⟩ := x.held.of m
    exact ⟨_, e⟩
theorem mem_as {i l b : Addr} {as : List Addr} (m : b ∈ as) : b ∈ i :: l :: as := List.mem_cons_of_mem _ (List.mem_cons_of_mem _ m)
theorem one_int (z : Int) : [V.int z] = [z].map V.int := rfl
section
variable {P : Program} {w : World} {K : PySem.W.Frag} {mg : Str → Option Value} {base : Heap} {A : Ad} {f : Addr} {fd : FuncData} {tabs : List NdefX.NTab}
theorem ok_add (F : Fun K "add_hide" "add_hide" s_add_hide f fd) (T : Txt K mg A) (D1 : KR.Def P w K mg base (L2.CX P w) 2 "check_measures" (spMeasures A)) (D2 : KR.Maker P w K mg base 1 "Hide" A.hide (spHideInit A)) : FnOk P w K mg base (L2.CX P w) 7 f fd ["inventory", "numbers"] (spOp A K tabs 1) := by
  refine F.okX sc_add_hide (fun vs H Q E h => spOp_len h) (fun cdv Ar outer s H vs Q E hr h => ⟨_, pss_cons (ps_expr (KR.pe_def D1 hr rfl (passes_call (takes_of rfl rfl rfl rfl) fun _ _ _ _ z => z) (pa_cons (pe_ix ix_list (pv 1) pe_int (fun _ _ => rfl)) (pa_cons (pe_ix ix_list (pv 1) pe_int (fun _ _ => rfl)) (pa_cons (pe_ix ix_list (pv 1) pe_int (fun _ _ => rfl)) pa_nil)))))
    (pss_cons (ps_set (i := 2) sc_add_hide.nd rfl (.inl rfl) (pe_callB call_len_seq (by rfl) T.len PySem.boot_len (pa_cons (pe_fld (pv 0) rfl) pa_nil)))
    (pss_cons (ps_if (pt_cmpR op_ge (pv 2) (C8.pe_gc rfl T.cMost) (nomark _)) (pss_one (KR.ps_out T.many rfl (takes_of rfl rfl rfl rfl) rfl)) pss_nil)
    (pss_cons (ps_expr (pe_bm PySem.F.plainAttrs_list PySem.F.slot_list_append PySem.F.type_list_append mt_append (pe_fld (pv 0) rfl) (pa_cons (KR.pe_maker D2 hr rfl (pa_cons (pe_ix ix_list (pv 1) pe_int (fun _ _ => rfl)) (pa_cons (pe_ix ix_list (pv 1) pe_int (fun _ _ => rfl)) (pa_cons (pe_ix ix_list (pv 1) pe_int (fun _ _ => rfl)) pa_nil)))) pa_nil)))
    (pss_one (ps_ret (pe_lst (pa_cons (pv 2) pa_nil))))))), ?_⟩)
  obtain ⟨i, l, n, as, v, ms, rfl, o⟩ := h
  obtain ⟨k, t, a, rfl⟩ := sh3 (.inl rfl) o.ok
  obtain ⟨dx, ei⟩ := o.inv.obj
  have len : (as.map V.ref).length = v.hides.length := by rw [List.length_map, o.inv.held.len]
  refine ⟨_, rfl, n, _, _, _, rfl, rfl, o.seq, atI_nat (j := 0) rfl, _, rfl, n, _, _, _, rfl, rfl, o.seq, atI_nat (j := 1) rfl, _, rfl, n, _, _, _, rfl, rfl, o.seq, atI_nat (j := 2) rfl, k, t, a, rfl, fun val => ?_, fun val => ?_⟩
  · refine ⟨_, rfl, i, _, dx, _, _, rfl, ei, T.inv, T.invH, inv_hides v l, l, _, rfl, .inl (.inl (.inl o.inv.lst)), _, rfl, _, _, rfl, rfl, _, rfl, ite2 (fun c => ?_) (fun c => ?_)⟩
    · have c := of_decide_eq_true c
      refine o.bad .many ?_
      rw [st1]
      unfold Kp394.step
      dsimp only
      rw [if_neg (by rw [val]; exact Bool.noConfusion), if_pos (show Kp394.maxHides ≤ v.hides.length by unfold Kp394.maxHides; omega)]
      rfl
    have c := of_decide_eq_false (Bool.not_eq_true _ ▸ c)
    refine ⟨_, rfl, i, _, dx, _, _, rfl, ei, T.inv, T.invH, inv_hides v l, .inl ⟨rfl, _, SqL.of o.inv.lst⟩, ?_⟩
    refine ⟨_, rfl, n, _, _, _, rfl, rfl, o.seq, atI_nat (j := 0) rfl, _, rfl, n, _, _, _, rfl, rfl, o.seq, atI_nat (j := 1) rfl, _, rfl, n, _, _, _, rfl, rfl, o.seq, atI_nat (j := 2) rfl, fun x dx' nx nd ne => ?_⟩
    refine ⟨x, dx', k, t, a, rfl, upd_same, fun H1 hx eb => ⟨rfl, ?_⟩⟩
    have e1 : Ext H H1 := Ext.made nx nd eb
    refine ⟨l, _, _, rfl, rfl, e1 _ _ o.inv.lst, small1000 (by omega), _, rfl, (by show 1 ≤ sizeLine; decide), fun p hp => ?_⟩
    have xl : x ≠ l := fun z => by
      rw [z, o.inv.lst] at nx
      cases nx
    have xi : i ≠ x := fun z => by
      rw [← z, ei] at nx
      cases nx
    have xas : x ∉ as := fun m => by
      obtain ⟨h, _, dh, e⟩ := o.inv.held.of m
      rw [e] at nx
      cases nx
    have il := o.inv.ne_il
    have hp1 : H1 p = none := upd_back hp
    have lp : l ≠ p := ne_of_none (e1 _ _ o.inv.lst) hp1
    have ip : i ≠ p := ne_of_none (e1 _ _ ei) hp1
    obtain ⟨dh, hx'⟩ := hx
    have xp : x ≠ p := ne_of_none hx' hp1
    have kl : Kept [l] H1 (upd (upd H1 l (.lst (as.map V.ref ++ [V.ref x]))) p (.lst [V.int (((as.map V.ref).length : Nat) : Int)])) := Kept.put.trans (Kept.new hp)
    refine o.yes { v with hides := v.hides ++ [⟨k, t, a⟩] } [((v.hides.length : Nat) : Int)] _ l (as ++ [x]) p ?_ ⟨⟨dx, ?_⟩, ?_, ?_, ?_, ?_, o.inv.lot⟩ ?_ ?_ ?_ ?_ ?_ ?_
    · rw [st1]
      unfold Kp394.step
      dsimp only
      rw [if_neg (by rw [val]; exact Bool.noConfusion), if_neg (show ¬ Kp394.maxHides ≤ v.hides.length by unfold Kp394.maxHides; omega)]
      rfl
    · rw [upd_ne ip, upd_ne il]
      exact e1 _ _ ei
    · rw [upd_ne lp, upd_same, List.map_append]
      rfl
    · refine ((o.inv.held.kept (fp := []) e1.kept fun _ _ => List.not_mem_nil).kept kl fun b m z => ?_).more ?_ xas
      · rw [List.mem_singleton.mp z] at m
        exact o.inv.l_as m
      · exact ⟨dh, by rw [upd_ne xp, upd_ne xl]; exact hx'⟩
    · rw [List.length_append, List.length_singleton]
      omega
    · intro h m
      rcases List.mem_append.mp m with m | m
      · exact o.inv.big h m
      · rw [List.mem_singleton.mp m]
        unfold Kp394.validHide at val
        simp only [Bool.and_eq_true, decide_eq_true_eq] at val
        exact val.1.2
    · intro m
      rcases List.mem_append.mp m with m | m
      · exact o.sep m
      · exact xi (List.mem_singleton.mp m)
    · intro b m
      rcases List.mem_cons.mp m with e | m
      · exact .inl (by rw [e]; exact List.mem_cons_self ..)
      rcases List.mem_cons.mp m with e | m
      · exact .inl (by rw [e]; exact List.mem_cons_of_mem _ (List.mem_cons_self ..))
      rcases List.mem_append.mp m with m | m
      · exact .inl (mem_as m)
      · rw [List.mem_singleton.mp m]
        exact .inr nx
    · exact (e1.kept (fp := i :: l :: as)).trans (kl.mono fun b m => by rw [List.mem_singleton.mp m]; exact List.mem_cons_of_mem _ (List.mem_cons_self ..))
    · exact (tabs_put (o.tabs_.ext e1) (e1 _ _ o.inv.lst)).ext (Ext.new hp)
    · exact (e1.kept (fp := [])).back p hp1
    · rw [upd_same, len]
      rfl
  · refine o.bad .out ?_
    rw [st1]
    unfold Kp394.step
    dsimp only
    rw [if_pos val]
    rfl
theorem ok_remove (F : Fun K "remove_hide" "remove_hide" s_remove_hide f fd) (T : Txt K mg A) (D : KR.Mth P w K mg base (L2.CX P w) 1 A.inv "check_number" (spCheckNumber A)) : FnOk P w K mg base (L2.CX P w) 7 f fd ["inventory", "numbers"] (spOp A K tabs 2) := by
  refine F.okX sc_remove_hide (fun vs H Q E h => spOp_len h) (fun cdv Ar outer s H vs Q E hr h => ⟨_, pss_cons (ps_expr (KR.pe_mth (pv 0) D hr (passes_call (takes_of rfl rfl rfl rfl) fun _ _ _ _ z => z) (pa_cons (pe_ix ix_list (pv 1) pe_int (fun _ _ => rfl)) pa_nil)))
    (pss_cons (ps_expr (pe_bm PySem.F.plainAttrs_list PySem.F.slot_list_pop PySem.F.type_list_pop mt_popAt (pe_fld (pv 0) rfl) (pa_cons (pe_ix ix_list (pv 1) pe_int (fun _ _ => rfl)) pa_nil)))
    (pss_one (ps_ret (pe_lst (pa_cons (pe_callB call_len_seq (by rfl) T.len PySem.boot_len (pa_cons (pe_fld (pv 0) rfl) pa_nil)) pa_nil))))), ?_⟩)
  obtain ⟨i, l, n, as, v, ms, rfl, o⟩ := h
  obtain ⟨k, rfl⟩ := sh1 (.inl rfl) o.ok
  obtain ⟨dx, ei⟩ := o.inv.obj
  have len : (as.map V.ref).length = v.hides.length := by rw [List.length_map, o.inv.held.len]
  have il := o.inv.ne_il
  refine ⟨_, rfl, i, dx, _, rfl, ei, inv_check_number v l, _, rfl, n, _, _, _, rfl, rfl, o.seq, atI_nat (j := 0) rfl, i, l, as, v, k, rfl, o.inv, fun c => ?_, fun c => ?_⟩
  · have few := o.inv.few
    have lt : k < as.length := by
      rw [o.inv.held.len]
      exact c
    have ea : (as.map V.ref)[k]? = some (V.ref as[k]) := by rw [List.getElem?_map, List.getElem?_eq_getElem lt]; rfl
    refine ⟨_, rfl, i, _, dx, _, _, rfl, ei, T.inv, T.invH, inv_hides v l, .inl ⟨rfl, _, SqL.of o.inv.lst⟩, ?_⟩
    refine ⟨_, rfl, n, _, _, _, rfl, rfl, o.seq, atI_nat (j := 0) rfl, l, _, _, k, _, rfl, rfl, o.inv.lst, by omega, by omega, ?_, ea, ?_⟩
    · have z := seqIndex_of (k := ((k : Nat) : Int)) (n := (as.map V.ref).length) (by omega) (by omega)
      rw [Int.toNat_natCast] at z
      exact z
    refine ⟨_, rfl, i, _, dx, _, _, rfl, (upd_ne il).trans ei, T.inv, T.invH, inv_hides v l, l, _, rfl, .inl (.inl (.inl upd_same)), (by show 1 ≤ sizeLine; decide), fun p hp => ?_⟩
    have hp1 : H p = none := upd_back hp
    have lp : l ≠ p := ne_of_none o.inv.lst hp1
    have ip : i ≠ p := ne_of_none ei hp1
    have kl : Kept [l] H (upd (upd H l (.lst ((as.map V.ref).eraseIdx k))) p (.lst [V.int ((((as.map V.ref).eraseIdx k).length : Nat) : Int)])) := Kept.put.trans (Kept.new hp)
    have sub : ∀ b ∈ as.eraseIdx k, b ∈ as := fun b m => (List.eraseIdx_sublist ..).subset m
    refine o.yes { v with hides := v.hides.eraseIdx k } [((v.hides.length - 1 : Nat) : Int)] _ l (as.eraseIdx k) p ?_ ⟨⟨dx, ?_⟩, ?_, ?_, ?_, ?_, o.inv.lot⟩ ?_ ?_ ?_ ?_ hp1 ?_
    · rw [st2]
      unfold Kp394.step
      dsimp only
      rw [if_pos (show Kp394.isHide v k = true from decide_eq_true c)]
      rfl
    · rw [upd_ne ip, upd_ne il]
      exact ei
    · rw [upd_ne lp, upd_same]
      congr 2
      rw [List.eraseIdx_eq_take_drop_succ, List.eraseIdx_eq_take_drop_succ, List.map_append, List.map_take, List.map_drop]
    · refine (o.inv.held.kept kl fun b m z => ?_).less k
      rw [List.mem_singleton.mp z] at m
      exact o.inv.l_as m
    · show (v.hides.eraseIdx k).length ≤ 12
      rw [List.length_eraseIdx]
      split <;> omega
    · exact fun h m => o.inv.big h ((List.eraseIdx_sublist ..).subset m)
    · exact fun m => o.sep (sub i m)
    · intro b m
      rcases List.mem_cons.mp m with e | m
      · exact .inl (by rw [e]; exact List.mem_cons_self ..)
      rcases List.mem_cons.mp m with e | m
      · exact .inl (by rw [e]; exact List.mem_cons_of_mem _ (List.mem_cons_self ..))
      · exact .inl (mem_as (sub b m))
    · exact kl.mono fun b m => by rw [List.mem_singleton.mp m]; exact List.mem_cons_of_mem _ (List.mem_cons_self ..)
    · exact (tabs_put o.tabs_ o.inv.lst).ext (Ext.new hp)
    · rw [upd_same, one_int, List.length_eraseIdx, if_pos (by rw [len]; exact c), len]
  · refine o.bad .such ?_
    rw [st2]
    unfold Kp394.step
    dsimp only
    rw [if_neg (show ¬ Kp394.isHide v k = true by unfold Kp394.isHide; rw [decide_eq_true_eq]; exact c)]
    rfl
theorem ok_get (F : Fun K "get_hide" "get_hide" s_get_hide f fd) (T : Txt K mg A) (D : KR.Mth P w K mg base (L2.CX P w) 2 A.inv "hide_at" (spHideAt A)) : FnOk P w K mg base (L2.CX P w) 7 f fd ["inventory", "numbers"] (spOp A K tabs 3) := by
  refine F.okX sc_get_hide (fun vs H Q E h => spOp_len h) (fun cdv Ar outer s H vs Q E hr h => ⟨_, pss_cons (ps_set (i := 2) sc_get_hide.nd rfl (.inl rfl) (KR.pe_mth (pv 0) D hr (passes_call (takes_of rfl rfl rfl rfl) fun _ _ _ _ z => z) (pa_cons (pe_ix ix_list (pv 1) pe_int (fun _ _ => rfl)) pa_nil)))
    (pss_one (ps_ret (pe_lst (pa_cons (pe_fld (pv 2) rfl) (pa_cons (pe_fld (pv 2) rfl) (pa_cons (pe_fld (pv 2) rfl) pa_nil)))))), ?_⟩)
  obtain ⟨i, l, n, as, v, ms, rfl, o⟩ := h
  obtain ⟨k, rfl⟩ := sh1 (.inr (.inl rfl)) o.ok
  obtain ⟨dx, ei⟩ := o.inv.obj
  refine ⟨_, rfl, i, dx, _, rfl, ei, inv_hide_at v l, _, rfl, n, _, _, _, rfl, rfl, o.seq, atI_nat (j := 0) rfl, i, l, as, v, k, rfl, o.inv, fun a h ea eh ⟨dh, ha⟩ => ?_, fun c => ?_⟩
  · refine ⟨_, rfl, a, _, dh, _, _, rfl, ha, T.hide, T.hideK, hide_kind _, _, rfl, a, _, dh, _, _, rfl, ha, T.hide, T.hideT, hide_thickness _, _, rfl, a, _, dh, _, _, rfl, ha, T.hide, T.hideA, hide_area _, (by show 3 ≤ sizeLine; decide), fun p hp => ?_⟩
    refine o.new (ans := [((h.kind : Nat) : Int), (h.thickness : Nat), (h.area : Nat)]) ?_ (Kept.refl _ _) o.tabs_ hp rfl
    have c : k < v.hides.length := (List.getElem?_eq_some_iff.mp eh).1
    rw [st3]
    unfold Kp394.step
    dsimp only
    rw [if_pos (show Kp394.isHide v k = true from decide_eq_true c)]
    have e : Kp394.hideAt v k = h := by
      unfold Kp394.hideAt
      rw [List.getD_eq_getElem?_getD, eh]
      rfl
    rw [e]
    rfl
  · refine o.bad .such ?_
    rw [st3]
    unfold Kp394.step
    dsimp only
    rw [if_neg (show ¬ Kp394.isHide v k = true by unfold Kp394.isHide; rw [decide_eq_true_eq]; exact c)]
    rfl
theorem ok_set (F : Fun K "set_limits" "set_limits" s_set_limits f fd) (T : Txt K mg A) (D : KR.Def P w K mg base (L2.CX P w) 1 "check_limits" (spLimits A)) : FnOk P w K mg base (L2.CX P w) 7 f fd ["inventory", "numbers"] (spOp A K tabs 4) := by
  refine F.okX sc_set_limits (fun vs H Q E h => spOp_len h) (fun cdv Ar outer s H vs Q E hr h => ⟨_, pss_cons (ps_expr (KR.pe_def D hr rfl (passes_call (takes_of rfl rfl rfl rfl) fun _ _ _ _ z => z) (pa_cons (pe_ix ix_list (pv 1) pe_int (fun _ _ => rfl)) (pa_cons (pe_ix ix_list (pv 1) pe_int (fun _ _ => rfl)) pa_nil))))
    (pss_cons (ps_set (i := 2) sc_set_limits.nd rfl (.inl rfl) (pe_lst (pa_cons (pe_fld (pv 0) rfl) (pa_cons (pe_fld (pv 0) rfl) pa_nil))))
    (pss_cons (ps_fld (pv 0) (pe_ix ix_list (pv 1) pe_int (fun _ _ => rfl)) rfl)
    (pss_cons (ps_fld (pv 0) (pe_ix ix_list (pv 1) pe_int (fun _ _ => rfl)) rfl)
    (pss_one (ps_ret (pe_op op_cat (pe_lst (pa_cons pe_int pa_nil)) (pv 2))))))), ?_⟩)
  obtain ⟨i, l, n, as, v, ms, rfl, o⟩ := h
  obtain ⟨t, m, rfl⟩ := sh2 (.inr (.inl rfl)) o.ok
  obtain ⟨dx, ei⟩ := o.inv.obj
  have il := o.inv.ne_il
  refine ⟨_, rfl, n, _, _, _, rfl, rfl, o.seq, atI_nat (j := 0) rfl, _, rfl, n, _, _, _, rfl, rfl, o.seq, atI_nat (j := 1) rfl, t, m, rfl, fun val => ?_, fun val => ?_⟩
  · refine ⟨_, rfl, i, _, dx, _, _, rfl, ei, T.inv, T.invT, inv_tolerance v l, _, rfl, i, _, dx, _, _, rfl, ei, T.inv, T.invL, inv_lot_size v l, (by show 2 ≤ sizeLine; decide), fun q hq => ?_⟩
    have eq_ := Ext.new (o := .lst [V.int ((v.tolerance : Nat) : Int), V.int ((v.lotSize : Nat) : Int)]) hq
    have qi : q ≠ i := fun z => by
      rw [z, ei] at hq
      cases hq
    have ni : n ≠ i := fun z => o.out (by rw [z]; exact List.mem_cons_self ..)
    refine ⟨_, rfl, n, _, _, _, rfl, rfl, eq_.seq o.seq, atI_nat (j := 0) rfl, _, rfl, i, _, dx, _, rfl, eq_ _ _ ei, T.inv, T.invT, (by show 3 < 1000; decide), ?_⟩
    have k1 : Kept [i] H (upd (upd H q (.lst [V.int ((v.tolerance : Nat) : Int), V.int ((v.lotSize : Nat) : Int)])) i (.ins A.inv dx (putF "tolerance" (.int (t : Nat)) (invF v l)))) := (Kept.new hq).trans Kept.put
    refine ⟨_, rfl, n, _, _, _, rfl, rfl, k1.seq o.seq (fun z => ni (List.mem_singleton.mp z)), atI_nat (j := 1) rfl, _, rfl, i, _, dx, _, rfl, upd_same, T.inv, T.invL, (by show 3 < 1000; decide), ?_⟩
    rw [upd_upd, inv_limits]
    have k2 : Kept [i] H (upd (upd H q (.lst [V.int ((v.tolerance : Nat) : Int), V.int ((v.lotSize : Nat) : Int)])) i (.ins A.inv dx (invF { v with tolerance := t, lotSize := m } l))) := (Kept.new hq).trans Kept.put
    refine ⟨(by show 1 ≤ sizeLine; decide), fun r hr' => ?_⟩
    have qr : q ≠ r := ne_of_none ((upd_ne qi).trans upd_same) hr'
    refine ⟨_, rfl, r, q, _, _, rfl, rfl, upd_same, (upd_ne qr).trans ((upd_ne qi).trans upd_same), (by show 1 + 2 ≤ sizeLine; decide), fun p hp => ?_⟩
    have hr0 := k2.back r hr'
    have hp0 := k2.back p (upd_back hp)
    have k3 : Kept [i] H (upd (upd (upd (upd H q (.lst [V.int ((v.tolerance : Nat) : Int), V.int ((v.lotSize : Nat) : Int)])) i (.ins A.inv dx (invF { v with tolerance := t, lotSize := m } l))) r (.lst [V.int 0])) p (.lst ([V.int 0] ++ [V.int ((v.tolerance : Nat) : Int), V.int ((v.lotSize : Nat) : Int)]))) :=
      (k2.trans (Kept.new hr')).trans (Kept.new hp)
    have ir : i ≠ r := ne_of_none ei hr0
    have ip : i ≠ p := ne_of_none ei hp0
    refine o.yes { v with tolerance := t, lotSize := m } [0, ((v.tolerance : Nat) : Int), ((v.lotSize : Nat) : Int)] _ l as p ?_ ⟨⟨dx, ?_⟩, ?_, ?_, o.inv.few, o.inv.big, ?_⟩ o.sep (fun b mm => .inl mm) (k3.mono fun b mm => by rw [List.mem_singleton.mp mm]; exact List.mem_cons_self ..) ?_ hp0 upd_same
    · rw [st4]
      unfold Kp394.step
      dsimp only
      rw [if_pos val]
      rfl
    · rw [upd_ne ip, upd_ne ir]
      exact upd_same
    · exact k3.at_ _ _ o.inv.lst (fun z => il (List.mem_singleton.mp z).symm) lst_tbl
    · exact o.inv.held.kept k3 fun b mm z => by
        rw [List.mem_singleton.mp z] at mm
        exact o.sep mm
    · unfold Kp394.validLimits at val
      simp only [Bool.and_eq_true, decide_eq_true_eq] at val
      exact val.1.2
    · exact ((tabs_ins (o.tabs_.ext eq_) (eq_ _ _ ei)).ext (Ext.new hr')).ext (Ext.new hp)
  · refine o.bad .out ?_
    rw [st4]
    unfold Kp394.step
    dsimp only
    rw [if_neg (by rw [val]; exact Bool.false_ne_true)]
    rfl
theorem ok_thin (F : Fun K "thin_hide" "thin_hide" s_thin_hide f fd) (T : Txt K mg A) (D : KR.Mth P w K mg base (L2.CX P w) 2 A.inv "hide_at" (spHideAt A)) : FnOk P w K mg base (L2.CX P w) 7 f fd ["inventory", "numbers"] (spOp A K tabs 5) := by
  refine F.okX sc_thin_hide (fun vs H Q E h => spOp_len h) (fun cdv Ar outer s H vs Q E hr h => ⟨_, pss_cons (ps_set (i := 2) sc_thin_hide.nd rfl (.inl rfl) (KR.pe_mth (pv 0) D hr (passes_call (takes_of rfl rfl rfl rfl) fun _ _ _ _ z => z) (pa_cons (pe_ix ix_list (pv 1) pe_int (fun _ _ => rfl)) pa_nil)))
    (pss_cons (ps_set (i := 3) sc_thin_hide.nd rfl (.inl rfl) (pe_fld (pv 2) rfl))
    (pss_cons (ps_if (PW.pt (pw_or (pt_cmpR op_lt (pe_ix ix_list (pv 1) pe_int (fun _ _ => rfl)) pe_int (nomark _)) (pw_or1 (pt_cmpR op_ge (pe_ix ix_list (pv 1) pe_int (fun _ _ => rfl)) (pv 3) (nomark _))))) (pss_one (KR.ps_out T.out rfl (takes_of rfl rfl rfl rfl) rfl)) pss_nil)
    (pss_cons (ps_fld (pv 2) (pe_ix ix_list (pv 1) pe_int (fun _ _ => rfl)) rfl)
    (pss_one (ps_ret (pe_lst (pa_cons (pv 3) pa_nil))))))), ?_⟩)
  obtain ⟨i, l, n, as, v, ms, rfl, o⟩ := h
  obtain ⟨k, t, rfl⟩ := sh2 (.inr (.inr (.inl rfl))) o.ok
  obtain ⟨dx, ei⟩ := o.inv.obj
  refine ⟨_, rfl, i, dx, _, rfl, ei, inv_hide_at v l, _, rfl, n, _, _, _, rfl, rfl, o.seq, atI_nat (j := 0) rfl, i, l, as, v, k, rfl, o.inv, fun a h ea eh ⟨dh, ha⟩ => ?_, fun c => ?_⟩
  · have c : k < v.hides.length := (List.getElem?_eq_some_iff.mp eh).1
    have eH : Kp394.hideAt v k = h := by
      unfold Kp394.hideAt
      rw [List.getD_eq_getElem?_getD, eh]
      rfl
    have isH : ¬ Kp394.isHide v k = false := by
      rw [show Kp394.isHide v k = true from decide_eq_true c]
      exact Bool.noConfusion
    have bad : (t < 1 ∨ h.thickness ≤ t) → E (.ref A.out) none H := fun z => o.bad .out (by
      rw [st5]
      unfold Kp394.step
      dsimp only
      rw [if_neg isH, eH, if_pos z]
      rfl)
    refine ⟨_, rfl, a, _, dh, _, _, rfl, ha, T.hide, T.hideT, hide_thickness _, ?_⟩
    refine ⟨_, rfl, n, _, _, _, rfl, rfl, o.seq, atI_nat (j := 1) rfl, _, _, rfl, rfl, _, rfl, ite2 (fun c1 => ?_) (fun c1 => ?_)⟩
    · have c1 := of_decide_eq_true c1
      exact iteT (bad (.inl (by omega)))
    have c1 := of_decide_eq_false (Bool.not_eq_true _ ▸ c1)
    refine ⟨_, rfl, n, _, _, _, rfl, rfl, o.seq, atI_nat (j := 1) rfl, _, rfl, _, _, rfl, rfl, _, rfl, ite2 (fun c2 => ?_) (fun c2 => ?_)⟩
    · have c2 := of_decide_eq_true c2
      exact bad (.inr (by omega))
    have c2 := of_decide_eq_false (Bool.not_eq_true _ ▸ c2)
    have am : a ∈ as := List.mem_of_getElem? ea
    have ai : i ≠ a := fun z => o.sep (by rw [z]; exact am)
    have al : l ≠ a := fun z => o.inv.l_as (by rw [z]; exact am)
    refine ⟨_, rfl, n, _, _, _, rfl, rfl, o.seq, atI_nat (j := 1) rfl, _, rfl, a, _, dh, _, rfl, ha, T.hide, T.hideT, (by show 3 < 1000; decide), ?_⟩
    rw [hide_thin]
    refine ⟨_, rfl, (by show 1 ≤ sizeLine; decide), fun p hp => ?_⟩
    have hp0 : H p = none := upd_back hp
    have ap : a ≠ p := ne_of_none ha hp0
    have k1 : Kept [a] H (upd H a (.ins A.hide dh (hideF { h with thickness := t }))) := Kept.put
    have k2 : Kept [a] H (upd (upd H a (.ins A.hide dh (hideF { h with thickness := t }))) p (.lst [V.int ((h.thickness : Nat) : Int)])) := k1.trans (Kept.new hp)
    refine o.yes { v with hides := v.hides.set k { h with thickness := t } } [((h.thickness : Nat) : Int)] _ l as p ?_ ⟨⟨dx, ?_⟩, ?_, ?_, ?_, ?_, o.inv.lot⟩ o.sep (fun b mm => .inl mm) (k2.mono fun b mm => by rw [List.mem_singleton.mp mm]; exact mem_as am) ?_ hp0 upd_same
    · rw [st5]
      unfold Kp394.step
      dsimp only
      rw [if_neg isH, eH, if_neg (by omega)]
      rfl
    · exact k2.at_ _ _ ei (fun z => ai (List.mem_singleton.mp z)) ins_tbl
    · exact k2.at_ _ _ o.inv.lst (fun z => al (List.mem_singleton.mp z)) lst_tbl
    · exact o.inv.held.set ea ⟨dh, (upd_ne ap).trans upd_same⟩ k2
    · show (v.hides.set k { h with thickness := t }).length ≤ 12
      rw [List.length_set]
      exact o.inv.few
    · intro g m
      rcases List.mem_or_eq_of_mem_set m with m | e
      · exact o.inv.big g m
      · rw [e]
        exact o.inv.big h (List.mem_of_getElem? eh)
    · exact (tabs_ins o.tabs_ ha).ext (Ext.new hp)
  · refine o.bad .such ?_
    rw [st5]
    unfold Kp394.step
    dsimp only
    rw [if_pos (show Kp394.isHide v k = false by unfold Kp394.isHide; exact decide_eq_false c)]
    rfl
end
end KX
/-! # Operations that ask: the order, what matches, lots -/
namespace KX
open PySem PySem.Spec PyProof.Rows L2
open Kp394 (Hide Inventory)

/-- the inventory stays; a call of step as one answer -/
theorem row_of {v : Inventory} {c : Kp394.Call} {x : Kp394.Ans} (h : Kp394.step (some v) c = (some v, x)) : rowOf (Kp394.step (some v) c) = (some v, x.num :: x.nums) := by
  rw [h]
  rfl
theorem count_row (c : Nat) (ms : List Nat) : [V.int (c : Nat)] ++ nums ms = (((c : Nat) : Int) :: asInts ms).map V.int := by
  rw [nums_asInts]
  rfl
theorem ord_few {A : Ad} {H : Hp} {i l : Addr} {as : List Addr} {v : Inventory} (x : InvAt A H i l as v) : (nums (ordOf v.hides)).length ≤ 12 := by
  rw [nums_len, ordOf_len]
  exact x.few
/-- these hides' lots, by the inventory's limits -/
def spLotsOf (A : Ad) (T : List NdefX.NTab) : Sp := fun vs H Q _ => ∃ (i dx l0 l : Addr) (v : Inventory) (as : List Addr) (hs : List Hide), vs = [.ref i, .ref l] ∧ H i = some (.ins A.inv dx (invF v l0)) ∧ H l = some (.lst (as.map V.ref)) ∧ Held A.hide H as hs ∧ hs.length ≤ 13 ∧ NdefX.TabsN T H ∧
  ∀ (H' : Hp) (L : Addr) (ps : List Addr), Kept [] H H' → NdefX.TabsN T H' → H L = none → H' L = some (.lst (ps.map V.ref)) → Boxes H' ps (lotsOf hs v.tolerance v.lotSize) → (∀ p ∈ ps, H p = none) → L ∉ ps → Q (.ref L) H'
theorem fewest_is (v : Inventory) : Kp394.fewestLots v = (lotsOf v.hides v.tolerance v.lotSize).length := rfl
theorem tame_fold (v : Inventory) {n : Nat} : ∀ (l : List Nat) (i : Nat) (ls : List (List Nat)), (∀ j ∈ l, j < n) → Tame n i ls → Tame n (i + l.length) (l.foldl (KM.lotStep v) ls)
  | [], _, _, _, h => h
  | j :: r, i, ls, hl, h => by
    rw [List.foldl_cons, List.length_cons, show i + (r.length + 1) = i + 1 + r.length by omega]
    exact tame_fold v r (i + 1) _ (fun k hk => hl k (List.mem_cons_of_mem _ hk)) (tame_step h (hl j (List.mem_cons_self ..)))
theorem tame_lots (hs : List Hide) (t n : Nat) : Tame hs.length hs.length (lotsOf hs t n) := by
  rw [lotsOf_fold]
  have z := tame_fold ⟨hs, t, n⟩ (ordOf hs) 0 [] (fun j m => ordOf_mem.mp m) ⟨Nat.le_refl _, fun x m => absurd m List.not_mem_nil, fun x m => absurd m List.not_mem_nil⟩
  rw [ordOf_len, Nat.zero_add] at z
  exact z
section
variable {P : Program} {w : World} {K : PySem.W.Frag} {mg : Str → Option Value} {base : Heap} {A : Ad} {f : Addr} {fd : FuncData} {tabs : List NdefX.NTab}
theorem ok_lotsOf (F : Fun K "lots_of" "lots_of" s_lots_of f fd) (T : Txt K mg A) (D : KR.Def P w K mg base L2.CX0 5 "lots_in_order" (spLots A tabs)) : FnOk P w K mg base L2.CX0 6 f fd ["inventory", "hides"] (spLotsOf A tabs) := by
  refine F.ok sc_lots_of (fun vs H Q E h => ?_) (fun cdv Ar outer s H vs Q E hr h => ⟨_, pss_one (ps_ret (KR.pe_def D hr rfl pass0 (pa_cons (pv 1) (pa_cons (pe_fld (pv 0) rfl) (pa_cons (pe_fld (pv 0) rfl) pa_nil))))), ?_⟩)
  · obtain ⟨i, dx, l0, l, v, as, hs, rfl, _⟩ := h
    rfl
  · obtain ⟨i, dx, l0, l, v, as, hs, rfl, ei, hl, held, few, tb, q⟩ := h
    exact ⟨_, rfl, _, rfl, i, _, dx, _, _, rfl, ei, T.inv, T.invT, inv_tolerance v l0, _, rfl, i, _, dx, _, _, rfl, ei, T.inv, T.invL, inv_lot_size v l0, l, as, hs, v.tolerance, v.lotSize, rfl, hl, held, few, tb, q⟩
theorem ok_hideorder (F : Fun K "hide_order" "hide_order" s_hide_order f fd) (T : Txt K mg A) (D : KR.Def P w K mg base L2.CX0 4 "numbers_in_order" (spOrder A tabs)) : FnOk P w K mg base (L2.CX P w) 7 f fd ["inventory", "numbers"] (spOp A K tabs 6) := by
  refine F.okX sc_hide_order (fun vs H Q E h => spOp_len h) (fun cdv Ar outer s H vs Q E hr h => ⟨_, pss_cons (ps_set (i := 2) sc_hide_order.nd rfl (.inl rfl) (KR.pe_def D hr rfl pass0 (pa_cons (pe_fld (pv 0) rfl) pa_nil)))
    (pss_one (ps_ret (pe_op op_cat (pe_lst (pa_cons (pe_callB call_len_seq (by rfl) T.len PySem.boot_len (pa_cons (pv 2) pa_nil)) pa_nil)) (pv 2)))), ?_⟩)
  obtain ⟨i, l, n, as, v, ms, rfl, o⟩ := h
  obtain rfl := sh0 (.inl rfl) o.ok
  obtain ⟨dx, ei⟩ := o.inv.obj
  have few := o.inv.few
  refine ⟨_, rfl, i, _, dx, _, _, rfl, ei, T.inv, T.invH, inv_hides v l, l, as, v.hides, rfl, o.inv.lst, o.inv.held, by omega, o.tabs_, fun H1 p k1 tb1 np hp => ?_⟩
  refine ⟨_, rfl, p, _, rfl, .inl (SqL.of hp), (by show 1 ≤ sizeLine; decide), fun q hq => ?_⟩
  have pq : p ≠ q := ne_of_none hp hq
  refine ⟨_, rfl, q, p, _, _, rfl, rfl, upd_same, (upd_ne pq).trans hp, Nat.le_of_lt (small1000 (by rw [nums_len, ordOf_len]; simp; omega)), fun r hr => ?_⟩
  refine o.new (ans := ((v.hides.length : Nat) : Int) :: asInts (ordOf v.hides)) ?_ (k1.trans (Kept.new hq)) (tb1.ext (Ext.new hq)) hr ?_
  · rw [st6]
    unfold Kp394.step
    dsimp only
    rw [ordOf_is]
    unfold Kp394.listResult Kp394.natResult rowOf
    rw [ordOf_len]
    rfl
  · rw [nums_len, ordOf_len]
    exact count_row _ _
theorem ok_arecomp (F : Fun K "are_compatible" "are_compatible" s_are_compatible f fd) (T : Txt K mg A) (D : KR.Mth P w K mg base (L2.CX P w) 2 A.inv "hide_at" (spHideAt A)) (D2 : KR.Def P w K mg base L2.CX0 1 "hides_match" (spMatch A)) : FnOk P w K mg base (L2.CX P w) 7 f fd ["inventory", "numbers"] (spOp A K tabs 7) := by
  refine F.okX sc_are_compatible (fun vs H Q E h => spOp_len h) (fun cdv Ar outer s H vs Q E hr h => ⟨_, pss_cons (ps_set (i := 2) sc_are_compatible.nd rfl (.inl rfl) (KR.pe_mth (pv 0) D hr (passes_call (takes_of rfl rfl rfl rfl) fun _ _ _ _ z => z) (pa_cons (pe_ix ix_list (pv 1) pe_int (fun _ _ => rfl)) pa_nil)))
    (pss_cons (ps_set (i := 3) sc_are_compatible.nd rfl (.inl rfl) (KR.pe_mth (pv 0) D hr (passes_call (takes_of rfl rfl rfl rfl) fun _ _ _ _ z => z) (pa_cons (pe_ix ix_list (pv 1) pe_int (fun _ _ => rfl)) pa_nil)))
    (pss_one (ps_ret (pe_lst (pa_cons (pe_ifExp (pt_val (KR.pe_def D2 hr rfl pass0 (pa_cons (pv 2) (pa_cons (pv 3) (pa_cons (pe_fld (pv 0) rfl) pa_nil))))) pe_int pe_int) pa_nil))))), ?_⟩)
  obtain ⟨i, l, n, as, v, ms, rfl, o⟩ := h
  obtain ⟨a, b, rfl⟩ := sh2 (.inr (.inr (.inr rfl))) o.ok
  obtain ⟨dx, ei⟩ := o.inv.obj
  have bad : ¬ (Kp394.isHide v a && Kp394.isHide v b) = true → E (.ref A.such) none H := fun z => o.bad .such (by
    rw [st7]
    unfold Kp394.step
    dsimp only
    rw [if_neg z]
    rfl)
  have at_ : ∀ {k : Nat} {h : Hide}, v.hides[k]? = some h → Kp394.isHide v k = true ∧ Kp394.hideAt v k = h := fun {k h} e => by
    refine ⟨decide_eq_true (List.getElem?_eq_some_iff.mp e).1, ?_⟩
    unfold Kp394.hideAt
    rw [List.getD_eq_getElem?_getD, e]
    rfl
  have no : ∀ {k : Nat}, ¬ k < v.hides.length → Kp394.isHide v k = false := fun c => decide_eq_false c
  refine ⟨_, rfl, i, dx, _, rfl, ei, inv_hide_at v l, _, rfl, n, _, _, _, rfl, rfl, o.seq, atI_nat (j := 0) rfl, i, l, as, v, a, rfl, o.inv, fun p g ep eg ⟨dp, hp⟩ => ?_, fun c => bad (by rw [no c]; exact Bool.false_ne_true)⟩
  refine ⟨_, rfl, i, dx, _, rfl, ei, inv_hide_at v l, _, rfl, n, _, _, _, rfl, rfl, o.seq, atI_nat (j := 1) rfl, i, l, as, v, b, rfl, o.inv, fun q h eq_ eh ⟨dq, hq⟩ => ?_, fun c => bad (by rw [no c, Bool.and_false]; exact Bool.false_ne_true)⟩
  obtain ⟨i1, h1⟩ := at_ eg
  obtain ⟨i2, h2⟩ := at_ eh
  have st : stepN 7 [a, b] v = (some v, [if matchB g h v.tolerance = true then (1 : Int) else 0]) := by
    rw [st7]
    unfold Kp394.step
    dsimp only
    rw [i1, i2, if_pos (show (true && true) = true from rfl), match_is, h1, h2]
    rfl
  refine ⟨_, rfl, _, rfl, _, rfl, i, _, dx, _, _, rfl, ei, T.inv, T.invT, inv_tolerance v l, p, q, g, h, v.tolerance, rfl, ⟨dp, hp⟩, ⟨dq, hq⟩, _, rfl, ite2 (fun c => ?_) (fun c => ?_)⟩
  · rw [if_pos c] at st
    exact ⟨(by show 1 ≤ sizeLine; decide), fun r hr => o.new st (Kept.refl _ _) o.tabs_ hr rfl⟩
  · rw [if_neg c] at st
    exact ⟨(by show 1 ≤ sizeLine; decide), fun r hr => o.new st (Kept.refl _ _) o.tabs_ hr rfl⟩
theorem ok_islot (F : Fun K "is_lot" "is_lot" s_is_lot f fd) (T : Txt K mg A) (D : KR.Mth P w K mg base (L2.CX P w) 2 A.inv "different_hides" (spDifferent A K)) (D2 : KR.Def P w K mg base L2.CX0 3 "make_lot" (spMake A K)) : FnOk P w K mg base (L2.CX P w) 7 f fd ["inventory", "numbers"] (spOp A K tabs 8) := by
  refine F.okX sc_is_lot (fun vs H Q E h => spOp_len h) (fun cdv Ar outer s H vs Q E hr h => ⟨_, pss_cons (ps_set (i := 2) sc_is_lot.nd rfl (.inl rfl) (KR.pe_mth (pv 0) D hr (passes_call (takes_of rfl rfl rfl rfl) fun _ _ _ _ z => z) (pa_cons (pv 1) pa_nil)))
    (pss_one (ps_ret (pe_lst (pa_cons (pe_ifExp (pt_val (KR.pe_def D2 hr rfl pass0 (pa_cons (pv 2) (pa_cons (pe_fld (pv 0) rfl) (pa_cons (pe_fld (pv 0) rfl) pa_nil))))) pe_int pe_int) pa_nil)))), ?_⟩)
  obtain ⟨i, l, n, as, v, ms, rfl, o⟩ := h
  have few := shn (.inl rfl) o.ok
  obtain ⟨dx, ei⟩ := o.inv.obj
  refine ⟨_, rfl, i, dx, _, rfl, ei, inv_different_hides v l, _, rfl, i, l, n, as, v, ms, rfl, o.inv, o.seq, few, fun val D H1 nD hD e1 => ?_, fun val => ?_⟩
  · have line := (o.inv.held.line (valid_iff.mp val).1).ext e1
    have st : stepN 8 ms v = (some v, [if lotB (ms.map fun i => v.hides.getD i ⟨0, 0, 0⟩) v.tolerance v.lotSize = true then (1 : Int) else 0]) := by
      rw [st8]
      unfold Kp394.step
      dsimp only
      rw [if_pos val, lot_is]
      rfl
    have nD1 : H D = none := nD
    refine ⟨_, rfl, _, rfl, i, _, dx, _, _, rfl, e1 _ _ ei, T.inv, T.invT, inv_tolerance v l, _, rfl, i, _, dx, _, _, rfl, e1 _ _ ei, T.inv, T.invL, inv_lot_size v l, D, _, _, v.tolerance, v.lotSize, rfl, SqL.of hD, line, fun H2 e2 => ⟨_, rfl, ite2 (fun c => ?_) (fun c => ?_)⟩⟩
    · rw [if_pos c] at st
      exact ⟨(by show 1 ≤ sizeLine; decide), fun r hr => o.new st (e1.trans e2).kept (o.tabs_.ext (e1.trans e2)) hr rfl⟩
    · rw [if_neg c] at st
      exact ⟨(by show 1 ≤ sizeLine; decide), fun r hr => o.new st (e1.trans e2).kept (o.tabs_.ext (e1.trans e2)) hr rfl⟩
  · refine o.bad .out ?_
    rw [st8]
    unfold Kp394.step
    dsimp only
    rw [if_neg (by rw [val]; exact Bool.false_ne_true)]
    rfl
theorem ok_fewest (F : Fun K "fewest_lots" "fewest_lots" s_fewest_lots f fd) (T : Txt K mg A) (D : KR.Def P w K mg base L2.CX0 6 "lots_of" (spLotsOf A tabs)) : FnOk P w K mg base (L2.CX P w) 7 f fd ["inventory", "numbers"] (spOp A K tabs 9) := by
  refine F.okX sc_fewest_lots (fun vs H Q E h => spOp_len h) (fun cdv Ar outer s H vs Q E hr h => ⟨_, pss_one (ps_ret (pe_lst (pa_cons (pe_callB call_len_seq (by rfl) T.len PySem.boot_len (pa_cons (KR.pe_def D hr rfl pass0 (pa_cons (pv 0) (pa_cons (pe_fld (pv 0) rfl) pa_nil))) pa_nil)) pa_nil))), ?_⟩)
  obtain ⟨i, l, n, as, v, ms, rfl, o⟩ := h
  obtain rfl := sh0 (.inr (.inl rfl)) o.ok
  obtain ⟨dx, ei⟩ := o.inv.obj
  have few := o.inv.few
  refine ⟨_, rfl, _, rfl, i, _, dx, _, _, rfl, ei, T.inv, T.invH, inv_hides v l, i, dx, l, l, v, as, v.hides, rfl, ei, o.inv.lst, o.inv.held, by omega, o.tabs_, fun H1 L ps k1 tb1 nL hL bx _ _ => ?_⟩
  refine ⟨L, _, rfl, .inl (SqL.of hL), (by show 1 ≤ sizeLine; decide), fun p hp => ?_⟩
  refine o.new (ans := [((lotsOf v.hides v.tolerance v.lotSize).length : Nat)]) ?_ k1 tb1 hp ?_
  · rw [st9]
    rfl
  · rw [List.length_map, bx.len]
    rfl
end
end KX
/-! # Operations that ask: the lots, the incompatible hides, the largest lot -/
namespace KX
open PySem PySem.Spec PyProof.Rows L2
open Kp394 (Hide Inventory)

def flatLots (ls : List (List Nat)) : List Nat := ls.flatMap fun l => l.length :: l
theorem flat_more {ls : List (List Nat)} {i : Nat} {x : List Nat} (e : ls[i]? = some x) : flatLots (ls.take (i + 1)) = flatLots (ls.take i) ++ [x.length] ++ x := by
  unfold flatLots
  rw [List.take_add_one, e, List.flatMap_append, List.append_assoc]
  congr 1
  simp
theorem flat_len (n : Nat) : ∀ ls : List (List Nat), (∀ x ∈ ls, x.length ≤ n) → (flatLots ls).length ≤ ls.length * (n + 1)
  | [], _ => Nat.zero_le _
  | x :: r, h => by
    have ih := flat_len n r fun y m => h y (List.mem_cons_of_mem _ m)
    have hx := h x (List.mem_cons_self ..)
    unfold flatLots at ih ⊢
    rw [List.flatMap_cons, List.length_append, List.length_cons, List.length_cons, Nat.succ_mul]
    omega
section
variable {P : Program} {w : World} {K : PySem.W.Frag} {mg : Str → Option Value} {base : Heap} {A : Ad} {f : Addr} {fd : FuncData} {tabs : List NdefX.NTab}
theorem ok_greedy (F : Fun K "greedy_lots" "greedy_lots" s_greedy_lots f fd) (T : Txt K mg A) (D : KR.Def P w K mg base L2.CX0 6 "lots_of" (spLotsOf A tabs)) : FnOk P w K mg base (L2.CX P w) 7 f fd ["inventory", "numbers"] (spOp A K tabs 10) := by
  refine F.okX sc_greedy_lots (fun vs H Q E h => spOp_len h) (fun cdv Ar outer s H vs Q E hr h => ⟨_, pss_cons (ps_set (i := 2) sc_greedy_lots.nd rfl (.inl rfl) (KR.pe_def D hr rfl pass0 (pa_cons (pv 0) (pa_cons (pe_fld (pv 0) rfl) pa_nil))))
    (pss_cons (ps_set (i := 3) sc_greedy_lots.nd rfl (.inl rfl) (pe_lst (pa_cons (pe_callB call_len_seq (by rfl) T.len PySem.boot_len (pa_cons (pv 2) pa_nil)) pa_nil)))
    (pss_cons (ps_for (passes_of rfl) rfl (pi_list (pv 2)) (pg_name (i := 4) sc_greedy_lots.nd rfl (.inl rfl))
      (pss_cons (ps_expr (pe_bm PySem.F.plainAttrs_list PySem.F.slot_list_append PySem.F.type_list_append mt_append (pv 3) (pa_cons (pe_callB call_len_seq (by rfl) T.len PySem.boot_len (pa_cons (pv 4) pa_nil)) pa_nil)))
      (pss_one (ps_expr (pe_bm PySem.F.plainAttrs_list PySem.F.slot_list_extend PySem.F.type_list_extend mt_extend (pv 3) (pa_cons (pv 4) pa_nil))))))
    (pss_one (ps_ret (pv 3))))), ?_⟩)
  obtain ⟨i, l, n, as, v, ms, rfl, o⟩ := h
  obtain rfl := sh0 (.inr (.inr (.inl rfl))) o.ok
  obtain ⟨dx, ei⟩ := o.inv.obj
  have few := o.inv.few
  have st : stepN 10 [] v = (some v, asInts ((lotsOf v.hides v.tolerance v.lotSize).length :: flatLots (lotsOf v.hides v.tolerance v.lotSize))) := by
    rw [st10]
    rfl
  have tame := tame_lots v.hides v.tolerance v.lotSize
  refine ⟨_, rfl, _, rfl, i, _, dx, _, _, rfl, ei, T.inv, T.invH, inv_hides v l, i, dx, l, l, v, as, v.hides, rfl, ei, o.inv.lst, o.inv.held, by omega, o.tabs_, fun H1 L ps k1 tb1 nL hL bx _ _ => ?_⟩
  generalize lotsOf v.hides v.tolerance v.lotSize = lots at st tame bx
  refine ⟨_, rfl, L, _, rfl, .inl (SqL.of hL), (by show 1 ≤ sizeLine; decide), fun t ht => ?_⟩
  have lenL : (ps.map V.ref).length = lots.length := by rw [List.length_map, bx.len]
  have nt : H t = none := k1.back t ht
  have e1 := Ext.new (o := .lst [V.int (((ps.map V.ref).length : Nat) : Int)]) ht
  refine ⟨_, rfl, L, rfl, ⟨_, SqL.of (e1 _ _ hL)⟩, for_it (walk_list (xs := ps.map V.ref)) (fun j σ H' => ∃ d, σ = [some (.ref i), some (.ref n), some (.ref L), some (.ref t), d] ∧ Kept [t] H1 H' ∧ Kept [] H H' ∧ NdefX.TabsN tabs H' ∧ H' t = some (.lst (nums (lots.length :: flatLots (lots.take j)))))
    ⟨_, rfl, e1.kept, k1.trans e1.kept, tb1.ext e1, by rw [upd_same, lenL]; rfl⟩ (fun j σ H' _ ⟨_, _, k, _, _, _⟩ => SqL.of (k.at_ _ _ hL (fun z => ne_of_none hL ht (List.mem_singleton.mp z)) lst_tbl)) ?_ ?_⟩
  · rintro j y σ H2 H3 hj ⟨d, rfl, k2, k2', tb2, ht2⟩ ⟨rfl, hy⟩
    rw [List.getElem?_map] at hy
    cases ep : ps[j]? with
    | none =>
      rw [ep] at hy
      cases hy
    | some p =>
      rw [ep] at hy
      cases hy
      have lj : j < lots.length := by
        rw [← lenL]
        exact hj
      have ex : lots[j]? = some lots[j] := List.getElem?_eq_getElem lj
      have hp1 := bx.at_ j p _ ep ex
      have pt : p ≠ t := ne_of_none hp1 ht
      have lx := tame.short _ (List.getElem_mem lj)
      have nf := tame.few
      have big : (flatLots (lots.take j)).length ≤ 13 * 13 := by
        refine Nat.le_trans (flat_len 12 _ fun x m => Nat.le_trans (tame.short x (List.mem_of_mem_take m)) few) (Nat.mul_le_mul ?_ (Nat.le_refl _))
        rw [List.length_take]
        omega
      rw [flat_more ex]
      generalize lots[j] = x at ex hp1 lx
      have hp3 := k2.at_ _ _ hp1 (fun z => pt (List.mem_singleton.mp z)) lst_tbl
      refine ⟨_, rfl, .inl ⟨rfl, _, SqL.of ht2⟩, _, rfl, p, _, rfl, .inl (SqL.of hp3), t, _, _, rfl, rfl, ht2, small1000 (by rw [nums_len, List.length_cons]; omega), ?_⟩
      rw [nums_len, ← nums_one, nums_cat]
      refine ⟨_, rfl, .inl ⟨rfl, _, SqL.of upd_same⟩, _, rfl, t, p, _, _, rfl, rfl, upd_same, (upd_ne pt).trans hp3, Nat.le_of_lt (small1000 ?_), ?_⟩
      · rw [nums_len, nums_len, List.length_append, List.length_cons, List.length_singleton]
        omega
      · rw [nums_cat, upd_upd]
        refine ⟨_, rfl, k2.trans Kept.put, k2'.put_new nt, tabs_put tb2 ht2, ?_⟩
        rw [upd_same, List.cons_append, List.cons_append]
  · rintro σ H2 ⟨d, rfl, k2, k2', tb2, ht2⟩
    rw [lenL, List.take_of_length_le (Nat.le_refl _)] at ht2
    exact ⟨_, rfl, o.same st k2' tb2 nt (by rw [ht2, nums_asInts])⟩
theorem ok_incompat (F : Fun K "incompatible_hides" "incompatible_hides" s_incompatible_hides f fd) (T : Txt K mg A) (D : KR.Def P w K mg base L2.CX0 5 "incompatible_in_order" (spIncomp A tabs)) : FnOk P w K mg base (L2.CX P w) 7 f fd ["inventory", "numbers"] (spOp A K tabs 11) := by
  refine F.okX sc_incompatible_hides (fun vs H Q E h => spOp_len h) (fun cdv Ar outer s H vs Q E hr h => ⟨_, pss_cons (ps_set (i := 2) sc_incompatible_hides.nd rfl (.inl rfl) (KR.pe_def D hr rfl pass0 (pa_cons (pe_fld (pv 0) rfl) (pa_cons (pe_fld (pv 0) rfl) pa_nil))))
    (pss_one (ps_ret (pe_op op_cat (pe_lst (pa_cons (pe_callB call_len_seq (by rfl) T.len PySem.boot_len (pa_cons (pv 2) pa_nil)) pa_nil)) (pv 2)))), ?_⟩)
  obtain ⟨i, l, n, as, v, ms, rfl, o⟩ := h
  obtain rfl := sh0 (.inr (.inr (.inr (.inl rfl)))) o.ok
  obtain ⟨dx, ei⟩ := o.inv.obj
  have few := o.inv.few
  have st : stepN 11 [] v = (some v, asInts ((incOf v.hides v.tolerance).length :: incOf v.hides v.tolerance)) := by
    rw [st11]
    unfold Kp394.step
    dsimp only
    rw [incOf_is]
    rfl
  have le : (incOf v.hides v.tolerance).length ≤ v.hides.length := by
    have z : ∀ (l : List Nat) (i : Nat) (ks : List Nat), (∀ j ∈ l, j < v.hides.length) → Some_ v.hides.length i ks → Some_ v.hides.length (i + l.length) (l.foldl (incStep ⟨v.hides, v.tolerance, 0⟩) ks) := by
      intro l
      induction l with
      | nil => exact fun _ _ _ h => h
      | cons j r ih =>
        intro i ks hl h
        rw [List.foldl_cons, List.length_cons, show i + (r.length + 1) = i + 1 + r.length by omega]
        exact ih (i + 1) _ (fun k hk => hl k (List.mem_cons_of_mem _ hk)) (some_step h (hl j (List.mem_cons_self ..)))
    have q := (z (ordOf v.hides) 0 [] (fun j m => ordOf_mem.mp m) ⟨Nat.le_refl _, fun j m => absurd m List.not_mem_nil⟩).few
    rw [ordOf_len, Nat.zero_add, ← incOf_fold] at q
    exact q
  refine ⟨_, rfl, i, _, dx, _, _, rfl, ei, T.inv, T.invH, inv_hides v l, _, rfl, i, _, dx, _, _, rfl, ei, T.inv, T.invT, inv_tolerance v l, l, as, v.hides, v.tolerance, rfl, o.inv.lst, o.inv.held, by omega, o.tabs_, fun H1 p k1 tb1 np hp => ?_⟩
  refine ⟨_, rfl, p, _, rfl, .inl (SqL.of hp), (by show 1 ≤ sizeLine; decide), fun q hq => ?_⟩
  have pq : p ≠ q := ne_of_none hp hq
  refine ⟨_, rfl, q, p, _, _, rfl, rfl, upd_same, (upd_ne pq).trans hp, Nat.le_of_lt (small1000 (by rw [nums_len]; simp; omega)), fun r hr => ?_⟩
  refine o.new st (k1.trans (Kept.new hq)) (tb1.ext (Ext.new hq)) hr ?_
  rw [nums_len]
  exact count_row _ _
theorem ok_largest (F : Fun K "largest_lot" "largest_lot" s_largest_lot f fd) (T : Txt K mg A) (D1 : KR.Def P w K mg base L2.CX0 6 "largest_of_lots" (spLarge A tabs)) (D2 : KR.Def P w K mg base L2.CX0 1 "area_of" (spArea A K)) (D3 : KR.Def P w K mg base L2.CX0 1 "hides_at" (spAt K)) :
    FnOk P w K mg base (L2.CX P w) 7 f fd ["inventory", "numbers"] (spOp A K tabs 12) := by
  refine F.okX sc_largest_lot (fun vs H Q E h => spOp_len h) (fun cdv Ar outer s H vs Q E hr h => ⟨_, pss_cons (ps_if (pt_not (pt_truth (pe_fld (pv 0) rfl) (by intro _; rfl))) (pss_one (KR.ps_out T.noth rfl (takes_of rfl rfl rfl rfl) rfl)) pss_nil)
    (pss_cons (ps_set (i := 2) sc_largest_lot.nd rfl (.inl rfl) (KR.pe_def D1 hr rfl pass0 (pa_cons (pe_fld (pv 0) rfl) (pa_cons (pe_fld (pv 0) rfl) (pa_cons (pe_fld (pv 0) rfl) pa_nil)))))
    (pss_one (ps_ret (pe_op op_cat (pe_lst (pa_cons (KR.pe_def D2 hr rfl pass0 (pa_cons (KR.pe_def D3 hr rfl pass0 (pa_cons (pe_fld (pv 0) rfl) (pa_cons (pv 2) pa_nil))) pa_nil))
      (pa_cons (pe_callB call_len_seq (by rfl) T.len PySem.boot_len (pa_cons (pv 2) pa_nil)) pa_nil))) (pv 2))))), ?_⟩)
  obtain ⟨i, l, n, as, v, ms, rfl, o⟩ := h
  obtain rfl := sh0 (.inr (.inr (.inr (.inr (.inl rfl))))) o.ok
  obtain ⟨dx, ei⟩ := o.inv.obj
  have few := o.inv.few
  have lenA : as.length = v.hides.length := o.inv.held.len
  by_cases em : v.hides = []
  · have ea : as = [] := List.length_eq_zero_iff.mp (by rw [lenA, em]; rfl)
    refine ⟨_, rfl, i, _, dx, _, _, rfl, ei, T.inv, T.invH, inv_hides v l, false, .inl ⟨_, SqL.of o.inv.lst, by rw [ea]; rfl⟩, iteT ?_⟩
    refine o.bad .noth ?_
    rw [st12]
    unfold Kp394.step
    dsimp only
    rw [large_none v em]
    rfl
  · have full : true = !(as.map V.ref).isEmpty := by
      match as, lenA with
      | [], z => exact absurd (List.length_eq_zero_iff.mp z.symm) em
      | a :: r, _ => rfl
    have st : stepN 12 [] v = (some v, asInts (areaN v.hides (largeOf v.hides v.tolerance v.lotSize) :: (largeOf v.hides v.tolerance v.lotSize).length :: largeOf v.hides v.tolerance v.lotSize)) := by
      rw [st12]
      unfold Kp394.step
      dsimp only
      rw [large_some v em o.inv.big o.inv.lot]
      dsimp only
      rw [area_is]
      rfl
    have lenG := largeOf_len v.hides v.tolerance v.lotSize
    have memG : ∀ x ∈ largeOf v.hides v.tolerance v.lotSize, x < v.hides.length := fun x m => largeOf_mem m
    refine ⟨_, rfl, i, _, dx, _, _, rfl, ei, T.inv, T.invH, inv_hides v l, true, .inl ⟨_, SqL.of o.inv.lst, full⟩, iteF ?_⟩
    refine ⟨_, rfl, i, _, dx, _, _, rfl, ei, T.inv, T.invH, inv_hides v l, _, rfl, i, _, dx, _, _, rfl, ei, T.inv, T.invT, inv_tolerance v l, _, rfl, i, _, dx, _, _, rfl, ei, T.inv, T.invL, inv_lot_size v l, l, as, v.hides, v.tolerance, v.lotSize, rfl, o.inv.lst, o.inv.held, few, o.tabs_, fun H1 p k1 tb1 np hp => ?_⟩
    generalize largeOf v.hides v.tolerance v.lotSize = lot at st lenG memG hp
    have i1 := o.inv.same k1
    have ei1 := k1.at_ _ _ ei List.not_mem_nil ins_tbl
    refine ⟨_, rfl, i, _, dx, _, _, rfl, ei1, T.inv, T.invH, inv_hides v l, _, rfl, l, p, as, lot, rfl, SqL.of i1.lst, SqL.of hp, fun m hm => by rw [lenA]; exact memG m hm, by omega, fun D H2 nD hD e2 => ?_⟩
    refine ⟨D, _, lot.map fun i => v.hides.getD i ⟨0, 0, 0⟩, rfl, SqL.of hD, (i1.held.line memG).ext e2, by rw [List.length_map]; omega, fun H3 e3 => ?_⟩
    have e23 := e2.trans e3
    refine ⟨_, rfl, p, _, rfl, .inl (SqL.of (e23 _ _ hp)), (by show 2 ≤ sizeLine; decide), fun q hq => ?_⟩
    have pq : p ≠ q := ne_of_none (e23 _ _ hp) hq
    refine ⟨_, rfl, q, p, _, _, rfl, rfl, upd_same, (upd_ne pq).trans (e23 _ _ hp), Nat.le_of_lt (small1000 (by rw [nums_len]; simp; omega)), fun r hr => ?_⟩
    refine o.new st (k1.trans (e23.trans (Ext.new hq)).kept) ((tb1.ext e23).ext (Ext.new hq)) hr ?_
    rw [nums_len, nums_asInts]
    rfl
end
end KX
/-! # Operations that ask: areas, pairs, the least tolerance, what if -/
namespace KX
open PySem PySem.Spec PyProof.Rows L2
open Kp394 (Hide Inventory)

section
variable {P : Program} {w : World} {K : PySem.W.Frag} {mg : Str → Option Value} {base : Heap} {A : Ad} {f : Addr} {fd : FuncData} {tabs : List NdefX.NTab}
theorem ok_total (F : Fun K "total_area" "total_area" s_total_area f fd) (D : KR.Mth P w K mg base (L2.CX P w) 2 A.inv "different_hides" (spDifferent A K)) (D2 : KR.Def P w K mg base L2.CX0 1 "area_of" (spArea A K)) : FnOk P w K mg base (L2.CX P w) 7 f fd ["inventory", "numbers"] (spOp A K tabs 13) := by
  refine F.okX sc_total_area (fun vs H Q E h => spOp_len h) (fun cdv Ar outer s H vs Q E hr h => ⟨_, pss_one (ps_ret (pe_lst (pa_cons (KR.pe_def D2 hr rfl pass0 (pa_cons (KR.pe_mth (pv 0) D hr (passes_call (takes_of rfl rfl rfl rfl) fun _ _ _ _ z => z) (pa_cons (pv 1) pa_nil)) pa_nil)) pa_nil))), ?_⟩)
  obtain ⟨i, l, n, as, v, ms, rfl, o⟩ := h
  have few := shn (.inr rfl) o.ok
  obtain ⟨dx, ei⟩ := o.inv.obj
  refine ⟨_, rfl, i, dx, _, rfl, ei, inv_different_hides v l, _, rfl, i, l, n, as, v, ms, rfl, o.inv, o.seq, few, fun val D H1 nD hD e1 => ?_, fun val => ?_⟩
  · have line := (o.inv.held.line (valid_iff.mp val).1).ext e1
    have st : stepN 13 ms v = (some v, [((areaB (ms.map fun i => v.hides.getD i ⟨0, 0, 0⟩) : Nat) : Int)]) := by
      rw [st13]
      unfold Kp394.step
      dsimp only
      rw [if_pos val, area_is]
      rfl
    refine ⟨D, _, _, rfl, SqL.of hD, line, by rw [List.length_map]; omega, fun H2 e2 => ?_⟩
    exact ⟨(by show 1 ≤ sizeLine; decide), fun r hr => o.new st (e1.trans e2).kept (o.tabs_.ext (e1.trans e2)) hr rfl⟩
  · refine o.bad .out ?_
    rw [st13]
    unfold Kp394.step
    dsimp only
    rw [if_neg (by rw [val]; exact Bool.false_ne_true)]
    rfl
theorem ok_best (F : Fun K "best_pairs" "best_pairs" s_best_pairs f fd) (T : Txt K mg A) (D1 : KR.Def P w K mg base (L2.CX P w) 1 "check_kind" (spKind A)) (D2 : KR.Def P w K mg base L2.CX0 6 "paired_in_order" (spPaired A tabs)) (D3 : KR.Def P w K mg base L2.CX0 1 "difference_of" (spGaps A K)) :
    FnOk P w K mg base (L2.CX P w) 7 f fd ["inventory", "numbers"] (spOp A K tabs 14) := by
  refine F.okX sc_best_pairs (fun vs H Q E h => spOp_len h) (fun cdv Ar outer s H vs Q E hr h => ⟨_, pss_cons (ps_expr (KR.pe_def D1 hr rfl (passes_call (takes_of rfl rfl rfl rfl) fun _ _ _ _ z => z) (pa_cons (pe_ix ix_list (pv 1) pe_int (fun _ _ => rfl)) pa_nil)))
    (pss_cons (ps_set (i := 2) sc_best_pairs.nd rfl (.inl rfl) (KR.pe_def D2 hr rfl pass0 (pa_cons (pe_fld (pv 0) rfl) (pa_cons (pe_ix ix_list (pv 1) pe_int (fun _ _ => rfl)) pa_nil))))
    (pss_one (ps_ret (pe_op op_cat (pe_lst (pa_cons (KR.pe_def D3 hr rfl pass0 (pa_cons (pe_fld (pv 0) rfl) (pa_cons (pv 2) pa_nil)))
      (pa_cons (pe_op op_fdivN (pe_callB call_len_seq (by rfl) T.len PySem.boot_len (pa_cons (pv 2) pa_nil)) pe_int) pa_nil))) (pv 2))))), ?_⟩)
  obtain ⟨i, l, n, as, v, ms, rfl, o⟩ := h
  obtain ⟨k, rfl⟩ := sh1 (.inr (.inr (.inl rfl))) o.ok
  obtain ⟨dx, ei⟩ := o.inv.obj
  have few := o.inv.few
  refine ⟨_, rfl, n, _, _, _, rfl, rfl, o.seq, atI_nat (j := 0) rfl, k, rfl, fun c => ?_, fun c => ?_⟩
  · obtain ⟨r1, r2, r3⟩ := pairs_are v k
    have st : stepN 14 [k] v = (some v, asInts (gaps v.hides (pairedOf v.hides k) :: (pairedOf v.hides k).length / 2 :: pairedOf v.hides k)) := by
      rw [st14]
      unfold Kp394.step
      dsimp only
      rw [if_neg (show ¬ 2 < k by omega), r1, r2, List.cons_append, r3]
      rfl
    have lenP : (pairedOf v.hides k).length ≤ v.hides.length := by
      rw [pairedOf_len]
      exact kindOf_len _ _
    have memP : ∀ m ∈ pairedOf v.hides k, m < v.hides.length := fun m h => pairedOf_mem h
    refine ⟨_, rfl, i, _, dx, _, _, rfl, ei, T.inv, T.invH, inv_hides v l, _, rfl, n, _, _, _, rfl, rfl, o.seq, atI_nat (j := 0) rfl, l, as, v.hides, k, rfl, o.inv.lst, o.inv.held, by omega, o.tabs_, fun H1 p k1 tb1 np hp => ?_⟩
    generalize pairedOf v.hides k = ks at st lenP memP hp
    have i1 := o.inv.same k1
    have ei1 := k1.at_ _ _ ei List.not_mem_nil ins_tbl
    refine ⟨_, rfl, i, _, dx, _, _, rfl, ei1, T.inv, T.invH, inv_hides v l, _, rfl, l, p, as, v.hides, ks, rfl, i1.lst, i1.held, SqL.of hp, memP, by omega, ?_⟩
    refine ⟨_, rfl, p, _, rfl, .inl (SqL.of hp), _, _, rfl, rfl, ⟨by decide, by decide⟩, (by show 2 ≤ sizeLine; decide), fun q hq => ?_⟩
    have pq : p ≠ q := ne_of_none hp hq
    refine ⟨_, rfl, q, p, _, _, rfl, rfl, upd_same, (upd_ne pq).trans hp, Nat.le_of_lt (small1000 (by rw [nums_len]; simp; omega)), fun r hr => ?_⟩
    refine o.new st (k1.trans (Kept.new hq)) (tb1.ext (Ext.new hq)) hr ?_
    have half : (((nums ks).length : Nat) : Int).fdiv 2 = ((ks.length / 2 : Nat) : Int) := by
      rw [nums_len, Int.fdiv_eq_ediv_of_nonneg _ (by decide)]
      omega
    show [V.int ((gaps v.hides ks : Nat) : Int), V.int ((((nums ks).length : Nat) : Int).fdiv 2)] ++ nums ks = _
    rw [half, nums_asInts]
    rfl
  · refine o.bad .out ?_
    rw [st14]
    unfold Kp394.step
    dsimp only
    rw [if_pos (show 2 < k by omega)]
    rfl
theorem ok_least (F : Fun K "least_tolerance" "least_tolerance" s_least_tolerance f fd) (T : Txt K mg A) (D : KR.Def P w K mg base L2.CX0 5 "lots_in_order" (spLots A tabs)) : FnOk P w K mg base (L2.CX P w) 7 f fd ["inventory", "numbers"] (spOp A K tabs 15) := by
  refine F.okX sc_least_tolerance (fun vs H Q E h => spOp_len h) (fun cdv Ar outer s H vs Q E hr h => ⟨_, pss_cons (ps_for (passes_of rfl) rfl (pi_range1 (by rfl) T.range (pa_cons (pe_op op_add (C8.pe_gc rfl T.cTol) pe_int) pa_nil)) (pg_name (i := 2) sc_least_tolerance.nd rfl (.inl rfl))
      (pss_one (ps_if (pt_cmpR op_le (pe_callB call_len_seq (by rfl) T.len PySem.boot_len (pa_cons (KR.pe_def D hr rfl pass0 (pa_cons (pe_fld (pv 0) rfl) (pa_cons (pv 2) (pa_cons (pe_fld (pv 0) rfl) pa_nil)))) pa_nil)) (pe_ix ix_list (pv 1) pe_int (fun _ _ => rfl)) (nomark _))
        (pss_one (ps_ret (pe_lst (pa_cons (pv 2) pa_nil)))) pss_nil)))
    (pss_one (KR.ps_out T.noth rfl (takes_of rfl rfl rfl rfl) rfl)), ?_⟩)
  obtain ⟨i, l, n, as, v, ms, rfl, o⟩ := h
  obtain ⟨m, rfl⟩ := sh1 (.inr (.inr (.inr (.inl rfl)))) o.ok
  obtain ⟨dx, ei⟩ := o.inv.obj
  have few := o.inv.few
  have st : stepN 15 [m] v = rowOf (some v, match Kp394.leastTolerance v m with
    | none => Kp394.single (-33)
    | some t => Kp394.single (t : Nat)) := st15 m
  have find : ∀ {j : Nat}, j < 61 → (∀ t, t < j → ¬ (lotsOf v.hides t v.lotSize).length ≤ m) → (lotsOf v.hides j v.lotSize).length ≤ m → Kp394.leastTolerance v m = some j := fun {j} lt no yes => by
    unfold Kp394.leastTolerance
    rw [List.find?_eq_some_iff_getElem]
    refine ⟨decide_eq_true yes, j, by rw [List.length_range]; exact lt, by rw [List.getElem_range], fun t ht => ?_⟩
    rw [List.getElem_range]
    have z : decide (Kp394.fewestLots { v with tolerance := t } ≤ m) = false := decide_eq_false (no t ht)
    rw [z]
    rfl
  refine ⟨_, _, rfl, rfl, _, rfl, by decide, by decide, for_it walk_range (fun j σ H' => ∃ d, σ = [some (.ref i), some (.ref n), d] ∧ Kept [] H H' ∧ NdefX.TabsN tabs H' ∧ ∀ t, t < j → ¬ (lotsOf v.hides t v.lotSize).length ≤ m)
    ⟨_, rfl, Kept.refl _ _, o.tabs_, fun t h => absurd h (Nat.not_lt_zero _)⟩ (fun _ _ _ _ _ => trivial) ?_ ?_⟩
  · rintro j y σ H2 H3 hj ⟨d, rfl, k2, tb2, no⟩ ⟨rfl, rfl⟩
    have hj : j < 61 := hj
    have i2 := o.inv.same k2
    have ei2 := k2.at_ _ _ ei List.not_mem_nil ins_tbl
    have cast : ((0 : Int) + (j : Nat)) = ((j : Nat) : Int) := by omega
    refine ⟨_, rfl, i, _, dx, _, _, rfl, ei2, T.inv, T.invH, inv_hides v l, _, rfl, _, rfl, i, _, dx, _, _, rfl, ei2, T.inv, T.invL, inv_lot_size v l, l, as, v.hides, j, v.lotSize, congrArg (fun z => [V.ref l, V.int z, V.int ((v.lotSize : Nat) : Int)]) cast, i2.lst, i2.held, by omega, tb2, fun H4 L ps k4 tb4 nL hL bx _ _ => ?_⟩
    have k24 : Kept [] H H4 := k2.trans k4
    refine ⟨L, _, rfl, .inl (SqL.of hL), _, rfl, n, _, _, _, rfl, rfl, k24.seq o.seq List.not_mem_nil, atI_nat (j := 0) rfl, _, _, rfl, rfl, _, rfl, ite2 (fun c => ?_) (fun c => ?_)⟩
    · have c := of_decide_eq_true c
      rw [List.length_map, bx.len] at c
      rw [find hj no (by omega)] at st
      refine ⟨_, rfl, (by show 1 ≤ sizeLine; decide), fun p hp => o.new st k24 tb4 hp ?_⟩
      show [V.int ((0 : Int) + (j : Nat))] = [V.int ((j : Nat) : Int)]
      rw [cast]
    · have c := of_decide_eq_false (Bool.not_eq_true _ ▸ c)
      rw [List.length_map, bx.len] at c
      refine ⟨_, rfl, k24, tb4, fun t ht => ?_⟩
      by_cases e : t = j
      · rw [e]
        omega
      · exact no t (by omega)
  · rintro σ H2 ⟨d, rfl, k2, tb2, no⟩
    have none_ : Kp394.leastTolerance v m = none := by
      unfold Kp394.leastTolerance
      rw [List.find?_eq_none]
      intro t ht
      rw [List.mem_range] at ht
      rw [decide_eq_true_eq]
      exact no t ht
    rw [none_] at st
    exact o.no A.noth (-33) H2 .noth st k2 tb2
theorem ok_without (F : Fun K "lots_without_hide" "lots_without_hide" s_lots_without_hide f fd) (T : Txt K mg A) (D : KR.Mth P w K mg base (L2.CX P w) 1 A.inv "check_number" (spCheckNumber A)) (D2 : KR.Def P w K mg base L2.CX0 6 "lots_of" (spLotsOf A tabs)) : FnOk P w K mg base (L2.CX P w) 7 f fd ["inventory", "numbers"] (spOp A K tabs 16) := by
  refine F.okX sc_lots_without_hide (fun vs H Q E h => spOp_len h) (fun cdv Ar outer s H vs Q E hr h => ⟨_, pss_cons (ps_expr (KR.pe_mth (pv 0) D hr (passes_call (takes_of rfl rfl rfl rfl) fun _ _ _ _ z => z) (pa_cons (pe_ix ix_list (pv 1) pe_int (fun _ _ => rfl)) pa_nil)))
    (pss_cons (ps_set (i := 2) sc_lots_without_hide.nd rfl (.inl rfl) (pe_op op_cat (pe_slice sl_list (pe_fld (pv 0) rfl) po_none (po_some (pe_ix ix_list (pv 1) pe_int (fun _ _ => rfl)))) (pe_slice sl_list (pe_fld (pv 0) rfl) (po_some (pe_op op_add (pe_ix ix_list (pv 1) pe_int (fun _ _ => rfl)) pe_int)) po_none)))
    (pss_one (ps_ret (pe_lst (pa_cons (pe_callB call_len_seq (by rfl) T.len PySem.boot_len (pa_cons (KR.pe_def D2 hr rfl pass0 (pa_cons (pv 0) (pa_cons (pv 2) pa_nil))) pa_nil)) pa_nil))))), ?_⟩)
  obtain ⟨i, l, n, as, v, ms, rfl, o⟩ := h
  obtain ⟨k, rfl⟩ := sh1 (.inr (.inr (.inr (.inr rfl)))) o.ok
  obtain ⟨dx, ei⟩ := o.inv.obj
  have few := o.inv.few
  have lenA : as.length = v.hides.length := o.inv.held.len
  refine ⟨_, rfl, i, dx, _, rfl, ei, inv_check_number v l, _, rfl, n, _, _, _, rfl, rfl, o.seq, atI_nat (j := 0) rfl, i, l, as, v, k, rfl, o.inv, fun c => ?_, fun c => ?_⟩
  · refine ⟨_, rfl, i, _, dx, _, _, rfl, ei, T.inv, T.invH, inv_hides v l, _, rfl, n, _, _, _, rfl, rfl, o.seq, atI_nat (j := 0) rfl, _, rfl, l, _, rfl, SqL.of o.inv.lst, fun p1 n1 => ?_⟩
    have cut1 : cutV (as.map V.ref) none (some ((k : Nat) : Int)) = (as.take k).map V.ref := by rw [cut_to, List.map_take]
    rw [cut1]
    have e1 := Ext.new (o := .lst ((as.take k).map V.ref)) n1
    refine ⟨_, rfl, i, _, dx, _, _, rfl, e1 _ _ ei, T.inv, T.invH, inv_hides v l, _, rfl, n, _, _, _, rfl, rfl, e1.seq o.seq, atI_nat (j := 0) rfl, _, _, rfl, rfl, _, rfl, l, _, rfl, SqL.of (e1 _ _ o.inv.lst), fun p2 n2 => ?_⟩
    have cut2 : cutV (as.map V.ref) (some (((k : Nat) : Int) + 1)) none = (as.drop (k + 1)).map V.ref := by
      have z := cut_from (as.map V.ref) (k + 1)
      rw [← List.map_drop] at z
      exact z
    rw [cut2]
    have p12 : p1 ≠ p2 := fun z => by
      rw [← z, upd_same] at n2
      cases n2
    have e2 := e1.trans (Ext.new (o := .lst ((as.drop (k + 1)).map V.ref)) n2)
    refine ⟨p1, p2, _, _, rfl, rfl, (upd_ne p12).trans upd_same, upd_same, Nat.le_of_lt (small1000 ?_), fun p3 n3 => ?_⟩
    · rw [List.length_map, List.length_map, List.length_take, List.length_drop]
      omega
    have others : (as.take k).map V.ref ++ (as.drop (k + 1)).map V.ref = (as.eraseIdx k).map V.ref := by
      rw [← List.map_append, List.eraseIdx_eq_take_drop_succ]
    rw [others]
    have e3 := e2.trans (Ext.new (o := .lst ((as.eraseIdx k).map V.ref)) n3)
    have held3 := (o.inv.held.kept (fp := []) e3.kept fun _ _ => List.not_mem_nil).less k
    have st : stepN 16 [k] v = (some v, [(((lotsOf (v.hides.eraseIdx k) v.tolerance v.lotSize).length : Nat) : Int)]) := by
      rw [st16]
      unfold Kp394.step
      dsimp only
      rw [if_pos (show Kp394.isHide v k = true from decide_eq_true c)]
      rfl
    refine ⟨_, rfl, _, rfl, i, dx, l, p3, v, as.eraseIdx k, v.hides.eraseIdx k, rfl, e3 _ _ ei, upd_same, held3, ?_, o.tabs_.ext e3, fun H1 L ps k1 tb1 nL hL bx _ _ => ?_⟩
    · rw [List.length_eraseIdx]
      split <;> omega
    refine ⟨L, _, rfl, .inl (SqL.of hL), (by show 1 ≤ sizeLine; decide), fun p hp => ?_⟩
    refine o.new st (e3.kept.trans k1) tb1 hp ?_
    rw [List.length_map, bx.len]
    rfl
  · refine o.bad .such ?_
    rw [st16]
    unfold Kp394.step
    dsimp only
    rw [if_neg (show ¬ Kp394.isHide v k = true by unfold Kp394.isHide; rw [decide_eq_true_eq]; exact c)]
    rfl
theorem ok_with (F : Fun K "lots_with_hide" "lots_with_hide" s_lots_with_hide f fd) (T : Txt K mg A) (D1 : KR.Def P w K mg base (L2.CX P w) 2 "check_measures" (spMeasures A)) (D2 : KR.Maker P w K mg base 1 "Hide" A.hide (spHideInit A)) (D3 : KR.Def P w K mg base L2.CX0 6 "lots_of" (spLotsOf A tabs)) :
    FnOk P w K mg base (L2.CX P w) 7 f fd ["inventory", "numbers"] (spOp A K tabs 17) := by
  refine F.okX sc_lots_with_hide (fun vs H Q E h => spOp_len h) (fun cdv Ar outer s H vs Q E hr h => ⟨_, pss_cons (ps_expr (KR.pe_def D1 hr rfl (passes_call (takes_of rfl rfl rfl rfl) fun _ _ _ _ z => z) (pa_cons (pe_ix ix_list (pv 1) pe_int (fun _ _ => rfl)) (pa_cons (pe_ix ix_list (pv 1) pe_int (fun _ _ => rfl)) (pa_cons (pe_ix ix_list (pv 1) pe_int (fun _ _ => rfl)) pa_nil)))))
    (pss_cons (ps_set (i := 2) sc_lots_with_hide.nd rfl (.inl rfl) (pe_op op_cat (pe_fld (pv 0) rfl) (pe_lst (pa_cons (KR.pe_maker D2 hr rfl (pa_cons (pe_ix ix_list (pv 1) pe_int (fun _ _ => rfl)) (pa_cons (pe_ix ix_list (pv 1) pe_int (fun _ _ => rfl)) (pa_cons (pe_ix ix_list (pv 1) pe_int (fun _ _ => rfl)) pa_nil)))) pa_nil))))
    (pss_one (ps_ret (pe_lst (pa_cons (pe_callB call_len_seq (by rfl) T.len PySem.boot_len (pa_cons (KR.pe_def D3 hr rfl pass0 (pa_cons (pv 0) (pa_cons (pv 2) pa_nil))) pa_nil)) pa_nil))))), ?_⟩)
  obtain ⟨i, l, n, as, v, ms, rfl, o⟩ := h
  obtain ⟨k, t, a, rfl⟩ := sh3 (.inr rfl) o.ok
  obtain ⟨dx, ei⟩ := o.inv.obj
  have few := o.inv.few
  have lenA : as.length = v.hides.length := o.inv.held.len
  refine ⟨_, rfl, n, _, _, _, rfl, rfl, o.seq, atI_nat (j := 0) rfl, _, rfl, n, _, _, _, rfl, rfl, o.seq, atI_nat (j := 1) rfl, _, rfl, n, _, _, _, rfl, rfl, o.seq, atI_nat (j := 2) rfl, k, t, a, rfl, fun val => ?_, fun val => ?_⟩
  · refine ⟨_, rfl, i, _, dx, _, _, rfl, ei, T.inv, T.invH, inv_hides v l, ?_⟩
    refine ⟨_, rfl, n, _, _, _, rfl, rfl, o.seq, atI_nat (j := 0) rfl, _, rfl, n, _, _, _, rfl, rfl, o.seq, atI_nat (j := 1) rfl, _, rfl, n, _, _, _, rfl, rfl, o.seq, atI_nat (j := 2) rfl, fun x dx' nx nd ne => ?_⟩
    refine ⟨x, dx', k, t, a, rfl, upd_same, fun H1 hx eb => ⟨rfl, ?_⟩⟩
    have e1 : Ext H H1 := Ext.made nx nd eb
    have xas : x ∉ as := fun m => by
      obtain ⟨h, _, dh, e⟩ := o.inv.held.of m
      rw [e] at nx
      cases nx
    refine ⟨(by show 1 ≤ sizeLine; decide), fun q hq => ?_⟩
    have lq : l ≠ q := ne_of_none (e1 _ _ o.inv.lst) hq
    refine ⟨l, q, _, _, rfl, rfl, (upd_ne lq).trans (e1 _ _ o.inv.lst), upd_same, Nat.le_of_lt (small1000 (by rw [List.length_map]; simp; omega)), fun p3 n3 => ?_⟩
    have e2 := Ext.new (o := .lst [V.ref x]) hq
    have more : as.map V.ref ++ [V.ref x] = (as ++ [x]).map V.ref := by rw [List.map_append]; rfl
    rw [more]
    have e23 := e2.trans (Ext.new (o := .lst ((as ++ [x]).map V.ref)) n3)
    have e3 := e1.trans e23
    have held3 := (o.inv.held.kept (fp := []) e3.kept fun _ _ => List.not_mem_nil).more (e23.hide hx) xas
    have st : stepN 17 [k, t, a] v = (some v, [(((lotsOf (v.hides ++ [⟨k, t, a⟩]) v.tolerance v.lotSize).length : Nat) : Int)]) := by
      rw [st17]
      unfold Kp394.step
      dsimp only
      rw [if_pos val]
      rfl
    refine ⟨_, rfl, _, rfl, i, dx, l, p3, v, as ++ [x], v.hides ++ [⟨k, t, a⟩], rfl, e3 _ _ ei, upd_same, held3, ?_, o.tabs_.ext e3, fun H4 L ps k1 tb1 nL hL bx _ _ => ?_⟩
    · rw [List.length_append, List.length_singleton]
      omega
    refine ⟨L, _, rfl, .inl (SqL.of hL), (by show 1 ≤ sizeLine; decide), fun p hp => ?_⟩
    refine o.new st (e3.kept.trans k1) tb1 hp ?_
    rw [List.length_map, bx.len]
    rfl
  · refine o.bad .out ?_
    rw [st17]
    unfold Kp394.step
    dsimp only
    rw [if_neg (by rw [val]; exact Bool.false_ne_true)]
    rfl
theorem range_map (hs : List Hide) : (List.range hs.length).map (fun i => hs.getD i ⟨0, 0, 0⟩) = hs := by
  apply List.ext_getElem
  · simp
  · intro i h1 h2
    simp [List.getD_eq_getElem?_getD, List.getElem?_eq_getElem h2]
theorem Held.all {C : Addr} {H : Hp} {as : List Addr} {hs : List Hide} (x : Held C H as hs) : Line C H as hs := ⟨x.len, x.at_⟩
theorem ok_status (F : Fun K "status" "status" s_status f fd) (T : Txt K mg A) (D : KR.Def P w K mg base L2.CX0 1 "area_of" (spArea A K)) : FnOk P w K mg base (L2.CX P w) 7 f fd ["inventory", "numbers"] (spOp A K tabs 18) := by
  refine F.okX sc_status (fun vs H Q E h => spOp_len h) (fun cdv Ar outer s H vs Q E hr h => ⟨_, pss_one (ps_ret (pe_lst (pa_cons (pe_callB call_len_seq (by rfl) T.len PySem.boot_len (pa_cons (pe_fld (pv 0) rfl) pa_nil)) (pa_cons (pe_fld (pv 0) rfl) (pa_cons (pe_fld (pv 0) rfl)
    (pa_cons (KR.pe_def D hr rfl pass0 (pa_cons (pe_fld (pv 0) rfl) pa_nil)) pa_nil)))))), ?_⟩)
  obtain ⟨i, l, n, as, v, ms, rfl, o⟩ := h
  obtain rfl := sh0 (.inr (.inr (.inr (.inr (.inr rfl))))) o.ok
  obtain ⟨dx, ei⟩ := o.inv.obj
  have few := o.inv.few
  have st : stepN 18 [] v = (some v, asInts [v.hides.length, v.tolerance, v.lotSize, areaB v.hides]) := by
    rw [st18]
    unfold Kp394.step
    dsimp only
    rw [area_is]
    unfold areaN
    rw [range_map]
    rfl
  refine ⟨_, rfl, i, _, dx, _, _, rfl, ei, T.inv, T.invH, inv_hides v l, l, _, rfl, .inl (SqL.of o.inv.lst), _, rfl, i, _, dx, _, _, rfl, ei, T.inv, T.invT, inv_tolerance v l, _, rfl, i, _, dx, _, _, rfl, ei, T.inv, T.invL, inv_lot_size v l, ?_⟩
  refine ⟨_, rfl, i, _, dx, _, _, rfl, ei, T.inv, T.invH, inv_hides v l, l, as, v.hides, rfl, SqL.of o.inv.lst, o.inv.held.all, by omega, fun H1 e1 => ?_⟩
  refine ⟨(by show 4 ≤ sizeLine; decide), fun r hr => o.new st e1.kept (o.tabs_.ext e1) hr ?_⟩
  rw [List.length_map, o.inv.held.len]
  rfl
end
end KX
/-! # One call: create, the table of the operations, the errors caught -/
namespace KX
open PySem PySem.Spec PyProof.Rows L2
open Kp394 (Hide Inventory)

/-- a def by its name, called within a try -/
theorem pe_defS {X : Cx} {CX : CXT} {j k : Nat} {x : Str} {sp : Sp} {E : L2.St → XK} {p pos : Pos} {e : Expr} {es : List Expr} {t : TA} (D : KR.Def X.prog X.w X.K X.mg X.base CX j x sp) (hr : Room k X.A) (hg : Gl X x) (hx : ∀ σ, PassesAt CX X σ (E σ)) (ha : PA X (e :: es) t) (le : j ≤ k := by decide) (dbg : (x == ("__debug__" : Str)) = false := by decide)
    (first : starEach (e :: es) X.env = (false, eval e X.env) :: starEach es X.env := by rfl) (plain : (backTo pos (starEach es X.env)).any (·.1) = false := by rfl) : PE X (.Call (.Name x p) (e :: es) [] pos) (tCallS sp E t) := by
  obtain ⟨f, fd, ps, F, g, kp, b⟩ := D.ex
  exact pe_callS F (hr.mono le) hg g kp b hx ha dbg first plain
/-- no hide lies where its inventory lies -/
theorem InvAt.sep {A : Ad} {H : Hp} {i l : Addr} {as : List Addr} {v : Inventory} (x : InvAt A H i l as v) : i ∉ as := fun m => by
  obtain ⟨h, _, dh, e⟩ := x.held.of m
  obtain ⟨dx, ei⟩ := x.obj
  rw [ei] at e
  injection e with e
  injection e with e1 e2 e3
  unfold invF hideF at e3
  injection e3 with e4 e5
  injection e4 with e6 e7
  exact absurd e6 (by decide +kernel)
def stepS (x : Int) (ms : List Nat) (st : Option Inventory) : Kp394.State × List Int := Kp394Neutral.step st [x :: asInts ms]
theorem none_step {x : Int} {ms : List Nat} (h : okN x ms) (n : x ≠ 0) : stepS x ms none = (none, [-11]) := by
  unfold okN at h
  unfold Kp394Neutral.asked1 at h
  unfold stepS
  split at h <;> first | (rename [x :: asInts ms] = _ => e; rw [e]; rfl) | (rename [x :: asInts ms] = _ => e; injection e with e1; injection e1 with e3 e4; exact absurd e3 n) | exact absurd h Bool.false_ne_true
structure StIn (A : Ad) (K : PySem.W.Frag) (tabs : List NdefX.NTab) (x : Int) (H : Hp) (Q : VK) (r n : Addr) (st : Option Inventory) (fp : List Addr) (ms : List Nat) : Prop where
  st_ : StAt A H r st fp
  seq : SqL K H n (nums ms)
  ok : okN x ms
  tabs_ : NdefX.TabsN tabs H
  out : n ∉ fp
  yes : ∀ (st' : Option Inventory) (ans : List Int) (H' : Hp) (fp' : List Addr) (p : Addr), stepS x ms st = (st', ans) → StAt A H' r st' fp' → (∀ b ∈ fp', b ∈ fp ∨ H b = none) → Kept fp H H' → NdefX.TabsN tabs H' → H p = none →
    H' p = some (.lst (ans.map V.int)) → Q (.ref p) H'
/-- .. and what raises -/
def NoIn (A : Ad) (tabs : List NdefX.NTab) (x : Int) (H : Hp) (E : XK) (st : Option Inventory) (ms : List Nat) : Prop := ∀ (C : Addr) (c : Int) (H' : Hp), Bad A C c → stepS x ms st = (st, [c]) → Kept [] H H' → NdefX.TabsN tabs H' → E (.ref C) none H'
def spCreate (A : Ad) (K : PySem.W.Frag) (tabs : List NdefX.NTab) : Sp := fun vs H Q E => ∃ (r n : Addr) (st : Option Inventory) (fp : List Addr) (ms : List Nat), vs = [.ref r, .ref n] ∧ StIn A K tabs 0 H Q r n st fp ms ∧ NoIn A tabs 0 H E st ms
def spResult (A : Ad) (K : PySem.W.Frag) (tabs : List NdefX.NTab) : Sp := fun vs H Q E => ∃ (r n : Addr) (st : Option Inventory) (fp : List Addr) (x : Int) (ms : List Nat), vs = [.ref r, .int x, .ref n] ∧ StIn A K tabs x H Q r n st fp ms ∧ NoIn A tabs x H E st ms
def spAnswer (A : Ad) (K : PySem.W.Frag) (tabs : List NdefX.NTab) : Sp := fun vs H Q _ => ∃ (r n : Addr) (st : Option Inventory) (fp : List Addr) (x : Int) (ms : List Nat), vs = [.ref r, .int x, .ref n] ∧ StIn A K tabs x H Q r n st fp ms
/-- the table: for each call its def -/
structure Ops (P : Program) (w : World) (K : PySem.W.Frag) (mg : Str → Option Value) (base : Heap) (A : Ad) (tabs : List NdefX.NTab) (ops : Addr) : Prop where
  row : ∀ x : Int, 1 ≤ x → x ≤ 18 → ∃ f : Addr, KR.Row K ops x (.ref f) ∧ KR.Holds P w K mg base 7 f (spOp A K tabs x)
/-- an error of the class cls: the clause c takes it, or not -/
structure Catch (K : PySem.W.Frag) (A : Ad) : Prop where
  no : PySem.W.exmOne K (.ref A.no) (.ref A.no) = some true
  such0 : PySem.W.exmOne K (.ref A.such) (.ref A.no) = some false
  such : PySem.W.exmOne K (.ref A.such) (.ref A.such) = some true
  out0 : PySem.W.exmOne K (.ref A.out) (.ref A.no) = some false
  out1 : PySem.W.exmOne K (.ref A.out) (.ref A.such) = some false
  out : PySem.W.exmOne K (.ref A.out) (.ref A.out) = some true
  many0 : PySem.W.exmOne K (.ref A.many) (.ref A.no) = some false
  many1 : PySem.W.exmOne K (.ref A.many) (.ref A.such) = some false
  many2 : PySem.W.exmOne K (.ref A.many) (.ref A.out) = some false
  many : PySem.W.exmOne K (.ref A.many) (.ref A.many) = some true
  noth0 : PySem.W.exmOne K (.ref A.noth) (.ref A.no) = some false
  noth1 : PySem.W.exmOne K (.ref A.noth) (.ref A.such) = some false
  noth2 : PySem.W.exmOne K (.ref A.noth) (.ref A.out) = some false
  noth3 : PySem.W.exmOne K (.ref A.noth) (.ref A.many) = some false
  noth : PySem.W.exmOne K (.ref A.noth) (.ref A.noth) = some true
section
variable {P : Program} {w : World} {K : PySem.W.Frag} {mg : Str → Option Value} {base : Heap} {A : Ad} {f : Addr} {fd : FuncData} {tabs : List NdefX.NTab}
theorem st0 (t m : Nat) (st : Option Inventory) : stepS 0 [t, m] st = rowOf (if Kp394.validLimits t m then (some ⟨[], t, m⟩, Kp394.single 0) else (st, Kp394.single (-22))) := by
  have h : Kp394Neutral.callOf [0 :: asInts [t, m]] = some (.create t m) := by
    show some (Kp394.Call.create (t : Int).toNat (m : Int).toNat) = _
    rw [Int.toNat_natCast, Int.toNat_natCast]
  unfold stepS Kp394Neutral.step
  rw [h]
  unfold Kp394.step
  rfl
theorem ok_create (F : Fun K "create" "create" s_create f fd) (T : Txt K mg A) (D1 : KR.Def P w K mg base (L2.CX P w) 1 "check_limits" (spLimits A)) (D2 : KR.Maker P w K mg base 1 "Inventory" A.inv (spInvInit A)) : FnOk P w K mg base (L2.CX P w) 7 f fd ["request", "numbers"] (spCreate A K tabs) := by
  refine F.okX sc_create (fun vs H Q E h => ?_) (fun cdv Ar outer s H vs Q E hr h => ⟨_, pss_cons (ps_expr (KR.pe_def D1 hr rfl (passes_call (takes_of rfl rfl rfl rfl) fun _ _ _ _ z => z) (pa_cons (pe_ix ix_list (pv 1) pe_int (fun _ _ => rfl)) (pa_cons (pe_ix ix_list (pv 1) pe_int (fun _ _ => rfl)) pa_nil))))
    (pss_cons (ps_fld (pv 0) (KR.pe_maker D2 hr rfl (pa_cons (pe_ix ix_list (pv 1) pe_int (fun _ _ => rfl)) (pa_cons (pe_ix ix_list (pv 1) pe_int (fun _ _ => rfl)) pa_nil))) rfl)
    (pss_one (ps_ret (pe_lst (pa_cons pe_int pa_nil))))), ?_⟩)
  · obtain ⟨r, n, st, fp, ms, rfl, _⟩ := h
    rfl
  · obtain ⟨r, n, st, fp, ms, rfl, o, no⟩ := h
    obtain ⟨t, m, rfl⟩ := sh2 (.inl rfl) o.ok
    have obj : ∃ dr u, H r = some (.ins A.req dr (reqF u)) ∧ r ∈ fp := by
      cases o.st_ with
      | none e => exact ⟨_, _, e, List.mem_singleton.mpr rfl⟩
      | some e _ _ _ => exact ⟨_, _, e, List.mem_cons_self ..⟩
    obtain ⟨dr, u, er, rfp⟩ := obj
    refine ⟨_, rfl, n, _, _, _, rfl, rfl, o.seq, atI_nat (j := 0) rfl, _, rfl, n, _, _, _, rfl, rfl, o.seq, atI_nat (j := 1) rfl, t, m, rfl, fun val => ?_, fun val => ?_⟩
    · refine ⟨_, rfl, n, _, _, _, rfl, rfl, o.seq, atI_nat (j := 0) rfl, _, rfl, n, _, _, _, rfl, rfl, o.seq, atI_nat (j := 1) rfl, fun x dx nx nd ne => ?_⟩
      have m1 : 1 ≤ m := by
        unfold Kp394.validLimits at val
        simp only [Bool.and_eq_true, decide_eq_true_eq] at val
        exact val.1.2
      refine ⟨x, dx, t, m, rfl, upd_same, m1, fun H1 l hx eb hl => ⟨rfl, ?_⟩⟩
      have e1 : Ext H H1 := Ext.made nx nd eb
      have er1 := e1 _ _ er
      refine ⟨_, rfl, r, _, dr, _, rfl, er1, T.req, T.reqI, (by show 1 < 1000; decide), ?_⟩
      rw [req_put]
      refine ⟨(by show 1 ≤ sizeLine; decide), fun p hp => ?_⟩
      have hp1 : H1 p = none := upd_back hp
      have rp : r ≠ p := ne_of_none er1 hp1
      have rx : r ≠ x := ne_of_none er nx
      have k1 : Kept [r] H1 (upd (upd H1 r (.ins A.req dr (reqF (.ref x)))) p (.lst [V.int 0])) := Kept.put.trans (Kept.new hp)
      have rl : r ≠ l := fun z => by
        have q := hx.lst
        rw [← z, er1] at q
        cases q
      have nl : H l = none := upd_back (upd_back hl)
      refine o.yes (some ⟨[], t, m⟩) [0] _ (r :: x :: l :: []) p ?_ (.some (i := x) (l := l) (as := []) ((upd_ne rp).trans upd_same) (hx.kept k1 fun b mb z => ?_) rx List.not_mem_nil) ?_ ?_ ?_ ((e1.kept (fp := [])).back p hp1) upd_same
      · rw [st0, if_pos val]
        rfl
      · rw [List.mem_singleton.mp z] at mb
        rcases List.mem_cons.mp mb with q | q
        · exact rx q
        · exact rl (List.mem_singleton.mp q)
      · intro b mb
        rcases List.mem_cons.mp mb with q | mb
        · exact .inl (by rw [q]; exact rfp)
        rcases List.mem_cons.mp mb with q | mb
        · exact .inr (by rw [q]; exact nx)
        · exact .inr (by rw [List.mem_singleton.mp mb]; exact nl)
      · exact (e1.kept (fp := fp)).trans (k1.mono fun b mb => by rw [List.mem_singleton.mp mb]; exact rfp)
      · exact (tabs_ins (o.tabs_.ext e1) er1).ext (Ext.new hp)
    · refine no A.out (-22) H .out ?_ (Kept.refl _ _) o.tabs_
      rw [st0, if_neg (by rw [val]; exact Bool.false_ne_true)]
      rfl
theorem ok_result (F : Fun K "result_of" "result_of" s_result_of f fd) (D1 : KR.Def P w K mg base (L2.CX P w) 7 "create" (spCreate A K tabs)) (D2 : KR.Mth P w K mg base (L2.CX P w) 1 A.req "existing_inventory" (spExisting A)) {ops : Addr} (G : Const mg "OPERATIONS" (.ref ops)) (O : Ops P w K mg base A tabs ops) :
    FnOk P w K mg base (L2.CX P w) 8 f fd ["request", "operation", "numbers"] (spResult A K tabs) := by
  refine F.okX sc_result_of (fun vs H Q E h => ?_) (fun cdv Ar outer s H vs Q E hr h => ⟨_, pss_cons (ps_if (pt_cmpR op_eq (pv 1) pe_int (nomark _)) (pss_one (ps_ret (KR.pe_def D1 hr rfl (passes_call (takes_of rfl rfl rfl rfl) fun _ _ _ _ z => z) (pa_cons (pv 0) (pa_cons (pv 2) pa_nil))))) pss_nil)
    (pss_cons (ps_set (i := 3) sc_result_of.nd rfl (.inl rfl) (KR.pe_mth0 (pv 0) D2 hr (passes_call (takes_of rfl rfl rfl rfl) fun _ _ _ _ z => z)))
    (pss_cons (ps_set (i := 4) sc_result_of.nd rfl (.inl rfl) (pe_ix KR.ix_row (C8.pe_gc rfl G) (pv 1) (fun _ _ => rfl)))
    (pss_one (ps_ret (KR.pe_oneOf (i := 4) (Is := fun g (x : Int) => KR.Holds P w K mg base 7 g (spOp A K tabs x)) (sp := spOp A K tabs) (fun g x h => h) hr rfl (.inl rfl) (passes_call (takes_of rfl rfl rfl rfl) fun _ _ _ _ z => z) (pa_cons (pv 3) (pa_cons (pv 2) pa_nil))))))), ?_⟩)
  · obtain ⟨r, n, st, fp, x, ms, rfl, _⟩ := h
    rfl
  · obtain ⟨r, n, st, fp, x, ms, rfl, o, no⟩ := h
    refine ⟨_, rfl, rfl, _, rfl, ite2 (fun c => ?_) (fun c => ?_)⟩
    · have c := of_decide_eq_true c
      have x0 : x = 0 := by
        injection c with c
      subst x0
      exact ⟨_, rfl, _, rfl, r, n, st, fp, ms, rfl, o, no⟩
    have c := of_decide_eq_false (Bool.not_eq_true _ ▸ c)
    have x0 : x ≠ 0 := fun z => c (by rw [z])
    obtain ⟨lo, hi⟩ := num_of o.ok
    obtain ⟨g, row, holds⟩ := O.row x (by omega) hi
    obtain ⟨dr, u, er⟩ : ∃ dr u, H r = some (.ins A.req dr (reqF u)) := by
      cases o.st_ with
      | none e => exact ⟨_, _, e⟩
      | some e _ _ _ => exact ⟨_, _, e⟩
    refine ⟨_, rfl, r, dr, _, rfl, er, req_existing _, r, st, fp, rfl, o.st_, fun z => ?_, fun dx i ei ne => ?_⟩
    · subst z
      exact no A.no (-11) H .no (none_step o.ok x0) (Kept.refl _ _) o.tabs_
    · refine ⟨_, rfl, ops, x, .ref g, rfl, rfl, row, g, x, rfl, holds, ?_⟩
      have st_ := o.st_
      have out := o.out
      have yes := o.yes
      cases st_ with
      | none e => exact absurd rfl ne
      | @some dx' i' l as v e y n1 n2 =>
        have same : i = i' := by
          rw [ei] at e
          injection e with e
          injection e with _ _ e3
          unfold reqF at e3
          injection e3 with e4
          injection e4 with _ e6
          injection e6
        subst same
        refine ⟨_, rfl, _, rfl, i, l, n, as, v, ms, rfl, y, o.seq, o.ok, o.tabs_, fun m => out (List.mem_cons_of_mem _ m), y.sep, fun v' ans H' l' as' p hs hy _ hb hk ht np hp => ?_, fun C c' H' b hs hk ht => no C c' H' b hs hk ht⟩
        have rn : r ∉ i :: l :: as := fun m => by
          rcases List.mem_cons.mp m with q | m
          · exact n1 q
          rcases List.mem_cons.mp m with q | m
          · have z := y.lst
            rw [← q, e] at z
            cases z
          · exact n2 m
        refine yes (some v') ans H' (r :: i :: l' :: as') p hs (.some (hk.at_ _ _ e rn ins_tbl) hy n1 fun m => ?_) (fun b mb => ?_) (hk.mono fun b mb => List.mem_cons_of_mem _ mb) ht np hp
        · rcases hb r (mem_as m) with q | q
          · exact rn q
          · rw [e] at q
            cases q
        · rcases List.mem_cons.mp mb with q | mb
          · exact .inl (by rw [q]; exact List.mem_cons_self ..)
          · rcases hb b mb with q | q
            · exact .inl (List.mem_cons_of_mem _ q)
            · exact .inr q
end
end KX
/-! # One call's answer -/
namespace KX
open PySem PySem.Spec PyProof.Rows L2
open Kp394 (Hide Inventory)

section
variable {P : Program} {w : World} {K : PySem.W.Frag} {mg : Str → Option Value} {base : Heap} {A : Ad} {f : Addr} {fd : FuncData} {tabs : List NdefX.NTab}
/-- a clause's suite: its code alone -/
def t_code (c : Int) : Addr → Value → Option Addr → TS := fun _ _ _ => tRet (tLst (tCons (tUn (rU fun i => .int (-i)) (tC (.int c))) tNil))
theorem ok_answer (F : Fun K "answer_of" "answer_of" s_answer_of f fd) (T : Txt K mg A) (C : Catch K A) (D : KR.Def P w K mg base (L2.CX P w) 8 "result_of" (spResult A K tabs)) : FnOk P w K mg base L2.CX0 9 f fd ["request", "operation", "numbers"] (spAnswer A K tabs) := by
  refine F.ok sc_answer_of (fun vs H Q E h => ?_) (fun cdv Ar outer s H vs Q E hr h => ⟨_, pss_one (ps_try_many (tb := fun W => tRet (tCallS (spResult A K tabs) (WE W) (tCons (tVar 0) (tCons (tVar 1) (tCons (tVar 2) tNil))))) (l := [(.ref A.no, t_code 11), (.ref A.such, t_code 2), (.ref A.out, t_code 22), (.ref A.many, t_code 28), (.ref A.noth, t_code 33)])
      (Wout := fun _ _ _ _ => False) rfl rfl takes0
      (fun W pn xe tk _ => pss_one (ps_ret (pe_defS D hr rfl (fun σ => passAt tk σ) (by exact (pa_cons (pv 0) (pa_cons (pv 1) (pa_cons (pv 2) pa_nil)))))))
      (.cons ⟨rfl, by decide, .inl T.no.at_⟩ (fun _ _ _ _ _ _ _ => pss_one (ps_ret (pe_lst (pa_cons (pe_un un_neg pe_int) pa_nil))))
      (.cons ⟨rfl, by decide, .inl T.such.at_⟩ (fun _ _ _ _ _ _ _ => pss_one (ps_ret (pe_lst (pa_cons (pe_un un_neg pe_int) pa_nil))))
      (.cons ⟨rfl, by decide, .inl T.out.at_⟩ (fun _ _ _ _ _ _ _ => pss_one (ps_ret (pe_lst (pa_cons (pe_un un_neg pe_int) pa_nil))))
      (.cons ⟨rfl, by decide, .inl T.many.at_⟩ (fun _ _ _ _ _ _ _ => pss_one (ps_ret (pe_lst (pa_cons (pe_un un_neg pe_int) pa_nil))))
      (.cons ⟨rfl, by decide, .inl T.noth.at_⟩ (fun _ _ _ _ _ _ _ => pss_one (ps_ret (pe_lst (pa_cons (pe_un un_neg pe_int) pa_nil)))) .nil)))))), ?_⟩)
  · obtain ⟨r, n, st, fp, x, ms, rfl, _⟩ := h
    rfl
  · obtain ⟨r, n, st, fp, x, ms, rfl, o⟩ := h
    refine ⟨_, rfl, _, rfl, _, rfl, r, n, st, fp, x, ms, rfl, ⟨o.st_, o.seq, o.ok, o.tabs_, o.out, o.yes⟩, fun cls c H' b hs hk ht => ?_⟩
    have fin : ∀ z : Int, c = -z → ∀ p, H' p = none → Q (.ref p) (upd H' p (.lst [V.int (-z)])) := fun z e p np => by
      subst e
      refine o.yes st [-z] _ fp p hs (o.st_.kept (hk.trans (Kept.new np)) fun _ _ => List.not_mem_nil) (fun _ m => .inl m) ((hk.trans (Kept.new np)).mono fun _ m => absurd m List.not_mem_nil) (ht.ext (Ext.new np)) (hk.back p np) upd_same
    have suite : ∀ (z : Int) (a : Addr) (cls : Value) (d : Option Addr) (σ : L2.St), c = -z → t_code z a cls d { nx := fun _ H' => Q .non H', rt := Q } σ H' := fun z a cls d σ e => ⟨_, rfl, (by show 1 ≤ sizeLine; decide), fun p np => fin z e p np⟩
    cases b with
    | no => exact ⟨true, C.no, fun _ a _ => suite 11 a _ _ _ rfl, fun q => Bool.noConfusion q⟩
    | such => exact ⟨false, C.such0, fun q => Bool.noConfusion q, fun _ => ⟨true, C.such, fun _ a _ => suite 2 a _ _ _ rfl, fun q => Bool.noConfusion q⟩⟩
    | out => exact ⟨false, C.out0, fun q => Bool.noConfusion q, fun _ => ⟨false, C.out1, fun q => Bool.noConfusion q, fun _ => ⟨true, C.out, fun _ a _ => suite 22 a _ _ _ rfl, fun q => Bool.noConfusion q⟩⟩⟩
    | many => exact ⟨false, C.many0, fun q => Bool.noConfusion q, fun _ => ⟨false, C.many1, fun q => Bool.noConfusion q, fun _ => ⟨false, C.many2, fun q => Bool.noConfusion q, fun _ => ⟨true, C.many, fun _ a _ => suite 28 a _ _ _ rfl, fun q => Bool.noConfusion q⟩⟩⟩⟩
    | noth => exact ⟨false, C.noth0, fun q => Bool.noConfusion q, fun _ => ⟨false, C.noth1, fun q => Bool.noConfusion q, fun _ => ⟨false, C.noth2, fun q => Bool.noConfusion q, fun _ => ⟨false, C.noth3, fun q => Bool.noConfusion q, fun _ => ⟨true, C.noth, fun _ a _ => suite 33 a _ _ _ rfl, fun q => Bool.noConfusion q⟩⟩⟩⟩⟩
end
end KX
/-! # The walk over the list of calls -/
namespace KX
open PySem PySem.Spec PyProof.Rows L2
open Kp394 (Hide Inventory)

/-! ### the list that is handed in -/
/-- a change at b leaves the list at a -/
def Free (K : PySem.W.Frag) (a : Addr) (xs : List V) (b : Addr) : Prop := b ≠ a ∨ ∀ H, SqL K H a xs
theorem free_new {K : PySem.W.Frag} {H : Hp} {a b : Addr} {xs : List V} (x : SqL K H a xs) (n : H b = none) : Free K a xs b := by
  rcases x with (x | ⟨o, x⟩) | x
  · exact .inl (ne_of_none x n).symm
  · exact .inl (ne_of_none x n).symm
  · exact .inr fun _ => .inr x
theorem seq_keep {K : PySem.W.Frag} {H H' : Hp} {a : Addr} {xs : List V} {fp : List Addr} (x : SqL K H a xs) (k : Kept fp H H') (f : ∀ b ∈ fp, Free K a xs b) : SqL K H' a xs := by
  by_cases w : ∀ H, SqL K H a xs
  · exact w H'
  · exact k.seq x fun m => (f a m).elim (fun z => z rfl) w
theorem StAt.some_ {A : Ad} {H : Hp} {r : Addr} {st : Option Inventory} {fp : List Addr} (x : StAt A H r st fp) {b : Addr} (m : b ∈ fp) : ∃ o, H b = Option.some o := by
  cases x with
  | none e => exact ⟨_, by rw [List.mem_singleton.mp m]; exact e⟩
  | some e y _ _ =>
    rcases List.mem_cons.mp m with q | m
    · exact ⟨_, by rw [q]; exact e⟩
    · exact y.some_ m
/-! ### one record -/
theorem all_nat {x : Int} {l : List Int} (h : Kp394Neutral.asked1 [x :: l] = true) : l.all Kp394Neutral.natural = true := by
  unfold Kp394Neutral.asked1 at h
  split at h <;> first
    | exact absurd h Bool.false_ne_true
    | (rename [x :: l] = _ => e
       injection e with e1
       injection e1 with e3 e4
       rw [e4]
       try simp only [List.all_cons, List.all_nil, Bool.and_true]
       all_goals first | exact h | exact (Bool.and_eq_true _ _ |>.mp h).1)
theorem rec_nat {r : Int × List Int} (h : KM.okRec r) : ∃ ms : List Nat, r.2 = asInts ms ∧ okN r.1 ms := by
  have all : ∀ z ∈ r.2, 0 ≤ z := fun z hz => by
    have q := List.all_eq_true.mp (all_nat (x := r.1) (l := r.2) h) z hz
    unfold Kp394Neutral.natural at q
    rw [Bool.and_eq_true] at q
    exact of_decide_eq_true q.1
  have e : r.2 = asInts (r.2.map Int.toNat) := by
    unfold asInts
    rw [List.map_map]
    conv => lhs; rw [← List.map_id r.2]
    apply List.map_congr_left
    intro z hz
    show z = ((z.toNat : Nat) : Int)
    have := all z hz
    omega
  refine ⟨_, e, ?_⟩
  unfold okN
  rw [← e]
  exact h
theorem encs_at {rs : List (Int × List Int)} {i : Nat} {r : Int × List Int} (h : rs[i]? = some r) : KM.encs rs = KM.encs (rs.take i) ++ (r.1 :: (r.2.length : Int) :: (r.2 ++ 0 :: KM.encs (rs.drop (i + 1)))) := by
  have e : rs = rs.take i ++ (r :: rs.drop (i + 1)) := by
    obtain ⟨lt, q⟩ := List.getElem?_eq_some_iff.mp h
    rw [← q, ← List.drop_eq_getElem_cons lt, List.take_append_drop]
  conv => lhs; rw [e]
  rw [KM.encs_append, KM.encs_cons]
  unfold KM.enc
  simp
theorem encs_next {rs : List (Int × List Int)} {i : Nat} {r : Int × List Int} (h : rs[i]? = some r) : (KM.encs (rs.take (i + 1))).length = (KM.encs (rs.take i)).length + r.2.length + 3 := by
  rw [List.take_add_one, h, Option.toList_some, KM.encs_append, List.length_append, KM.encs_cons, List.length_append, KM.enc_len]
  show _ + (r.2.length + 3 + 0) = _
  omega
theorem step_is (st : Option Inventory) {r : Int × List Int} {ms : List Nat} (e : r.2 = asInts ms) : KM.step1 st r = stepS r.1 ms st := by
  unfold KM.step1 stepS
  rw [e]
theorem told_next {rs : List (Int × List Int)} {i : Nat} {r : Int × List Int} (h : rs[i]? = some r) : KM.toldOf none (rs.take (i + 1)) = KM.toldOf none (rs.take i) ++ (((KM.step1 (KM.stateOf none (rs.take i)) r).2.length : Int) :: (KM.step1 (KM.stateOf none (rs.take i)) r).2) := by
  rw [List.take_add_one, h, Option.toList_some]
  exact KM.toldOf_snoc _ _ _
theorem state_next {rs : List (Int × List Int)} {i : Nat} {r : Int × List Int} (h : rs[i]? = some r) : KM.stateOf none (rs.take (i + 1)) = (KM.step1 (KM.stateOf none (rs.take i)) r).1 := by
  rw [List.take_add_one, h, Option.toList_some]
  exact KM.stateOf_snoc _ _ _
theorem told_few (rs : List (Int × List Int)) (i : Nat) : (KM.toldOf none (rs.take i)).length ≤ (KM.toldOf none rs).length := by
  have e := KM.toldOf_append none (rs.take i) (rs.drop i)
  rw [List.take_append_drop] at e
  rw [e, List.length_append]
  omega
/-- where the walk stands: behind i calls -/
structure WalkAt (A : Ad) (K : PySem.W.Frag) (tabs : List NdefX.NTab) (rs : List (Int × List Int)) (a r t i : Nat) (fp : List Addr) (H : Hp) : Prop where
  le : i ≤ rs.length
  seq : SqL K H a ((KM.encs rs).map V.int)
  st : StAt A H r (KM.stateOf none (rs.take i)) fp
  tabs_ : NdefX.TabsN tabs H
  told : H t = some (.lst ((KM.toldOf none (rs.take i)).map V.int))
  tfp : t ∉ fp
  free : ∀ b ∈ t :: fp, Free K a ((KM.encs rs).map V.int) b
def spAnswers (K : PySem.W.Frag) (tabs : List NdefX.NTab) : Sp := fun vs H Q _ => ∃ (a : Addr) (rs : List (Int × List Int)), vs = [.ref a] ∧ SqL K H a ((KM.encs rs).map V.int) ∧ (∀ r ∈ rs, KM.okRec r) ∧ (KM.toldOf none rs).length ≤ 10000000 ∧ NdefX.TabsN tabs H ∧
  ∀ (H' : Hp) (p : Addr), H' p = some (.lst ((KM.toldOf none rs).map V.int)) → Q (.ref p) H'
def leftOf (n : Nat) : L2.St → Hp → Nat := fun σ _ => match σ[3]? with
  | some (some (V.int p)) => ((n : Int) - p).toNat
  | _ => 0
section
variable {P : Program} {w : World} {K : PySem.W.Frag} {mg : Str → Option Value} {base : Heap} {A : Ad} {f : Addr} {fd : FuncData} {tabs : List NdefX.NTab}
theorem ok_answers (F : Fun K "answers" "answers" s_answers f fd) (T : Txt K mg A) (D1 : KR.Maker P w K mg base 1 "Request" A.req (spReqInit A)) (D2 : KR.Def P w K mg base L2.CX0 9 "answer_of" (spAnswer A K tabs)) : FnOk P w K mg base L2.CX0 10 f fd ["calls"] (spAnswers K tabs) := by
  refine F.ok sc_answers (fun vs H Q E h => ?_) (fun cdv Ar outer s H vs Q E hr h => ⟨_, pss_cons (ps_set (i := 1) sc_answers.nd rfl (.inl rfl) (KR.pe_maker0 D1 hr rfl))
    (pss_cons (ps_set (i := 2) sc_answers.nd rfl (.inl rfl) (pe_lst pa_nil))
    (pss_cons (ps_set (i := 3) sc_answers.nd rfl (.inl rfl) pe_int)
    (pss_cons (ps_while PassesOwn.never (pt_cmpR op_lt (pv 3) (pe_callB call_len_seq (by rfl) T.len PySem.boot_len (pa_cons (pv 0) pa_nil)) (nomark _))
      (pss_cons (ps_set (i := 4) sc_answers.nd rfl (.inl rfl) (pe_op op_add (pv 3) pe_int))
      (pss_cons (ps_set (i := 5) sc_answers.nd rfl (.inl rfl) (pe_op op_add (pv 4) (pe_ix ix_list (pv 0) (pe_op op_add (pv 3) pe_int) (fun _ _ => rfl))))
      (pss_cons (ps_set (i := 6) sc_answers.nd rfl (.inl rfl) (KR.pe_def D2 hr rfl pass0 (pa_cons (pv 1) (pa_cons (pe_ix ix_list (pv 0) (pv 3) (fun _ _ => rfl)) (pa_cons (pe_slice sl_list (pv 0) (po_some (pv 4)) (po_some (pv 5))) pa_nil)))))
      (pss_cons (ps_expr (pe_bm PySem.F.plainAttrs_list PySem.F.slot_list_append PySem.F.type_list_append mt_append (pv 2) (pa_cons (pe_callB call_len_seq (by rfl) T.len PySem.boot_len (pa_cons (pv 6) pa_nil)) pa_nil)))
      (pss_cons (ps_expr (pe_bm PySem.F.plainAttrs_list PySem.F.slot_list_extend PySem.F.type_list_extend mt_extend (pv 2) (pa_cons (pv 6) pa_nil)))
      (pss_one (ps_set (i := 3) sc_answers.nd rfl (.inl rfl) (pe_op op_add (pv 5) pe_int)))))))))
    (pss_one (ps_ret (pv 2)))))), ?_⟩)
  · obtain ⟨a, rs, rfl, _⟩ := h
    rfl
  · obtain ⟨a, rs, rfl, sq, ok, few, tb, q⟩ := h
    intro x dx nx nd ne
    refine ⟨x, dx, rfl, upd_same, fun H1 hx eb => ⟨rfl, ?_⟩⟩
    have e1 : Ext H H1 := Ext.made nx nd eb
    refine ⟨Nat.zero_le _, fun t nt => ?_⟩
    have xt : x ≠ t := by
      obtain ⟨o, e⟩ := hx.some_ (List.mem_singleton.mpr rfl)
      exact ne_of_none e nt
    have e2 := Ext.new (o := .lst []) nt
    have w0 : WalkAt A K tabs rs a x t 0 [x] (upd H1 t (.lst [])) := by
      refine ⟨Nat.zero_le _, e2.seq (e1.seq sq), hx.kept (fp' := []) e2.kept fun _ _ => List.not_mem_nil, (tb.ext e1).ext e2, upd_same, fun m => xt (List.mem_singleton.mp m).symm, fun b m => ?_⟩
      rcases List.mem_cons.mp m with z | m
      · rw [z]
        exact free_new (e1.seq sq) nt
      · rw [List.mem_singleton.mp m]
        exact free_new sq nx
    refine while_by (fun σ H' => ∃ i fp d4 d5 d6, σ = [some (.ref a), some (.ref x), some (.ref t), some (.int ((KM.encs (rs.take i)).length : Nat)), d4, d5, d6] ∧ WalkAt A K tabs rs a x t i fp H') (leftOf (KM.encs rs).length) ⟨0, [x], _, _, _, rfl, w0⟩ ?_ ?_
    · rintro σ H2 ⟨i, fp, d4, d5, d6, rfl, w⟩
      refine ⟨_, rfl, _, rfl, a, _, rfl, .inl w.seq, _, _, rfl, rfl, _, rfl, ?_⟩
      rw [List.length_map]
      refine ite2 (fun c => ?_) (fun c => ?_)
      · have c := of_decide_eq_true c
        have li : i < rs.length := by
          rcases Nat.lt_or_ge i rs.length with h | h
          · exact h
          · rw [List.take_of_length_le h] at c
            omega
        have er : rs[i]? = some rs[i] := List.getElem?_eq_getElem li
        have okr := ok _ (List.getElem_mem li)
        generalize rs[i] = r at er okr
        obtain ⟨ms, em, okm⟩ := rec_nat okr
        have cut := encs_at er
        have nxt := encs_next er
        have g0 : ((KM.encs rs).map V.int)[(KM.encs (rs.take i)).length]? = some (V.int r.1) := by
          rw [List.getElem?_map, cut, List.getElem?_append_right (Nat.le_refl _), Nat.sub_self]
          rfl
        have g1 : ((KM.encs rs).map V.int)[(KM.encs (rs.take i)).length + 1]? = some (V.int (r.2.length : Nat)) := by
          rw [List.getElem?_map, cut, List.getElem?_append_right (by omega), show (KM.encs (rs.take i)).length + 1 - (KM.encs (rs.take i)).length = 1 by omega]
          rfl
        have size : (KM.encs rs).length = (KM.encs (rs.take i)).length + (r.2.length + 3 + (KM.encs (rs.drop (i + 1))).length) := by
          rw [cut, List.length_append]
          simp
          omega
        have sl : cutV ((KM.encs rs).map V.int) (some (((KM.encs (rs.take i)).length : Nat) + 2 : Int)) (some ((((KM.encs (rs.take i)).length : Nat) + 2 : Int) + (r.2.length : Nat))) = nums ms := by
          have z := cut_both ((KM.encs rs).map V.int) ((KM.encs (rs.take i)).length + 2) ((KM.encs (rs.take i)).length + 2 + r.2.length) (by omega) (by rw [List.length_map]; omega)
          rw [nums_asInts, ← em]
          refine Eq.trans z ?_
          rw [show (KM.encs (rs.take i)).length + 2 + r.2.length - ((KM.encs (rs.take i)).length + 2) = r.2.length by omega, ← List.map_drop, ← List.map_take]
          congr 1
          rw [cut, ← List.drop_drop, List.drop_append_of_le_length (Nat.le_refl _), List.drop_length]
          show List.take _ (r.2 ++ _) = _
          rw [List.take_append_of_le_length (Nat.le_refl _), List.take_length]
        refine ⟨_, rfl, _, _, rfl, rfl, _, rfl, _, rfl, _, rfl, _, _, rfl, rfl, a, _, _, _, rfl, rfl, w.seq, atI_nat (j := (KM.encs (rs.take i)).length + 1) g1, _, _, rfl, rfl, ?_⟩
        refine ⟨_, rfl, _, rfl, _, rfl, a, _, _, _, rfl, rfl, w.seq, atI_nat g0, _, rfl, _, rfl, _, rfl, _, rfl, _, rfl, a, _, rfl, w.seq, fun n hn => ?_⟩
        rw [sl]
        have e3 := Ext.new (o := .lst (nums ms)) hn
        have nfp : n ∉ fp := fun m => by
          obtain ⟨o, e⟩ := w.st.some_ m
          rw [hn] at e
          cases e
        have tn : t ≠ n := ne_of_none w.told hn
        have few' : (KM.toldOf none (rs.take (i + 1))).length ≤ 10000000 := Nat.le_trans (told_few rs (i + 1)) few
        rw [told_next er, step_is _ em, List.length_append, List.length_cons] at few'
        have tnext := told_next er
        have snext := state_next er
        rw [step_is _ em] at tnext snext
        refine ⟨x, n, _, fp, r.1, ms, rfl, w.st.kept (fp' := []) e3.kept (fun _ _ => List.not_mem_nil), SqL.of upd_same, okm, w.tabs_.ext e3, nfp, fun st' ans H3 fp' p hs hst hb hk ht np hp => ?_⟩
        rw [hs] at few' tnext snext
        dsimp only at few' tnext snext
        have kk : Kept fp H2 H3 := (e3.kept (fp := fp)).trans hk
        have s3 := seq_keep w.seq kk fun b m => w.free b (List.mem_cons_of_mem _ m)
        have t3 : H3 t = some (.lst ((KM.toldOf none (rs.take i)).map V.int)) := kk.at_ _ _ w.told w.tfp lst_tbl
        have old : ∀ b ∈ fp', b ∈ fp ∨ H2 b = none := fun b m => (hb b m).imp id fun z => upd_back z
        have tfp' : t ∉ fp' := fun m => by
          rcases old t m with z | z
          · exact w.tfp z
          · rw [w.told] at z
            cases z
        have pt : p ≠ t := fun z => by
          rw [z, upd_ne tn, w.told] at np
          cases np
        have szl : 10000000 < sizeLine := by
          rw [sizeLine_eq]
          decide
        refine ⟨_, rfl, .inl ⟨rfl, _, SqL.of t3⟩, _, rfl, p, _, rfl, .inl (SqL.of hp), t, _, _, rfl, rfl, t3, by rw [List.length_map]; omega, ?_⟩
        refine ⟨_, rfl, .inl ⟨rfl, _, SqL.of upd_same⟩, _, rfl, t, p, _, _, rfl, rfl, upd_same, (upd_ne pt).trans hp, by rw [List.length_append, List.length_map, List.length_map, List.length_singleton]; omega, ?_⟩
        rw [upd_upd]
        have told' : (KM.toldOf none (rs.take i)).map V.int ++ [V.int (((ans.map V.int).length : Nat) : Int)] ++ ans.map V.int = (KM.toldOf none (rs.take (i + 1))).map V.int := by
          rw [tnext, List.map_append, List.map_cons, List.append_assoc, List.length_map]
          rfl
        rw [told']
        have kt : Kept [t] H3 (upd H3 t (.lst ((KM.toldOf none (rs.take (i + 1))).map V.int))) := Kept.put
        have place : ((((KM.encs (rs.take i)).length : Nat) + 2 : Int) + (r.2.length : Nat)) + 1 = ((KM.encs (rs.take (i + 1))).length : Nat) := by
          rw [nxt]
          omega
        refine ⟨_, rfl, _, _, rfl, rfl, ⟨i + 1, fp', _, _, _, congrArg (fun z => [some (V.ref a), some (.ref x), some (.ref t), some (.int z), _, _, _]) place, li, ?_, ?_, tabs_put ht t3, upd_same, tfp', fun b m => ?_⟩, ?_⟩
        · exact seq_keep s3 kt fun b m => by
            rw [List.mem_singleton.mp m]
            exact w.free t (List.mem_cons_self ..)
        · rw [snext]
          exact hst.kept kt fun b m z => by
            rw [List.mem_singleton.mp z] at m
            exact tfp' m
        · rcases List.mem_cons.mp m with z | m
          · rw [z]
            exact w.free t (List.mem_cons_self ..)
          · rcases old b m with z | z
            · exact w.free b (List.mem_cons_of_mem _ z)
            · exact free_new w.seq z
        · show ((((KM.encs rs).length : Nat) : Int) - (((((KM.encs (rs.take i)).length : Nat) + 2 : Int) + (r.2.length : Nat)) + 1)).toNat < ((((KM.encs rs).length : Nat) : Int) - (((KM.encs (rs.take i)).length : Nat) : Int)).toNat
          omega
      · have c := of_decide_eq_false (Bool.not_eq_true _ ▸ c)
        have told := w.told
        have all : i = rs.length := by
          rcases Nat.lt_or_ge i rs.length with h | h
          · have z := encs_at (List.getElem?_eq_getElem h)
            have y := congrArg List.length z
            rw [List.length_append, List.length_cons] at y
            omega
          · exact Nat.le_antisymm w.le h
        rw [all, List.take_length] at told
        exact ⟨_, rfl, q H2 t told⟩
    · rintro σ H' Q' Q'' m ⟨v, e1, z⟩
      obtain ⟨v2, e2, l, ys, e3, sq', z⟩ := z
      obtain ⟨u1, u2, e4, e5, k, e6, z⟩ := z
      exact ⟨v, e1, v2, e2, l, ys, e3, sq', u1, u2, e4, e5, k, e6, m _ _ z⟩
end
end KX
/-! # All defs together, from what the top has written (printed by gen_all.py) -/
namespace KX
open PySem PySem.Spec PyProof.Rows L2
open Kp394 (Hide Inventory)

structure DefIn (K : PySem.W.Frag) (x : Str) (st : Stmt) : Prop where
  ex : ∃ (f : Addr) (fd : FuncData), PySem.W.nsIn K mainGlobals x = some (some (.ref f)) ∧ Fun K x x st f fd
structure MthIn (K : PySem.W.Frag) (C : Addr) (m qual : Str) (st : Stmt) : Prop where
  ex : ∃ (f : Addr) (fd : FuncData), PySem.W.findIn K (.ref C) m = some (some (.ref f)) ∧ PySem.W.isFn K (.ref f) = true ∧ Fun K m qual st f fd
structure RowIn (K : PySem.W.Frag) (es : Array DictEntry) (i : Int) (x : Str) (st : Stmt) : Prop where
  ex : ∃ (f : Addr) (fd : FuncData), findBy Value.isInt es i = some (.ref f) ∧ Fun K x x st f fd
/-- a def that makes a def of its own: its code object at c, the table at T -/
structure NestIn (K : PySem.W.Frag) (x : Str) (st : Stmt) (c T : Addr) : Prop where
  ex : ∃ (f : Addr) (oc kV doc pm ct : Value) (od an : Option Addr) (osl : Array (Option Value)), PySem.W.nsIn K mainGlobals x = some (some (.ref f)) ∧
    K.lookup f = some ⟨oc, od, .func (PySem.W.fnOf x x (defArgs st) (defBody st) (defScope st) .none kV doc pm an (.ref c) ct), osl⟩ ∧ PySem.W.codeIn K (.ref c) x = true ∧ PySem.W.keepIn K (.ref f) = true
  code : ∃ (oc : Value) (od : Option Addr) (vs : Array Value) (osl : Array (Option Value)), K.lookup c = some ⟨oc, od, .fields vs, osl⟩ ∧ (vs[11]? : Option Value) = some (.ref T)
theorem NestIn.tab {K : PySem.W.Frag} {x : Str} {st : Stmt} {c T : Addr} (N : NestIn K x st c T) : PySem.W.tabIn K x = some (c, T) := by
  obtain ⟨f, oc, kV, doc, pm, ct, od, an, osl, g, l, _, _⟩ := N.ex
  obtain ⟨oc', od', vs, osl', lc, v⟩ := N.code
  unfold PySem.W.tabIn
  rw [g]
  dsimp only
  rw [l]
  dsimp only [PySem.W.fnOf]
  rw [lc]
  dsimp only
  rw [v]
structure ErrIn (K : PySem.W.Frag) (x : Str) (C : Addr) : Prop where
  at_ : PySem.W.nsIn K mainGlobals x = some (some (.ref C))
  exc : PySem.W.excIn K C [.type "Exception", .type "BaseException", .type "object"] "Exception.__new__" = true
  kept : PySem.W.keepIn K (.ref C) = true
  base : PySem.W.subIn K (.ref C) (.type "BaseException") = some true
  meta_ : PySem.W.typeIn K (.ref C) = some (.type "type")
  cls : PySem.W.isClsIn K C = true
structure ClsIn (K : PySem.W.Frag) (x : Str) (C : Addr) : Prop where
  at_ : PySem.W.nsIn K mainGlobals x = some (some (.ref C))
  pg : PySem.W.plainGet K C Str.empty = true
  hd : PySem.W.hasDictIn K C = true
  po : PySem.W.plainOver K C = true
  sa : PySem.W.findIn K (.ref C) "__setattr__" = some (some (.builtin "object.__setattr__"))
  mks : PySem.W.makesIn K C = true
  kc : PySem.W.keepIn K (.ref C) = true
/-- an error of the class S, held against the clause that names S' -/
theorem exm_two {K : PySem.W.Frag} {S S' : Addr} {b : Bool} (h1 : PySem.W.subIn K (.ref S') (.type "BaseException") = some true) (h2 : PySem.W.isClsIn K S' = true) (h3 : PySem.W.typeIn K (.ref S') = some (.type "type")) (h4 : PySem.W.subIn K (.ref S) (.ref S') = some b) :
    PySem.W.exmOne K (.ref S) (.ref S') = some b := by
  unfold PySem.W.exmOne
  rw [if_pos (by rw [h1]; rfl)]
  have h2' : (PySem.W.clsIn K S').isSome = true := h2
  show (if ((PySem.W.clsIn K S').isSome && PySem.W.typeIn K (.ref S') == some (.type "type")) = true then PySem.W.subIn K (.ref S) (.ref S') else none) = some b
  rw [if_pos (by rw [h2', h3]; rfl)]
  exact h4
section
variable {P : Program} {w : World} {K : PySem.W.Frag} {h : Heap} {mg : Str → Option Value} {base : Heap} {CX : CXT} {k : Nat} {x m qual : Str} {st : Stmt} {sp : Sp} {ps : List Str} {C : Addr} {es : Array DictEntry} {i : Int}
theorem DefIn.put (D : DefIn K x st) (X : K.In h) (G : h.Ns mainGlobals mg) (ok : ∀ f fd, Fun K x x st f fd → FnOk P w K mg base CX k f fd ps sp)
    (b : ∀ (kV doc pm : Value) (an : Option Addr) (cdv ct : Value) (us : List Value), us.length = ps.length → bindArgs (PySem.W.fnOf x x (defArgs st) (defBody st) (defScope st) .none kV doc pm an cdv ct) ⟨us, []⟩ = pure (ps.zip us)) : KR.Def P w K mg base CX k x sp := by
  obtain ⟨f, fd, g, F⟩ := D.ex
  exact ⟨f, fd, ps, ok f fd F, PySem.W.mg_of X G g, F.kp, F.binds b⟩
theorem MthIn.mth (D : MthIn K C m qual st) (c : Cls K C) (ok : ∀ f fd, Fun K m qual st f fd → FnOk P w K mg base CX k f fd ps sp)
    (b : ∀ (kV doc pm : Value) (an : Option Addr) (cdv ct : Value) (us : List Value), us.length = ps.length → bindArgs (PySem.W.fnOf m qual (defArgs st) (defBody st) (defScope st) .none kV doc pm an cdv ct) ⟨us, []⟩ = pure (ps.zip us)) : KR.Mth P w K mg base CX k C m sp := by
  obtain ⟨f, fd, g, i, F⟩ := D.ex
  exact ⟨f, fd, ps, c, ⟨g, i, F.kp⟩, ok f fd F, F.binds b⟩
theorem MthIn.maker (D : MthIn K C "__init__" qual st) (c : ClsIn K x C) (X : K.In h) (G : h.Ns mainGlobals mg) (ok : ∀ f fd, Fun K "__init__" qual st f fd → FnOk P w K mg base L2.CX0 k f fd ps sp)
    (b : ∀ (kV doc pm : Value) (an : Option Addr) (cdv ct : Value) (us : List Value), us.length = ps.length → bindArgs (PySem.W.fnOf "__init__" qual (defArgs st) (defBody st) (defScope st) .none kV doc pm an cdv ct) ⟨us, []⟩ = pure (ps.zip us)) : KR.Maker P w K mg base k x C sp := by
  obtain ⟨f, fd, g, i, F⟩ := D.ex
  exact ⟨f, fd, ps, ⟨c.mks, g, i, c.kc⟩, ok f fd F, PySem.W.mg_of X G c.at_, F.binds b⟩
theorem RowIn.put (D : RowIn K es i x st) (ok : ∀ f fd, Fun K x x st f fd → FnOk P w K mg base (L2.CX P w) k f fd ps sp)
    (b : ∀ (kV doc pm : Value) (an : Option Addr) (cdv ct : Value) (us : List Value), us.length = ps.length → bindArgs (PySem.W.fnOf x x (defArgs st) (defBody st) (defScope st) .none kV doc pm an cdv ct) ⟨us, []⟩ = pure (ps.zip us)) : ∃ f : Addr, findBy Value.isInt es i = some (.ref f) ∧ KR.Holds P w K mg base k f sp := by
  obtain ⟨f, fd, g, F⟩ := D.ex
  exact ⟨f, g, fd, ps, ok f fd F, F.kp, F.binds b⟩
theorem ErrIn.put {x : Str} (E : ErrIn K x C) (X : K.In h) (G : h.Ns mainGlobals mg) : KR.Err K mg x C := ⟨PySem.W.mg_of X G E.at_, E.exc, E.kept, E.base, E.meta_⟩
theorem ErrIn.exm {x y : Str} {S S' : Addr} (_ : ErrIn K x S) (E' : ErrIn K y S') {b : Bool} (s : PySem.W.subIn K (.ref S) (.ref S') = some b) : PySem.W.exmOne K (.ref S) (.ref S') = some b := exm_two E'.base E'.cls E'.meta_ s
theorem tab_empty {H : Hp} {T : Addr} {nm : Nat → Nat → Str} (e : H T = some (.tbl #[])) : NdefX.TabN H T nm := ⟨#[], e, by first | trivial | exact .nil | decide, fun pos cv z => by cases z⟩
end
/-- a constant of the module -/
structure ConIn (K : PySem.W.Frag) (x : Str) (n : Int) : Prop where
  ex : ∃ t, PySem.W.nsIn K mainGlobals x = some (some (.int n t))
theorem ConIn.put {K : PySem.W.Frag} {h : Heap} {mg : Str → Option Value} {x : Str} {n : Int} (D : ConIn K x n) (X : K.In h) (G : h.Ns mainGlobals mg) : Const mg x (.int n) := by
  obtain ⟨t, e⟩ := D.ex
  exact ⟨_, PySem.W.mg_of X G e, t, rfl⟩

section
variable {K : PySem.W.Frag} {x m qual : Str} {st : Stmt} {f C c T : Addr} {oc kV doc pm cdv ct oc' : Value} {od an od' : Option Addr} {osl sl' : Array (Option Value)} {vs : Array Value} {es : Array DictEntry} {i n : Int} {t : Tok}
theorem DefIn.of (g : PySem.W.nsIn K mainGlobals x = some (some (.ref f))) (l : K.lookup f = some ⟨oc, od, .func (PySem.W.fnOf x x (defArgs st) (defBody st) (defScope st) .none kV doc pm an cdv ct), osl⟩) (c : PySem.W.codeIn K cdv x = true) (k : PySem.W.keepIn K (.ref f) = true) : DefIn K x st := ⟨_, _, g, fun_mk l c k⟩
theorem MthIn.of (g : PySem.W.findIn K (.ref C) m = some (some (.ref f))) (i : PySem.W.isFn K (.ref f) = true) (l : K.lookup f = some ⟨oc, od, .func (PySem.W.fnOf m qual (defArgs st) (defBody st) (defScope st) .none kV doc pm an cdv ct), osl⟩) (c : PySem.W.codeIn K cdv qual = true) (k : PySem.W.keepIn K (.ref f) = true) : MthIn K C m qual st := ⟨_, _, g, i, fun_mk l c k⟩
theorem RowIn.of (g : findBy Value.isInt es i = some (.ref f)) (l : K.lookup f = some ⟨oc, od, .func (PySem.W.fnOf x x (defArgs st) (defBody st) (defScope st) .none kV doc pm an cdv ct), osl⟩) (c : PySem.W.codeIn K cdv x = true) (k : PySem.W.keepIn K (.ref f) = true) : RowIn K es i x st := ⟨_, _, g, fun_mk l c k⟩
theorem NestIn.of (g : PySem.W.nsIn K mainGlobals x = some (some (.ref f))) (l : K.lookup f = some ⟨oc, od, .func (PySem.W.fnOf x x (defArgs st) (defBody st) (defScope st) .none kV doc pm an (.ref c) ct), osl⟩) (h : PySem.W.codeIn K (.ref c) x = true) (k : PySem.W.keepIn K (.ref f) = true)
    (m : K.lookup c = some ⟨oc', od', .fields vs, sl'⟩) (v : (vs[11]? : Option Value) = some (.ref T)) : NestIn K x st c T := ⟨⟨_, _, _, _, _, _, _, _, _, g, l, h, k⟩, _, _, _, _, m, v⟩
theorem ConIn.of (g : PySem.W.nsIn K mainGlobals x = some (some (.int n t))) : ConIn K x n := ⟨t, g⟩
theorem keys_nil : KR.IntKeys [] := trivial
theorem keys_cons {e : DictEntry} {r : List DictEntry} (k : e.key = .int i t) (h : e.hash = hashInt i) (q : KR.IntKeys r) : KR.IntKeys (e :: r) := ⟨⟨i, t, k, h⟩, q⟩
end

/-- what the top has written -/
structure Top_ (K : PySem.W.Frag) (A : Ad) (ops c1 T1 c2 T2 : Addr) (es : Array DictEntry) (n : Nat) : Prop where
  e_no : ErrIn K "NoInventory" A.no
  e_such : ErrIn K "NoSuchHide" A.such
  e_out : ErrIn K "OutsideLimits" A.out
  e_many : ErrIn K "TooManyHides" A.many
  e_noth : ErrIn K "NothingFound" A.noth
  s_no_no : PySem.W.subIn K (.ref A.no) (.ref A.no) = some true
  s_such_no : PySem.W.subIn K (.ref A.such) (.ref A.no) = some false
  s_such_such : PySem.W.subIn K (.ref A.such) (.ref A.such) = some true
  s_out_no : PySem.W.subIn K (.ref A.out) (.ref A.no) = some false
  s_out_such : PySem.W.subIn K (.ref A.out) (.ref A.such) = some false
  s_out_out : PySem.W.subIn K (.ref A.out) (.ref A.out) = some true
  s_many_no : PySem.W.subIn K (.ref A.many) (.ref A.no) = some false
  s_many_such : PySem.W.subIn K (.ref A.many) (.ref A.such) = some false
  s_many_out : PySem.W.subIn K (.ref A.many) (.ref A.out) = some false
  s_many_many : PySem.W.subIn K (.ref A.many) (.ref A.many) = some true
  s_noth_no : PySem.W.subIn K (.ref A.noth) (.ref A.no) = some false
  s_noth_such : PySem.W.subIn K (.ref A.noth) (.ref A.such) = some false
  s_noth_out : PySem.W.subIn K (.ref A.noth) (.ref A.out) = some false
  s_noth_many : PySem.W.subIn K (.ref A.noth) (.ref A.many) = some false
  s_noth_noth : PySem.W.subIn K (.ref A.noth) (.ref A.noth) = some true
  c_hide : ClsIn K "Hide" A.hide
  c_inv : ClsIn K "Inventory" A.inv
  c_req : ClsIn K "Request" A.req
  n_hideK : PySem.W.findIn K (.ref A.hide) "kind" = some none
  n_hideT : PySem.W.findIn K (.ref A.hide) "thickness" = some none
  n_hideA : PySem.W.findIn K (.ref A.hide) "area" = some none
  n_invT : PySem.W.findIn K (.ref A.inv) "tolerance" = some none
  n_invL : PySem.W.findIn K (.ref A.inv) "lot_size" = some none
  n_invH : PySem.W.findIn K (.ref A.inv) "hides" = some none
  n_reqI : PySem.W.findIn K (.ref A.req) "inventory" = some none
  cKind : ConIn K "GREATEST_KIND" 2
  cThick : ConIn K "GREATEST_THICKNESS" 60
  cArea : ConIn K "GREATEST_AREA" 60
  cTol : ConIn K "GREATEST_TOLERANCE" 60
  cLot : ConIn K "GREATEST_LOT_SIZE" 12
  cMost : ConIn K "MOST_HIDES" 12
  f_len : PySem.W.nsIn K mainGlobals "len" = some none
  f_set_ : PySem.W.nsIn K mainGlobals "set" = some none
  f_sum : PySem.W.nsIn K mainGlobals "sum" = some none
  f_sorted : PySem.W.nsIn K mainGlobals "sorted" = some none
  f_range : PySem.W.nsIn K mainGlobals "range" = some none
  f_abs : PySem.W.nsIn K mainGlobals "abs" = some none
  f_enumerate : PySem.W.nsIn K mainGlobals "enumerate" = some none
  m_Hide_init : MthIn K A.hide "__init__" "Hide.__init__" s_Hide_init
  m_Inventory_init : MthIn K A.inv "__init__" "Inventory.__init__" s_Inventory_init
  m_Request_init : MthIn K A.req "__init__" "Request.__init__" s_Request_init
  m_Inventory_check_number : MthIn K A.inv "check_number" "Inventory.check_number" s_Inventory_check_number
  m_Inventory_hide_at : MthIn K A.inv "hide_at" "Inventory.hide_at" s_Inventory_hide_at
  m_Inventory_different_hides : MthIn K A.inv "different_hides" "Inventory.different_hides" s_Inventory_different_hides
  m_Request_existing_inventory : MthIn K A.req "existing_inventory" "Request.existing_inventory" s_Request_existing_inventory
  d_hides_at : DefIn K "hides_at" s_hides_at
  d_area_of : DefIn K "area_of" s_area_of
  d_check_limits : DefIn K "check_limits" s_check_limits
  d_check_kind : DefIn K "check_kind" s_check_kind
  d_check_measures : DefIn K "check_measures" s_check_measures
  d_hides_match : DefIn K "hides_match" s_hides_match
  d_any_two_match : DefIn K "any_two_match" s_any_two_match
  d_make_lot : DefIn K "make_lot" s_make_lot
  d_lots_in_order : DefIn K "lots_in_order" s_lots_in_order
  d_incompatible_in_order : DefIn K "incompatible_in_order" s_incompatible_in_order
  d_numbers_of_kind : DefIn K "numbers_of_kind" s_numbers_of_kind
  d_leaving_over : DefIn K "leaving_over" s_leaving_over
  d_difference_of : DefIn K "difference_of" s_difference_of
  d_paired_in_order : DefIn K "paired_in_order" s_paired_in_order
  d_runs_in_order : DefIn K "runs_in_order" s_runs_in_order
  d_largest_of_lots : DefIn K "largest_of_lots" s_largest_of_lots
  d_lots_of : DefIn K "lots_of" s_lots_of
  d_create : DefIn K "create" s_create
  d_result_of : DefIn K "result_of" s_result_of
  d_answer_of : DefIn K "answer_of" s_answer_of
  d_answers : DefIn K "answers" s_answers
  t_1 : NestIn K "numbers_in_order" s_numbers_in_order c1 T1
  t_2 : NestIn K "largest_part" s_largest_part c2 T2
  t_ne : T1 ≠ T2
  o_at : PySem.W.nsIn K mainGlobals "OPERATIONS" = some (some (.ref ops))
  o_is : K.lookup ops = some ⟨.type "dict", none, .dict es n, #[]⟩
  o_keys : KR.IntKeys es.toList
  o_1 : RowIn K es 1 "add_hide" s_add_hide
  o_2 : RowIn K es 2 "remove_hide" s_remove_hide
  o_3 : RowIn K es 3 "get_hide" s_get_hide
  o_4 : RowIn K es 4 "set_limits" s_set_limits
  o_5 : RowIn K es 5 "thin_hide" s_thin_hide
  o_6 : RowIn K es 6 "hide_order" s_hide_order
  o_7 : RowIn K es 7 "are_compatible" s_are_compatible
  o_8 : RowIn K es 8 "is_lot" s_is_lot
  o_9 : RowIn K es 9 "fewest_lots" s_fewest_lots
  o_10 : RowIn K es 10 "greedy_lots" s_greedy_lots
  o_11 : RowIn K es 11 "incompatible_hides" s_incompatible_hides
  o_12 : RowIn K es 12 "largest_lot" s_largest_lot
  o_13 : RowIn K es 13 "total_area" s_total_area
  o_14 : RowIn K es 14 "best_pairs" s_best_pairs
  o_15 : RowIn K es 15 "least_tolerance" s_least_tolerance
  o_16 : RowIn K es 16 "lots_without_hide" s_lots_without_hide
  o_17 : RowIn K es 17 "lots_with_hide" s_lots_with_hide
  o_18 : RowIn K es 18 "status" s_status
theorem all_mk {P : Program} {w : World} {K : PySem.W.Frag} {h : Heap} {mg : Str → Option Value} {fa : Addr} {A : Ad} {ops c1 T1 c2 T2 : Addr} {es : Array DictEntry} {n : Nat} (X : K.In h) (G : h.Ns mainGlobals mg) (hfa : mg "answers" = some (.ref fa)) (W : Top_ K A ops c1 T1 c2 T2 es n) :
    ∃ fd : FuncData, (∀ (s : Shared) (u : Value), BindsTo s fd ⟨[u], []⟩ [("calls", u)]) ∧ ∀ base : Heap, K.In base → base.Ns mainGlobals mg → (∀ t ∈ [(c1, T1), (c2, T2)], LamX.TabB base mg t.1 t.2) → FnOk P w K mg base L2.CX0 10 fa fd ["calls"] (spAnswers K [(T1, nmOrder), (T2, nmPart)]) := by
  obtain ⟨f0, fd0, g0, F0⟩ := W.d_answers.ex
  have e := hfa.symm.trans (PySem.W.mg_of X G g0)
  cases e
  have T : Txt K mg A := {
    no := W.e_no.put X G
    such := W.e_such.put X G
    out := W.e_out.put X G
    many := W.e_many.put X G
    noth := W.e_noth.put X G
    hide := ⟨W.c_hide.pg, W.c_hide.hd, W.c_hide.po, W.c_hide.sa⟩
    inv := ⟨W.c_inv.pg, W.c_inv.hd, W.c_inv.po, W.c_inv.sa⟩
    req := ⟨W.c_req.pg, W.c_req.hd, W.c_req.po, W.c_req.sa⟩
    hideK := W.n_hideK
    hideT := W.n_hideT
    hideA := W.n_hideA
    invT := W.n_invT
    invL := W.n_invL
    invH := W.n_invH
    reqI := W.n_reqI
    cKind := W.cKind.put X G
    cThick := W.cThick.put X G
    cArea := W.cArea.put X G
    cTol := W.cTol.put X G
    cLot := W.cLot.put X G
    cMost := W.cMost.put X G
    len := PySem.W.mg_none_of X G W.f_len
    set_ := PySem.W.mg_none_of X G W.f_set_
    sum := PySem.W.mg_none_of X G W.f_sum
    sorted := PySem.W.mg_none_of X G W.f_sorted
    range := PySem.W.mg_none_of X G W.f_range
    abs := PySem.W.mg_none_of X G W.f_abs
    enumerate := PySem.W.mg_none_of X G W.f_enumerate
  }
  have C : Catch K A := {
    no := W.e_no.exm W.e_no W.s_no_no
    such0 := W.e_such.exm W.e_no W.s_such_no
    such := W.e_such.exm W.e_such W.s_such_such
    out0 := W.e_out.exm W.e_no W.s_out_no
    out1 := W.e_out.exm W.e_such W.s_out_such
    out := W.e_out.exm W.e_out W.s_out_out
    many0 := W.e_many.exm W.e_no W.s_many_no
    many1 := W.e_many.exm W.e_such W.s_many_such
    many2 := W.e_many.exm W.e_out W.s_many_out
    many := W.e_many.exm W.e_many W.s_many_many
    noth0 := W.e_noth.exm W.e_no W.s_noth_no
    noth1 := W.e_noth.exm W.e_such W.s_noth_such
    noth2 := W.e_noth.exm W.e_out W.s_noth_out
    noth3 := W.e_noth.exm W.e_many W.s_noth_many
    noth := W.e_noth.exm W.e_noth W.s_noth_noth
  }
  have b1 := F0.binds (ps := ["calls"]) (fun _ _ _ _ _ _ us hl => match us, hl with | [_], _ => rfl)
  obtain ⟨oc0, od0, kV0, doc0, pm0, an0, cd0, ct0, osl0, efd, lk0, hcd0⟩ := F0.ex
  refine ⟨fd0, fun s u => by rw [efd]; exact .of_eq rfl, fun base kb nb tb => ?_⟩
  let tabs : List NdefX.NTab := [(T1, nmOrder), (T2, nmPart)]
  have G_ops : Const mg "OPERATIONS" (.ref ops) := ⟨_, PySem.W.mg_of X G W.o_at, rfl⟩
  have m_Hide : KR.Maker P w K mg base 1 "Hide" A.hide (spHideInit A) := W.m_Hide_init.maker (ps := ["self", "kind", "thickness", "area"]) W.c_hide X G (fun f fd F => ok_hide_init F T) (fun _ _ _ _ _ _ us hl => match us, hl with | [_, _, _, _], _ => rfl)
  have m_Inventory : KR.Maker P w K mg base 1 "Inventory" A.inv (spInvInit A) := W.m_Inventory_init.maker (ps := ["self", "tolerance", "lot_size"]) W.c_inv X G (fun f fd F => ok_inv_init F T) (fun _ _ _ _ _ _ us hl => match us, hl with | [_, _, _], _ => rfl)
  have m_Request : KR.Maker P w K mg base 1 "Request" A.req (spReqInit A) := W.m_Request_init.maker (ps := ["self"]) W.c_req X G (fun f fd F => ok_req_init F T) (fun _ _ _ _ _ _ us hl => match us, hl with | [_], _ => rfl)
  have x_check : KR.Mth P w K mg base (L2.CX P w) 1 A.inv "check_number" (spCheckNumber A) := W.m_Inventory_check_number.mth (ps := ["self", "number"]) T.inv (fun f fd F => ok_check_number F T) (fun _ _ _ _ _ _ us hl => match us, hl with | [_, _], _ => rfl)
  have x_at : KR.Mth P w K mg base (L2.CX P w) 2 A.inv "hide_at" (spHideAt A) := W.m_Inventory_hide_at.mth (ps := ["self", "number"]) T.inv (fun f fd F => ok_hide_at F T x_check) (fun _ _ _ _ _ _ us hl => match us, hl with | [_, _], _ => rfl)
  have x_existing : KR.Mth P w K mg base (L2.CX P w) 1 A.req "existing_inventory" (spExisting A) := W.m_Request_existing_inventory.mth (ps := ["self"]) T.req (fun f fd F => ok_existing F T) (fun _ _ _ _ _ _ us hl => match us, hl with | [_], _ => rfl)
  have numbers_in_order : KR.Def P w K mg base L2.CX0 4 "numbers_in_order" (spOrder A tabs) := by
    obtain ⟨f, oc, kV, doc, pm, ct, od, an, osl, g, lk, hcd, kp⟩ := W.t_1.ex
    exact ⟨f, _, ["hides"], ok_order T lk hcd (tb (c1, T1) (by simp)) (tabs := tabs) (by simp [tabs]) (fun p hp e => by
      rcases List.mem_cons.mp hp with z | z
      · rw [z]
      · rw [List.mem_singleton.mp z] at e
        exact absurd e.symm W.t_ne), PySem.W.mg_of X G g, kp, (fun_mk lk hcd kp).binds (fun _ _ _ _ _ _ us hl => match us, hl with | [_], _ => rfl)⟩
  have largest_part : KR.Def P w K mg base L2.CX0 4 "largest_part" (spPart A tabs) := by
    obtain ⟨f, oc, kV, doc, pm, ct, od, an, osl, g, lk, hcd, kp⟩ := W.t_2.ex
    exact ⟨f, _, ["hides", "run", "lot_size"], ok_part T lk hcd (tb (c2, T2) (by simp)) (tabs := tabs) (by simp [tabs]) (fun p hp e => by
      rcases List.mem_cons.mp hp with z | z
      · rw [z] at e
        exact absurd e W.t_ne
      · rw [List.mem_singleton.mp z]), PySem.W.mg_of X G g, kp, (fun_mk lk hcd kp).binds (fun _ _ _ _ _ _ us hl => match us, hl with | [_, _, _], _ => rfl)⟩
  have hides_at : KR.Def P w K mg base L2.CX0 1 "hides_at" (spAt K) := W.d_hides_at.put (ps := ["hides", "numbers"]) X G (fun f fd F => ok_hides_at F) (fun _ _ _ _ _ _ us hl => match us, hl with | [_, _], _ => rfl)
  have area_of : KR.Def P w K mg base L2.CX0 1 "area_of" (spArea A K) := W.d_area_of.put (ps := ["hides"]) X G (fun f fd F => ok_area F T) (fun _ _ _ _ _ _ us hl => match us, hl with | [_], _ => rfl)
  have check_limits : KR.Def P w K mg base (L2.CX P w) 1 "check_limits" (spLimits A) := W.d_check_limits.put (ps := ["tolerance", "lot_size"]) X G (fun f fd F => ok_limits F T) (fun _ _ _ _ _ _ us hl => match us, hl with | [_, _], _ => rfl)
  have check_kind : KR.Def P w K mg base (L2.CX P w) 1 "check_kind" (spKind A) := W.d_check_kind.put (ps := ["kind"]) X G (fun f fd F => ok_kind F T) (fun _ _ _ _ _ _ us hl => match us, hl with | [_], _ => rfl)
  have check_measures : KR.Def P w K mg base (L2.CX P w) 2 "check_measures" (spMeasures A) := W.d_check_measures.put (ps := ["kind", "thickness", "area"]) X G (fun f fd F => ok_measures F T check_kind) (fun _ _ _ _ _ _ us hl => match us, hl with | [_, _, _], _ => rfl)
  have hides_match : KR.Def P w K mg base L2.CX0 1 "hides_match" (spMatch A) := W.d_hides_match.put (ps := ["one", "other", "tolerance"]) X G (fun f fd F => ok_match F T) (fun _ _ _ _ _ _ us hl => match us, hl with | [_, _, _], _ => rfl)
  have any_two_match : KR.Def P w K mg base L2.CX0 2 "any_two_match" (spAny A K) := W.d_any_two_match.put (ps := ["hides", "tolerance"]) X G (fun f fd F => ok_any F T hides_match) (fun _ _ _ _ _ _ us hl => match us, hl with | [_, _], _ => rfl)
  have make_lot : KR.Def P w K mg base L2.CX0 3 "make_lot" (spMake A K) := W.d_make_lot.put (ps := ["hides", "tolerance", "lot_size"]) X G (fun f fd F => ok_make F T any_two_match) (fun _ _ _ _ _ _ us hl => match us, hl with | [_, _, _], _ => rfl)
  have lots_in_order : KR.Def P w K mg base L2.CX0 5 "lots_in_order" (spLots A tabs) := W.d_lots_in_order.put (ps := ["hides", "tolerance", "lot_size"]) X G (fun f fd F => ok_lots F T numbers_in_order make_lot hides_at) (fun _ _ _ _ _ _ us hl => match us, hl with | [_, _, _], _ => rfl)
  have incompatible_in_order : KR.Def P w K mg base L2.CX0 5 "incompatible_in_order" (spIncomp A tabs) := W.d_incompatible_in_order.put (ps := ["hides", "tolerance"]) X G (fun f fd F => ok_incomp F T numbers_in_order hides_match) (fun _ _ _ _ _ _ us hl => match us, hl with | [_, _], _ => rfl)
  have numbers_of_kind : KR.Def P w K mg base L2.CX0 5 "numbers_of_kind" (spKindOf A tabs) := W.d_numbers_of_kind.put (ps := ["hides", "kind"]) X G (fun f fd F => ok_kindOf F T numbers_in_order) (fun _ _ _ _ _ _ us hl => match us, hl with | [_, _], _ => rfl)
  have leaving_over : KR.Def P w K mg base L2.CX0 1 "leaving_over" (spLeave K) := W.d_leaving_over.put (ps := ["numbers", "place"]) X G (fun f fd F => ok_leave F) (fun _ _ _ _ _ _ us hl => match us, hl with | [_, _], _ => rfl)
  have difference_of : KR.Def P w K mg base L2.CX0 1 "difference_of" (spGaps A K) := W.d_difference_of.put (ps := ["hides", "paired"]) X G (fun f fd F => ok_gaps F T) (fun _ _ _ _ _ _ us hl => match us, hl with | [_, _], _ => rfl)
  have paired_in_order : KR.Def P w K mg base L2.CX0 6 "paired_in_order" (spPaired A tabs) := W.d_paired_in_order.put (ps := ["hides", "kind"]) X G (fun f fd F => ok_paired F T numbers_of_kind leaving_over difference_of) (fun _ _ _ _ _ _ us hl => match us, hl with | [_, _], _ => rfl)
  have runs_in_order : KR.Def P w K mg base L2.CX0 5 "runs_in_order" (spRuns A tabs) := W.d_runs_in_order.put (ps := ["hides", "tolerance"]) X G (fun f fd F => ok_runs F T numbers_in_order any_two_match hides_at) (fun _ _ _ _ _ _ us hl => match us, hl with | [_, _], _ => rfl)
  have largest_of_lots : KR.Def P w K mg base L2.CX0 6 "largest_of_lots" (spLarge A tabs) := W.d_largest_of_lots.put (ps := ["hides", "tolerance", "lot_size"]) X G (fun f fd F => ok_large F T runs_in_order largest_part area_of hides_at) (fun _ _ _ _ _ _ us hl => match us, hl with | [_, _, _], _ => rfl)
  have lots_of : KR.Def P w K mg base L2.CX0 6 "lots_of" (spLotsOf A tabs) := W.d_lots_of.put (ps := ["inventory", "hides"]) X G (fun f fd F => ok_lotsOf F T lots_in_order) (fun _ _ _ _ _ _ us hl => match us, hl with | [_, _], _ => rfl)
  have x_different : KR.Mth P w K mg base (L2.CX P w) 2 A.inv "different_hides" (spDifferent A K) := W.m_Inventory_different_hides.mth (ps := ["self", "numbers"]) T.inv (fun f fd F => ok_different F T hides_at) (fun _ _ _ _ _ _ us hl => match us, hl with | [_, _], _ => rfl)
  have r_1 := W.o_1.put (P := P) (w := w) (mg := mg) (base := base) (k := 7) (ps := ["inventory", "numbers"]) (sp := spOp A K tabs 1) (fun f fd F => ok_add F T check_measures m_Hide) (fun _ _ _ _ _ _ us hl => match us, hl with | [_, _], _ => rfl)
  have r_2 := W.o_2.put (P := P) (w := w) (mg := mg) (base := base) (k := 7) (ps := ["inventory", "numbers"]) (sp := spOp A K tabs 2) (fun f fd F => ok_remove F T x_check) (fun _ _ _ _ _ _ us hl => match us, hl with | [_, _], _ => rfl)
  have r_3 := W.o_3.put (P := P) (w := w) (mg := mg) (base := base) (k := 7) (ps := ["inventory", "numbers"]) (sp := spOp A K tabs 3) (fun f fd F => ok_get F T x_at) (fun _ _ _ _ _ _ us hl => match us, hl with | [_, _], _ => rfl)
  have r_4 := W.o_4.put (P := P) (w := w) (mg := mg) (base := base) (k := 7) (ps := ["inventory", "numbers"]) (sp := spOp A K tabs 4) (fun f fd F => ok_set F T check_limits) (fun _ _ _ _ _ _ us hl => match us, hl with | [_, _], _ => rfl)
  have r_5 := W.o_5.put (P := P) (w := w) (mg := mg) (base := base) (k := 7) (ps := ["inventory", "numbers"]) (sp := spOp A K tabs 5) (fun f fd F => ok_thin F T x_at) (fun _ _ _ _ _ _ us hl => match us, hl with | [_, _], _ => rfl)
  have r_6 := W.o_6.put (P := P) (w := w) (mg := mg) (base := base) (k := 7) (ps := ["inventory", "numbers"]) (sp := spOp A K tabs 6) (fun f fd F => ok_hideorder F T numbers_in_order) (fun _ _ _ _ _ _ us hl => match us, hl with | [_, _], _ => rfl)
  have r_7 := W.o_7.put (P := P) (w := w) (mg := mg) (base := base) (k := 7) (ps := ["inventory", "numbers"]) (sp := spOp A K tabs 7) (fun f fd F => ok_arecomp F T x_at hides_match) (fun _ _ _ _ _ _ us hl => match us, hl with | [_, _], _ => rfl)
  have r_8 := W.o_8.put (P := P) (w := w) (mg := mg) (base := base) (k := 7) (ps := ["inventory", "numbers"]) (sp := spOp A K tabs 8) (fun f fd F => ok_islot F T x_different make_lot) (fun _ _ _ _ _ _ us hl => match us, hl with | [_, _], _ => rfl)
  have r_9 := W.o_9.put (P := P) (w := w) (mg := mg) (base := base) (k := 7) (ps := ["inventory", "numbers"]) (sp := spOp A K tabs 9) (fun f fd F => ok_fewest F T lots_of) (fun _ _ _ _ _ _ us hl => match us, hl with | [_, _], _ => rfl)
  have r_10 := W.o_10.put (P := P) (w := w) (mg := mg) (base := base) (k := 7) (ps := ["inventory", "numbers"]) (sp := spOp A K tabs 10) (fun f fd F => ok_greedy F T lots_of) (fun _ _ _ _ _ _ us hl => match us, hl with | [_, _], _ => rfl)
  have r_11 := W.o_11.put (P := P) (w := w) (mg := mg) (base := base) (k := 7) (ps := ["inventory", "numbers"]) (sp := spOp A K tabs 11) (fun f fd F => ok_incompat F T incompatible_in_order) (fun _ _ _ _ _ _ us hl => match us, hl with | [_, _], _ => rfl)
  have r_12 := W.o_12.put (P := P) (w := w) (mg := mg) (base := base) (k := 7) (ps := ["inventory", "numbers"]) (sp := spOp A K tabs 12) (fun f fd F => ok_largest F T largest_of_lots area_of hides_at) (fun _ _ _ _ _ _ us hl => match us, hl with | [_, _], _ => rfl)
  have r_13 := W.o_13.put (P := P) (w := w) (mg := mg) (base := base) (k := 7) (ps := ["inventory", "numbers"]) (sp := spOp A K tabs 13) (fun f fd F => ok_total F x_different area_of) (fun _ _ _ _ _ _ us hl => match us, hl with | [_, _], _ => rfl)
  have r_14 := W.o_14.put (P := P) (w := w) (mg := mg) (base := base) (k := 7) (ps := ["inventory", "numbers"]) (sp := spOp A K tabs 14) (fun f fd F => ok_best F T check_kind paired_in_order difference_of) (fun _ _ _ _ _ _ us hl => match us, hl with | [_, _], _ => rfl)
  have r_15 := W.o_15.put (P := P) (w := w) (mg := mg) (base := base) (k := 7) (ps := ["inventory", "numbers"]) (sp := spOp A K tabs 15) (fun f fd F => ok_least F T lots_in_order) (fun _ _ _ _ _ _ us hl => match us, hl with | [_, _], _ => rfl)
  have r_16 := W.o_16.put (P := P) (w := w) (mg := mg) (base := base) (k := 7) (ps := ["inventory", "numbers"]) (sp := spOp A K tabs 16) (fun f fd F => ok_without F T x_check lots_of) (fun _ _ _ _ _ _ us hl => match us, hl with | [_, _], _ => rfl)
  have r_17 := W.o_17.put (P := P) (w := w) (mg := mg) (base := base) (k := 7) (ps := ["inventory", "numbers"]) (sp := spOp A K tabs 17) (fun f fd F => ok_with F T check_measures m_Hide lots_of) (fun _ _ _ _ _ _ us hl => match us, hl with | [_, _], _ => rfl)
  have r_18 := W.o_18.put (P := P) (w := w) (mg := mg) (base := base) (k := 7) (ps := ["inventory", "numbers"]) (sp := spOp A K tabs 18) (fun f fd F => ok_status F T area_of) (fun _ _ _ _ _ _ us hl => match us, hl with | [_, _], _ => rfl)
  have O : Ops P w K mg base A tabs ops := ⟨fun x lo hi => by
    have row : ∀ {i : Int} {f : Addr}, findBy Value.isInt es i = some (.ref f) → KR.Row K ops i (.ref f) := fun {i f} z => ⟨es, n, _, W.o_is, W.o_keys, z, rfl⟩
    have cs : x = 1 ∨ x = 2 ∨ x = 3 ∨ x = 4 ∨ x = 5 ∨ x = 6 ∨ x = 7 ∨ x = 8 ∨ x = 9 ∨ x = 10 ∨ x = 11 ∨ x = 12 ∨ x = 13 ∨ x = 14 ∨ x = 15 ∨ x = 16 ∨ x = 17 ∨ x = 18 := by omega
    rcases cs with z | z | z | z | z | z | z | z | z | z | z | z | z | z | z | z | z | z
    · subst z
      obtain ⟨f, z, q⟩ := r_1
      exact ⟨f, row z, q⟩
    · subst z
      obtain ⟨f, z, q⟩ := r_2
      exact ⟨f, row z, q⟩
    · subst z
      obtain ⟨f, z, q⟩ := r_3
      exact ⟨f, row z, q⟩
    · subst z
      obtain ⟨f, z, q⟩ := r_4
      exact ⟨f, row z, q⟩
    · subst z
      obtain ⟨f, z, q⟩ := r_5
      exact ⟨f, row z, q⟩
    · subst z
      obtain ⟨f, z, q⟩ := r_6
      exact ⟨f, row z, q⟩
    · subst z
      obtain ⟨f, z, q⟩ := r_7
      exact ⟨f, row z, q⟩
    · subst z
      obtain ⟨f, z, q⟩ := r_8
      exact ⟨f, row z, q⟩
    · subst z
      obtain ⟨f, z, q⟩ := r_9
      exact ⟨f, row z, q⟩
    · subst z
      obtain ⟨f, z, q⟩ := r_10
      exact ⟨f, row z, q⟩
    · subst z
      obtain ⟨f, z, q⟩ := r_11
      exact ⟨f, row z, q⟩
    · subst z
      obtain ⟨f, z, q⟩ := r_12
      exact ⟨f, row z, q⟩
    · subst z
      obtain ⟨f, z, q⟩ := r_13
      exact ⟨f, row z, q⟩
    · subst z
      obtain ⟨f, z, q⟩ := r_14
      exact ⟨f, row z, q⟩
    · subst z
      obtain ⟨f, z, q⟩ := r_15
      exact ⟨f, row z, q⟩
    · subst z
      obtain ⟨f, z, q⟩ := r_16
      exact ⟨f, row z, q⟩
    · subst z
      obtain ⟨f, z, q⟩ := r_17
      exact ⟨f, row z, q⟩
    · subst z
      obtain ⟨f, z, q⟩ := r_18
      exact ⟨f, row z, q⟩
    ⟩
  have create : KR.Def P w K mg base (L2.CX P w) 7 "create" (spCreate A K tabs) := W.d_create.put (ps := ["request", "numbers"]) X G (fun f fd F => ok_create F T check_limits m_Inventory) (fun _ _ _ _ _ _ us hl => match us, hl with | [_, _], _ => rfl)
  have result_of : KR.Def P w K mg base (L2.CX P w) 8 "result_of" (spResult A K tabs) := W.d_result_of.put (ps := ["request", "operation", "numbers"]) X G (fun f fd F => ok_result F create x_existing G_ops O) (fun _ _ _ _ _ _ us hl => match us, hl with | [_, _, _], _ => rfl)
  have answer_of : KR.Def P w K mg base L2.CX0 9 "answer_of" (spAnswer A K tabs) := W.d_answer_of.put (ps := ["request", "operation", "numbers"]) X G (fun f fd F => ok_answer F T C result_of) (fun _ _ _ _ _ _ us hl => match us, hl with | [_, _, _], _ => rfl)
  exact ok_answers F0 T m_Request answer_of
theorem enc_one {a b : List Int} (e : [PySem.W.WData.list (a.map PySem.W.WData.int)] = [PySem.W.WData.list (b.map PySem.W.WData.int)]) : a = b := by
  injection e with e
  injection e with e
  have inj : ∀ {l k : List Int}, l.map PySem.W.WData.int = k.map PySem.W.WData.int → l = k := by
    intro l
    induction l with
    | nil =>
      intro k h
      cases k with
      | nil => rfl
      | cons _ _ => cases h
    | cons x r ih =>
      intro k h
      cases k with
      | nil => cases h
      | cons y s =>
        rw [List.map_cons, List.map_cons] at h
        injection h with h1 h2
        injection h1 with h3
        rw [h3, ih h2]
  exact inj e
open PySem.W (Codec) in
/-- what is to be shown of the row -/
theorem due {w : World} {K : PySem.W.Frag} {h : Heap} {q : Program} {loose : List Str} {mean : ExcName → Option Value} {mg mb : Str → Option Value} {fa a_no a_such a_out a_many a_noth a_hide a_inv a_req : Addr} {ops c1 T1 c2 T2 : Addr} {es : Array DictEntry} {n : Nat} (X : K.In h) (T : Top q loose mean mg mb h) (hfa : mg "answers" = some (.ref fa))
    (W : Top_ K ⟨a_no, a_such, a_out, a_many, a_noth, a_hide, a_inv, a_req⟩ ops c1 T1 c2 T2 es n) (n1 : K.lookup T1 = none) (n2 : K.lookup T2 = none) (r1 : ((recsOf q).find? fun e => e.name == ("numbers_in_order" : Str)).isSome = true) (r2 : ((recsOf q).find? fun e => e.name == ("largest_part" : Str)).isSome = true) :
    KT.Due PySem.Challenge.rw_matchedhides_s01_answers w K L2.CX0 10 "calls" mg fa h := by
  obtain ⟨fd, bind, holds⟩ := all_mk (P := PySem.Challenge.rw_matchedhides_s01_answers.prog) (w := w) X T.g hfa W
  obtain ⟨a1, a2⟩ := PySem.W.tab_of T X (Option.some_get r1).symm W.t_1.tab
  obtain ⟨b1, b2⟩ := PySem.W.tab_of T X (Option.some_get r2).symm W.t_2.tab
  refine ⟨fd, [(c1, T1), (c2, T2)], spAnswers K [(T1, nmOrder), (T2, nmPart)], fun t ht => ?_, bind, fun H a ns q en within asked tb sq => ?_, holds⟩
  · rcases List.mem_cons.mp ht with z | z
    · rw [z]
      exact ⟨a1, a2, n1⟩
    · rw [List.mem_singleton.mp z]
      exact ⟨b1, b2, n2⟩
  · obtain ⟨l, u⟩ := q
    have e : l = ns := enc_one en
    subst e
    have ask : PyKp394.answers_asked l = true := asked
    obtain ⟨rs, e1, _, e3, e4, e5⟩ := KM.asked_is ask
    refine ⟨a, rs, rfl, by rw [← e1]; exact sq, e3, e5, fun p hp => ?_, fun H' p hp => ?_⟩
    · rcases List.mem_cons.mp hp with z | z
      · rw [z]
        exact tab_empty (tb (c1, T1) (by simp))
      · rw [List.mem_singleton.mp z]
        exact tab_empty (tb (c2, T2) (by simp))
    · rw [← e4] at hp
      exact .lst (L2.SqL.of hp) (L2.dw_ints _)
end KX
open PySem PySem.W PyProof.Rows
set_option maxRecDepth 100000 in
set_option maxHeartbeats 8000000 in
theorem PySem.Challenge.cw_matchedhides_s01_answers_holds : PySem.Challenge.rw_matchedhides_s01_answers.Holds := by
  w_on; k_headS; (case hw => exact ⟨[.list [.int 18, .int 0, .int 0]], by decide +kernel, by decide +kernel⟩)
  k_fillS
  refine KT.walk (r := PySem.Challenge.rw_matchedhides_s01_answers) (k := 10) (CX := L2.CX0) (x := "calls") (by decide +kernel) (fun a => ⟨a.1, rfl⟩) ⟨rfl, by decide, by decide⟩ (fun w h Y => PySem.W.kIn_of Y) ?F (fun _ _ _ _ z => z)
  case F =>
    intro w mean mg mb fa h hX T hmg
    refine' KX.due hX T hmg (KX.Top_.mk ?e_no ?e_such ?e_out ?e_many ?e_noth ?s_no_no ?s_such_no ?s_such_such ?s_out_no ?s_out_such ?s_out_out ?s_many_no ?s_many_such ?s_many_out ?s_many_many ?s_noth_no ?s_noth_such ?s_noth_out ?s_noth_many ?s_noth_noth ?c_hide ?c_inv ?c_req ?n_hideK ?n_hideT ?n_hideA ?n_invT ?n_invL ?n_invH ?n_reqI ?cKind ?cThick ?cArea ?cTol ?cLot ?cMost ?f_len ?f_set_ ?f_sum ?f_sorted ?f_range ?f_abs ?f_enumerate ?m_Hide_init ?m_Inventory_init ?m_Request_init ?m_Inventory_check_number ?m_Inventory_hide_at ?m_Inventory_different_hides ?m_Request_existing_inventory ?d_hides_at ?d_area_of ?d_check_limits ?d_check_kind ?d_check_measures ?d_hides_match ?d_any_two_match ?d_make_lot ?d_lots_in_order ?d_incompatible_in_order ?d_numbers_of_kind ?d_leaving_over ?d_difference_of ?d_paired_in_order ?d_runs_in_order ?d_largest_of_lots ?d_lots_of ?d_create ?d_result_of ?d_answer_of ?d_answers ?t_1 ?t_2 ?t_ne ?o_at ?o_is ?o_keys ?o_1 ?o_2 ?o_3 ?o_4 ?o_5 ?o_6 ?o_7 ?o_8 ?o_9 ?o_10 ?o_11 ?o_12 ?o_13 ?o_14 ?o_15 ?o_16 ?o_17 ?o_18) ?n1 ?n2 ?r1 ?r2
    case' e_no => refine' KX.ErrIn.mk ?e_no_a ?e_no_b ?e_no_c ?e_no_d ?e_no_e ?e_no_f
    (case e_no_a => k_is)
    case' e_such => refine' KX.ErrIn.mk ?e_such_a ?e_such_b ?e_such_c ?e_such_d ?e_such_e ?e_such_f
    (case e_such_a => k_is)
    case' e_out => refine' KX.ErrIn.mk ?e_out_a ?e_out_b ?e_out_c ?e_out_d ?e_out_e ?e_out_f
    (case e_out_a => k_is)
    case' e_many => refine' KX.ErrIn.mk ?e_many_a ?e_many_b ?e_many_c ?e_many_d ?e_many_e ?e_many_f
    (case e_many_a => k_is)
    case' e_noth => refine' KX.ErrIn.mk ?e_noth_a ?e_noth_b ?e_noth_c ?e_noth_d ?e_noth_e ?e_noth_f
    (case e_noth_a => k_is)
    case' c_hide => refine' KX.ClsIn.mk ?c_hide_a ?c_hide_b ?c_hide_c ?c_hide_d ?c_hide_e ?c_hide_f ?c_hide_g
    (case c_hide_a => k_is)
    case' c_inv => refine' KX.ClsIn.mk ?c_inv_a ?c_inv_b ?c_inv_c ?c_inv_d ?c_inv_e ?c_inv_f ?c_inv_g
    (case c_inv_a => k_is)
    case' c_req => refine' KX.ClsIn.mk ?c_req_a ?c_req_b ?c_req_c ?c_req_d ?c_req_e ?c_req_f ?c_req_g
    (case c_req_a => k_is)
    (case e_no_b => k_exc)
    (case e_no_c => k_is)
    (case e_no_d => k_is)
    (case e_no_e => k_is)
    (case e_no_f => k_is)
    (case e_such_b => k_exc)
    (case e_such_c => k_is)
    (case e_such_d => k_is)
    (case e_such_e => k_is)
    (case e_such_f => k_is)
    (case e_out_b => k_exc)
    (case e_out_c => k_is)
    (case e_out_d => k_is)
    (case e_out_e => k_is)
    (case e_out_f => k_is)
    (case e_many_b => k_exc)
    (case e_many_c => k_is)
    (case e_many_d => k_is)
    (case e_many_e => k_is)
    (case e_many_f => k_is)
    (case e_noth_b => k_exc)
    (case e_noth_c => k_is)
    (case e_noth_d => k_is)
    (case e_noth_e => k_is)
    (case e_noth_f => k_is)
    (case c_hide_b => k_is)
    (case c_hide_c => k_is)
    (case c_hide_d => k_is)
    (case c_hide_e => k_is)
    (case c_hide_f => k_is)
    (case c_hide_g => k_is)
    (case c_inv_b => k_is)
    (case c_inv_c => k_is)
    (case c_inv_d => k_is)
    (case c_inv_e => k_is)
    (case c_inv_f => k_is)
    (case c_inv_g => k_is)
    (case c_req_b => k_is)
    (case c_req_c => k_is)
    (case c_req_d => k_is)
    (case c_req_e => k_is)
    (case c_req_f => k_is)
    (case c_req_g => k_is)
    (case s_no_no => k_is)
    (case s_such_no => k_is)
    (case s_such_such => k_is)
    (case s_out_no => k_is)
    (case s_out_such => k_is)
    (case s_out_out => k_is)
    (case s_many_no => k_is)
    (case s_many_such => k_is)
    (case s_many_out => k_is)
    (case s_many_many => k_is)
    (case s_noth_no => k_is)
    (case s_noth_such => k_is)
    (case s_noth_out => k_is)
    (case s_noth_many => k_is)
    (case s_noth_noth => k_is)
    (case n_hideK => k_is)
    (case n_hideT => k_is)
    (case n_hideA => k_is)
    (case n_invT => k_is)
    (case n_invL => k_is)
    (case n_invH => k_is)
    (case n_reqI => k_is)
    (case cKind => refine' KX.ConIn.of ?g; (case g => k_is))
    (case cThick => refine' KX.ConIn.of ?g; (case g => k_is))
    (case cArea => refine' KX.ConIn.of ?g; (case g => k_is))
    (case cTol => refine' KX.ConIn.of ?g; (case g => k_is))
    (case cLot => refine' KX.ConIn.of ?g; (case g => k_is))
    (case cMost => refine' KX.ConIn.of ?g; (case g => k_is))
    (case f_len => k_is)
    (case f_set_ => k_is)
    (case f_sum => k_is)
    (case f_sorted => k_is)
    (case f_range => k_is)
    (case f_abs => k_is)
    (case f_enumerate => k_is)
    (case m_Hide_init => refine' KX.MthIn.of ?g ?i ?l ?c ?k; (case g => k_is); (case i => k_is); (case l => k_is); (case c => k_is); (case k => k_is))
    (case m_Inventory_init => refine' KX.MthIn.of ?g ?i ?l ?c ?k; (case g => k_is); (case i => k_is); (case l => k_is); (case c => k_is); (case k => k_is))
    (case m_Request_init => refine' KX.MthIn.of ?g ?i ?l ?c ?k; (case g => k_is); (case i => k_is); (case l => k_is); (case c => k_is); (case k => k_is))
    (case m_Inventory_check_number => refine' KX.MthIn.of ?g ?i ?l ?c ?k; (case g => k_is); (case i => k_is); (case l => k_is); (case c => k_is); (case k => k_is))
    (case m_Inventory_hide_at => refine' KX.MthIn.of ?g ?i ?l ?c ?k; (case g => k_is); (case i => k_is); (case l => k_is); (case c => k_is); (case k => k_is))
    (case m_Inventory_different_hides => refine' KX.MthIn.of ?g ?i ?l ?c ?k; (case g => k_is); (case i => k_is); (case l => k_is); (case c => k_is); (case k => k_is))
    (case m_Request_existing_inventory => refine' KX.MthIn.of ?g ?i ?l ?c ?k; (case g => k_is); (case i => k_is); (case l => k_is); (case c => k_is); (case k => k_is))
    (case d_hides_at => refine' KX.DefIn.of ?g ?l ?c ?k; (case g => k_is); (case l => k_is); (case c => k_is); (case k => k_is))
    (case d_area_of => refine' KX.DefIn.of ?g ?l ?c ?k; (case g => k_is); (case l => k_is); (case c => k_is); (case k => k_is))
    (case d_check_limits => refine' KX.DefIn.of ?g ?l ?c ?k; (case g => k_is); (case l => k_is); (case c => k_is); (case k => k_is))
    (case d_check_kind => refine' KX.DefIn.of ?g ?l ?c ?k; (case g => k_is); (case l => k_is); (case c => k_is); (case k => k_is))
    (case d_check_measures => refine' KX.DefIn.of ?g ?l ?c ?k; (case g => k_is); (case l => k_is); (case c => k_is); (case k => k_is))
    (case d_hides_match => refine' KX.DefIn.of ?g ?l ?c ?k; (case g => k_is); (case l => k_is); (case c => k_is); (case k => k_is))
    (case d_any_two_match => refine' KX.DefIn.of ?g ?l ?c ?k; (case g => k_is); (case l => k_is); (case c => k_is); (case k => k_is))
    (case d_make_lot => refine' KX.DefIn.of ?g ?l ?c ?k; (case g => k_is); (case l => k_is); (case c => k_is); (case k => k_is))
    (case d_lots_in_order => refine' KX.DefIn.of ?g ?l ?c ?k; (case g => k_is); (case l => k_is); (case c => k_is); (case k => k_is))
    (case d_incompatible_in_order => refine' KX.DefIn.of ?g ?l ?c ?k; (case g => k_is); (case l => k_is); (case c => k_is); (case k => k_is))
    (case d_numbers_of_kind => refine' KX.DefIn.of ?g ?l ?c ?k; (case g => k_is); (case l => k_is); (case c => k_is); (case k => k_is))
    (case d_leaving_over => refine' KX.DefIn.of ?g ?l ?c ?k; (case g => k_is); (case l => k_is); (case c => k_is); (case k => k_is))
    (case d_difference_of => refine' KX.DefIn.of ?g ?l ?c ?k; (case g => k_is); (case l => k_is); (case c => k_is); (case k => k_is))
    (case d_paired_in_order => refine' KX.DefIn.of ?g ?l ?c ?k; (case g => k_is); (case l => k_is); (case c => k_is); (case k => k_is))
    (case d_runs_in_order => refine' KX.DefIn.of ?g ?l ?c ?k; (case g => k_is); (case l => k_is); (case c => k_is); (case k => k_is))
    (case d_largest_of_lots => refine' KX.DefIn.of ?g ?l ?c ?k; (case g => k_is); (case l => k_is); (case c => k_is); (case k => k_is))
    (case d_lots_of => refine' KX.DefIn.of ?g ?l ?c ?k; (case g => k_is); (case l => k_is); (case c => k_is); (case k => k_is))
    (case d_create => refine' KX.DefIn.of ?g ?l ?c ?k; (case g => k_is); (case l => k_is); (case c => k_is); (case k => k_is))
    (case d_result_of => refine' KX.DefIn.of ?g ?l ?c ?k; (case g => k_is); (case l => k_is); (case c => k_is); (case k => k_is))
    (case d_answer_of => refine' KX.DefIn.of ?g ?l ?c ?k; (case g => k_is); (case l => k_is); (case c => k_is); (case k => k_is))
    (case d_answers => refine' KX.DefIn.of ?g ?l ?c ?k; (case g => k_is); (case l => k_is); (case c => k_is); (case k => k_is))
    (case t_1 => refine' KX.NestIn.of ?g ?l ?c ?k ?m ?v; (case g => k_is); (case l => k_is); (case c => k_is); (case k => k_is); (case m => k_is); (case v => rfl))
    (case t_2 => refine' KX.NestIn.of ?g ?l ?c ?k ?m ?v; (case g => k_is); (case l => k_is); (case c => k_is); (case k => k_is); (case m => k_is); (case v => rfl))
    (case t_ne => decide)
    (case o_at => k_is)
    (case o_is => k_is)
    (case o_keys => exact KX.keys_cons rfl rfl (KX.keys_cons rfl rfl (KX.keys_cons rfl rfl (KX.keys_cons rfl rfl (KX.keys_cons rfl rfl (KX.keys_cons rfl rfl (KX.keys_cons rfl rfl (KX.keys_cons rfl rfl (KX.keys_cons rfl rfl (KX.keys_cons rfl rfl (KX.keys_cons rfl rfl (KX.keys_cons rfl rfl (KX.keys_cons rfl rfl (KX.keys_cons rfl rfl (KX.keys_cons rfl rfl (KX.keys_cons rfl rfl (KX.keys_cons rfl rfl (KX.keys_cons rfl rfl (KX.keys_nil)))))))))))))))))))
    (case o_1 => refine' KX.RowIn.of ?g ?l ?c ?k; (case g => rfl); (case l => k_is); (case c => k_is); (case k => k_is))
    (case o_2 => refine' KX.RowIn.of ?g ?l ?c ?k; (case g => rfl); (case l => k_is); (case c => k_is); (case k => k_is))
    (case o_3 => refine' KX.RowIn.of ?g ?l ?c ?k; (case g => rfl); (case l => k_is); (case c => k_is); (case k => k_is))
    (case o_4 => refine' KX.RowIn.of ?g ?l ?c ?k; (case g => rfl); (case l => k_is); (case c => k_is); (case k => k_is))
    (case o_5 => refine' KX.RowIn.of ?g ?l ?c ?k; (case g => rfl); (case l => k_is); (case c => k_is); (case k => k_is))
    (case o_6 => refine' KX.RowIn.of ?g ?l ?c ?k; (case g => rfl); (case l => k_is); (case c => k_is); (case k => k_is))
    (case o_7 => refine' KX.RowIn.of ?g ?l ?c ?k; (case g => rfl); (case l => k_is); (case c => k_is); (case k => k_is))
    (case o_8 => refine' KX.RowIn.of ?g ?l ?c ?k; (case g => rfl); (case l => k_is); (case c => k_is); (case k => k_is))
    (case o_9 => refine' KX.RowIn.of ?g ?l ?c ?k; (case g => rfl); (case l => k_is); (case c => k_is); (case k => k_is))
    (case o_10 => refine' KX.RowIn.of ?g ?l ?c ?k; (case g => rfl); (case l => k_is); (case c => k_is); (case k => k_is))
    (case o_11 => refine' KX.RowIn.of ?g ?l ?c ?k; (case g => rfl); (case l => k_is); (case c => k_is); (case k => k_is))
    (case o_12 => refine' KX.RowIn.of ?g ?l ?c ?k; (case g => rfl); (case l => k_is); (case c => k_is); (case k => k_is))
    (case o_13 => refine' KX.RowIn.of ?g ?l ?c ?k; (case g => rfl); (case l => k_is); (case c => k_is); (case k => k_is))
    (case o_14 => refine' KX.RowIn.of ?g ?l ?c ?k; (case g => rfl); (case l => k_is); (case c => k_is); (case k => k_is))
    (case o_15 => refine' KX.RowIn.of ?g ?l ?c ?k; (case g => rfl); (case l => k_is); (case c => k_is); (case k => k_is))
    (case o_16 => refine' KX.RowIn.of ?g ?l ?c ?k; (case g => rfl); (case l => k_is); (case c => k_is); (case k => k_is))
    (case o_17 => refine' KX.RowIn.of ?g ?l ?c ?k; (case g => rfl); (case l => k_is); (case c => k_is); (case k => k_is))
    (case o_18 => refine' KX.RowIn.of ?g ?l ?c ?k; (case g => rfl); (case l => k_is); (case c => k_is); (case k => k_is))
    (case n1 => kernel_rfl)
    (case n2 => kernel_rfl)
    (case r1 => kernel_rfl)
    (case r2 => kernel_rfl)
#print axioms PySem.Challenge.cw_matchedhides_s01_answers_holds
