import PyProof.Rows.All
import Wide.All
import OpenK.AllK
import Wide.FinOn
import KE.SortData
import HandS.ForMost
import HandS.Deep
import HandS.IsInst
import HandS.Rev
import HandS.RevRange
import HandS.DictComp
import HandS.Zip
import KE.GoesEnum
import KE.GoesZip
import HandS.SortInts
import HandS.Codes
import HandS.Property
import HandS.TupAny
import PyProof.ReprRoads
import HandS.OwnEq
import HandS.ExcInit
import HandS.ExcOwn
import HandS.WordsExc
import HandS.SetFor
import HandS.Star
import HandS.Strs
import PySem.Challenge.RW_rankwright_k66_whole_good_splits
import KE.KDictPairs
import KE.DataMinMax
import HandS.Iter
import HandS.Walk
import KE.KDictWalk
import HandS.TupLen
import HandS.Wide
import HandS.WideBits
import KE.KDictCopyH
import KE.KDictOf
import KE.KDictDisplayH
import HandS.Style
import HandS.ExcField
import HandS.Defaults
import HandS.Words
set_option Elab.async false
set_option linter.all false
set_option maxRecDepth 100000
/-! data in a heap whose tuples stand there as such -/
namespace L2
open PySem PySem.Spec PyProof.Rows PySem.W
mutual
inductive Dq (H : Hp) : V → PyData → Prop
  | non : Dq H .non .none
  | bl (b : Bool) : Dq H (.bl b) (.bool b)
  | int (i : Int) : Dq H (.int i) (.int i)
  | str (x : Str) : Dq H (.str x) (.str x)
  | lst {a : Addr} {xs : List V} {ds : List PyData} : SqL [] H a xs → DqAll H xs ds → Dq H (.ref a) (.list ds)
  | tup {a : Addr} {xs : List V} {ds : List PyData} : H a = some (.tup xs) → DqAll H xs ds → Dq H (.ref a) (.tuple ds)
inductive DqAll (H : Hp) : List V → List PyData → Prop
  | nil : DqAll H [] []
  | cons {v : V} {d : PyData} {vs : List V} {ds : List PyData} : Dq H v d → DqAll H vs ds → DqAll H (v :: vs) (d :: ds)
end
mutual
theorem Dq.up {K : PySem.W.Frag} {H : Hp} : ∀ {v : V} {d : PyData}, Dq H v d → Dp K H v d
  | _, _, .non => .non
  | _, _, .bl b => .bl b
  | _, _, .int i => .int i
  | _, _, .str x => .str x
  | _, _, .lst h t => .lst (by
      rcases h with h | ⟨_, _, _, h, _⟩
      · exact .inl h
      · cases h) (DqAll.up t)
  | _, _, .tup h t => .tup (.inl (.inl h)) (DqAll.up t)
theorem DqAll.up {K : PySem.W.Frag} {H : Hp} : ∀ {vs : List V} {ds : List PyData}, DqAll H vs ds → DpAll K H vs ds
  | _, _, .nil => .nil
  | _, _, .cons h t => .cons (Dq.up h) (DqAll.up t)
end
end L2

set_option Elab.async false
set_option linter.all false
set_option maxRecDepth 100000
namespace PySem.SeqAt
open PySem PyProof.Rows
section
variable {A : Around} {s : Shared}
theorem my_tuple_lt {prog : Program} {w : World} {E : Value → Shared → Prop} {Q : Value → Shared → Prop} {l b : Addr} {items items2 : Array Value} {e r : Nat → Bool} (hl : s.heap.IsTuple l items) (hb : s.heap.IsTuple b items2)
    (he : ∀ j (h1 : j < items.size) (h2 : j < items2.size), EqAt A.in1 s items[j] items2[j] (e j)) (hr : ∀ j (h1 : j < items.size) (h2 : j < items2.size), e j = false → RcLt A.in1 s items[j] items2[j] (r j))
    (h : Q (.bool (firstLt e r (decide (items.size < items2.size)) (List.range (min items.size items2.size)))) s) : wpAny (model prog w) A (call (.builtin "tuple.__lt__") [.ref l, .ref b]) Q E s := by
  obtain ⟨⟨cls, dd, data, sl⟩, ho, hc, n, hd⟩ := id hl
  obtain ⟨⟨cls2, dd2, data2, sl2⟩, ho2, hc2, n2, hd2⟩ := id hb
  simp only at hc hd hc2 hd2
  subst hc hd hc2 hd2
  exact call_meets F.slot_tuple_lt ⟨_, ho, rfl⟩ F.entry_tuple_lt (F.args_tuple_lt_2 _ _) (tuple_ltAt l b items items2 n n2 dd dd2 sl sl2 e r) ⟨ho, ho2, he, hr, h⟩
end
end PySem.SeqAt

namespace PySem.W
open PySem PySem.SeqAt PyProof.Rows
section
variable {prog : Program} {w : World} {A : Around} {E : Value → Shared → Prop} {s : Shared}
theorem my_oneLt_tuple {xs ys : List PyData} {a b : Value} {as bs : List Addr} {Q : Bool → Shared → Prop} (ra : Reads s.heap a (.tuple xs) as) (rb : Reads s.heap b (.tuple ys) bs) (h : alike (.tuple xs) (.tuple ys) = true)
    (hu : A.units + min (PyData.tuple xs).depth (PyData.tuple ys).depth < cLine) (hq : Q (dataLt (.tuple xs) (.tuple ys)) s) : wpAny (model prog w) A (oneLt' true a b) Q E s := by
  have hal : alikeAll xs ys = true := by simpa [alike] using h
  cases ra with
  | @tuple l o vs n _ as₁ h1 h2 h3 h4 =>
    cases rb with
    | @tuple l' o' vs' n' _ bs₁ k1 k2 k3 k4 =>
      have n1 : vs.size = xs.length := by simpa using ReadsAll.length _ _ _ h4
      have n2 : vs'.size = ys.length := by simpa using ReadsAll.length _ _ _ k4
      rw [dataLt_tuple, ← firstLt_toks xs ys hal, ← n1, ← n2] at hq
      rw [oneLt'_eq]
      simp only [if_true]
      refine wpAny_bind (wpAny_cRoomFor (room_here hu) ?_)
      refine wpAny_bind (wpAny_callSpecialIfBound?_slot (T := "tuple") ⟨_, h1, h2⟩ F.slot_tuple_lt (my_tuple_lt (e := pairEq xs ys) (r := fun j => dataLt (xs.getD j .none) (ys.getD j .none)) ⟨_, h1, h2, _, h3⟩ ⟨_, k1, k2, _, k3⟩ (fun j j1 j2 => ?_) (fun j j1 j2 hj => ?_) ?_))
      · have := eqAt_alikeAll xs ys A.in1 s vs.toList vs'.toList _ _ h4 k4 hal (room_in hu) j (by simpa using j1) (by simpa using j2)
        simpa using this
      · have := rcLt_alikeAll xs ys A.in1 s vs.toList vs'.toList _ _ h4 k4 hal (room_in hu) j (by simpa using j1) (by simpa using j2) hj
        simpa using this
      · exact wpAny_truthy_bool hq
theorem my_keyLt_any {kd : Bool} {xs ys : List PyData} {a b : Value} {as bs : List Addr} {Q : Bool → Shared → Prop} (ra : Reads s.heap a (.tuple xs) as) (rb : Reads s.heap b (.tuple ys) bs) (h : alike (.tuple xs) (.tuple ys) = true)
    (hu : A.units + min (PyData.tuple xs).depth (PyData.tuple ys).depth < cLine) (hq : Q (dataLt (.tuple xs) (.tuple ys)) s) : wpAny (model prog w) A (oneLt' kd a b) Q E s := by
  cases kd with
  | true => exact my_oneLt_tuple ra rb h hu hq
  | false => exact oneLt_alike (fun z => Bool.noConfusion z) ra rb h (fun z => PyData.noConfusion z) hu hq
end

/-- the first items of tuples, none of an empty one -/
theorem my_firsts {M : Model} {A : Around} {E : Value → Shared → Prop} {s : Shared} : ∀ (vs : List Value) (ds : List PyData), EachIs (fun v d => ∃ as, Reads s.heap v d as) vs ds → (∀ d, d ∈ ds → ∃ xs, d = .tuple xs) → ∀ {Q : List (Option Value) → Shared → Prop},
    (∀ L : List (Option Value), L.length = vs.length → (∀ i : Nat, (L[i]?.bind id).isSome = true ↔ ∃ x r, ds[i]? = some (PyData.tuple (x :: r))) → Q L s) → wpAny M A (vs.mapM firstOfTuple') Q E s
  | _, _, .nil, _, _, h => by
    rw [List.mapM_nil]
    exact wpAny_pure (h [] rfl (fun i => by simp))
  | _, _, .cons (a := v) (b := d) (as := vs) (bs := ds) ⟨as, r⟩ t, ht, Q, h => by
    obtain ⟨xs, rfl⟩ := ht d (List.mem_cons_self ..)
    cases r with
    | @tuple a o ws n _ _ h1 h2 h3 h4 =>
      rw [List.mapM_cons, kas_first_eq]
      refine wpAny_bind (wpAny_bind ((looks_reads (M := M) (h := s.heap) (v := Value.ref a) (Reads.tuple h1 h2 h3 h4)).here ?_))
      show wpAny M A (if (Value.type "tuple" != Value.type "tuple") = true then _ else _) _ _ _
      rw [if_neg (by decide)]
      refine wpAny_bind (listItems_at h1 h3 (wpAny_pure ?_))
      refine wpAny_bind (my_firsts vs ds t (fun d hd => ht d (List.mem_cons_of_mem _ hd)) fun L hl hL => wpAny_pure (h _ (by rw [List.length_cons, List.length_cons, hl]) fun i => ?_))
      cases i with
      | zero =>
        have hn : ws.toList.length = xs.length := SeqAt.ReadsAll.length _ _ _ h4
        have hn : ws.size = xs.length := by simpa using hn
        cases xs with
        | cons x r =>
          have : ∃ f, ws[0]? = some f := ⟨ws[0]'(by rw [hn]; exact Nat.succ_pos _), Array.getElem?_eq_getElem _⟩
          obtain ⟨f, hf⟩ := this
          exact ⟨fun _ => ⟨x, r, rfl⟩, fun _ => by rw [hf]; rfl⟩
        | nil =>
          have hn0 : ws.size = 0 := hn
          have hf : ws[0]? = none := Array.getElem?_eq_none (by omega)
          exact ⟨fun q => absurd q (by simp [hf]), fun q => (by obtain ⟨x, r, q⟩ := q; cases q)⟩
      | succ i => simpa using hL i
/-- tuples that read as alike data, one of them empty, can be sorted -/
theorem SortsAt.tups {prog : Program} {w : World} {A : Around} {s : Shared} {vs : List Value} {ds : List PyData} (e : EachIs (fun v d => ∃ as, Reads s.heap v d as) vs ds) (hal : AllAlike ds) (ht : ∀ d, d ∈ ds → ∃ xs, d = .tuple xs)
    (hu : ∀ d, d ∈ ds → A.units + d.depth < cLine) : SortsAt prog w A s (dataKind s.heap ds) vs := by
  by_cases hne : ∀ d, d ∈ ds → ∃ x r, d = .tuple (x :: r)
  · exact SortsAt.data e hal (.inl hne) hu
  have room : ∀ {d d' : PyData}, d ∈ ds → A.units + min d.depth d'.depth < cLine := fun {d d'} hd => Nat.lt_of_le_of_lt (Nat.add_le_add_left (Nat.min_le_left _ _) _) (hu d hd)
  have lt : ∀ f : Bool, ∀ (E : Value → Shared → Prop) (x y : Value) (a b : List (Int ⊕ List Nat)) {Q : Bool → Shared → Prop}, (dataKind s.heap ds).keyOf x = some a → (dataKind s.heap ds).keyOf y = some b → Q ((dataKind s.heap ds).blt a b) s →
      wpAny (model prog w) A (oneLt' f x y) Q E s := by
    intro f E x y a b Q ha hb hq
    obtain ⟨d, as, hd, ra, rfl⟩ := dataKind_inv ha
    obtain ⟨d', as', hd', rb, rfl⟩ := dataKind_inv hb
    have hdd := hal d hd d' hd'
    have hroom := room (d' := d') hd
    obtain ⟨xs, rfl⟩ := ht d hd
    obtain ⟨ys, rfl⟩ := ht d' hd'
    exact my_keyLt_any ra rb hdd hroom hq
  refine ⟨fun v hv => ?_, ?_⟩
  · obtain ⟨d, hd, as, r⟩ := e.left v hv
    exact ⟨_, dataKind_some hal hd r⟩
  · have key : ∀ f : Bool, H.LtAt prog w A s (dataKind s.heap ds) (if f then oneType' else general') := by
      intro f
      cases f with
      | true => exact fun E x y a b Q ha hb hq => lt true E x y a b ha hb hq
      | false => exact fun E x y a b Q ha hb hq => lt false E x y a b ha hb hq
    obtain ⟨d0, hd0, h0e⟩ : ∃ d, d ∈ ds ∧ ¬ ∃ x r, d = .tuple (x :: r) := by
      refine Classical.byContradiction fun q => hne fun d hd => Classical.byContradiction fun q2 => q ⟨d, hd, q2⟩
    obtain ⟨i0, hi0, ei0⟩ := List.getElem_of_mem hd0
    have hnall : ∀ L : List (Option Value), L.length = vs.length → (∀ i : Nat, (L[i]?.bind id).isSome = true ↔ ∃ x r, ds[i]? = some (PyData.tuple (x :: r))) → ¬ (L.toArray.all fun x => x.isSome) = true := by
      intro L hl hL q
      have hlen : i0 < L.length := by rw [hl, e.length]; exact hi0
      have q1 : L.all (fun x => x.isSome) = true := by simpa using q
      have q2 := List.all_eq_true.mp q1 _ (List.getElem_mem hlen)
      have q3 := (hL i0).mp (by rw [List.getElem?_eq_getElem hlen]; exact q2)
      obtain ⟨x, r, q3⟩ := q3
      rw [List.getElem?_eq_getElem hi0, ei0] at q3
      exact h0e ⟨x, r, Option.some.inj q3⟩
    by_cases h0 : ∃ x r, ds[0]? = some (PyData.tuple (x :: r))
    · refine ⟨general', key false, fun h2 E Q hq => ?_⟩
      rw [keyKind'_eq, List.mapM_toArray, map_eq_pure_bind]
      refine wpAny_bind (wpAny_bind (my_firsts vs ds e ht fun L hl hL => wpAny_pure ?_))
      rw [if_neg (hnall L hl hL), if_pos (by have := (hL 0).mpr h0; simpa using this)]
      exact wpAny_pure hq
    · refine ⟨oneType', key true, fun h2 E Q hq => ?_⟩
      rw [keyKind'_eq, List.mapM_toArray, map_eq_pure_bind]
      refine wpAny_bind (wpAny_bind (my_firsts vs ds e ht fun L hl hL => wpAny_pure ?_))
      rw [if_neg (hnall L hl hL), if_neg (by intro q; exact h0 ((hL 0).mp (by simpa using q)))]
      rw [oneTypeOnly'_eq, List.mapM_toArray, map_eq_pure_bind]
      have hT : ∀ v, v ∈ vs → Looks (model prog w) s.heap (typeOf v) (Value.type "tuple") := fun v hv => by
        obtain ⟨d, hd, as, r⟩ := e.left v hv
        obtain ⟨xs, rfl⟩ := ht d hd
        exact looks_reads r
      refine wpAny_bind (wpAny_bind (wpAny_bind (kas_mapM (r := Value.type "tuple") _ (fun v hv Q' hq => (hT v hv).here hq) (wpAny_pure ?_))))
      obtain ⟨v₁, rest, rfl⟩ : ∃ v₁ rest, vs = v₁ :: rest := by
        match vs, h2 with
        | v₁ :: rest, _ => exact ⟨v₁, rest, rfl⟩
      have hall : ((List.map (fun _ => Value.type "tuple") (v₁ :: rest)).toArray.all fun x => x == Value.type "tuple") = true := by
        simp only [List.all_toArray, List.all_map, List.all_eq_true]
        intro _ _
        rfl
      have h0 : (List.map (fun _ => Value.type "tuple") (v₁ :: rest)).toArray[0]? = some (Value.type "tuple") := by simp
      rw [h0]
      simp only [hall, if_true]
      exact wpAny_pure (wpAny_pure hq)

section
variable {prog : Program} {w : World} {A : Around} {E : Value → Shared → Prop} {s : Shared} {vs : List Value} {ds : List PyData} {R : Value → PyData → Prop}
/-- sorted(xs), xs a list of tuples that read as alike data, empty ones among them -/
theorem my_sorted {l : Addr} {Q : Value → Shared → Prop} (hl : s.heap.IsList l vs.toArray) (e : EachIs R vs ds) (er : EachIs (fun v b => ∃ as, Reads s.heap v b as) vs ds) (hal : AllAlike ds) (ht : ∀ d, d ∈ ds → ∃ xs, d = .tuple xs) (hL : ds.length ≤ sizeLine)
    (hu : ∀ b, b ∈ ds → A.units + 2 + b.depth < cLine) (h : ∀ out, out.length = ds.length → EachIs R out (ds.mergeSort (dataLe false id)) → Q (.ref (s.heap.objs.size + 1)) { s with heap := sortedAll s.heap vs (List.toArray out) }) :
    wpAny (model prog w) A (call (.builtin "sorted") [.ref l]) Q E s := by
  have er' : EachIs (fun v b => ∃ as, Reads (sortingHeap (copyHeap s.heap vs) (s.heap.objs.size + 1) vs) v (id b) as) vs ds := er.mono fun _ _ ⟨as, r⟩ => ⟨as, PyProof.Rows.Reads.keeps (fun _ _ => sorting_copy_old) r⟩
  have hid : ds.map id = ds := List.map_id ds
  refine sorted_vals hl (SortsAt.tups (s := { s with heap := sortingHeap (copyHeap s.heap vs) (s.heap.objs.size + 1) vs }) er' hal ht hu) (by rw [e.length]; exact hL) (h _ (by rw [sortVals_length false rfl]; exact e.length) ?_)
  have := sortVals_data (R := R) false e er' (by rw [hid]; exact hal)
  rw [hid] at this
  exact this
end
end PySem.W
namespace L2
open PySem PySem.Spec PyProof.Rows PySem.W
section
variable {X : Cx}
theorem dpAll_len {H : Hp} : ∀ {vs : List V} {ds : List PyData}, DqAll H vs ds → vs.length = ds.length
  | _, _, .nil => rfl
  | _, _, .cons _ r => by rw [List.length_cons, List.length_cons, dpAll_len r]
/-- sorted of a list of tuples that are alike, of any sizes -/
def rSortedTu (K : PySem.W.Frag) : List V → Hp → VK → Prop := fun vs H Q => ∃ (a : Addr) (xs : List V) (ds : List PyData) (G : Hp), vs = [V.ref a] ∧ SqL K H a xs ∧ (∀ v d, Dq G v d → Dp K H v d) ∧ DqAll G xs ds ∧ AllAlike ds ∧ (∀ d, d ∈ ds → ∃ ys, d = .tuple ys) ∧ (∀ d, d ∈ ds → d.depth ≤ 60) ∧
  ∀ (ys : List V) (p : Addr), DqAll G ys (ds.mergeSort (dataLe false id)) → H p = none → Q (.ref p) (upd H p (.lst ys))
theorem cr_sortedTu (hu : X.A.units + 64 < cLine) : CallR X (.builtin "sorted") (rSortedTu X.K) := by
  intro pins s σ H vs us Q I r h
  obtain ⟨a, xs, ds, G, rfl, hs, hG, hd, hal, ht, hdp, q⟩ := h
  obtain ⟨its, rv, hl, hz⟩ := I.list hs
  rw [Vals.ref1 r]
  have hlen : xs.length = ds.length := dpAll_len hd
  have each : ∀ {xs : List V} {ds : List PyData} {its : List Value}, DqAll G xs ds → Vals xs its → EachIs (fun u d => ∃ x, RelV x u ∧ Dq G x d) its ds := by
    intro xs ds its hd
    induction hd using DqAll.rec (motive_1 := fun _ _ _ => True) generalizing its with
    | nil => intro rv; cases rv; exact .nil
    | cons h t _ ih => intro rv; cases rv with | cons r1 r2 => exact .cons ⟨_, r1, h⟩ (ih r2)
    | _ => trivial
  have e1 := each hd rv
  have back : ∀ {out : List Value} {ds : List PyData}, EachIs (fun u d => ∃ x, RelV x u ∧ Dq G x d) out ds → ∃ ys, Vals ys out ∧ DqAll G ys ds := by
    intro out ds e
    induction e with
    | nil => exact ⟨[], .nil, .nil⟩
    | cons h t ih =>
      obtain ⟨x, r1, r2⟩ := h
      obtain ⟨ys, h1, h2⟩ := ih
      exact ⟨x :: ys, .cons r1 h1, .cons r2 h2⟩
  refine my_sorted hl.isList e1 (e1.mono fun u d ⟨x, r1, r2⟩ => Dp.reads I d x u (hG x d r2) r1) hal ht (by rw [← hlen]; exact hz) (fun d hdm => by have := hdp d hdm; omega) fun out ho eo => ?_
  obtain ⟨ys, h1, h2⟩ := back eo
  obtain ⟨ep, he'⟩ := PyProof.Rows.sortedAll_at s.heap its out.toArray
  have hsz : ys.length ≤ sizeLine := by rw [h1.length, ho, ← hlen]; exact hz
  exact ⟨.ref _, upd H (s.heap.objs.size + 1) (.lst ys), I.laid (t' := s.toks) (fun _ _ => PyProof.Rows.sortedAll_old) (Nat.le_succ _) ⟨hsz, out, ep, h1, by simpa using he'⟩, rfl, q _ _ h2 (I.hok.fresh (Nat.le_succ _))⟩
end
end L2

set_option Elab.async false
set_option linter.all false
set_option maxRecDepth 100000
/-! plain definitions: data, sets as masks, ranks, circuits, flats -/
namespace L2
open PySem PySem.Spec PyProof.Rows PySem.W
/-- a set of elements | rows of sets -/
abbrev dNat (n : Nat) : PyData := .int (n : Int)
abbrev dSet (l : List Int) : PyData := .tuple (l.map .int)
abbrev dSets (l : List (List Int)) : PyData := .tuple (l.map dSet)
abbrev dSetL (l : List (List Int)) : PyData := .list (l.map dSet)
abbrev dNats (l : List Nat) : PyData := .list (l.map dNat)
abbrev dNatT (l : List Nat) : PyData := .tuple (l.map dNat)
end L2
namespace MB
open PySem PySem.Spec PyProof.Rows PySem.W L2
def setOf (m : Nat) (g : List Int) : List Int := (g.zipIdx.filter fun x => m.testBit x.2).map (·.1)
def placesIn (m n : Nat) : List Nat := (List.range n).filter fun k => m.testBit k
def placesOut (m n : Nat) : List Nat := (List.range n).filter fun k => !m.testBit k
def mskOf (l g : List Int) : Nat := ((g.zipIdx.filter fun x => decide (x.1 ∈ l)).map fun x => 2 ^ x.2).sum
def isCirc (rk : List Nat) (n m : Nat) : Bool := decide (((rk.getD m 0 : Nat) : Int) = ((placesIn m n).length : Int) - 1) && ((placesIn m n).map fun k => decide (((rk.getD (m ^^^ 2 ^ k) 0 : Nat) : Int) = ((placesIn m n).length : Int) - 1)).all id
def cnt (n m : Nat) : Nat := (placesIn m n).length
def rankOf (n : Nat) (bs : List Nat) (m : Nat) : Nat := (bs.map fun b => cnt n (m &&& b)).foldl max 0
def closM (rk : List Nat) (n m : Nat) : Nat := (((List.range n).filter fun k => decide (rk.getD (m ||| 2 ^ k) 0 = rk.getD m 0)).map fun k => 2 ^ k).sum
def isFlat (rk : List Nat) (n m : Nat) : Bool := decide (closM rk n m = m)
/-- the order of sets, as sorted has it -/
def leS (a b : List Int) : Bool := dataLe false id (dSet a) (dSet b)
def sortS (ls : List (List Int)) : List (List Int) := ls.mergeSort leS
def rksOf (g : List Int) (bs : List (List Int)) : List Nat := (List.range (2 ^ g.length)).map (rankOf g.length (bs.map (mskOf · g)))
def circsOf (g : List Int) (bs : List (List Int)) : List (List Int) := sortS (((List.range (2 ^ g.length)).filter (isCirc (rksOf g bs) g.length)).map (setOf · g))
def flatsOf (g : List Int) (bs : List (List Int)) : List (List Int) := sortS (((List.range (2 ^ g.length)).filter (isFlat (rksOf g bs) g.length)).map (setOf · g))
end MB

set_option Elab.async false
set_option linter.all false
set_option maxRecDepth 100000
/-! A def's promise where no repr is under way: as FnOk, for calls whose surroundings hold no repr open. -/
namespace L2
open PySem PySem.Spec PyProof.Rows
structure FnG (P : Program) (w : World) (K : PySem.W.Frag) (mg : Str → Option Value) (base : Heap) (k : Nat) (f : Addr)
    (fd : FuncData) (ps : List Str) (sp : Sp) : Prop where
  lenG : ∀ vs H Q E, sp vs H Q E → vs.length = ps.length
  runG : ∀ (A : Around) (outer : List Env) (s : Shared) (H : Hp) (args : Args) (us : List Value) (vs : List V) (Q : VK) (E : XK),
    A.guards = some [] → Room k A → Env0 P w K mg base A outer s H → BindsTo s fd args (ps.zip us) → Vals vs us → sp vs H Q E →
    codeAny (model P w) A (.call (.ref f) args) (CR CX0 outer P w H s Q E) s
theorem FnG.mono {P : Program} {w : World} {K : PySem.W.Frag} {mg : Str → Option Value} {base : Heap} {j k : Nat} {f : Addr} {fd : FuncData} {ps : List Str} {sp : Sp}
    (F : FnG P w K mg base j f fd ps sp) (h : j ≤ k) : FnG P w K mg base k f fd ps sp :=
  ⟨F.lenG, fun A outer s H args us vs Q E hg hr => F.runG A outer s H args us vs Q E hg (hr.mono h)⟩
theorem fnG_of {P : Program} {w : World} {K : PySem.W.Frag} {mg : Str → Option Value} {base : Heap} {x qual : Str} {st : Stmt} {f : Addr} {fd : FuncData} {N ps : List Str} {k : Nat} {sp : Sp}
    (F : Fun K x qual st f fd) (S : FnScope N ps (defScope st)) (len : ∀ vs H Q E, sp vs H Q E → vs.length = ps.length)
    (body : ∀ (cdv : Value) (A : Around) (outer : List Env) (s : Shared) (H : Hp) (vs : List V) (Q : VK) (E : XK),
      A.guards = some [] → Room k (A.deeper (envOfC qual (defScope st) s.heap.objs.size f cdv)) → sp vs H Q E →
      ∃ t, PSs (cxOf CX0 P w K mg base N qual (defScope st) f cdv A outer s H E).nox (defBody st) t ∧
        t { nx := fun _ H' => Q .non H', rt := Q } (start N vs) H) :
    FnG P w K mg base (k + 1) f fd ps sp := by
  obtain ⟨oc, od, kV, doc, pm, an, cdv, ct, osl, rfl, lk, hcd⟩ := F.ex
  refine ⟨len, fun A outer s H args us vs Q E hg hr e0 hb r hsp => ?_⟩
  have want := len vs H Q E hsp
  have kb := fun (b : Addr) (o : Obj) (e : base.get? b = some o) => (e0.bs b o e).1
  have KX : K.In s.heap := e0.mod.kin.keeps kb
  have nl : s.heap.NoLimit := e0.mod.nolimit.keeps kb
  have kinds : ∀ y ∈ ps.zip us, (defScope st).names.lookup y.1 = some .local ∨
      ((defScope st).names.lookup y.1 = some .cell ∧ ((cellsFrom (s.heap.objs.size + 1) (defScope st).names []).lookup y.1).isSome = true) := by
    rintro ⟨n, v⟩ hy
    exact (S.par n (List.of_mem_zip hy).1).imp id fun q => ⟨q, PySem.W.cellsFrom_some _ _ _ (.inl q)⟩
  refine codeAny_call_function hr.depth (KX _ _ lk) rfl S.co S.gen rfl (PySem.W.codeRec_of KX hcd) (hb _ _ _ _ (wpAny_newFunctionEnv_cells S.kind kinds fun env he s1 x => ?_))
  subst he
  refine ⟨nl.keeps x.toInCall.keep, codeAny_func ?_⟩
  obtain ⟨t, ht, hq⟩ := body cdv A outer s H vs Q E hg (hr.deeper _) hsp
  refine wpAny_mono (ht.nox.run [] s1 (start N vs) H _ (inv_start S hr.hd e0 want r x) hq) (fun fl s' hs => ?_) fun _ _ hs => hs
  match fl, hs with
  | .ret u, hs =>
    obtain ⟨v, _, H', J, rv, q⟩ := hs
    exact ⟨v, H', J.os, J.bare, J.base, J.hok, rv, q⟩
  | .next, hs =>
    obtain ⟨_, H', J, q⟩ := hs
    exact ⟨V.non, H', J.os, J.bare, J.base, J.hok, rfl, q⟩
  | .brk, hs =>
    obtain ⟨_, _, _, q⟩ := hs
    exact q.elim
  | .cont, hs =>
    obtain ⟨_, _, _, q⟩ := hs
    exact q.elim
section
variable {X : Cx} {x : Str} {f : Addr} {fd : FuncData} {ps : List Str} {sp : Sp} {k : Nat} {p pos : Pos} {e : Expr} {es : List Expr} {t : TA} {ds : List Value} {dvs : List V}
/-- f(e, ..), where no repr is under way -/
theorem pe_callG (F : FnG X.prog X.w X.K X.mg X.base k f fd ps sp) (gd : X.A.guards = some []) (hr : Room k X.A) (hg : Gl X x) (hm : X.mg x = some (.ref f)) (hk : PySem.W.keepIn X.K (.ref f) = true)
    (hb : Binds X.K fd ps ds) (hd : Vals dvs ds) (ha : PA X (e :: es) t) (hdb : (x == ("__debug__" : Str)) = false := by decide)
    (he : starEach (e :: es) X.env = (false, eval e X.env) :: starEach es X.env := by rfl)
    (hpl : (backTo pos (starEach es X.env)).any (·.1) = false := by rfl) : PE X (.Call (.Name x p) (e :: es) [] pos) (tCall sp dvs E0 t) := by
  refine ⟨fun pins s σ H Q I h => wpAny_Call_Name_kw (ld_glob I hg hm ?_ hdb)⟩
  refine PySem.W.callWith_K (h₀ := X.base) I.ok.mod.kin hk (thn (ha.run pos pins s σ H _ I h) fun us s1 ⟨vs, H1, I1, r, q⟩ => ⟨I1.kIn, ?_⟩) he hpl
  have r2 : Vals (vs ++ dvs) (us ++ ds) := r.append hd
  have hl : (us ++ ds).length = ps.length := r2.length.symm.trans (F.lenG _ _ _ _ q)
  refine wpAny_call (codeAny_mono (F.runG X.A X.stack s1 H1 ⟨us, []⟩ (us ++ ds) (vs ++ dvs) Q E0 gd hr I1.env0 (hb s1 us I1.kIn hl) r2 q) fun rr s' hq => ?_)
  match rr, hq with
  | .ok (.ret u), hq => exact I1.after hq
end

/-- the law's call behind the top: its promise asks that no repr is under way -/
theorem law_callG {P : Program} {w : World} {K : PySem.W.Frag} {mg mb : Str → Option Value} {k : Nat} {fa a : Addr} {fd : FuncData} {x : Str} {sp : Sp} {s₁ : Shared} {vs : List Value} {ns : List Int}
    (KX : K.In s₁.heap) (gl : s₁.heap.Ns mainGlobals mg) (bl : s₁.heap.Ns builtinsNs mb) (bb : ∀ x : Str, x ≠ "__name__" → mb x = bootBuiltins x) (nl : s₁.heap.NoLimit) (ng : s₁.gens = #[])
    (at_ : s₁.heap.get? a = some { cls := .type "list", data := .seq vs.toArray }) (its0 : IntsAre vs ns) (hl : ns.length ≤ sizeLine) (hr : Room k callerA)
    (F : ∀ base : Heap, K.In base → base.Ns mainGlobals mg → FnG P w K mg base k fa fd [x] sp) (bnd : ∀ (s : Shared) (u : Value), BindsTo s fd ⟨[u], []⟩ [(x, u)])
    (hsp : ∀ H : Hp, Only H → SqL K H a (ns.map V.int) → sp [.ref a] H (fun v _ => v = .bl true) E0) :
    codeAny (model P w) callerA (.call (.ref fa) ⟨[.ref a], []⟩) (fun r s' => r = .ok (.ret (.bool true)) ∧ OldK s₁.heap s'.heap ∧ s'.os = s₁.os ∧ AllBare s'.gens) s₁ := by
  have rv := vals_ints its0
  have core : ∀ H : Hp, Only H → SqL K H a (ns.map V.int) → HOk P w H s₁.heap → (∀ b, H b ≠ none → b = a) → (H a ≠ none → K.lookup a = none) →
      codeAny (model P w) callerA (.call (.ref fa) ⟨[.ref a], []⟩) (fun r s' => r = .ok (.ret (.bool true)) ∧ OldK s₁.heap s'.heap ∧ s'.os = s₁.os ∧ AllBare s'.gens) s₁ := by
    intro H hO hS hok hA hK
    have only : ∀ {b : Addr}, b ≠ a → H b = none := fun {b} hb => Classical.byContradiction fun q => hb (hA b q)
    have keep : ∀ {b : Addr} {o : Obj}, s₁.heap.get? b = some o → H b = none → (hidT s₁.heap H).get? b = some o := hidT_get
    have dicts : ∀ {b : Addr} {o : Obj} {es : Array DictEntry} {ep : Nat}, s₁.heap.get? b = some o → o.data = .dict es ep → b ≠ a := fun e d z => by
      rw [z, at_] at e
      cases e
      cases d
    have nsK : ∀ {b : Addr} {m : Str → Option Value}, s₁.heap.Ns b m → (hidT s₁.heap H).Ns b m := fun ⟨o, es, ep, e, d, r⟩ => ⟨o, es, ep, keep e (only (dicts e d)), d, r⟩
    have hKb : K.In (hidT s₁.heap H) := fun b o e => keep (KX b o e) (Classical.byContradiction fun q => by
      have z := hA b q
      subst z
      rw [hK q] at e
      cases e)
    have hM : Mod K mg (hidT s₁.heap H) := ⟨hKb, nsK gl, ⟨mb, nsK bl, bb⟩, let ⟨mc, h1, h2⟩ := nl; ⟨mc, nsK h1, h2⟩⟩
    have e0 : Env0 P w K mg (hidT s₁.heap H) callerA [] s₁ H :=
      ⟨rfl, hM, fun _ _ e => of_hidT e, Nat.le_of_eq (hidT_size _ _), trivial, fun b hb => absurd (show b ∈ ([] : List Addr) from hb) List.not_mem_nil, hok, .of_eq ng⟩
    refine codeAny_mono ((F _ hKb (nsK gl)).runG callerA [] s₁ H ⟨[.ref a], []⟩ [.ref a] [.ref a] _ _ rfl hr e0 (bnd s₁ (.ref a)) (.cons rfl .nil) (hsp H hO hS)) fun r s' h => ?_
    match r, h with
    | .ok (.ret u), h =>
      obtain ⟨v, H', os, bare, un, hok', r', q⟩ := h
      obtain rfl : v = .bl true := q
      obtain rfl : u = Value.bool true := r'
      refine ⟨rfl, OldK.of_keep fun b o e => ?_, os, bare⟩
      match q : H b with
      | none => exact un.keep b o e q (fun z => absurd (show b ∈ ([] : List Addr) from z) List.not_mem_nil) List.not_mem_nil
      | some u =>
        obtain ⟨ob, xs, z⟩ := (hO b).resolve_left (by rw [q]; exact fun z => nomatch z)
        have e1 := (hok b _ z).1
        have e2 := (hok' b _ (un.frzs b ob _ z)).1
        rw [e] at e1
        cases e1
        exact e2
  have hlen : (ns.map V.int).length ≤ sizeLine := by
    rw [List.length_map]
    exact hl
  match hk : K.lookup a with
  | some o =>
    have e := (KX a o hk).symm.trans at_
    cases e
    exact core (fun _ => none) (fun _ => .inl rfl) (.inr ⟨_, vs.toArray, _, hk, rfl, rfl, rfl, by rw [List.size_toArray, its0.length]; exact hl, by simpa using rv⟩) (fun b u z => nomatch z) (fun b z => absurd rfl z) fun z => absurd rfl z
  | none =>
    have on : ∀ b, b ≠ a → (if b = a then some (HO.frz { cls := .type "list", data := .seq vs.toArray } (.lst (ns.map V.int))) else none) = none := fun b hb => if_neg hb
    refine core (fun b => if b = a then some (.frz { cls := .type "list", data := .seq vs.toArray } (.lst (ns.map V.int))) else none) (fun b => ?_) (.inl (.inr ⟨_, if_pos rfl⟩)) (fun b u z => ?_)
      (fun b z => Classical.byContradiction fun hb => z (on b hb)) fun _ => hk
    · by_cases hb : b = a
      · exact .inr ⟨_, _, if_pos hb⟩
      · exact .inl (on b hb)
    · by_cases hb : b = a
      · subst hb
        cases (if_pos rfl).symm.trans z
        exact ⟨at_, hlen, vs, _, rv, at_⟩
      · cases (on b hb).symm.trans z
theorem walk_ofG {l : PySem.W.OpenLaw} {n k : Nat} {q : Program} {loose : List Str} {XP : (Str → Option Value) → Heap → Prop} {YP : World → Heap → Prop} {d : DefRec} {K : Params → PySem.W.Frag} {sp : World → Sp} {x : Str}
    (hn : l.most = some n) (hn2 : n ≤ sizeLine) (hdf : d.params.defaults = []) (hr : Room k callerA) (hY : ∀ (w : World) (h : Heap), YP w h → (K w.params).In h)
    (F : ∀ (w : World) (mg : Str → Option Value) (fa : Addr) (h : Heap), (K w.params).In h → h.Ns mainGlobals mg → mg d.name = some (.ref fa) →
      ∃ fd : FuncData, (∀ (s : Shared) (u : Value), BindsTo s fd ⟨[u], []⟩ [(x, u)]) ∧ ∀ base : Heap, (K w.params).In base → base.Ns mainGlobals mg → FnG l.prog w (K w.params) mg base k fa fd [x] (sp w))
    (hsp : ∀ (w : World) (H : Hp) (a : Addr) (ns : List Int), ns.length ≤ n → Only H → SqL (K w.params) H a (ns.map V.int) → sp w [.ref a] H (fun v _ => v = .bl true) E0) :
    PySem.W.WalkO q loose XP YP l.row.toRowW d [] (fun f vs => PySem.call f vs) :=
  Att.attach_call hn hdf fun w s₀ s₁ mg mb fa o pm cd doc a vs ns G Y ho hd hcd hmg hobj hints hlen hg => by
    have KX := hY w _ Y
    obtain ⟨fd, hb, hF⟩ := F w mg fa _ KX G.T.g hmg
    exact law_callG KX G.T.g G.T.b G.T.builtins G.T.nolimit hg hobj hints (Nat.le_trans hlen hn2) hr hF hb fun H hO hS => hsp w H a ns hlen hO hS
end L2

set_option Elab.async false
set_option linter.all false
set_option maxRecDepth 100000
/-! Data read forward: what an expression over data gives, and that all that was tracked stays. -/
namespace L2
open PySem PySem.Spec PyProof.Rows PySem.W
section
variable {K : PySem.W.Frag} {H H' H1 : Hp}
theorem Same.seqT {a : Addr} {xs : List V} (e : Same H H') (h : SqT K H a xs) : SqT K H' a xs := by
  rcases h with (h | ⟨o, h⟩) | h
  · exact .inl (.inl (e _ _ h))
  · exact .inl (.inr ⟨o, e _ _ h⟩)
  · exact .inr h
mutual
theorem Dq.monoS (e : Same H H') : ∀ {v : V} {d : PyData}, Dq H v d → Dq H' v d
  | _, _, .non => .non
  | _, _, .bl b => .bl b
  | _, _, .int i => .int i
  | _, _, .str x => .str x
  | _, _, .lst h t => .lst (e.seq h) (DqAll.monoS e t)
  | _, _, .tup h t => .tup (e _ _ h) (DqAll.monoS e t)
theorem DqAll.monoS (e : Same H H') : ∀ {vs : List V} {ds : List PyData}, DqAll H vs ds → DqAll H' vs ds
  | _, _, .nil => .nil
  | _, _, .cons h t => .cons (Dq.monoS e h) (DqAll.monoS e t)
end
theorem Dq.int_inv {v : V} {i : Int} (h : Dq H v (.int i)) : v = .int i := by cases h; rfl
theorem Dq.bl_inv {v : V} {b : Bool} (h : Dq H v (.bool b)) : v = .bl b := by cases h; rfl
theorem Dq.str_inv {v : V} {x : Str} (h : Dq H v (.str x)) : v = .str x := by cases h; rfl
theorem Dq.non_inv {v : V} (h : Dq H v .none) : v = .non := by cases h; rfl
theorem Dq.lst_inv {v : V} {ds : List PyData} (h : Dq H v (.list ds)) : ∃ a xs, v = .ref a ∧ SqL [] H a xs ∧ DqAll H xs ds := by cases h; exact ⟨_, _, rfl, ‹_›, ‹_›⟩
theorem Dq.tup_inv {v : V} {ds : List PyData} (h : Dq H v (.tuple ds)) : ∃ a xs, v = .ref a ∧ SqT [] H a xs ∧ DqAll H xs ds := by cases h; exact ⟨_, _, rfl, .inl (.inl ‹_›), ‹_›⟩
theorem Dq.tup_raw {v : V} {ds : List PyData} (h : Dq H v (.tuple ds)) : ∃ a xs, v = .ref a ∧ H a = some (.tup xs) ∧ DqAll H xs ds := by cases h; exact ⟨_, _, rfl, ‹_›, ‹_›⟩
theorem DqAll.get : ∀ {vs : List V} {ds : List PyData} {i : Nat} {v : V}, DqAll H vs ds → vs[i]? = some v → ∃ d, ds[i]? = some d ∧ Dq H v d
  | _, _, 0, _, .cons h t, e => ⟨_, rfl, by cases e; exact h⟩
  | _, _, i + 1, _, .cons h t, e => DqAll.get (i := i) t e
  | _, _, _, _, .nil, e => by simp at e
theorem DqAll.get' : ∀ {vs : List V} {ds : List PyData} {i : Nat} {d : PyData}, DqAll H vs ds → ds[i]? = some d → ∃ v, vs[i]? = some v ∧ Dq H v d
  | _, _, 0, _, .cons h t, e => ⟨_, rfl, by cases e; exact h⟩
  | _, _, i + 1, _, .cons h t, e => DqAll.get' (i := i) t e
  | _, _, _, _, .nil, e => by simp at e
theorem DqAll.append : ∀ {vs ws : List V} {ds es : List PyData}, DqAll H vs ds → DqAll H ws es → DqAll H (vs ++ ws) (ds ++ es)
  | _, _, _, _, .nil, t => t
  | _, _, _, _, .cons h r, t => .cons h (DqAll.append r t)
theorem DqAll.of_ints : ∀ ns : List Int, DqAll H (ns.map V.int) (ns.map PyData.int)
  | [] => .nil
  | n :: r => .cons (.int n) (DqAll.of_ints r)
theorem DqAll.ints_inv : ∀ {vs : List V} {ns : List Int}, DqAll H vs (ns.map PyData.int) → vs = ns.map V.int
  | _, [], .nil => rfl
  | _, n :: r, .cons h t => by rw [Dq.int_inv h, DqAll.ints_inv t]; rfl
theorem DqAll.bls_inv : ∀ {vs : List V} {ns : List Bool}, DqAll H vs (ns.map PyData.bool) → vs = ns.map V.bl
  | _, [], .nil => rfl
  | _, n :: r, .cons h t => by rw [Dq.bl_inv h, DqAll.bls_inv t]; rfl
end
/-! ### what is hidden -/
/-- what is tracked alone -/
abbrev K0 : PySem.W.Frag := []
theorem SqL.fn {H : Hp} {a : Addr} {xs ys : List V} (h : SqL K0 H a xs) (h' : SqL K0 H a ys) : xs = ys := by
  rcases h with (h | ⟨o, h⟩) | ⟨_, _, _, h, _⟩
  · rcases h' with (h' | ⟨o', h'⟩) | ⟨_, _, _, h', _⟩
    · rw [h] at h'; cases h'; rfl
    · rw [h] at h'; cases h'
    · cases h'
  · rcases h' with (h' | ⟨o', h'⟩) | ⟨_, _, _, h', _⟩
    · rw [h] at h'; cases h'
    · rw [h] at h'; cases h'; rfl
    · cases h'
  · cases h
theorem SqT.fn {H : Hp} {a : Addr} {xs ys : List V} (h : SqT K0 H a xs) (h' : SqT K0 H a ys) : xs = ys := by
  rcases h with (h | ⟨o, h⟩) | ⟨_, _, _, h, _⟩
  · rcases h' with (h' | ⟨o', h'⟩) | ⟨_, _, _, h', _⟩
    · rw [h] at h'; cases h'; rfl
    · rw [h] at h'; cases h'
    · cases h'
  · rcases h' with (h' | ⟨o', h'⟩) | ⟨_, _, _, h', _⟩
    · rw [h] at h'; cases h'
    · rw [h] at h'; cases h'; rfl
    · cases h'
  · cases h
theorem SqLT {H : Hp} {a : Addr} {xs ys : List V} (h : SqL K0 H a xs) (h' : SqT K0 H a ys) : False := by
  rcases h with (h | ⟨o, h⟩) | ⟨_, _, _, h, _⟩
  · rcases h' with (h' | ⟨o', h'⟩) | ⟨_, _, _, h', _⟩
    · rw [h] at h'; cases h'
    · rw [h] at h'; cases h'
    · cases h'
  · rcases h' with (h' | ⟨o', h'⟩) | ⟨_, _, _, h', _⟩
    · rw [h] at h'; cases h'
    · rw [h] at h'; cases h'
    · cases h'
  · cases h
mutual
theorem Dq.fn {H : Hp} : ∀ {v : V} {d e : PyData}, Dq H v d → Dq H v e → d = e
  | _, _, _, .non, h => by cases h; rfl
  | _, _, _, .bl b, h => by cases h; rfl
  | _, _, _, .int b, h => by cases h; rfl
  | _, _, _, .str b, h => by cases h; rfl
  | _, _, _, .lst s r, h => by
    cases h with
    | lst s' r' =>
      cases s.fn s'
      rw [DqAll.fn r r']
    | tup s' r' => exact (SqLT s (.inl (.inl s'))).elim
  | _, _, _, .tup s r, h => by
    cases h with
    | tup s' r' =>
      rw [s] at s'
      cases s'
      rw [DqAll.fn r r']
    | lst s' r' => exact (SqLT s' (.inl (.inl s))).elim
theorem DqAll.fn {H : Hp} : ∀ {vs : List V} {ds es : List PyData}, DqAll H vs ds → DqAll H vs es → ds = es
  | _, _, _, .nil, h => by cases h; rfl
  | _, _, _, .cons a r, h => by
    cases h with
    | cons b r' => rw [Dq.fn a b, DqAll.fn r r']
end
/-- tuples never change -/
def isTupO : Option HO → Bool
  | some (.tup _) => true
  | some (.frz _ (.tup _)) => true
  | _ => false
/-- H without the addresses of O, but for tuples -/
noncomputable def hid (O : Addr → Prop) (H : Hp) : Hp := open Classical in fun b => if O b ∧ isTupO (H b) = false then none else H b
theorem hid_in {O : Addr → Prop} {H : Hp} {b : Addr} (h : O b) (t : isTupO (H b) = false) : hid O H b = none := if_pos ⟨h, t⟩
theorem hid_out {O : Addr → Prop} {H : Hp} {b : Addr} (h : ¬ O b) : hid O H b = H b := if_neg fun z => h z.1
theorem hid_tup {O : Addr → Prop} {H : Hp} {b : Addr} (t : isTupO (H b) = true) : hid O H b = H b := if_neg fun z => by rw [t] at z; cases z.2
theorem hid_some {O : Addr → Prop} {H : Hp} {b : Addr} {o : HO} (h : hid O H b = some o) : H b = some o ∧ (¬ O b ∨ isTupO (some o) = true) := by
  by_cases z : O b
  · cases t : isTupO (H b) with
    | false => rw [hid_in z t] at h; cases h
    | true =>
      rw [hid_tup t] at h
      rw [h] at t
      exact ⟨h, .inr t⟩
  · rw [hid_out z] at h
    exact ⟨h, .inl z⟩
theorem hid_of {O : Addr → Prop} {H : Hp} {b : Addr} {o : HO} (h : H b = some o) (z : ¬ O b ∨ isTupO (some o) = true) : hid O H b = some o := by
  rcases z with z | z
  · rw [hid_out z, h]
  · rw [hid_tup (by rw [h]; exact z), h]
theorem hid_no (H : Hp) : hid (fun _ => False) H = H := by
  funext b
  exact hid_out fun z => z
theorem hid_subS (O : Addr → Prop) (H : Hp) : Same (hid O H) H := fun b o e => (hid_some e).1
theorem hid_sameS {O : Addr → Prop} {H H' : Hp} (s : Same H H') : Same (hid O H) (hid O H') := fun b o e => hid_of (s b o (hid_some e).1) (hid_some e).2
/-- the tuples -/
def tp (H : Hp) : Hp := fun b => if isTupO (H b) = true then H b else none
theorem tp_of {H : Hp} {b : Addr} {o : HO} (h : H b = some o) (t : isTupO (some o) = true) : tp H b = some o := by
  unfold tp
  rw [h, if_pos t]
theorem tp_some {H : Hp} {b : Addr} {o : HO} (h : tp H b = some o) : H b = some o ∧ isTupO (some o) = true := by
  unfold tp at h
  split at h
  · rename_i t
    rw [h] at t
    exact ⟨h, t⟩
  · cases h
theorem tp_sub (H : Hp) : Same (tp H) H := fun b o h => (tp_some h).1
theorem tp_hid (O : Addr → Prop) (H : Hp) : tp (hid O H) = tp H := by
  funext b
  cases h : tp H b with
  | some o =>
    obtain ⟨h1, t⟩ := tp_some h
    exact tp_of (hid_of h1 (.inr t)) t
  | none =>
    cases h' : tp (hid O H) b with
    | none => rfl
    | some o =>
      obtain ⟨h1, t⟩ := tp_some h'
      rw [tp_of (hid_some h1).1 t] at h
      cases h
abbrev flds5 (g b r c f : V) : List (Str × V) := [("ground", g), ("bases", b), ("_ranks", r), ("_circuits", c), ("_flats", f)]
/-- a matroid's attributes, over the tuples -/
structure Raw (G : Hp) (v1 v2 v3 v4 v5 : V) (g : List Int) (bs : List (List Int)) : Prop where
  d1 : Dq G v1 (dSet g)
  d2 : Dq G v2 (dSets bs)
  d3 : Dq G v3 .none ∨ Dq G v3 (dNatT (MB.rksOf g bs))
  d4 : Dq G v4 .none ∨ Dq G v4 (dSets (MB.circsOf g bs))
  d5 : Dq G v5 .none ∨ Dq G v5 (dSets (MB.flatsOf g bs))
theorem Raw.monoS {G G' : Hp} {v1 v2 v3 v4 v5 : V} {g : List Int} {bs : List (List Int)} (s : Same G G') (h : Raw G v1 v2 v3 v4 v5 g bs) : Raw G' v1 v2 v3 v4 v5 g bs :=
  ⟨h.d1.monoS s, h.d2.monoS s, h.d3.imp (·.monoS s) (·.monoS s), h.d4.imp (·.monoS s) (·.monoS s), h.d5.imp (·.monoS s) (·.monoS s)⟩
/-- a matroid's cell -/
def IsM (o : HO) : Prop := ∃ C dx v1 v2 v3 v4 v5, o = .ins C dx (flds5 v1 v2 v3 v4 v5)
theorem IsM.not_tup {o : HO} (t : isTupO (some o) = true) : ¬ IsM o := by
  rintro ⟨C, dx, v1, v2, v3, v4, v5, rfl⟩
  cases t
/-- all that was tracked is as it was, but for what matroids keep -/
structure Le (H H' : Hp) : Prop where
  s : ∀ b o, H b = some o → ¬ IsM o → H' b = some o
  m : ∀ p C dx v1 v2 v3 v4 v5, H p = some (.ins C dx (flds5 v1 v2 v3 v4 v5)) → ∃ w3 w4 w5, H' p = some (.ins C dx (flds5 v1 v2 w3 w4 w5)) ∧ ∀ g bs, Raw (tp H) v1 v2 v3 v4 v5 g bs → Raw (tp H') v1 v2 w3 w4 w5 g bs
section
variable {H H' H1 H2 : Hp} {O : Addr → Prop}
theorem tp_same (s : Same H H') : Same (tp H) (tp H') := fun b o h => tp_of (s _ _ (tp_some h).1) (tp_some h).2
theorem Le.tps (s : Le H H') : Same (tp H) (tp H') := fun b o h => tp_of (s.s _ _ (tp_some h).1 (IsM.not_tup (tp_some h).2)) (tp_some h).2
theorem Le.of (s : Same H H') : Le H H' := ⟨fun b o h _ => s b o h, fun p C dx v1 v2 v3 v4 v5 h => ⟨v3, v4, v5, s _ _ h, fun g bs r => r.monoS (tp_same s)⟩⟩
theorem Le.refl (H : Hp) : Le H H := .of (.refl H)
theorem Le.trans (a : Le H H1) (b : Le H1 H2) : Le H H2 := ⟨fun c o h n => b.s c o (a.s c o h n) n, fun p C dx v1 v2 v3 v4 v5 h => by
  obtain ⟨w3, w4, w5, h1, r1⟩ := a.m p C dx v1 v2 v3 v4 v5 h
  obtain ⟨u3, u4, u5, h2, r2⟩ := b.m p C dx v1 v2 w3 w4 w5 h1
  exact ⟨u3, u4, u5, h2, fun g bs r => r2 g bs (r1 g bs r)⟩⟩
theorem Le.there (s : Le H H') {b : Addr} {o : HO} (h : H b = some o) : ∃ o', H' b = some o' := by
  by_cases n : IsM o
  · obtain ⟨C, dx, v1, v2, v3, v4, v5, rfl⟩ := n
    obtain ⟨w3, w4, w5, h', _⟩ := s.m _ _ _ _ _ _ _ _ h
    exact ⟨_, h'⟩
  · exact ⟨o, s.s _ _ h n⟩
theorem Le.free (s : Le H H') {l : Addr} (h : H' l = none) : H l = none := by
  cases q : H l with
  | none => rfl
  | some o =>
    obtain ⟨o', e⟩ := s.there q
    rw [e] at h
    cases h
theorem Le.lst (s : Le H H') {b : Addr} {xs : List V} (h : H b = some (.lst xs)) : H' b = some (.lst xs) := s.s _ _ h fun ⟨_, _, _, _, _, _, _, z⟩ => nomatch z
theorem Le.tup (s : Le H H') {b : Addr} {xs : List V} (h : H b = some (.tup xs)) : H' b = some (.tup xs) := s.s _ _ h fun ⟨_, _, _, _, _, _, _, z⟩ => nomatch z
theorem Le.dK (s : Le H H') {b : Addr} {xs : List (Key × V)} (h : H b = some (.dK xs)) : H' b = some (.dK xs) := s.s _ _ h fun ⟨_, _, _, _, _, _, _, z⟩ => nomatch z
theorem Le.dT (s : Le H H') {b : Addr} {xs : List (List Key × V)} (h : H b = some (.dT xs)) : H' b = some (.dT xs) := s.s _ _ h fun ⟨_, _, _, _, _, _, _, z⟩ => nomatch z
theorem Le.frz (s : Le H H') {b : Addr} {o : Obj} {u : HO} (h : H b = some (.frz o u)) : H' b = some (.frz o u) := s.s _ _ h fun ⟨_, _, _, _, _, _, _, z⟩ => nomatch z
theorem Le.ins (s : Le H H') {b C dx : Addr} {fs : List (Str × V)} (h : H b = some (.ins C dx fs)) (n : fs.length ≠ 5) : H' b = some (.ins C dx fs) := s.s _ _ h fun ⟨_, _, _, _, _, _, _, z⟩ => by cases z; exact n rfl
theorem hid_same (s : Le H H') : Le (hid O H) (hid O H') := ⟨fun b o h n => hid_of (s.s _ _ (hid_some h).1 n) (hid_some h).2, fun p C dx v1 v2 v3 v4 v5 h => by
  obtain ⟨h1, z⟩ := hid_some h
  obtain ⟨w3, w4, w5, h', r⟩ := s.m _ _ _ _ _ _ _ _ h1
  refine ⟨w3, w4, w5, hid_of h' (z.imp id fun t => nomatch t), ?_⟩
  rw [tp_hid, tp_hid]
  exact r⟩
theorem hid_sub (O : Addr → Prop) (H : Hp) : Le (hid O H) H := .of (hid_subS O H)
theorem Le.seq {K : PySem.W.Frag} {a : Addr} {xs : List V} (e : Le H H') (h : SqL K0 H a xs) : SqL K H' a xs := by
  rcases h with (h | ⟨o, h⟩) | ⟨_, _, _, h, _⟩
  · exact .inl (.inl (e.lst h))
  · exact .inl (.inr ⟨o, e.frz h⟩)
  · cases h
theorem Le.seqT {K : PySem.W.Frag} {a : Addr} {xs : List V} (e : Le H H') (h : SqT K0 H a xs) : SqT K H' a xs := by
  rcases h with (h | ⟨o, h⟩) | ⟨_, _, _, h, _⟩
  · exact .inl (.inl (e.tup h))
  · exact .inl (.inr ⟨o, e.frz h⟩)
  · cases h
mutual
theorem Dq.mono (e : Le H H') : ∀ {v : V} {d : PyData}, Dq H v d → Dq H' v d
  | _, _, .non => .non
  | _, _, .bl b => .bl b
  | _, _, .int i => .int i
  | _, _, .str x => .str x
  | _, _, .lst h t => .lst (e.seq h) (DqAll.mono e t)
  | _, _, .tup h t => .tup (e.tup h) (DqAll.mono e t)
theorem DqAll.mono (e : Le H H') : ∀ {vs : List V} {ds : List PyData}, DqAll H vs ds → DqAll H' vs ds
  | _, _, .nil => .nil
  | _, _, .cons h t => .cons (Dq.mono e h) (DqAll.mono e t)
end
/-- data without lists -/
inductive Tupd : PyData → Prop
  | non : Tupd .none
  | bl (b : Bool) : Tupd (.bool b)
  | int (i : Int) : Tupd (.int i)
  | str (x : Str) : Tupd (.str x)
  | tup {ds : List PyData} : (∀ d, d ∈ ds → Tupd d) → Tupd (.tuple ds)
mutual
theorem Dq.tpd {H : Hp} : ∀ {v : V} {d : PyData}, Tupd d → Dq H v d → Dq (tp H) v d
  | _, _, _, .non => .non
  | _, _, _, .bl b => .bl b
  | _, _, _, .int i => .int i
  | _, _, _, .str x => .str x
  | _, _, t, .tup (xs := xs) h r => .tup (tp_of h rfl) (DqAll.tpd (by cases t with | tup t => exact t) r)
  | _, _, t, .lst h r => by cases t
theorem DqAll.tpd {H : Hp} : ∀ {vs : List V} {ds : List PyData}, (∀ d, d ∈ ds → Tupd d) → DqAll H vs ds → DqAll (tp H) vs ds
  | _, _, _, .nil => .nil
  | _, _, t, .cons h r => .cons (Dq.tpd (t _ List.mem_cons_self) h) (DqAll.tpd (fun d hd => t d (List.mem_cons_of_mem _ hd)) r)
end
theorem tupd_set (l : List Int) : Tupd (dSet l) := .tup fun d hd => by
  obtain ⟨x, _, rfl⟩ := List.mem_map.mp hd
  exact .int _
theorem tupd_sets (l : List (List Int)) : Tupd (dSets l) := .tup fun d hd => by
  obtain ⟨x, _, rfl⟩ := List.mem_map.mp hd
  exact tupd_set _
theorem tupd_nats (l : List Nat) : Tupd (dNatT l) := .tup fun d hd => by
  obtain ⟨x, _, rfl⟩ := List.mem_map.mp hd
  exact .int _
end
/-- what is hidden is there -/
def Hid (O : Addr → Prop) (H : Hp) : Prop := ∀ b, O b → ∃ o, H b = some o
theorem Hid.no (H : Hp) : Hid (fun _ => False) H := fun _ h => h.elim
theorem Hid.mono {O : Addr → Prop} {H H' : Hp} (h : Hid O H) (s : Le H H') : Hid O H' := fun b hb => by
  obtain ⟨o, e⟩ := h b hb
  exact s.there e
theorem Hid.new {O : Addr → Prop} {H : Hp} {p : Addr} (h : Hid O H) (np : H p = none) : ¬ O p := fun hp => by
  obtain ⟨o, e⟩ := h p hp
  rw [np] at e
  cases e
/-- one more -/
def plus (O : Addr → Prop) (D : Addr) : Addr → Prop := fun b => O b ∨ b = D
theorem Hid.plus {O : Addr → Prop} {H : Hp} {D : Addr} {o : HO} (h : Hid O H) (hD : H D = some o) : Hid (plus O D) H := fun b hb => by
  rcases hb with hb | hb
  · exact h b hb
  · exact ⟨o, by rw [hb]; exact hD⟩
theorem hid_more {O O' : Addr → Prop} {H : Hp} (h : ∀ b, O b → O' b) : Le (hid O' H) (hid O H) := .of fun b o e => hid_of (hid_some e).1 ((hid_some e).2.imp (fun n z => n (h b z)) id)
theorem hid_plus (O : Addr → Prop) (D : Addr) (H : Hp) : Le (hid (plus O D) H) (hid O H) := hid_more fun _ => .inl
/-- what is known without D stays known when D is hidden or changed -/
theorem hid_add {O : Addr → Prop} {D : Addr} {G H : Hp} (s : Le G (hid O H)) (nD : G D = none) : Le G (hid (plus O D) H) := by
  have f : ∀ b o, hid O H b = some o → b ≠ D → hid (plus O D) H b = some o := fun b o e ne => hid_of (hid_some e).1 ((hid_some e).2.imp (fun n z => z.elim n ne) id)
  refine ⟨fun b o e n => f b o (s.s _ _ e n) (ne_of_none e nD), fun p C dx v1 v2 v3 v4 v5 e => ?_⟩
  obtain ⟨w3, w4, w5, h', r⟩ := s.m _ _ _ _ _ _ _ _ e
  refine ⟨w3, w4, w5, f _ _ h' (ne_of_none e nD), ?_⟩
  rw [tp_hid] at r ⊢
  exact r
theorem hid_upd (O : Addr → Prop) {D : Addr} {H : Hp} {o : HO} (h1 : isTupO (H D) = false) (h2 : isTupO (some o) = false) : hid (plus O D) (upd H D o) = hid (plus O D) H := by
  funext b
  by_cases e : b = D
  · subst e
    rw [hid_in (.inr rfl) h1, hid_in (.inr rfl) (by rw [upd_same]; exact h2)]
  · unfold hid
    rw [upd_ne e]
theorem nt_lst {H : Hp} {p : Addr} {xs : List V} (h : H p = some (.lst xs)) : isTupO (H p) = false := by rw [h]; rfl
theorem nt_dK {H : Hp} {p : Addr} {xs : List (Key × V)} (h : H p = some (.dK xs)) : isTupO (H p) = false := by rw [h]; rfl
theorem nt_ins {H : Hp} {p C dx : Addr} {fs : List (Str × V)} (h : H p = some (.ins C dx fs)) : isTupO (H p) = false := by rw [h]; rfl
theorem Le.updN {H H' : Hp} {D : Addr} {o : HO} (s : Le H H') (n : H D = none) (t : isTupO (H' D) = false) : Le H (upd H' D o) := by
  have u : Same (tp H') (tp (upd H' D o)) := fun b x e => by
    obtain ⟨e1, e2⟩ := tp_some e
    have ne : b ≠ D := fun z => by
      subst z
      rw [e1, e2] at t
      cases t
    exact tp_of (by rw [upd_ne ne]; exact e1) e2
  refine ⟨fun b x e h => by rw [upd_ne (ne_of_none e n)]; exact s.s b x e h, fun p C dx v1 v2 v3 v4 v5 h => ?_⟩
  obtain ⟨w3, w4, w5, h', r⟩ := s.m _ _ _ _ _ _ _ _ h
  exact ⟨w3, w4, w5, by rw [upd_ne (ne_of_none h n)]; exact h', fun g bs z => (r g bs z).monoS u⟩
theorem same_new {H : Hp} {p : Addr} {o : HO} (h : H p = none) : Le H (upd H p o) := .of fun b x e => by
  rw [upd_ne (ne_of_none e h)]
  exact e
/-! ### what evaluates to data -/
/-- te gives data d that are known without O, and leaves all that was tracked -/
def Ed (te : TE) (σ : St) (H : Hp) (d : PyData) : Prop := ∀ (O : Addr → Prop) (H1 : Hp), Hid O H1 → Le H (hid O H1) → ∀ Q : VK, (∀ v H2, Le H1 H2 → Dq (hid O H2) v d → Q v H2) → te σ H1 Q
def Eb (tt : TT) (σ : St) (H : Hp) (b : Bool) : Prop := ∀ (O : Addr → Prop) (H1 : Hp), Hid O H1 → Le H (hid O H1) → ∀ Q : Bool → Hp → Prop, (∀ H2, Le H1 H2 → Q b H2) → tt σ H1 Q
def Ea (ta : TA) (σ : St) (H : Hp) (ds : List PyData) : Prop := ∀ (O : Addr → Prop) (H1 : Hp), Hid O H1 → Le H (hid O H1) → ∀ Q : List V → Hp → Prop, (∀ vs H2, Le H1 H2 → DqAll (hid O H2) vs ds → Q vs H2) → ta σ H1 Q
section
variable {K : PySem.W.Frag} {σ : St} {H H' : Hp} {ta tb te : TE} {t u : TT} {d e : PyData} {i j : Int}
theorem Ed.mono (s : Le H H') (h : Ed te σ H d) : Ed te σ H' d := fun O H1 o e Q q => h O H1 o (s.trans e) Q q
theorem Eb.mono {b : Bool} (s : Le H H') (h : Eb t σ H b) : Eb t σ H' b := fun O H1 o e Q q => h O H1 o (s.trans e) Q q
theorem Ea.mono {a : TA} {ds : List PyData} (s : Le H H') (h : Ea a σ H ds) : Ea a σ H' ds := fun O H1 o e Q q => h O H1 o (s.trans e) Q q
theorem Ed.of {d' : PyData} (e : d = d') (h : Ed te σ H d) : Ed te σ H d' := e ▸ h
theorem Eb.of {b b' : Bool} (e : b = b') (h : Eb t σ H b) : Eb t σ H b' := e ▸ h
theorem ed_var {i : Nat} {v : V} (h : σ[i]? = some (some v)) (hd : Dq H v d) : Ed (tVar i) σ H d := fun O H1 _ s Q q => ⟨v, h, q v H1 (.refl H1) (hd.mono s)⟩
theorem ed_int : Ed (tC (.int i)) σ H (.int i) := fun O H1 _ _ Q q => q _ H1 (.refl H1) (.int i)
theorem ed_bl {b : Bool} : Ed (tC (.bl b)) σ H (.bool b) := fun O H1 _ _ Q q => q _ H1 (.refl H1) (.bl b)
theorem ed_non : Ed (tC .non) σ H .none := fun O H1 _ _ Q q => q _ H1 (.refl H1) .non
theorem ed_str {x : Str} : Ed (tC (.str x)) σ H (.str x) := fun O H1 _ _ Q q => q _ H1 (.refl H1) (.str x)
theorem ea_nil : Ea tNil σ H [] := fun O H1 _ _ Q q => q _ H1 (.refl H1) .nil
theorem ea_cons {a : TA} {ds : List PyData} (h : Ed te σ H d) (hs : Ea a σ H ds) : Ea (tCons te a) σ H (d :: ds) := fun O H1 o s Q q =>
  h O H1 o s _ fun v H2 s2 hv => hs O H2 (o.mono s2) (s.trans (hid_same s2)) _ fun vs H3 s3 hvs => q _ H3 (s2.trans s3) (.cons (hv.mono (hid_same s3)) hvs)
/-- two places by values -/
theorem ed_op {r : R2} (ha : Ed ta σ H d) (hb : Ed tb σ H e) {z : PyData}
    (hr : ∀ (O : Addr → Prop) x y H1, Hid O H1 → Le H (hid O H1) → Dq (hid O H1) x d → Dq (hid O H1) y e → ∀ Q : VK, (∀ v H2, Le H1 H2 → Dq (hid O H2) v z → Q v H2) → r x y H1 Q) : Ed (tOp r ta tb) σ H z := fun O H1 o s Q q =>
  ha O H1 o s _ fun x H2 s2 hx => hb O H2 (o.mono s2) (s.trans (hid_same s2)) _ fun y H3 s3 hy =>
    hr O x y H3 (o.mono (s2.trans s3)) (s.trans (hid_same (s2.trans s3))) (hx.mono (hid_same s3)) hy Q fun v H4 s4 hv => q v H4 ((s2.trans s3).trans s4) hv
theorem ed_I0 {g : Int → Int → Int} (ha : Ed ta σ H (.int i)) (hb : Ed tb σ H (.int j)) : Ed (tOp (rI0 fun i j => .int (g i j)) ta tb) σ H (.int (g i j)) :=
  ed_op ha hb fun O x y H1 _ _ hx hy Q q => ⟨i, j, hx.int_inv, hy.int_inv, q _ H1 (.refl _) (.int _)⟩
theorem ed_B0 {g : Int → Int → Bool} (ha : Ed ta σ H (.int i)) (hb : Ed tb σ H (.int j)) : Ed (tOp (rI0 fun i j => .bl (g i j)) ta tb) σ H (.bool (g i j)) :=
  ed_op ha hb fun O x y H1 _ _ hx hy Q q => ⟨i, j, hx.int_inv, hy.int_inv, q _ H1 (.refl _) (.bl _)⟩
theorem ed_I {C : Int → Int → Prop} {g : Int → Int → Int} (hc : C i j) (ha : Ed ta σ H (.int i)) (hb : Ed tb σ H (.int j)) : Ed (tOp (rI C fun i j => .int (g i j)) ta tb) σ H (.int (g i j)) :=
  ed_op ha hb fun O x y H1 _ _ hx hy Q q => ⟨i, j, hx.int_inv, hy.int_inv, hc, q _ H1 (.refl _) (.int _)⟩
theorem ed_un {g : Int → Int} (ha : Ed ta σ H (.int i)) : Ed (tUn (rU fun i => .int (g i)) ta) σ H (.int (g i)) := fun O H1 o s Q q =>
  ha O H1 o s _ fun x H2 s2 hx => ⟨i, hx.int_inv, q _ H2 s2 (.int _)⟩
/-- == and != of data -/
theorem ed_eqD (sd : SeqAt.shaped d = true) (se : SeqAt.shaped e = true) (ha : Ed ta σ H d) (hb : Ed tb σ H e) : Ed (tOp (rEqD K) ta tb) σ H (.bool (PyData.eqv d e)) :=
  ed_op ha hb fun O x y H1 _ _ hx hy Q q => ⟨d, e, (hx.mono (hid_sub _ _)).up, (hy.mono (hid_sub _ _)).up, sd, se, q _ H1 (.refl _) (.bl _)⟩
theorem ed_neD (sd : SeqAt.shaped d = true) (se : SeqAt.shaped e = true) (ha : Ed ta σ H d) (hb : Ed tb σ H e) : Ed (tOp (rNeD K) ta tb) σ H (.bool (!PyData.eqv d e)) :=
  ed_op ha hb fun O x y H1 _ _ hx hy Q q => ⟨d, e, (hx.mono (hid_sub _ _)).up, (hy.mono (hid_sub _ _)).up, sd, se, q _ H1 (.refl _) (.bl _)⟩
theorem ed_eqI (ha : Ed ta σ H (.int i)) (hb : Ed tb σ H (.int j)) : Ed (tOp rEq ta tb) σ H (.bool (decide (i = j))) :=
  ed_op ha hb fun O x y H1 _ _ hx hy Q q => by
    rw [hx.int_inv, hy.int_inv]
    refine ⟨rfl, ?_⟩
    have := q (.bl (decide (i = j))) H1 (.refl _) (.bl _)
    simpa using this
theorem ed_neI (ha : Ed ta σ H (.int i)) (hb : Ed tb σ H (.int j)) : Ed (tOp rNe ta tb) σ H (.bool (!decide (i = j))) :=
  ed_op ha hb fun O x y H1 _ _ hx hy Q q => by
    rw [hx.int_inv, hy.int_inv]
    refine ⟨rfl, ?_⟩
    have := q (.bl (!decide (i = j))) H1 (.refl _) (.bl _)
    simpa using this
theorem ed_inD {ds : List PyData} (sd : SeqAt.shaped d = true) (se : SeqAt.shaped (.list ds) = true) (ha : Ed ta σ H d) (hb : Ed tb σ H (.list ds)) : Ed (tOp (rInD K) ta tb) σ H (.bool (ds.any fun z => PyData.eqv z d)) :=
  ed_op ha hb fun O x y H1 _ _ hx hy Q q => ⟨d, ds, (hx.mono (hid_sub _ _)).up, (hy.mono (hid_sub _ _)).up, sd, se, q _ H1 (.refl _) (.bl _)⟩
theorem ed_notInD {ds : List PyData} (sd : SeqAt.shaped d = true) (se : SeqAt.shaped (.list ds) = true) (ha : Ed ta σ H d) (hb : Ed tb σ H (.list ds)) : Ed (tOp (rNotInD K) ta tb) σ H (.bool (!ds.any fun z => PyData.eqv z d)) :=
  ed_op ha hb fun O x y H1 _ _ hx hy Q q => ⟨d, ds, (hx.mono (hid_sub _ _)).up, (hy.mono (hid_sub _ _)).up, sd, se, q _ H1 (.refl _) (.bl _)⟩
/-- an int in a list or a tuple of ints -/
theorem inV_ints (n : Int) : ∀ ns : List Int, inV (.int n) (ns.map V.int) = decide (n ∈ ns)
  | [] => by simp [inV]
  | m :: r => by
    have ih := inV_ints n r
    unfold inV at ih ⊢
    rw [List.map_cons, List.any_cons, ih]
    by_cases h : n = m
    · subst h; simp [eqV]
    · have h' : ¬ m = n := fun z => h z.symm
      simp [eqV, h, h']
theorem flat_ints (ns : List Int) : (ns.map V.int).all flatV = true := by simp [flatV]
theorem ed_inI {neg : Bool} {n : Int} {ns : List Int} (ha : Ed ta σ H (.int n)) (hb : Ed tb σ H (.tuple (ns.map .int)) ∨ Ed tb σ H (.list (ns.map .int))) : Ed (tOp (rIn K neg) ta tb) σ H (.bool (if neg then !decide (n ∈ ns) else decide (n ∈ ns))) := by
  rcases hb with hb | hb
  · refine ed_op ha hb fun O x y H1 _ _ hx hy Q q => ?_
    obtain ⟨a, xs, rfl, hs, hd⟩ := hy.tup_inv
    rw [hd.ints_inv] at hs
    rw [hx.int_inv]
    refine ⟨a, _, rfl, .inr ((hid_sub O H1).seqT hs), rfl, flat_ints _, ?_⟩
    rw [inV_ints]
    exact q _ H1 (.refl _) (.bl _)
  · refine ed_op ha hb fun O x y H1 _ _ hx hy Q q => ?_
    obtain ⟨a, xs, rfl, hs, hd⟩ := hy.lst_inv
    rw [hd.ints_inv] at hs
    rw [hx.int_inv]
    refine ⟨a, _, rfl, .inl ((hid_sub O H1).seq hs), rfl, flat_ints _, ?_⟩
    rw [inV_ints]
    exact q _ H1 (.refl _) (.bl _)
/-- an item -/
theorem ed_ixL {ds : List PyData} {n : Nat} (hn : ds[n]? = some d) (ha : Ed ta σ H (.list ds)) (hb : Ed tb σ H (.int (n : Int))) : Ed (tOp (rIxL K) ta tb) σ H d :=
  ed_op ha hb fun O x y H1 _ _ hx hy Q q => by
    obtain ⟨a, xs, rfl, hs, hd⟩ := hx.lst_inv
    obtain ⟨v, hv, dv⟩ := hd.get' hn
    exact ⟨a, xs, _, v, rfl, hy.int_inv, (hid_sub O H1).seq hs, atI_nat hv, q v H1 (.refl _) dv⟩
theorem ed_ixT {ds : List PyData} {n : Nat} (hn : ds[n]? = some d) (ha : Ed ta σ H (.tuple ds)) (hb : Ed tb σ H (.int (n : Int))) : Ed (tOp (rIxT K) ta tb) σ H d :=
  ed_op ha hb fun O x y H1 _ _ hx hy Q q => by
    obtain ⟨a, xs, rfl, hs, hd⟩ := hx.tup_inv
    obtain ⟨v, hv, dv⟩ := hd.get' hn
    exact ⟨a, xs, _, v, rfl, hy.int_inv, (hid_sub O H1).seqT hs, atI_nat hv, q v H1 (.refl _) dv⟩
/-- calls by values -/
theorem ed_cb {r : List V → Hp → VK → Prop} {a : TA} {ds : List PyData} (ha : Ea a σ H ds)
    (hr : ∀ (O : Addr → Prop) vs H1, Hid O H1 → Le H (hid O H1) → DqAll (hid O H1) vs ds → ∀ Q : VK, (∀ v H2, Le H1 H2 → Dq (hid O H2) v d → Q v H2) → r vs H1 Q) : Ed (tCB r a) σ H d := fun O H1 o s Q q =>
  ha O H1 o s _ fun vs H2 s2 hv => hr O vs H2 (o.mono s2) (s.trans (hid_same s2)) hv Q fun v H3 s3 dv => q v H3 (s2.trans s3) dv
/-- a def that keeps a promise over data: called with ds it gives d -/
def spD (K : PySem.W.Frag) (R : List PyData → PyData → Prop) : Sp := fun vs H Q _ => ∃ (O : Addr → Prop) (ds : List PyData) (d : PyData), Hid O H ∧ DqAll (hid O H) vs ds ∧ R ds d ∧ ∀ v H', Le H H' → Dq (hid O H') v d → Q v H'
theorem ed_call {R : List PyData → PyData → Prop} {E : XK} {a : TA} {ds : List PyData} (hr : R ds d) (ha : Ea a σ H ds) : Ed (tCall (spD K R) [] E a) σ H d := fun O H1 o s Q q =>
  ha O H1 o s _ fun vs H2 s2 hv => ⟨O, ds, d, o.mono s2, by rw [List.append_nil]; exact hv, hr, fun v H3 s3 dv => q v H3 (s2.trans s3) dv⟩
/-- tests -/
theorem eb_test {b : Bool} (h : Ed te σ H (.bool b)) : Eb (tTest te) σ H b := fun O H1 o s Q q => h O H1 o s _ fun v H2 s2 hv => ⟨b, hv.bl_inv, q H2 s2⟩
theorem eb_B {b : Bool} (h : Ed te σ H (.bool b)) : Eb (tB te) σ H b := fun O H1 o s Q q => h O H1 o s _ fun v H2 s2 hv => ⟨b, hv.bl_inv, q H2 s2⟩
theorem eb_not {b : Bool} (h : Eb t σ H b) : Eb (tNot t) σ H (!b) := fun O H1 o s Q q => h O H1 o s _ fun H2 s2 => q H2 s2
theorem eb_yes : Eb tYes σ H true := fun O H1 o s Q q => q H1 (.refl H1)
theorem eb_and {a b : Bool} (h1 : Eb t σ H a) (h2 : a = true → Eb u σ H b) : Eb (tAnd t u) σ H (a && b) := fun O H1 o s Q q => h1 O H1 o s _ fun H2 s2 => by
  cases a with
  | true => exact h2 rfl O H2 (o.mono s2) (s.trans (hid_same s2)) Q fun H3 s3 => q H3 (s2.trans s3)
  | false => exact q H2 s2
theorem eb_or {a b : Bool} (h1 : Eb t σ H a) (h2 : a = false → Eb u σ H b) : Eb (tOr t u) σ H (a || b) := fun O H1 o s Q q => h1 O H1 o s _ fun H2 s2 => by
  cases a with
  | true => exact q H2 s2
  | false => exact h2 rfl O H2 (o.mono s2) (s.trans (hid_same s2)) Q fun H3 s3 => q H3 (s2.trans s3)
/-- the truth of an int -/
theorem eb_truI (ha : Ed ta σ H (.int i)) : Eb (fun σ H Q => ta σ H fun x H' => ∃ k, TruV K x H' k ∧ Q k H') σ H (i != 0) := fun O H1 o s Q q => ha O H1 o s _ fun v H2 s2 hv => by
  rw [hv.int_inv]
  exact ⟨_, rfl, q H2 s2⟩
theorem ed_and {a b : Bool} (h1 : Ed ta σ H (.bool a)) (h2 : a = true → Ed tb σ H (.bool b)) : Ed (tAndV ta tb) σ H (.bool (a && b)) := fun O H1 o s Q q => h1 O H1 o s _ fun v H2 s2 hv => by
  refine ⟨a, hv.bl_inv, ?_⟩
  cases a with
  | true => exact h2 rfl O H2 (o.mono s2) (s.trans (hid_same s2)) Q fun v H3 s3 dv => q v H3 (s2.trans s3) dv
  | false => exact q _ H2 s2 (.bl _)
theorem ed_or {a b : Bool} (h1 : Ed ta σ H (.bool a)) (h2 : a = false → Ed tb σ H (.bool b)) : Ed (tOrV ta tb) σ H (.bool (a || b)) := fun O H1 o s Q q => h1 O H1 o s _ fun v H2 s2 hv => by
  refine ⟨a, hv.bl_inv, ?_⟩
  cases a with
  | true => exact q _ H2 s2 (.bl _)
  | false => exact h2 rfl O H2 (o.mono s2) (s.trans (hid_same s2)) Q fun v H3 s3 dv => q v H3 (s2.trans s3) dv
theorem ed_not {a : Bool} (h1 : Ed ta σ H (.bool a)) : Ed (tNotV ta) σ H (.bool (!a)) := fun O H1 o s Q q => h1 O H1 o s _ fun v H2 s2 hv => ⟨a, hv.bl_inv, q _ H2 s2 (.bl _)⟩
theorem ed_if {c : Bool} {tc : TT} (h : Eb tc σ H c) (h1 : c = true → Ed ta σ H d) (h2 : c = false → Ed tb σ H d) : Ed (tIf tc ta tb) σ H d := fun O H1 o s Q q => h O H1 o s _ fun H2 s2 => by
  cases c with
  | true => exact h1 rfl O H2 (o.mono s2) (s.trans (hid_same s2)) Q fun v H3 s3 dv => q v H3 (s2.trans s3) dv
  | false => exact h2 rfl O H2 (o.mono s2) (s.trans (hid_same s2)) Q fun v H3 s3 dv => q v H3 (s2.trans s3) dv
/-- a new list, a new tuple of known items -/
theorem dp_newL {O : Addr → Prop} {H2 : Hp} {p : Addr} {vs : List V} {ds : List PyData} (o : Hid O H2) (np : H2 p = none) (hv : DqAll (hid O H2) vs ds) : Dq (hid O (upd H2 p (.lst vs))) (.ref p) (.list ds) :=
  .lst (.inl (.inl (by rw [hid_out (o.new np), upd_same]))) (hv.mono (hid_same (same_new np)))
theorem dp_newT {O : Addr → Prop} {H2 : Hp} {p : Addr} {vs : List V} {ds : List PyData} (o : Hid O H2) (np : H2 p = none) (hv : DqAll (hid O H2) vs ds) : Dq (hid O (upd H2 p (.tup vs))) (.ref p) (.tuple ds) :=
  .tup (by rw [hid_out (o.new np), upd_same]) (hv.mono (hid_same (same_new np)))
theorem ed_lst {a : TA} {ds : List PyData} (hl : ds.length ≤ 1000) (ha : Ea a σ H ds) : Ed (tLst a) σ H (.list ds) := fun O H1 o s Q q =>
  ha O H1 o s _ fun vs H2 s2 hv => ⟨by rw [dpAll_len hv]; exact Nat.le_trans hl (by decide), fun p np => q _ _ (s2.trans (same_new np)) (dp_newL (o.mono s2) np hv)⟩
theorem ed_tup {a : TA} {ds : List PyData} (hl : ds.length ≤ 1000) (ha : Ea a σ H ds) : Ed (tTup a) σ H (.tuple ds) := fun O H1 o s Q q =>
  ha O H1 o s _ fun vs H2 s2 hv => ⟨by rw [dpAll_len hv]; exact Nat.le_trans hl (by decide), fun p np => q _ _ (s2.trans (same_new np)) (dp_newT (o.mono s2) np hv)⟩
end
end L2

set_option Elab.async false
set_option linter.all false
set_option maxRecDepth 100000
/-! enumerate of a tuple, zip of a tuple and a list. -/
namespace PySem
open PySem PyProof.Rows
set_option maxHeartbeats 1000000 in
theorem my_enum_new {v : Value} {o : Obj} {H : Heap → Prop} (B : Begins v o H) :
    Meets (Builtin.«enumerate.__new__» ⟨[.type "enumerate", v], []⟩) (fun _ R s => H s.heap ∧
      R (.ok (.ret (.ref (s.heap.push o).objs.size))) { s with heap := (s.heap.push o).push { cls := .type "enumerate", data := .fields #[.none, .bool false, .ref s.heap.objs.size, rawInt 0, .none, .none] } }) :=
  .of_wp fun prog w A R s h => by
    obtain ⟨hp, g, d, tk, os⟩ := s
    obtain ⟨h1, h⟩ := h
    have sub := sub_enumerate
    have begin_ : ∀ {A' : Around} {E : Value → Shared → Prop} {Q : Value → Shared → Prop}, Q (.ref hp.objs.size) ⟨hp.push o, g, d, tk, os⟩ → wpAny (model prog w) A' (pyIter v) Q E ⟨hp, g, d, tk, os⟩ :=
      fun q => B.iter prog w _ _ ⟨hp, g, d, tk, os⟩ _ h1 q
    wp_walk using begin_
    refine wpAny_stack_any fun st => wpAny_pure ?_
    split
    · rename_i c _ _ _ _ _
      cases (c == Value.type "enumerate") <;>
      · wp_walk using begin_
        exact ⟨_, rfl, h⟩
    · wp_walk using begin_
      exact ⟨_, rfl, h⟩
section
variable {prog : Program} {w : World} {A : Around} {E : Value → Shared → Prop} {s : Shared}
theorem my_enum_begins {v : Value} {o : Obj} {H : Heap → Prop} {Q : Value → Shared → Prop} (B : Begins v o H) (h1 : H s.heap)
    (h : ∀ h', IsEnum h' (s.heap.objs.size + 1) s.heap.objs.size 0 .none → h'.get? s.heap.objs.size = some o → (∀ b o, s.heap.get? b = some o → h'.get? b = some o) → Q (.ref (s.heap.objs.size + 1)) { s with heap := h' }) :
    wpAny (model prog w) A (call (.type "enumerate") [v]) Q E s := by
  refine callType_new F.called_enumerate (by decide) (F.typeCall_enumerate_1 _) (F.newCall_enumerate_1 _) (fun obj => F.args_object_init_2 obj _) F.entry_enumerate_new (my_enum_new B) ⟨h1, ?_⟩
  have sz : (s.heap.push o).objs.size = s.heap.objs.size + 1 := Heap.size_push ..
  show _ ∧ _
  rw [sz]
  have e := Heap.get?_push_size (s.heap.push o) (o := { cls := .type "enumerate", data := .fields #[.none, .bool false, .ref s.heap.objs.size, rawInt 0, .none, .none] }) rfl
  rw [sz] at e
  exact ⟨⟨_, e, rfl⟩, h _ e (Heap.get?_push_of_some _ (Heap.get?_push_size _ B.free)) fun b o x => Heap.get?_push_of_some _ (Heap.get?_push_of_some _ x)⟩
end
end PySem

set_option Elab.async false
set_option linter.all false
set_option maxRecDepth 100000
namespace L2
open PySem PySem.Spec PyProof.Rows PySem.W
/-- the tuple at a, each item in a new pair with its place -/
def IteT (K : PySem.W.Frag) (a : Addr) : It :=
  ⟨fun i H => ∃ (xs : List V) (x : V), SqT K H a xs ∧ xs[i]? = some x,
   fun i H v H' => ∃ T x, v = .ref T ∧ H T = none ∧ H' = upd H T (.tup [.int (i : Nat), x]) ∧ ∀ xs, SqT K H a xs → xs[i]? = some x,
   fun i H => ∃ xs : List V, SqT K H a xs ∧ xs.length = i⟩
theorem turn_enumT {P : Program} {w : World} {K : PySem.W.Frag} {elts : List Expr} {kk : Nat} {tpos : Pos} (a e it : Addr) :
    Turn P w K (.Tuple elts kk tpos) (IteT K a) [e, it] e (fun i h => (∃ old, IsEnum h e it ((i : Nat) : Int) old) ∧ h.IsTupleIter it a i ∧ e ≠ it) where
  mem := by simp
  obj := fun i h st b hb => by
    obtain ⟨⟨old, he⟩, ⟨o, ho, _, hd⟩, _⟩ := st
    rcases (by simpa using hb : b = e ∨ b = it) with z | z
    · subst z
      exact ⟨_, he, fun v q => by cases q⟩
    · subst z
      exact ⟨o, ho, fun v q => by rw [hd] at q; cases q⟩
  keep := fun i h h' st k => by
    obtain ⟨⟨old, he⟩, hi, hne⟩ := st
    exact ⟨⟨old, k e (by simp) _ he⟩, hi.at fun o q => k it (by simp) o q, hne⟩
  item := by
    intro X hP hw hK hc i pins s σ H E I hf st hg
    subst hP hw hK
    obtain ⟨⟨old, he⟩, hit, hne⟩ := st
    obtain ⟨xs, x, hq, hx⟩ := hg
    obtain ⟨its, rv, p, hz⟩ := I.tuple hq
    have pt : s.heap.IsTuple a its.toArray := p
    have hel := Heap.lt_size he
    have hil : it < s.heap.objs.size := by
      obtain ⟨_, q, _⟩ := hit
      exact Heap.lt_size q
    have hea : e ≠ a := fun z => by
      obtain ⟨o, ho, hcl, _⟩ := pt
      rw [← z, he] at ho
      cases ho
      exact absurd (Value.type.inj hcl) (by decide)
    have hia : a ≠ it := fun z => by
      obtain ⟨o, ho, hcl, _⟩ := pt
      obtain ⟨o2, ho2, hc2, _⟩ := hit
      rw [z, ho2] at ho
      cases ho
      rw [hc2] at hcl
      exact absurd (Value.type.inj hcl) (by decide)
    have hlt : i < its.toArray.size := by
      have := (List.getElem?_eq_some_iff.mp hx).1
      rw [rv.length] at this
      simpa using this
    have hd : X.A.in1.handled = none := I.ok.hd hc
    refine wpAny_pyNext_enum_itemD (Draws.tuple hd it a hia its.toArray) he ⟨hit, pt⟩ hlt hne (by simp [hea, hne]) fun u h' tk hu ho hit' hT hsz hk => ?_
    have hu' : its[i]? = some u := by simpa using hu
    obtain ⟨u2, hu2, ru⟩ := rv.get hx
    rw [hu'] at hu2
    cases hu2
    refine ⟨_, rfl, wpAny_letOwnedTupleGo_enum (s := { s with heap := h', toks := tk + 1 }) ho fun h'' he' sb => ?_⟩
    have hT2 := (sb.2 _ (Nat.ne_of_gt hel)).trans hT
    have new : ObjOk X.prog X.w (upd H s.heap.objs.size (.tup [.int (i : Nat), x])) h'' s.heap.objs.size (.tup [.int (i : Nat), x]) :=
      ⟨by show 2 ≤ sizeLine; decide, [.int i tk, u], .cons ⟨_, rfl⟩ (.cons ru .nil), ⟨_, hT2, rfl, _, rfl⟩⟩
    have I1 : Inv X pins σ (upd H s.heap.objs.size (.tup [.int (i : Nat), x])) { s with heap := h'', toks := tk + 1 } :=
      I.turnedNew (ch := [e, it]) (fun b ob hb q => by
        have b1 : b ≠ e := fun z => hb (by simp [z])
        have b2 : b ≠ it := fun z => hb (by simp [z])
        exact (sb.2 b b1).trans (hk b ob b1 b2 q)) hf (Nat.le_refl _) new
    refine ⟨.ref s.heap.objs.size, _, I1, rfl, ⟨_, x, rfl, I.hok.fresh (Nat.le_refl _), rfl, fun ys hy => by rw [I.tuple_inj hy hq]; exact hx⟩, ⟨⟨u, ?_⟩, hit'.1.at fun o q => (sb.2 it (Ne.symm hne)).trans q, hne⟩, fun b hb => ?_⟩
    · have e1 : ((i + 1 : Nat) : Int) = (i : Int) + 1 := by omega
      rw [e1]
      exact he'
    · have hb' : b < s.heap.objs.size := by
        rcases (by simpa using hb : b = e ∨ b = it) with z | z
        · rw [z]; exact hel
        · rw [z]; exact hil
      exact (upd_ne (Nat.ne_of_lt hb')).trans (hf b hb).1
  done := by
    intro X hP hw hK hc i pins s σ H E I hf st hg
    subst hP hw hK
    obtain ⟨⟨old, he⟩, hit, hne⟩ := st
    obtain ⟨xs, hq, hx⟩ := hg
    obtain ⟨its, rv, p, hz⟩ := I.tuple hq
    have pt : s.heap.IsTuple a its.toArray := p
    have hd : X.A.in1.handled = none := I.ok.hd hc
    have hia : a ≠ it := fun z => by
      obtain ⟨o, ho, hcl, _⟩ := pt
      obtain ⟨o2, ho2, hc2, _⟩ := hit
      rw [z, ho2] at ho
      cases ho
      rw [hc2] at hcl
      exact absurd (Value.type.inj hcl) (by decide)
    obtain ⟨f0, f1, f2, f3, f4, f5⟩ := hf it (by simp)
    have hn : its.toArray.size = i := by
      rw [← hx, rv.length]
      simp
    subst hn
    exact wpAny_pyNext_enum_endD (Draws.tuple hd it a hia its.toArray) he ⟨hit, pt⟩ fun h' eb => ⟨rfl, I.turned (t' := s.toks) (fun b o hb q => eb b o hb q) f0 f1 f3 f4 f5⟩
  self := fun A i s Q E st h => by
    obtain ⟨⟨_, he⟩, _⟩ := st
    exact wpAny_pyIter_enum he h
def iEnumT (K : PySem.W.Frag) (ta : TA) : TI := fun σ H R => ta σ H fun vs H1 => ∃ a xs, vs = [.ref a] ∧ SqT K H1 a xs ∧ R (IteT K a) H1
theorem pi_enumT {X : Cx} {e : Expr} {ta : TA} {p pos tpos : Pos} {elts : List Expr} {kk : Nat} (hg : Gl X "enumerate") (hm : X.mg "enumerate" = none) (ha : PA X [e] ta) (hs : starEach [e] X.env = [(false, eval e X.env)] := by rfl) :
    PI X (.Tuple elts kk tpos) (.Call (.Name "enumerate" p) [e] [] pos) (iEnumT X.K ta) := by
  refine ⟨fun pins s σ H R I h => Call_ (ld_blt I hg hm boot_enumerate (PyProof.Rows.callWith_type1 (thn (ha.run pos pins s σ H _ I h) fun us s1 ⟨vs, H1, I1, r1, q1⟩ => ?_) hs rfl))⟩
  obtain ⟨a, xs, rfl, hq, q⟩ := q1
  obtain ⟨u, rfl, r⟩ := vals1 r1
  cases r
  obtain ⟨its, rv, pt, hz⟩ := I1.tuple hq
  refine my_enum_begins (begins_tuple a its.toArray) (show s1.heap.IsTuple a its.toArray from pt) fun h' he hit hk => wpAny_pyIter_enum he ?_
  refine ⟨s1.heap.objs.size + 1, [s1.heap.objs.size + 1, s1.heap.objs.size], _, _, H1, rfl, I1.kept (t' := s1.toks) hk, turn_enumT a (s1.heap.objs.size + 1) s1.heap.objs.size, ⟨⟨.none, he⟩, ⟨_, hit, rfl, rfl⟩, Nat.succ_ne_self _⟩, fun b hb => ?_, q⟩
  have hle : s1.heap.objs.size ≤ b := by
    rcases (by simpa using hb : b = s1.heap.objs.size + 1 ∨ b = s1.heap.objs.size) with z | z
    · rw [z]; exact Nat.le_add_right _ _
    · rw [z]; exact Nat.le_refl _
  exact I1.fpOk hle (I1.hok.fresh hle)
end L2

set_option Elab.async false
set_option linter.all false
set_option maxRecDepth 100000
namespace L2
open PySem PySem.Spec PyProof.Rows PySem.W
/-- a tuple (true) or a list (false) -/
def SqA (K : PySem.W.Frag) : Bool → Hp → Addr → List V → Prop
  | true, H, a, xs => SqT K H a xs
  | false, H, a, xs => SqL K H a xs
def IsIt : Bool → Heap → Addr → Addr → Nat → Prop
  | true, h, it, a, i => h.IsTupleIter it a i
  | false, h, it, a, i => h.IsListIter it a i
def IsSq : Bool → Heap → Addr → Array Value → Prop
  | true, h, a, xs => h.IsTuple a xs
  | false, h, a, xs => h.IsList a xs
theorem IsIt.at' {b : Bool} {h h' : Heap} {it a : Addr} {i : Nat} (x : IsIt b h it a i) (k : ∀ o, h.get? it = some o → h'.get? it = some o) : IsIt b h' it a i := by
  cases b with
  | true => exact Heap.IsTupleIter.at x k
  | false => exact Heap.IsListIter.at x k
theorem IsIt.obj {b : Bool} {h : Heap} {it a : Addr} {i : Nat} (x : IsIt b h it a i) : ∃ o, h.get? it = some o ∧ ∀ v, o.data ≠ .cell v := by
  cases b with
  | true =>
    obtain ⟨o, ho, _, hd⟩ := x
    exact ⟨o, ho, fun v q => by rw [hd] at q; cases q⟩
  | false =>
    obtain ⟨o, ho, _, hd⟩ := x
    exact ⟨o, ho, fun v q => by rw [hd] at q; cases q⟩
theorem drawsA {prog : Program} {w : World} {A : Around} (hh : A.handled = none) (kd : Bool) (it l : Addr) (hne : l ≠ it) (items : Array Value) :
    Draws prog w A it [it, l] items.size (fun i v => items[i]? = some v) (fun i h => IsIt kd h it l i ∧ IsSq kd h l items) := by
  cases kd with
  | true => exact Draws.tuple hh it l hne items
  | false => exact Draws.list hh it l hne items
section
variable {X : Cx} {pins : List (Addr × Obj)} {σ : St} {H : Hp} {s : Shared}
theorem Inv.any (I : Inv X pins σ H s) {kd : Bool} {a : Addr} {xs : List V} (h : SqA X.K kd H a xs) : ∃ its : List Value, Vals xs its ∧ IsSq kd s.heap a its.toArray ∧ a < s.heap.objs.size := by
  cases kd with
  | true =>
    obtain ⟨its, rv, p, _⟩ := I.tuple h
    obtain ⟨o, ho, _⟩ := id p
    exact ⟨its, rv, p, Heap.lt_size ho⟩
  | false =>
    obtain ⟨its, rv, p, _⟩ := I.list h
    exact ⟨its, rv, p.isList, p.lt⟩
theorem Inv.any_inj (I : Inv X pins σ H s) {kd : Bool} {a : Addr} {xs ys : List V} (h : SqA X.K kd H a xs) (h' : SqA X.K kd H a ys) : xs = ys := by
  cases kd with
  | true => exact I.tuple_inj h h'
  | false => exact I.list_inj h h'
end
/-- the sequences at a and b as they stand at each turn, the items in new pairs; both of one length -/
def ItzA (K : PySem.W.Frag) (k1 k2 : Bool) (a b : Addr) : It :=
  ⟨fun i H => ∃ (xs ys : List V) (x y : V), SqA K k1 H a xs ∧ SqA K k2 H b ys ∧ xs[i]? = some x ∧ ys[i]? = some y,
   fun i H v H' => ∃ T x y, v = .ref T ∧ H T = none ∧ H' = upd H T (.tup [x, y]) ∧ (∀ xs, SqA K k1 H a xs → xs[i]? = some x) ∧ ∀ ys, SqA K k2 H b ys → ys[i]? = some y,
   fun i H => ∃ xs ys : List V, SqA K k1 H a xs ∧ SqA K k2 H b ys ∧ xs.length = i ∧ ys.length = i⟩
theorem turn_zipA {P : Program} {w : World} {K : PySem.W.Frag} {elts : List Expr} {kk : Nat} {tpos : Pos} {k1 k2 : Bool} {a b z TI TO i1 i2 : Addr} :
    Turn P w K (.Tuple elts kk tpos) (ItzA K k1 k2 a b) [z, TI, TO, i1, i2] z (fun i h => (ZipSep2 z TI TO i1 i2 [i1, a] [i2, b] ∧ a ≠ i1 ∧ b ≠ i2) ∧ IsZip h z TI TO .none ∧ IsTupOf2 h TI (.ref i1) (.ref i2) ∧ (∃ x y, IsTupOf2 h TO x y) ∧ IsIt k1 h i1 a i ∧ IsIt k2 h i2 b i) where
  mem := by simp
  obj := fun i h st c hc => by
    obtain ⟨_, hz, hTI, ⟨x, y, hTO⟩, h1, h2⟩ := st
    rcases (by simpa using hc : c = z ∨ c = TI ∨ c = TO ∨ c = i1 ∨ c = i2) with q | q | q | q | q <;> subst q
    · exact ⟨_, hz, fun v q => by cases q⟩
    · exact ⟨_, hTI, fun v q => by cases q⟩
    · exact ⟨_, hTO, fun v q => by cases q⟩
    · exact h1.obj
    · exact h2.obj
  keep := fun i h h' st k => by
    obtain ⟨S, hz, hTI, ⟨x, y, hTO⟩, h1, h2⟩ := st
    exact ⟨S, k z (by simp) _ hz, k TI (by simp) _ hTI, ⟨x, y, k TO (by simp) _ hTO⟩, h1.at' fun o q => k i1 (by simp) o q, h2.at' fun o q => k i2 (by simp) o q⟩
  item := by
    intro X hP hw hK hc i pins s σ H E I hf st hg
    subst hP hw hK
    obtain ⟨⟨S, na, nb⟩, hz, hTI, ⟨x0, y0, hTO⟩, h1, h2⟩ := st
    obtain ⟨xs, ys, x, y, hqx, hqy, hx, hy⟩ := hg
    obtain ⟨its, rv, p, la⟩ := I.any hqx
    obtain ⟨its2, rv2, p2, lb⟩ := I.any hqy
    have hd : X.A.in1.handled = none := I.ok.hd hc
    have hzl := Heap.lt_size hz
    obtain ⟨u, hu, ru⟩ := rv.get hx
    obtain ⟨u2, hu2, ru2⟩ := rv2.get hy
    have lt1 : i < its.toArray.size := by simpa using (List.getElem?_eq_some_iff.mp hu).1
    have lt2 : i < its2.toArray.size := by simpa using (List.getElem?_eq_some_iff.mp hu2).1
    refine wpAny_pyNext_zipD2_item S (drawsA hd k1 i1 a na its.toArray) (drawsA hd k2 i2 b nb its2.toArray) hz hTI hTO ⟨h1, p⟩ ⟨h2, p2⟩ lt1 lt2 fun v1 v2 h' tk e1 e2 z' TO' st1 st2 hT hsz hk => ?_
    have hu' : its[i]? = some v1 := by simpa using e1
    have hu2' : its2[i]? = some v2 := by simpa using e2
    rw [hu] at hu'
    rw [hu2] at hu2'
    cases hu'
    cases hu2'
    refine ⟨_, rfl, wpAny_letOwnedTupleGo_zip (s := { s with heap := h', toks := tk }) z' fun h'' z'' sb => ?_⟩
    have hT2 := (sb.2 _ (Nat.ne_of_gt hzl)).trans hT
    have new : ObjOk X.prog X.w (upd H s.heap.objs.size (.tup [x, y])) h'' s.heap.objs.size (.tup [x, y]) :=
      ⟨by show 2 ≤ sizeLine; decide, [u, u2], .cons ru (.cons ru2 .nil), ⟨_, hT2, rfl, _, rfl⟩⟩
    have keeps : ∀ c o, c ∉ [z, TI, TO, i1, i2] → s.heap.get? c = some o → h''.get? c = some o := fun c o hb q =>
      (sb.2 c (fun q' => hb (by simp [q']))).trans (hk c o (fun q' => hb (by simp [q'])) (fun q' => hb (by simp [q'])) (fun q' => hb (by simp [q'])) (fun q' => hb (by simp [q'])) q)
    have I1 : Inv X pins σ (upd H s.heap.objs.size (.tup [x, y])) { s with heap := h'', toks := tk } := I.turnedNew (ch := [z, TI, TO, i1, i2]) keeps hf (Nat.le_refl _) new
    refine ⟨.ref s.heap.objs.size, _, I1, rfl, ⟨_, x, y, rfl, I.hok.fresh (Nat.le_refl _), rfl, fun l hl => by rw [I.any_inj hl hqx]; exact hx, fun l hl => by rw [I.any_inj hl hqy]; exact hy⟩,
      ⟨⟨S, na, nb⟩, z'', (sb.2 _ S.TIz).trans (hk _ _ S.TIz S.TITO S.TIi1 S.TIi2 hTI), ⟨u, u2, (sb.2 _ S.TOz).trans TO'⟩, st1.1.at' fun o q => (sb.2 _ S.zi1.symm).trans q, st2.1.at' fun o q => (sb.2 _ S.zi2.symm).trans q⟩, fun c hcm => ?_⟩
    have hlt : c < s.heap.objs.size := by
      rcases (by simpa using hcm : c = z ∨ c = TI ∨ c = TO ∨ c = i1 ∨ c = i2) with q | q | q | q | q <;> subst q
      · exact hzl
      · exact Heap.lt_size hTI
      · exact Heap.lt_size hTO
      · obtain ⟨_, q, _⟩ := h1.obj
        exact Heap.lt_size q
      · obtain ⟨_, q, _⟩ := h2.obj
        exact Heap.lt_size q
    exact (upd_ne (Nat.ne_of_lt hlt)).trans (hf c hcm).1
  done := by
    intro X hP hw hK hc i pins s σ H E I hf st hg
    subst hP hw hK
    obtain ⟨⟨S, na, nb⟩, hz, hTI, ⟨x0, y0, hTO⟩, h1, h2⟩ := st
    obtain ⟨xs, ys, hqx, hqy, l1, l2⟩ := hg
    obtain ⟨its, rv, p, la⟩ := I.any hqx
    obtain ⟨its2, rv2, p2, lb⟩ := I.any hqy
    have hd : X.A.in1.handled = none := I.ok.hd hc
    have n1 : its.toArray.size = i := by
      rw [← l1, rv.length]
      simp
    have n2 : its2.toArray.size = i := by
      rw [← l2, rv2.length]
      simp
    refine wpAny_pyNext_zipD2_end S (drawsA hd k1 i1 a na its.toArray) (drawsA hd k2 i2 b nb its2.toArray) (i := i) hz hTI hTO ⟨h1, p⟩ ⟨h2, p2⟩ (Nat.le_of_eq n1.symm) (Nat.le_of_eq n2.symm) (.inl n1.symm) fun h' tk hk => ⟨rfl, ?_⟩
    exact I.turnedL (t' := tk) (ch := [z, TI, TO, i1, i2]) (fun c o hb q => hk c o (fun q' => hb (by simp [q'])) (fun q' => hb (by simp [q'])) (fun q' => hb (by simp [q'])) (fun q' => hb (by simp [q'])) q) hf
  self := fun A i s Q E st h => wpAny_pyIter_zip st.2.1 h
theorem beginsA (kd : Bool) (a : Addr) (items : Array Value) : ∃ o, Begins (.ref a) o (fun h => IsSq kd h a items) ∧ ∀ (h : Heap) (it : Addr), h.get? it = some o → IsIt kd h it a 0 := by
  cases kd with
  | true => exact ⟨_, begins_tuple a items, fun h it e => ⟨_, e, rfl, rfl⟩⟩
  | false => exact ⟨_, begins_list a items, fun h it e => ⟨_, e, rfl, rfl⟩⟩
def iZipM (K : PySem.W.Frag) (k1 k2 : Bool) (ta : TA) : TI := fun σ H R => ta σ H fun vs H1 => ∃ a b xs ys, vs = [.ref a, .ref b] ∧ SqA K k1 H1 a xs ∧ SqA K k2 H1 b ys ∧ R (ItzA K k1 k2 a b) H1
theorem pi_zipM (k1 k2 : Bool) {X : Cx} {e e2 : Expr} {ta : TA} {p pos tpos : Pos} {elts : List Expr} {kk : Nat} (hg : Gl X "zip") (hm : X.mg "zip" = none) (ha : PA X [e, e2] ta)
    (hs : starEach [e, e2] X.env = (false, eval e X.env) :: starEach [e2] X.env := by rfl) (hpl : (backTo pos (starEach [e2] X.env)).any (·.1) = false := by rfl) :
    PI X (.Tuple elts kk tpos) (.Call (.Name "zip" p) [e, e2] [] pos) (iZipM X.K k1 k2 ta) := by
  refine ⟨fun pins s σ H R I h => Call_ (ld_blt I hg hm PyProof.Rows.boot_zip (PyProof.Rows.callWith_type1 (thn (ha.run pos pins s σ H _ I h) fun us s1 ⟨vs, H1, I1, r1, q1⟩ => ?_) hs hpl))⟩
  obtain ⟨a, b, xs, ys, rfl, hqx, hqy, q⟩ := q1
  cases r1 with
  | cons r rr =>
    obtain ⟨u, rfl, r'⟩ := vals1 rr
    cases r
    cases r'
    obtain ⟨its, rv, p1, la⟩ := I1.any hqx
    obtain ⟨its2, rv2, p2, lb⟩ := I1.any hqy
    obtain ⟨o1, B1, it1⟩ := beginsA k1 a its.toArray
    obtain ⟨o2, B2, it2⟩ := beginsA k2 b its2.toArray
    refine zip_begins2 B1 B2 p1 p2 fun h' hz hTI hTO e1 e2 hsz hk => wpAny_pyIter_zip hz ?_
    refine ⟨s1.heap.objs.size + 4, [s1.heap.objs.size + 4, s1.heap.objs.size + 2, s1.heap.objs.size + 3, s1.heap.objs.size, s1.heap.objs.size + 1], _, _, H1, rfl, I1.kept (t' := s1.toks) hk, turn_zipA,
      ⟨⟨zip_sep2 (fp1 := [a]) (fp2 := [b]) (by simpa using la) (by simpa using lb), Nat.ne_of_lt la, Nat.ne_of_lt (Nat.lt_succ_of_lt lb)⟩, hz, hTI, ⟨_, _, hTO⟩, it1 _ _ e1, it2 _ _ e2⟩, fun c hc => ?_, q⟩
    have hle : s1.heap.objs.size ≤ c := by
      rcases (by simpa using hc : c = s1.heap.objs.size + 4 ∨ c = s1.heap.objs.size + 2 ∨ c = s1.heap.objs.size + 3 ∨ c = s1.heap.objs.size ∨ c = s1.heap.objs.size + 1) with z | z | z | z | z <;> rw [z]
      · exact Nat.le_add_right _ _
      · exact Nat.le_add_right _ _
      · exact Nat.le_add_right _ _
      · exact Nat.le_refl _
      · exact Nat.le_add_right _ _
    exact I1.fpOk hle (I1.hok.fresh hle)
end L2

set_option Elab.async false
set_option linter.all false
set_option maxRecDepth 100000
namespace L2
open PySem PySem.Spec PyProof.Rows PySem.W
/-- what is walked: xs, each item stored as B tells (the slots before, behind) -/
def Iw {α : Type} (wi : TI) (g : TG) (σ : St) (H : Hp) (xs : List α) (B : α → St → St → Hp → Prop) : Prop := ∀ (O : Addr → Prop) (H0 : Hp), Hid O H0 → Le H (hid O H0) → ∀ R : It → Hp → Prop,
  (∀ J H1, Le H0 H1 → (∀ i x H2, xs[i]? = some x → Le (hid O H1) (hid O H2) → J.go i H2 ∧ ∀ v H3, J.yld i H2 v H3 → ∀ (O' : Addr → Prop) (σ' : St) (Q : St → Hp → Prop), Hid O' H2 → Le (hid O H1) (hid O' H2) → (∀ σ4 H4, Le H2 H4 → B x σ' σ4 (hid O' H4) → Q σ4 H4) → g v σ' H3 Q) →
    (∀ H2, Le (hid O H1) (hid O H2) → J.stop xs.length H2) → R J H1) → wi σ H0 R
section
variable {α : Type} {K : PySem.W.Frag} {wi : TI} {g : TG} {σ : St} {H H' : Hp} {xs : List α} {B : α → St → St → Hp → Prop}
theorem Iw.mono (s : Le H H') (h : Iw wi g σ H xs B) : Iw wi g σ H' xs B := fun O H0 o e R q => h O H0 o (s.trans e) R q
/-- [elt for .. in .. if ..] -/
theorem ed_lc {tt : TT} {te : TE} {vs : List Nat} (p : α → Bool) (f : α → PyData) (hlen : xs.length ≤ 100000) (hi : Iw wi g σ H xs B)
    (hw : ∀ x σ4 H4, B x (wipe σ vs) σ4 H4 → wipe σ4 vs = wipe σ vs)
    (hb : ∀ x, x ∈ xs → ∀ σ2 H2, Le H H2 → B x (wipe σ vs) σ2 H2 → Eb tt σ2 H2 (p x) ∧ (p x = true → Ed te σ2 H2 (f x))) :
    Ed (tLc wi g tt te vs) σ H (.list ((xs.filter p).map f)) := by
  intro O H0 o s Q q
  refine hi O H0 o s _ fun J H1 s1 turn stop => ?_
  intro D nD
  have o1 := o.mono s1
  have hOD : ¬ O D := o1.new nD
  have nDh : hid O H1 D = none := by rw [hid_out hOD]; exact nD
  have sD := same_new (o := .lst []) nD
  refine ⟨fun i m H2 => m = xs.length - i ∧ i ≤ xs.length ∧ Le H1 H2 ∧ ∃ acc, H2 D = some (.lst acc) ∧ DqAll (hid (plus O D) H2) acc (((xs.take i).filter p).map f),
    ⟨_, rfl, Nat.zero_le _, sD, [], upd_same, .nil⟩, ?_⟩
  rintro i m H2 ⟨rfl, hil, s2, acc, hD, hacc⟩
  have o2 : Hid (plus O D) H2 := (o1.mono s2).plus hD
  have hlacc : acc.length ≤ xs.length := by
    rw [dpAll_len hacc, List.length_map]
    exact Nat.le_trans (List.length_filter_le _ _) (by rw [List.length_take]; exact Nat.min_le_right _ _)
  by_cases hlt : i < xs.length
  · have hx : xs[i]? = some xs[i] := List.getElem?_eq_getElem hlt
    obtain ⟨go, yl⟩ := turn i xs[i] H2 hx (hid_same s2)
    refine .inr ⟨go, fun H' => i + 1 ≤ xs.length ∧ Le H1 H' ∧ ∃ acc, H' D = some (.lst acc) ∧ DqAll (hid (plus O D) H') acc (((xs.take (i + 1)).filter p).map f), fun H' ⟨a1, a2, a3⟩ => ⟨_, ?_, rfl, a1, a2, a3⟩, fun v H3 hy => ?_⟩
    · omega
    refine yl v H3 hy (plus O D) (wipe σ vs) _ o2 (hid_add (hid_same s2) nDh) fun σ4 H4 s4 hB => ⟨hw _ _ _ hB, ?_⟩
    have s14 : Le H1 H4 := s2.trans s4
    have o4 := o2.mono s4
    have sB : Le H (hid (plus O D) H4) := s.trans (hid_same s1) |>.trans (hid_add (hid_same s14) nDh)
    obtain ⟨ht, he⟩ := hb xs[i] (List.getElem_mem hlt) σ4 _ sB hB
    have htake : xs.take (i + 1) = xs.take i ++ [xs[i]] := by rw [List.take_add_one, hx]; rfl
    refine ht (plus O D) H4 o4 (.refl _) _ fun H5 s5 => ?_
    have hD5 : H5 D = some (.lst acc) := s5.lst (s4.lst hD)
    cases hp : p xs[i] with
    | true =>
      rw [if_pos rfl]
      refine he hp (plus O D) H5 (o4.mono s5) (hid_same s5) _ fun y H6 s6 hy6 => ?_
      refine ⟨acc, s6.lst hD5, Nat.lt_of_le_of_lt (Nat.le_trans hlacc hlen) (by decide), hlt, (s14.trans (s5.trans s6)).updN nD (nt_lst (s6.lst hD5)), acc ++ [y], upd_same, ?_⟩
      · rw [hid_upd _ (nt_lst (s6.lst hD5)) rfl, htake, List.filter_append, List.map_append, List.filter_cons, if_pos hp]
        exact (hacc.mono (hid_same (s4.trans (s5.trans s6)))).append (.cons hy6 .nil)
    | false =>
      rw [if_neg (by simp)]
      refine ⟨hlt, s14.trans s5, acc, hD5, ?_⟩
      rw [htake, List.filter_append, List.filter_cons, if_neg (by simp [hp]), List.filter_nil, List.append_nil]
      exact hacc.mono (hid_same (s4.trans s5))
  · have e : i = xs.length := by omega
    subst e
    rw [List.take_length] at hacc
    refine .inl ⟨stop H2 (hid_same s2), q _ _ (s1.trans s2) (.lst (.inl (.inl ?_)) (hacc.mono (hid_plus _ _ _)))⟩
    rw [hid_out hOD]
    exact hD
/-! ### the walks -/
/-- one slot | two slots -/
def B1 (i : Nat) (φ : α → PyData) : α → St → St → Hp → Prop := fun x σ' σ4 H4 => ∃ v, σ4 = σ'.set i (some v) ∧ Dq H4 v (φ x)
def B2 (i j : Nat) (φ ψ : α → PyData) : α → St → St → Hp → Prop := fun x σ' σ4 H4 => ∃ v w, σ4 = (σ'.set i (some v)).set j (some w) ∧ Dq H4 v (φ x) ∧ Dq H4 w (ψ x)
theorem DqAll.at' {H : Hp} : ∀ {vs : List V} {xs : List α} {φ : α → PyData} {i : Nat} {x : α}, DqAll H vs (xs.map φ) → xs[i]? = some x → ∃ v, vs[i]? = some v ∧ Dq H v (φ x)
  | vs, xs, φ, i, x, h, e => h.get' (d := φ x) (by rw [List.getElem?_map, e]; rfl)
theorem iw_list {i : Nat} {tl : TE} {φ : α → PyData} (h : Ed tl σ H (.list (xs.map φ))) : Iw (iList K tl) (gName i) σ H xs (B1 i φ) := fun O H0 o s R q =>
  h O H0 o s _ fun v H1 s1 hv => by
    obtain ⟨a, ys, rfl, hs, hd⟩ := hv.lst_inv
    have hl : ys.length = xs.length := by rw [dpAll_len hd, List.length_map]
    have hs' : ∀ H2, Le (hid O H1) (hid O H2) → SqL K H2 a ys := fun H2 s2 => (s2.trans (hid_sub O H2)).seq hs
    refine ⟨a, rfl, ⟨ys, hs' H1 (.refl _)⟩, q (Itl K a) H1 s1 (fun i x H2 hx s2 => ?_) fun H2 s2 => ⟨ys, hs' H2 s2, Nat.le_of_eq hl⟩⟩
    obtain ⟨y, hy, dy⟩ := hd.at' hx
    refine ⟨⟨ys, y, hs' H2 s2, hy⟩, fun v H3 ⟨e3, hv⟩ O' σ' Q o' s' k => ?_⟩
    subst e3
    have ev := (hv ys (hs' _ s2)).symm.trans hy
    cases ev
    exact k _ _ (.refl _) ⟨_, rfl, dy.mono s'⟩
theorem iw_tup {i : Nat} {tl : TE} {φ : α → PyData} (h : Ed tl σ H (.tuple (xs.map φ))) : Iw (iTup K tl) (gName i) σ H xs (B1 i φ) := fun O H0 o s R q =>
  h O H0 o s _ fun v H1 s1 hv => by
    obtain ⟨a, ys, rfl, hs, hd⟩ := hv.tup_inv
    have hl : ys.length = xs.length := by rw [dpAll_len hd, List.length_map]
    have hs' : ∀ H2, Le (hid O H1) (hid O H2) → SqT K H2 a ys := fun H2 s2 => (s2.trans (hid_sub O H2)).seqT hs
    refine ⟨a, rfl, ⟨ys, hs' H1 (.refl _)⟩, q (Itt K a) H1 s1 (fun i x H2 hx s2 => ?_) fun H2 s2 => ⟨ys, hs' H2 s2, Nat.le_of_eq hl⟩⟩
    obtain ⟨y, hy, dy⟩ := hd.at' hx
    refine ⟨⟨ys, y, hs' H2 s2, hy⟩, fun v H3 ⟨e3, hv⟩ O' σ' Q o' s' k => ?_⟩
    subst e3
    have ev := (hv ys (hs' _ s2)).symm.trans hy
    cases ev
    exact k _ _ (.refl _) ⟨_, rfl, dy.mono s'⟩
theorem g2_run {i j : Nat} {G H3 : Hp} {v : V} {d1 d2 : PyData} {σ' : St} {Q : St → Hp → Prop} (hv : Dq G v (.tuple [d1, d2])) (s : Le G H3) (k : ∀ v1 v2, Dq G v1 d1 → Dq G v2 d2 → Q ((σ'.set i (some v1)).set j (some v2)) H3) :
    gTup K 2 (gCons (gName i) (gCons (gName j) gNil)) v σ' H3 Q := by
  obtain ⟨a, ys, rfl, hs, hd⟩ := hv.tup_inv
  cases hd with
  | cons h1 t =>
    cases t with
    | cons h2 t =>
      cases t
      exact ⟨a, _, rfl, s.seqT hs, rfl, _, _, rfl, _, _, rfl, rfl, k _ _ h1 h2⟩
/-- the pairs of a list, told apart -/
theorem iw_list2 {i j : Nat} {tl : TE} {φ ψ : α → PyData} (h : Ed tl σ H (.list (xs.map fun x => .tuple [φ x, ψ x]))) : Iw (iList K tl) (gTup K 2 (gCons (gName i) (gCons (gName j) gNil))) σ H xs (B2 i j φ ψ) := fun O H0 o s R q =>
  h O H0 o s _ fun v H1 s1 hv => by
    obtain ⟨a, ys, rfl, hs, hd⟩ := hv.lst_inv
    have hl : ys.length = xs.length := by rw [dpAll_len hd, List.length_map]
    have hs' : ∀ H2, Le (hid O H1) (hid O H2) → SqL K H2 a ys := fun H2 s2 => (s2.trans (hid_sub O H2)).seq hs
    refine ⟨a, rfl, ⟨ys, hs' H1 (.refl _)⟩, q (Itl K a) H1 s1 (fun i x H2 hx s2 => ?_) fun H2 s2 => ⟨ys, hs' H2 s2, Nat.le_of_eq hl⟩⟩
    obtain ⟨y, hy, dy⟩ := hd.at' hx
    refine ⟨⟨ys, y, hs' H2 s2, hy⟩, fun v H3 ⟨e3, hv⟩ O' σ' Q o' s' k => ?_⟩
    subst e3
    have ev := (hv ys (hs' _ s2)).symm.trans hy
    cases ev
    exact g2_run (dy.mono s') (hid_sub _ _) fun v1 v2 h1 h2 => k _ _ (.refl _) ⟨_, _, rfl, h1, h2⟩
theorem iw_range1 {i : Nat} {ta : TA} {n : Nat} (hn : n < 1000000) (h : Ea ta σ H [.int (n : Int)]) : Iw (iRng1 ta) (gName i) σ H (List.range n) (B1 i fun k => .int (k : Int)) := fun O H0 o s R q =>
  h O H0 o s _ fun vs H1 s1 hv => by
    cases hv with
    | cons h0 t =>
      cases t
      rw [h0.int_inv]
      refine ⟨n, rfl, by omega, by omega, q (Itr 0 (n : Int).toNat) H1 s1 (fun i x H2 hx s2 => ?_) fun H2 s2 => by show (n : Int).toNat ≤ _; simp⟩
      obtain ⟨hi, rfl⟩ := List.getElem?_eq_some_iff.mp hx
      rw [List.length_range] at hi
      refine ⟨by show i < (n : Int).toNat; simpa using hi, fun v H3 ⟨e3, hv⟩ O' σ' Q o' s' k => ?_⟩
      subst e3
      subst hv
      refine k _ _ (.refl _) ⟨_, rfl, ?_⟩
      rw [List.getElem_range]
      have : (0 : Int) + (i : Nat) = (i : Int) := by omega
      rw [this]
      exact .int _
theorem iw_range2 {i : Nat} {ta : TA} {a n : Nat} (hn : a + n < 1000000) (h : Ea ta σ H [.int (a : Int), .int ((a + n : Nat) : Int)]) : Iw (iRng2 ta) (gName i) σ H (List.range n) (B1 i fun k => .int ((a + k : Nat) : Int)) := fun O H0 o s R q =>
  h O H0 o s _ fun vs H1 s1 hv => by
    cases hv with
    | cons h0 t =>
      cases t with
      | cons h1 t =>
        cases t
        rw [h0.int_inv, h1.int_inv]
        have en : (((a + n : Nat) : Int) - (a : Int)).toNat = n := by omega
        refine ⟨a, _, rfl, by omega, q (Itr a (((a + n : Nat) : Int) - (a : Int)).toNat) H1 s1 (fun i x H2 hx s2 => ?_) fun H2 s2 => by show _ ≤ _; rw [en, List.length_range]; exact Nat.le_refl _⟩
        obtain ⟨hi, rfl⟩ := List.getElem?_eq_some_iff.mp hx
        rw [List.length_range] at hi
        refine ⟨by show i < _; rw [en]; exact hi, fun v H3 ⟨e3, hv⟩ O' σ' Q o' s' k => ?_⟩
        subst e3
        subst hv
        refine k _ _ (.refl _) ⟨_, rfl, ?_⟩
        rw [List.getElem_range]
        have : (a : Int) + (i : Nat) = ((a + i : Nat) : Int) := by omega
        rw [this]
        exact .int _
/-- a new pair | as the walks of enumerate and zip make it -/
theorem pair_new {O : Addr → Prop} {H2 : Hp} {T : Addr} {x y : V} {d1 d2 : PyData} (o : Hid O H2) (nT : H2 T = none) (h1 : Dq (hid O H2) x d1) (h2 : Dq (hid O H2) y d2) : Dq (hid O (upd H2 T (.tup [x, y]))) (.ref T) (.tuple [d1, d2]) :=
  dp_newT o nT (.cons h1 (.cons h2 .nil))
theorem iw_enumT {i j : Nat} {ta : TA} {φ : α → PyData} (h : Ea ta σ H [.tuple (xs.map φ)]) :
    Iw (iEnumT K ta) (gTup K 2 (gCons (gName i) (gCons (gName j) gNil))) σ H xs.zipIdx (B2 i j (fun x => .int (x.2 : Int)) fun x => φ x.1) := fun O H0 o s R q =>
  h O H0 o s _ fun vs H1 s1 hv => by
    cases hv with
    | cons h0 t =>
      cases t
      obtain ⟨a, ys, rfl, hs, hd⟩ := h0.tup_inv
      have hl : ys.length = xs.length := by rw [dpAll_len hd, List.length_map]
      have hs' : ∀ H2, Le (hid O H1) (hid O H2) → SqT K H2 a ys := fun H2 s2 => (s2.trans (hid_sub O H2)).seqT hs
      refine ⟨a, ys, rfl, hs' H1 (.refl _), q (IteT K a) H1 s1 (fun i x H2 hx s2 => ?_) fun H2 s2 => ⟨ys, hs' H2 s2, by rw [hl, List.length_zipIdx]⟩⟩
      obtain ⟨hi, ex⟩ := List.getElem?_eq_some_iff.mp hx
      rw [List.length_zipIdx] at hi
      rw [List.getElem_zipIdx] at ex
      subst ex
      obtain ⟨y, hy, dy⟩ := hd.at' (List.getElem?_eq_getElem hi)
      refine ⟨⟨ys, y, hs' H2 s2, hy⟩, fun v H3 ⟨T, y', ev, nT, e3, hv⟩ O' σ' Q o' s' k => ?_⟩
      subst e3
      subst ev
      cases (hv ys (hs' _ s2)).symm.trans hy
      have e0 : ((0 + i : Nat) : Int) = (i : Int) := by omega
      refine g2_run (pair_new o' nT (.int _) (dy.mono s')) (hid_sub _ _) fun v1 v2 h1 h2 => k _ _ (same_new nT) ⟨_, _, rfl, ?_, h2⟩
      show Dq _ v1 (.int ((0 + i : Nat) : Int))
      rw [e0]
      exact h1
/-- a sequence of data, a tuple (true) or a list -/
def sqD : Bool → List PyData → PyData
  | true, ds => .tuple ds
  | false, ds => .list ds
theorem sqD_inv {kd : Bool} {H : Hp} {v : V} {ds : List PyData} (h : Dq H v (sqD kd ds)) : ∃ a ys, v = .ref a ∧ SqA K0 kd H a ys ∧ DqAll H ys ds := by
  cases kd with
  | true => exact h.tup_inv
  | false => exact h.lst_inv
theorem SqA.mono {kd : Bool} {H H' : Hp} {a : Addr} {ys : List V} (s : Le H H') (h : SqA K0 kd H a ys) : SqA K kd H' a ys := by
  cases kd with
  | true => exact s.seqT h
  | false => exact s.seq h
theorem iw_zip {β : Type} {ws : List β} {k1 k2 : Bool} {i j : Nat} {ta : TA} {φ : α → PyData} {ψ : β → PyData} (hlen : xs.length = ws.length) (h : Ea ta σ H [sqD k1 (xs.map φ), sqD k2 (ws.map ψ)]) :
    Iw (iZipM K k1 k2 ta) (gTup K 2 (gCons (gName i) (gCons (gName j) gNil))) σ H (xs.zip ws) (B2 i j (fun x => φ x.1) fun x => ψ x.2) := fun O H0 o s R q =>
  h O H0 o s _ fun vs H1 s1 hv => by
    cases hv with
    | cons h0 t =>
      cases t with
      | cons h1 t =>
        cases t
        obtain ⟨a, ys, rfl, hs, hd⟩ := sqD_inv h0
        obtain ⟨b, zs, rfl, ht, he⟩ := sqD_inv h1
        have hl : ys.length = xs.length := by rw [dpAll_len hd, List.length_map]
        have hl2 : zs.length = ws.length := by rw [dpAll_len he, List.length_map]
        have hs' : ∀ H2, Le (hid O H1) (hid O H2) → SqA K k1 H2 a ys := fun H2 s2 => SqA.mono (s2.trans (hid_sub O H2)) hs
        have ht' : ∀ H2, Le (hid O H1) (hid O H2) → SqA K k2 H2 b zs := fun H2 s2 => SqA.mono (s2.trans (hid_sub O H2)) ht
        have hz : (xs.zip ws).length = xs.length := by rw [List.length_zip]; omega
        refine ⟨a, b, ys, zs, rfl, hs' H1 (.refl _), ht' H1 (.refl _), q (ItzA K k1 k2 a b) H1 s1 (fun i x H2 hx s2 => ?_) fun H2 s2 => ⟨ys, zs, hs' H2 s2, ht' H2 s2, by omega, by omega⟩⟩
        obtain ⟨hi, ex⟩ := List.getElem?_eq_some_iff.mp hx
        have hi1 : i < xs.length := by omega
        have hi2 : i < ws.length := by omega
        rw [List.getElem_zip] at ex
        subst ex
        obtain ⟨y, hy, dy⟩ := hd.at' (List.getElem?_eq_getElem hi1)
        obtain ⟨z, hz, dz⟩ := he.at' (List.getElem?_eq_getElem hi2)
        refine ⟨⟨ys, zs, y, z, hs' H2 s2, ht' H2 s2, hy, hz⟩, fun v H3 ⟨T, y', z', ev, nT, e3, hv1, hv2⟩ O' σ' Q o' s' k => ?_⟩
        subst e3
        subst ev
        cases (hv1 ys (hs' _ s2)).symm.trans hy
        cases (hv2 zs (ht' _ s2)).symm.trans hz
        exact g2_run (pair_new o' nT (dy.mono s') (dz.mono s')) (hid_sub _ _) fun v1 v2 h1 h2 => k _ _ (same_new nT) ⟨_, _, rfl, h1, h2⟩
end
end L2

set_option Elab.async false
set_option linter.all false
set_option maxRecDepth 100000
namespace L2
open PySem PySem.Spec PyProof.Rows PySem.W
section
variable {α : Type} {K : PySem.W.Frag} {σ : St} {H H' : Hp} {te ta : TE} {a : TA} {ds : List PyData}
theorem ea_one {d : PyData} (h : Ed te σ H d) : Ea (tCons te tNil) σ H [d] := ea_cons h ea_nil
/-- tuple(list) -/
theorem ed_tupleL (h : Ed te σ H (.list ds)) : Ed (tCB (fun xs H Q => ∃ p ys, xs = [.ref p] ∧ ((SqL K H p ys ∧ ∀ l, H l = none → Q (.ref l) (upd H l (.tup ys))) ∨ (SqT K H p ys ∧ Q (.ref p) H))) (tCons te tNil)) σ H (.tuple ds) :=
  ed_cb (ea_one h) fun O vs H1 o s hv Q q => by
    cases hv with
    | cons h0 t =>
      cases t
      obtain ⟨p, ys, rfl, hs, hd⟩ := h0.lst_inv
      exact ⟨p, ys, rfl, .inl ⟨(hid_sub O H1).seq hs, fun l nl => q _ _ (same_new nl) (dp_newT o nl hd)⟩⟩
/-- list(tuple), list(list) -/
theorem ed_listOf {kd : Bool} (h : Ed te σ H (sqD kd ds)) : Ed (tCB (fun xs H Q => ∃ p ys, xs = [.ref p] ∧ (SqL K H p ys ∨ SqT K H p ys) ∧ ∀ l, H l = none → Q (.ref l) (upd H l (.lst ys))) (tCons te tNil)) σ H (.list ds) :=
  ed_cb (ea_one h) fun O vs H1 o s hv Q q => by
    cases hv with
    | cons h0 t =>
      cases t
      obtain ⟨p, ys, rfl, hs, hd⟩ := sqD_inv h0
      refine ⟨p, ys, rfl, ?_, fun l nl => q _ _ (same_new nl) (dp_newL o nl hd)⟩
      cases kd with
      | true => exact .inr ((hid_sub O H1).seqT hs)
      | false => exact .inl ((hid_sub O H1).seq hs)
theorem ed_len {kd : Bool} (h : Ed te σ H (sqD kd ds)) : Ed (tCB (fun xs H Q => ∃ p ys, xs = [.ref p] ∧ (SqL K H p ys ∨ SqT K H p ys) ∧ Q (.int ys.length) H) (tCons te tNil)) σ H (.int (ds.length : Int)) :=
  ed_cb (ea_one h) fun O vs H1 o s hv Q q => by
    cases hv with
    | cons h0 t =>
      cases t
      obtain ⟨p, ys, rfl, hs, hd⟩ := sqD_inv h0
      refine ⟨p, ys, rfl, ?_, ?_⟩
      · cases kd with
        | true => exact .inr ((hid_sub O H1).seqT hs)
        | false => exact .inl ((hid_sub O H1).seq hs)
      · rw [dpAll_len hd]
        exact q _ H1 (.refl _) (.int _)
theorem ed_sum {ns : List Int} (h : Ed te σ H (.list (ns.map .int))) : Ed (tCB (rSum K) (tCons te tNil)) σ H (.int ns.sum) :=
  ed_cb (ea_one h) fun O vs H1 o s hv Q q => by
    cases hv with
    | cons h0 t =>
      cases t
      obtain ⟨p, ys, rfl, hs, hd⟩ := h0.lst_inv
      rw [hd.ints_inv] at hs
      exact ⟨p, ns, rfl, (hid_sub O H1).seq hs, q _ H1 (.refl _) (.int _)⟩
theorem ed_max {ns : List Int} {m : Int} (hm : m ∈ ns) (hle : ∀ y, y ∈ ns → y ≤ m) (h : Ed te σ H (.list (ns.map .int))) : Ed (tCB (rMax K) (tCons te tNil)) σ H (.int m) :=
  ed_cb (ea_one h) fun O vs H1 o s hv Q q => by
    cases hv with
    | cons h0 t =>
      cases t
      obtain ⟨p, ys, rfl, hs, hd⟩ := h0.lst_inv
      rw [hd.ints_inv] at hs
      refine ⟨p, ns, rfl, (hid_sub O H1).seq hs, List.length_pos_of_mem hm, fun m' hm' hle' => ?_⟩
      have e : m' = m := Int.le_antisymm (hle m' hm') (hle' m hm)
      rw [e]
      exact q _ H1 (.refl _) (.int _)
theorem ed_all {bs : List Bool} (h : Ed te σ H (.list (bs.map .bool))) : Ed (tCB (rAll K) (tCons te tNil)) σ H (.bool (bs.all id)) :=
  ed_cb (ea_one h) fun O vs H1 o s hv Q q => by
    cases hv with
    | cons h0 t =>
      cases t
      obtain ⟨p, ys, rfl, hs, hd⟩ := h0.lst_inv
      rw [hd.bls_inv] at hs
      exact ⟨p, bs, rfl, (hid_sub O H1).seq hs, q _ H1 (.refl _) (.bl _)⟩
theorem ed_any {bs : List Bool} (h : Ed te σ H (.list (bs.map .bool))) : Ed (tCB (rAny K) (tCons te tNil)) σ H (.bool (bs.any id)) :=
  ed_cb (ea_one h) fun O vs H1 o s hv Q q => by
    cases hv with
    | cons h0 t =>
      cases t
      obtain ⟨p, ys, rfl, hs, hd⟩ := h0.lst_inv
      rw [hd.bls_inv] at hs
      exact ⟨p, bs, rfl, (hid_sub O H1).seq hs, q _ H1 (.refl _) (.bl _)⟩
theorem ed_sortedTu (hal : AllAlike ds) (ht : ∀ d, d ∈ ds → ∃ ys, d = .tuple ys) (hdp : ∀ d, d ∈ ds → d.depth ≤ 60) (h : Ed te σ H (.list ds)) : Ed (tCB (rSortedTu K) (tCons te tNil)) σ H (.list (ds.mergeSort (dataLe false id))) :=
  ed_cb (ea_one h) fun O vs H1 o s hv Q q => by
    cases hv with
    | cons h0 t =>
      cases t
      obtain ⟨p, ys, rfl, hs, hd⟩ := h0.lst_inv
      exact ⟨p, ys, ds, hid O H1, rfl, (hid_sub O H1).seq hs, fun v d h => (h.mono (hid_sub O H1)).up, hd, hal, ht, hdp, fun zs l hz nl => q _ _ (same_new nl) (dp_newL o nl hz)⟩
/-! ### statements -/
/-- for .. in .. : Pv holds ahead of each turn -/
theorem for_iw {wi : TI} {g : TG} {tb : TS} {D : Ends} {G : Hp} {O : Addr → Prop} {xs : List α} {B : α → St → St → Hp → Prop} (hi : Iw wi g σ G xs B) (o : Hid O H) (s : Le G (hid O H))
    (hp : ∀ H1, Le H H1 → ∃ Pv : Nat → St → Hp → Prop, Pv 0 σ H1 ∧ (∀ i σ2 H2, i ≤ xs.length → Pv i σ2 H2 → Le (hid O H1) (hid O H2)) ∧
      (∀ i x σ2 H2, xs[i]? = some x → Pv i σ2 H2 → ∃ O' : Addr → Prop, Hid O' H2 ∧ Le (hid O H1) (hid O' H2) ∧
        ∀ σ4 H4, Le H2 H4 → B x σ2 σ4 (hid O' H4) → tb { D with nx := Pv (i + 1), ct := Pv (i + 1), bk := D.nx } σ4 H4) ∧
      ∀ σ2 H2, Pv xs.length σ2 H2 → D.nx σ2 H2) : tFor wi g tb D σ H := by
  refine hi O H o s _ fun J H1 s1 turn stop => ?_
  obtain ⟨Pv, h0, hk, hs, hd⟩ := hp H1 s1
  refine ⟨fun i m σ2 H2 => m = xs.length - i ∧ i ≤ xs.length ∧ Pv i σ2 H2, ⟨_, rfl, Nat.zero_le _, h0⟩, ?_⟩
  rintro i m σ2 H2 ⟨rfl, hil, p⟩
  have k := hk i σ2 H2 hil p
  by_cases hlt : i < xs.length
  · have hx : xs[i]? = some xs[i] := List.getElem?_eq_getElem hlt
    obtain ⟨go, yl⟩ := turn i xs[i] H2 hx k
    obtain ⟨O', o', s', body⟩ := hs i xs[i] σ2 H2 hx p
    exact .inr ⟨go, Pv (i + 1), fun σ' H' p' => ⟨_, by omega, rfl, hlt, p'⟩, fun v H3 hy => yl v H3 hy O' σ2 _ o' s' fun σ4 H4 s4 hB => body σ4 H4 s4 hB⟩
  · have e : i = xs.length := by omega
    subst e
    exact .inl ⟨stop H2 k, hd σ2 H2 p⟩
/-- x = e, e data -/
theorem asg_ed {te : TE} {i : Nat} {D : Ends} {G : Hp} {O : Addr → Prop} {d : PyData} (h : Ed te σ G d) (o : Hid O H) (s : Le G (hid O H)) (k : ∀ v H2, Le H H2 → Dq (hid O H2) v d → D.nx (σ.set i (some v)) H2) : tAsg te (gName i) D σ H :=
  h O H o s _ fun v H2 s2 hv => k v H2 s2 hv
theorem ret_ed {te : TE} {D : Ends} {G : Hp} {O : Addr → Prop} {d : PyData} (h : Ed te σ G d) (o : Hid O H) (s : Le G (hid O H)) (k : ∀ v H2, Le H H2 → Dq (hid O H2) v d → D.rt v H2) : tRet te D σ H :=
  h O H o s _ k
theorem if_eb {tc : TT} {t u : TS} {D : Ends} {G : Hp} {O : Addr → Prop} {b : Bool} (h : Eb tc σ G b) (o : Hid O H) (s : Le G (hid O H)) (k1 : b = true → ∀ H2, Le H H2 → t D σ H2) (k2 : b = false → ∀ H2, Le H H2 → u D σ H2) : tIfS tc t u D σ H :=
  h O H o s _ fun H2 s2 => by
    cases b with
    | true => exact k1 rfl H2 s2
    | false => exact k2 rfl H2 s2
end
end L2

set_option Elab.async false
set_option linter.all false
namespace BT
open PySem
theorem and_nat (m n : Nat) : Builtin.bitAnd (m : Int) (n : Int) = ((m &&& n : Nat) : Int) := by simp [Builtin.bitAnd]
theorem or_nat (m n : Nat) : Builtin.bitOr (m : Int) (n : Int) = ((m ||| n : Nat) : Int) := by
  unfold Builtin.bitOr Builtin.bitAnd Builtin.bitNot
  have h1 : ¬ (0 : Int) ≤ -(m : Int) - 1 := by omega
  have h2 : ¬ (0 : Int) ≤ -(n : Int) - 1 := by omega
  have e1 : (-(-(m : Int) - 1) - 1) = m := by omega
  have e2 : (-(-(n : Int) - 1) - 1) = n := by omega
  simp only [h1, h2, decide_false, e1, e2, Int.toNat_natCast]
  omega
theorem two (x : Nat) : x = 2 * (x / 2) + x % 2 := (Nat.div_add_mod x 2).symm
theorem or_split : ∀ (k x y : Nat), x < 2 ^ k → (x ||| y) = (x ^^^ y) + (x &&& y)
  | 0, x, y, h => by
    have : x = 0 := by simpa using h
    subst this
    simp
  | k + 1, x, y, h => by
    have hx : x / 2 < 2 ^ k := by rw [Nat.pow_succ] at h; omega
    have ih := or_split k (x / 2) (y / 2) hx
    rw [two (x ||| y), two (x ^^^ y), two (x &&& y), Nat.or_div_two, Nat.xor_div_two, Nat.and_div_two, ih]
    have m1 : (x ||| y) % 2 = (x ^^^ y) % 2 + (x &&& y) % 2 := by
      have key : ∀ a : Nat, a % 2 = (a.testBit 0).toNat := fun a => by
        rw [Nat.testBit_zero]
        rcases Nat.mod_two_eq_zero_or_one a with h | h <;> simp [h]
      rw [key, key (x ^^^ y), key (x &&& y), Nat.testBit_or, Nat.testBit_xor, Nat.testBit_and]
      cases x.testBit 0 <;> cases y.testBit 0 <;> rfl
    omega
theorem xor_nat (m n : Nat) : Builtin.bitXor (m : Int) (n : Int) = ((m ^^^ n : Nat) : Int) := by
  unfold Builtin.bitXor
  rw [or_nat, and_nat, or_split m m n (Nat.lt_two_pow_self)]
  omega
theorem shr_nat (m k : Nat) : (m : Int) / 2 ^ ((k : Int).toNat) = ((m / 2 ^ k : Nat) : Int) := by
  rw [Int.toNat_natCast]
  simp
theorem shl_nat (m k : Nat) : (m : Int) * 2 ^ ((k : Int).toNat) = ((m * 2 ^ k : Nat) : Int) := by
  rw [Int.toNat_natCast]
  simp
/-- mask >> at & 1 -/
theorem bit_nat (m k : Nat) : Builtin.bitAnd ((m : Int) / 2 ^ ((k : Int).toNat)) 1 = ((m / 2 ^ k % 2 : Nat) : Int) := by
  rw [shr_nat, show (1 : Int) = ((1 : Nat) : Int) from rfl, and_nat, Nat.and_one_is_mod]
theorem bit_tru (m k : Nat) : (Builtin.bitAnd ((m : Int) / 2 ^ ((k : Int).toNat)) 1 != 0) = m.testBit k := by
  rw [bit_nat, Nat.testBit_eq_decide_div_mod_eq]
  rcases Nat.mod_two_eq_zero_or_one (m / 2 ^ k) with h | h <;> simp [h]
end BT

set_option Elab.async false
set_option linter.all false
set_option maxRecDepth 100000
namespace L2
open PySem PySem.Spec PyProof.Rows PySem.W
section
variable {P : Program} {w : World} {K : PySem.W.Frag} {mg : Str → Option Value} {base : Heap}
theorem dp1 {H : Hp} {vs : List V} {a : PyData} (h : DqAll H vs [a]) : ∃ x, vs = [x] ∧ Dq H x a := by
  cases h with | cons h t => cases t; exact ⟨_, rfl, h⟩
theorem dp2 {H : Hp} {vs : List V} {a b : PyData} (h : DqAll H vs [a, b]) : ∃ x y, vs = [x, y] ∧ Dq H x a ∧ Dq H y b := by
  cases h with | cons h t => obtain ⟨y, rfl, h2⟩ := dp1 t; exact ⟨_, _, rfl, h, h2⟩
theorem dp3 {H : Hp} {vs : List V} {a b c : PyData} (h : DqAll H vs [a, b, c]) : ∃ x y z, vs = [x, y, z] ∧ Dq H x a ∧ Dq H y b ∧ Dq H z c := by
  cases h with | cons h t => obtain ⟨y, z, rfl, h2, h3⟩ := dp2 t; exact ⟨_, _, _, rfl, h, h2, h3⟩
/-- a def over data -/
theorem okD {x qual : Str} {st : Stmt} {f : Addr} {fd : FuncData} {N ps : List Str} {k : Nat} {R : List PyData → PyData → Prop} (F : Fun K x qual st f fd) (S : FnScope N ps (defScope st)) (hl : ∀ ds d, R ds d → ds.length = ps.length)
    (body : ∀ (cdv : Value) (A : Around) (outer : List Env) (s : Shared) (H : Hp) (E : XK) (O : Addr → Prop) (vs : List V) (ds : List PyData) (d : PyData),
      Room k (A.deeper (envOfC qual (defScope st) s.heap.objs.size f cdv)) → Hid O H → DqAll (hid O H) vs ds → R ds d →
      ∃ t, PSs (cxOf CX0 P w K mg base N qual (defScope st) f cdv A outer s H E).nox (defBody st) t ∧
        ∀ D : Ends, (∀ v H', Le H H' → Dq (hid O H') v d → D.rt v H') → t D (start N vs) H) :
    FnOk P w K mg base CX0 (k + 1) f fd ps (spD K R) := by
  refine F.ok S (fun vs H Q E h => ?_) (fun cdv A outer s H vs Q E hr h => ?_)
  · obtain ⟨O, ds, d, o, hv, r, _⟩ := h
    rw [dpAll_len hv]
    exact hl ds d r
  · obtain ⟨O, ds, d, o, hv, r, q⟩ := h
    obtain ⟨t, ht, k⟩ := body cdv A outer s H E O vs ds d hr o hv r
    exact ⟨t, ht, k _ q⟩
end
theorem hu64 {A : Around} {k : Nat} (hr : Room k A) : A.units + 64 < cLine := by have := hr.un; omega
theorem hu65 {A : Around} {k : Nat} (hr : Room k A) : A.units + 65 < cLine := by have := hr.un; omega
theorem hu00 {A : Around} {k : Nat} (hr : Room k A) : A.units < cLine := by have := hr.un; omega
def tTru (K : PySem.W.Frag) (ta : TE) : TT := fun σ H Q => ta σ H fun x H' => ∃ k, TruV K x H' k ∧ Q k H'
theorem pt_tru (K : PySem.W.Frag) {X : Cx} {a : Expr} {ta : TE} (ha : PE X a ta) (hK : X.K = K := by exact rfl) (he : ∀ whole, isTrue a X.env whole = (do let v ← whole; standAt a.pos; holding [v] (truthy v)) := by exact fun _ => rfl) : PT X a (tTru K ta) := hK ▸ pt_truth ha he
/-! the layer's rules with the written part named: for use within a comprehension -/
section
variable {X : Cx} (K : PySem.W.Frag) {ta : TA} {tl : TE} {tg l e : Expr} {es : List Expr} {p pos tpos : Pos} {elts : List Expr} {kk : Nat}
theorem ko_in (hK : X.K = K := by exact rfl) : OpR X (compareOp .In) (rIn K false) := hK ▸ op_in_seq
theorem ko_notIn (hK : X.K = K := by exact rfl) : OpR X (compareOp .NotIn) (rIn K true) := hK ▸ op_notIn_seq
theorem ko_inD (hu : X.A.units + 65 < cLine) (hK : X.K = K := by exact rfl) : OpR X (compareOp .In) (rInD K) := hK ▸ op_inD hu
theorem ko_notInD (hu : X.A.units + 65 < cLine) (hK : X.K = K := by exact rfl) : OpR X (compareOp .NotIn) (rNotInD K) := hK ▸ op_notInD hu
theorem ko_eqD (hu : X.A.units + 64 < cLine) (hK : X.K = K := by exact rfl) : OpR X (compareOp .Eq) (rEqD K) := hK ▸ op_eqD hu
theorem ko_neD (hu : X.A.units + 64 < cLine) (hK : X.K = K := by exact rfl) : OpR X (compareOp .NotEq) (rNeD K) := hK ▸ op_neD hu
theorem ko_catT (hK : X.K = K := by exact rfl) : OpR X (binaryOp .Add) (rCatT K) := hK ▸ op_catT
theorem ko_ltT (hu : X.A.units < cLine) (hK : X.K = K := by exact rfl) : OpR X (compareOp .Lt) (rLtT K) := hK ▸ op_ltT hu
theorem ki_list (hK : X.K = K := by exact rfl) : IxR X (rIxL K) := hK ▸ ix_list
theorem ki_tup (hK : X.K = K := by exact rfl) : IxR X (rIxT K) := hK ▸ ix_tup
theorem kc_len (hK : X.K = K := by exact rfl) : CallR X (.builtin "len") (fun xs H Q => ∃ p ys, xs = [.ref p] ∧ (SqL K H p ys ∨ SqT K H p ys) ∧ Q (.int ys.length) H) := hK ▸ call_len_seq
theorem kc_tuple (hK : X.K = K := by exact rfl) : CallR X (.type "tuple") (fun xs H Q => ∃ p ys, xs = [.ref p] ∧ ((SqL K H p ys ∧ ∀ l, H l = none → Q (.ref l) (upd H l (.tup ys))) ∨ (SqT K H p ys ∧ Q (.ref p) H))) := hK ▸ call_tuple_of
theorem kc_list (hK : X.K = K := by exact rfl) : CallR X (.type "list") (fun xs H Q => ∃ p ys, xs = [.ref p] ∧ (SqL K H p ys ∨ SqT K H p ys) ∧ ∀ l, H l = none → Q (.ref l) (upd H l (.lst ys))) := hK ▸ call_list_of
theorem kc_sum (hc : X.calm = true := by exact rfl) (hK : X.K = K := by exact rfl) : CallR X (.builtin "sum") (rSum K) := hK ▸ cr_sum hc
theorem kc_max (hc : X.calm = true := by exact rfl) (hK : X.K = K := by exact rfl) : CallR X (.builtin "max") (rMax K) := hK ▸ cr_max hc
theorem kc_min (hc : X.calm = true := by exact rfl) (hK : X.K = K := by exact rfl) : CallR X (.builtin "min") (rMin K) := hK ▸ cr_min hc
theorem kc_all (hc : X.calm = true := by exact rfl) (hK : X.K = K := by exact rfl) : CallR X (.builtin "all") (rAll K) := hK ▸ cr_all hc
theorem kc_any (hc : X.calm = true := by exact rfl) (hK : X.K = K := by exact rfl) : CallR X (.builtin "any") (rAny K) := hK ▸ cr_any hc
theorem kc_sortedTu (hu : X.A.units + 64 < cLine) (hK : X.K = K := by exact rfl) : CallR X (.builtin "sorted") (rSortedTu K) := hK ▸ cr_sortedTu hu
theorem kp_list (hl : PE X l tl) (hK : X.K = K := by exact rfl) : PI X tg l (iList K tl) := hK ▸ pi_list hl
theorem kp_tup (hl : PE X l tl) (hK : X.K = K := by exact rfl) : PI X tg l (iTup K tl) := hK ▸ pi_tup hl
theorem kp_enumT (hg : Gl X "enumerate") (hm : X.mg "enumerate" = none) (ha : PA X [e] ta) (hK : X.K = K := by exact rfl) (hs : starEach [e] X.env = [(false, eval e X.env)] := by rfl) :
    PI X (.Tuple elts kk tpos) (.Call (.Name "enumerate" p) [e] [] pos) (iEnumT K ta) := hK ▸ pi_enumT hg hm ha hs
theorem kp_zipM (k1 k2 : Bool) {e2 : Expr} (hg : Gl X "zip") (hm : X.mg "zip" = none) (ha : PA X [e, e2] ta) (hK : X.K = K := by exact rfl)
    (hs : starEach [e, e2] X.env = (false, eval e X.env) :: starEach [e2] X.env := by rfl) (hpl : (backTo pos (starEach [e2] X.env)).any (·.1) = false := by rfl) :
    PI X (.Tuple elts kk tpos) (.Call (.Name "zip" p) [e, e2] [] pos) (iZipM K k1 k2 ta) := hK ▸ pi_zipM k1 k2 hg hm ha hs hpl
theorem kf_fld {f : Str} {te : TE} (he : PE X e te) (hK : X.K = K := by exact rfl) (hb : attributeBase e f X.env (eval e X.env) = eval e X.env := by rfl) : PE X (.Attribute e f pos) (tFld K te f) := hK ▸ pe_fld he hb
theorem kg_tup {k : Nat} {t : TGs} {n : Nat} (h : PGs X es t) (hc : X.calm = true := by exact rfl) (hK : X.K = K := by exact rfl)
    (hn : (assignEach es X.env).length = n := by rfl) (hst : (assignEach es X.env).findIdx? (·.1) = none := by rfl) : PG X (.Tuple es k pos) (gTup K n t) := hK ▸ pg_tup hc h hn hst
end
section
variable {K : PySem.W.Frag} {σ : St} {H : Hp} {ta : TE} {ds : List PyData}
theorem eb_tru {i : Int} (ha : Ed ta σ H (.int i)) : Eb (tTru K ta) σ H (i != 0) := eb_truI ha
theorem eb_truS {kd : Bool} (ha : Ed ta σ H (sqD kd ds)) : Eb (tTru K ta) σ H (!ds.isEmpty) := fun O H1 o s Q q => ha O H1 o s _ fun v H2 s2 hv => by
  obtain ⟨a, ys, rfl, hs, hd⟩ := sqD_inv hv
  have hl : ds.isEmpty = ys.isEmpty := by
    have := dpAll_len hd
    cases ds <;> cases ys <;> first | rfl | simp at this
  rw [hl] at q
  refine ⟨_, ?_, q H2 s2⟩
  cases kd with
  | true => exact .inr (.inl ⟨ys, (hid_sub O H2).seqT hs, rfl⟩)
  | false => exact .inl ⟨ys, (hid_sub O H2).seq hs, rfl⟩
end
end L2

set_option Elab.async false
set_option linter.all false
/-! sets as masks: closed families of masks -/
namespace MB
open PySem
/-- without place k -/
def clr (m k : Nat) : Nat := if m.testBit k then m ^^^ 2 ^ k else m
def sub (a b : Nat) : Prop := a &&& b = a
theorem sub_iff {a b : Nat} : sub a b ↔ ∀ i, a.testBit i = true → b.testBit i = true := by
  constructor
  · intro h i hi
    have : (a &&& b).testBit i = true := by rw [h]; exact hi
    rw [Nat.testBit_and, hi] at this
    simpa using this
  · intro h
    refine Nat.eq_of_testBit_eq fun i => ?_
    rw [Nat.testBit_and]
    cases hi : a.testBit i with
    | false => rfl
    | true => rw [h i hi]; rfl
instance (a b : Nat) : Decidable (sub a b) := inferInstanceAs (Decidable (a &&& b = a))
theorem sub_refl (a : Nat) : sub a a := sub_iff.mpr fun _ h => h
theorem sub_trans {a b c : Nat} (h : sub a b) (h' : sub b c) : sub a c := sub_iff.mpr fun i hi => sub_iff.mp h' i (sub_iff.mp h i hi)
theorem sub_antisymm {a b : Nat} (h : sub a b) (h' : sub b a) : a = b := Nat.eq_of_testBit_eq fun i => by
  cases ha : a.testBit i with
  | true => rw [sub_iff.mp h i ha]
  | false =>
    cases hb : b.testBit i with
    | true => rw [sub_iff.mp h' i hb] at ha; cases ha
    | false => rfl
theorem sub_le {a b : Nat} (h : sub a b) : a ≤ b := by rw [← show a &&& b = a from h]; exact Nat.and_le_right
theorem bit_pow (k i : Nat) : (2 ^ k).testBit i = decide (k = i) := Nat.testBit_two_pow
theorem clr_bit (m k i : Nat) : (clr m k).testBit i = (m.testBit i && !decide (k = i)) := by
  unfold clr
  by_cases h : m.testBit k = true
  · rw [if_pos h, Nat.testBit_xor, bit_pow]
    by_cases e : k = i
    · subst e; simp [h]
    · simp [e]
  · rw [if_neg h]
    by_cases e : k = i
    · subst e; simp at h; simp [h]
    · simp [e]
theorem clr_sub (m k : Nat) : sub (clr m k) m := sub_iff.mpr fun i hi => by
  rw [clr_bit] at hi
  simp at hi
  exact hi.1
theorem clr_le (m k : Nat) : clr m k ≤ m := sub_le (clr_sub m k)
theorem clr_lt {m k : Nat} (h : m.testBit k = true) : clr m k < m := by
  refine Nat.lt_of_le_of_ne (clr_le m k) fun e => ?_
  have := clr_bit m k k
  rw [e, h] at this
  simp at this
theorem lt_bit {m n i : Nat} (h : m < 2 ^ n) (hi : m.testBit i = true) : i < n := by
  refine Classical.byContradiction fun z => ?_
  have := Nat.testBit_lt_two_pow (Nat.lt_of_lt_of_le h (Nat.pow_le_pow_right (by decide) (show n ≤ i by omega)))
  rw [this] at hi
  cases hi
/-- a family that is closed under leaving out a place has all that lies within its members -/
theorem closed_down {n : Nat} {f : Nat → Prop} (hc : ∀ x, x < 2 ^ n → f x → ∀ k, k < n → f (clr x k)) : ∀ (m k : Nat), m < 2 ^ n → f m → sub k m → f k := by
  intro m
  induction m using Nat.strongRecOn with
  | ind m ih =>
    intro k hm fm hk
    by_cases e : k = m
    · rw [e]; exact fm
    · have ⟨i, h1, h2⟩ : ∃ i, m.testBit i = true ∧ k.testBit i = false := by
        refine Classical.byContradiction fun z => e (sub_antisymm hk (sub_iff.mpr fun i hi => ?_))
        cases hk : k.testBit i with
        | true => rfl
        | false => exact absurd ⟨i, hi, hk⟩ z
      have hin := lt_bit hm h1
      refine ih (clr m i) (clr_lt h1) k (Nat.lt_of_le_of_lt (clr_le _ _) hm) (hc m hm fm i hin) (sub_iff.mpr fun j hj => ?_)
      rw [clr_bit, sub_iff.mp hk j hj]
      have : ¬ i = j := fun z => by rw [z, hj] at h2; cases h2
      simp [this]
/-- .. under one more place: all that its members lie in -/
theorem closed_up {n : Nat} {f : Nat → Prop} (hc : ∀ x, x < 2 ^ n → f x → ∀ k, k < n → f (x ||| 2 ^ k)) : ∀ (d m k : Nat), k < 2 ^ n → k - m = d → f m → sub m k → f k := by
  intro d
  induction d using Nat.strongRecOn with
  | ind d ih =>
    intro m k hk hd fm hs
    by_cases e : m = k
    · rw [← e]; exact fm
    · have ⟨i, h1, h2⟩ : ∃ i, k.testBit i = true ∧ m.testBit i = false := by
        refine Classical.byContradiction fun z => e (sub_antisymm hs (sub_iff.mpr fun i hi => ?_))
        cases hm : m.testBit i with
        | true => rfl
        | false => exact absurd ⟨i, hi, hm⟩ z
      have hin := lt_bit hk h1
      have hs' : sub (m ||| 2 ^ i) k := sub_iff.mpr fun j hj => by
        rw [Nat.testBit_or, bit_pow] at hj
        by_cases e2 : i = j
        · rw [← e2]; exact h1
        · simp [e2] at hj
          exact sub_iff.mp hs j hj
      have hlt : m < m ||| 2 ^ i := by
        refine Nat.lt_of_le_of_ne Nat.left_le_or fun z => ?_
        have : (m ||| 2 ^ i).testBit i = true := by rw [Nat.testBit_or, bit_pow]; simp
        rw [← z, h2] at this
        cases this
      have := sub_le hs
      have := sub_le hs'
      exact ih (k - (m ||| 2 ^ i)) (by omega) (m ||| 2 ^ i) k hk rfl (hc m (Nat.lt_of_le_of_lt (sub_le hs) hk) fm i hin) hs'
/-- mask & ~(1 << at) -/
theorem and_not (m k : Nat) : Builtin.bitAnd (m : Int) (Builtin.bitNot ((2 ^ k : Nat) : Int)) = ((clr m k : Nat) : Int) := by
  have hp : (0 : Int) ≤ ((2 ^ k : Nat) : Int) := Int.natCast_nonneg _
  have h0 : ¬ (0 : Int) ≤ -((2 ^ k : Nat) : Int) - 1 := by omega
  have e1 : (-(-((2 ^ k : Nat) : Int) - 1) - 1) = ((2 ^ k : Nat) : Int) := by omega
  have h1 : (0 : Int) ≤ (m : Int) := by omega
  unfold Builtin.bitAnd Builtin.bitNot
  simp only [h0, h1, decide_false, decide_true, e1, Int.toNat_natCast]
  unfold clr
  have ha : m &&& 2 ^ k = if m.testBit k then 2 ^ k else 0 := by
    refine Nat.eq_of_testBit_eq fun i => ?_
    rw [Nat.testBit_and, bit_pow]
    by_cases e : k = i
    · subst e
      by_cases h : m.testBit k = true
      · simp [h]
      · simp [h]
    · by_cases h : m.testBit k = true
      · simp [h, e]
      · simp [h, e]
  by_cases h : m.testBit k = true
  · rw [if_pos h] at ha ⊢
    have hs := BT.or_split m m (2 ^ k) Nat.lt_two_pow_self
    have ho : m ||| 2 ^ k = m := by
      refine Nat.eq_of_testBit_eq fun i => ?_
      rw [Nat.testBit_or, bit_pow]
      by_cases e : k = i
      · subst e; simp [h]
      · simp [e]
    rw [ho, ha] at hs
    rw [ha]
    omega
  · rw [if_neg h] at ha ⊢
    rw [ha]
    omega
def belowAny (ms : List Nat) (k : Nat) : Bool := ms.any fun m => decide (sub k m)
def aboveAny (ms : List Nat) (k : Nat) : Bool := ms.any fun m => decide (sub m k)
theorem below_iff {ms : List Nat} {k : Nat} : belowAny ms k = true ↔ ∃ m, m ∈ ms ∧ sub k m := by
  unfold belowAny
  rw [List.any_eq_true]
  exact ⟨fun ⟨m, h, e⟩ => ⟨m, h, of_decide_eq_true e⟩, fun ⟨m, h, e⟩ => ⟨m, h, decide_eq_true e⟩⟩
theorem above_iff {ms : List Nat} {k : Nat} : aboveAny ms k = true ↔ ∃ m, m ∈ ms ∧ sub m k := by
  unfold aboveAny
  rw [List.any_eq_true]
  exact ⟨fun ⟨m, h, e⟩ => ⟨m, h, of_decide_eq_true e⟩, fun ⟨m, h, e⟩ => ⟨m, h, decide_eq_true e⟩⟩
/-- what the two loops leave: the flags that are asked for -/
theorem below_done {n : Nat} {ms : List Nat} {f : Nat → Bool} (hm : ∀ m, m ∈ ms → m < 2 ^ n) (hs : ∀ k, f k = true → belowAny ms k = true) (h0 : ∀ m, m ∈ ms → f m = true)
    (hc : ∀ x, x < 2 ^ n → f x = true → ∀ k, k < n → f (clr x k) = true) (k : Nat) : f k = belowAny ms k := by
  cases hb : belowAny ms k with
  | true =>
    obtain ⟨m, h, e⟩ := below_iff.mp hb
    exact closed_down (f := fun x => f x = true) hc m k (hm m h) (h0 m h) e
  | false =>
    cases hf : f k with
    | true => rw [hs k hf] at hb; cases hb
    | false => rfl
theorem above_done {n : Nat} {ms : List Nat} {f : Nat → Bool} (hs : ∀ k, f k = true → aboveAny ms k = true) (h0 : ∀ m, m ∈ ms → f m = true)
    (hc : ∀ x, x < 2 ^ n → f x = true → ∀ k, k < n → f (x ||| 2 ^ k) = true) (k : Nat) (hk : k < 2 ^ n) : f k = aboveAny ms k := by
  cases hb : aboveAny ms k with
  | true =>
    obtain ⟨m, h, e⟩ := above_iff.mp hb
    exact closed_up (f := fun x => f x = true) hc _ m k hk rfl (h0 m h) e
  | false =>
    cases hf : f k with
    | true => rw [hs k hf] at hb; cases hb
    | false => rfl
end MB

set_option Elab.async false
set_option linter.all false
set_option maxRecDepth 100000
namespace L2
open PySem PySem.Spec PyProof.Rows PySem.W
section
variable {K : PySem.W.Frag} {σ : L2.St} {H : Hp}
/-- n values by place -/
abbrev tab (n : Nat) (f : Nat → V) : List V := (List.range n).map f
theorem tab_len (n : Nat) (f : Nat → V) : (tab n f).length = n := by rw [List.length_map, List.length_range]
theorem tab_at {n i : Nat} (f : Nat → V) (h : i < n) : (tab n f)[i]? = some (f i) := by
  rw [List.getElem?_map, List.getElem?_range h]
  rfl
theorem tab_set {n j : Nat} (f : Nat → V) (v : V) : (tab n f).set j v = tab n fun k => if k = j then v else f k := by
  refine List.ext_getElem? fun i => ?_
  by_cases hi : i < n
  · rw [tab_at _ hi, List.getElem?_set]
    by_cases e : j = i
    · subst e
      rw [if_pos rfl, if_pos (by rw [tab_len]; exact hi), if_pos rfl]
    · rw [if_neg e, tab_at _ hi, if_neg fun z => e z.symm]
  · rw [List.getElem?_eq_none (by rw [List.length_set, tab_len]; omega), List.getElem?_eq_none (by rw [tab_len]; omega)]
theorem tab_const (n : Nat) (v : V) : (List.replicate n [v]).flatten = tab n fun _ => v := by
  refine List.ext_getElem? fun i => ?_
  induction n generalizing i with
  | zero => rfl
  | succ n ih =>
    rw [List.replicate_succ, List.flatten_cons]
    cases i with
    | zero => rw [tab_at _ (Nat.succ_pos n)]; rfl
    | succ i =>
      show (List.replicate n [v]).flatten[i]? = _
      rw [ih i]
      by_cases hi : i < n
      · rw [tab_at _ hi, tab_at _ (Nat.succ_lt_succ hi)]
      · rw [List.getElem?_eq_none (by rw [tab_len]; omega), List.getElem?_eq_none (by rw [tab_len]; omega)]
theorem tab_congr {n : Nat} {f g : Nat → V} (h : ∀ k, k < n → f k = g k) : tab n f = tab n g := List.map_congr_left fun k hk => h k (List.mem_range.mp hk)
/-- flags[e] = True -/
theorem set_tab {D : Ends} {G : Hp} {O : Addr → Prop} {ti : TE} {i1 p n j : Nat} {f : Nat → V} {v : V} (hp : σ[i1]? = some (some (.ref p))) (hi : Ed ti σ G (dNat j)) (o : Hid O H) (s : Le G (hid O H)) (hH : H p = some (.lst (tab n f))) (hj : j < n)
    (k : ∀ H2, Le H H2 → D.nx σ (upd H2 p (.lst (tab n fun k => if k = j then v else f k)))) : tAsg (tC v) (gSub (tVar i1) ti rSetL) D σ H := by
  refine ⟨.ref p, hp, hi O H o s _ fun x H2 s2 hx => ?_⟩
  refine ⟨p, tab n f, (j : Int), j, rfl, hx.int_inv, s2.lst hH, ?_, ?_⟩
  · unfold ixN
    rw [tab_len, if_pos (by omega), if_pos (by omega)]
    simp
  · rw [tab_set]
    exact k H2 s2
/-- [False] * (1 << many) -/
theorem rep_tab {G : Hp} {O : Addr → Prop} {tb : TE} {n : Nat} {b : Bool} {Q : VK} (hb : Ed tb σ G (dNat n)) (hn : n ≤ 100000) (o : Hid O H) (s : Le G (hid O H))
    (k : ∀ p H2, H p = none → Le H H2 → H2 p = some (.lst (tab n fun _ => .bl b)) → Q (.ref p) H2) : tOp rRep (tLst (tCons (tC (.bl b)) tNil)) tb σ H Q := by
  refine ⟨(by show 1 ≤ sizeLine; decide), fun l nl => ?_⟩
  have sl := same_new (o := .lst [.bl b]) nl
  refine hb O _ (o.mono sl) (s.trans (hid_same sl)) _ fun x H2 s2 hx => ?_
  refine ⟨l, (n : Int), [.bl b], rfl, hx.int_inv, s2.lst upd_same, by omega, by omega, ?_, fun p np => ?_⟩
  · show 1 * (n : Int).toNat ≤ sizeLine
    rw [Int.toNat_natCast, Nat.one_mul]
    exact Nat.le_trans hn (by decide)
  · rw [Int.toNat_natCast, tab_const]
    have np0 : H p = none := Le.free (sl.trans s2) np
    exact k p _ np0 (sl.trans (s2.trans (same_new np))) upd_same
end
end L2
namespace L2
open PySem PySem.Spec PyProof.Rows PySem.W
section
variable {K : PySem.W.Frag} {σ : L2.St} {H : Hp}
theorem tab_snoc (n : Nat) (f : Nat → V) : tab n f ++ [f n] = tab (n + 1) f := by
  unfold tab
  rw [List.range_succ, List.map_append]
  rfl
/-- xs.append(e) -/
theorem app_run {D : Ends} {G : Hp} {O : Addr → Prop} {te : TE} {d : PyData} {i1 p : Nat} {xs : List V} (hp : σ[i1]? = some (some (.ref p))) (he : Ed te σ G d) (o : Hid O H) (s : Le G (hid O H)) (hH : H p = some (.lst xs)) (hl : xs.length < 100000)
    (k : ∀ y H2, Le H H2 → Dq (hid O H2) y d → D.nx σ (upd H2 p (.lst (xs ++ [y])))) : tDrop (tBM K "list" rAppend (tVar i1) (tCons te tNil)) D σ H := by
  refine ⟨.ref p, hp, .inl ⟨rfl, xs, .inl (.inl hH)⟩, he O H o s _ fun y H2 s2 hy => ?_⟩
  exact ⟨p, xs, y, rfl, rfl, s2.lst hH, Nat.lt_of_lt_of_le hl (by decide), k y H2 s2 hy⟩
end
end L2

set_option Elab.async false
set_option linter.all false
/-! the mirror: sets by masks, ranks by bases -/
namespace MB
open PySem L2
theorem places_lt {m n k : Nat} (h : k ∈ placesIn m n) : k < n ∧ m.testBit k = true := by
  unfold placesIn at h
  rw [List.mem_filter, List.mem_range] at h
  exact h
theorem xor_lt {m n k : Nat} (hm : m < 2 ^ n) (hk : k < n) : m ^^^ 2 ^ k < 2 ^ n := Nat.xor_lt_two_pow hm (Nat.pow_lt_pow_right (by decide) hk)
theorem pow10 {n : Nat} (h : n ≤ 10) : 2 ^ n ≤ 1024 := Nat.pow_le_pow_right (by decide) h

/-- how many places a mask has -/
theorem cnt_eq (n m : Nat) : cnt n m = ((List.range n).filter fun k => m.testBit k).length := rfl
theorem cnt_mono {n a b : Nat} (h : sub a b) : cnt n a ≤ cnt n b := by
  unfold cnt placesIn
  rw [← List.countP_eq_length_filter, ← List.countP_eq_length_filter]
  exact List.countP_mono_left fun k _ hk => sub_iff.mp h k hk
theorem cnt_clr {n m k : Nat} (hk : k < n) (hm : m.testBit k = true) : cnt n (clr m k) + 1 = cnt n m := by
  unfold cnt placesIn
  induction n with
  | zero => omega
  | succ n ih =>
    rw [List.range_succ, List.filter_append, List.filter_append, List.length_append, List.length_append]
    by_cases e : k = n
    · subst e
      have e1 : (List.range k).filter (fun j => (clr m k).testBit j) = (List.range k).filter fun j => m.testBit j := by
        refine List.filter_congr fun j hj => ?_
        rw [List.mem_range] at hj
        rw [clr_bit]
        have : ¬ k = j := by omega
        simp [this]
      have h1 : (clr m k).testBit k = false := by rw [clr_bit]; simp
      rw [e1, List.filter_cons, List.filter_cons, if_neg (by simp [h1]), if_pos hm]
      simp
    · have := ih (by omega)
      have h1 : (clr m k).testBit n = m.testBit n := by rw [clr_bit]; simp [e]
      rw [List.filter_cons, List.filter_cons, h1]
      cases m.testBit n
      · simp; omega
      · simp; omega
theorem xor_clr {m k : Nat} (h : m.testBit k = true) : m ^^^ 2 ^ k = clr m k := by
  unfold clr
  rw [if_pos h]
/-- the greatest number of places that a base has in a mask -/
theorem fold_max (l : List Nat) : ∀ a, a ≤ l.foldl max a ∧ (∀ x, x ∈ l → x ≤ l.foldl max a) ∧ (l.foldl max a = a ∨ l.foldl max a ∈ l) := by
  induction l with
  | nil => exact fun a => ⟨Nat.le_refl _, fun x h => absurd h List.not_mem_nil, .inl rfl⟩
  | cons y r ih =>
    intro a
    obtain ⟨h1, h2, h3⟩ := ih (max a y)
    refine ⟨Nat.le_trans (Nat.le_max_left _ _) h1, fun x hx => ?_, ?_⟩
    · rcases List.mem_cons.mp hx with e | e
      · rw [e]; exact Nat.le_trans (Nat.le_max_right _ _) h1
      · exact h2 x e
    · show r.foldl max (max a y) = a ∨ r.foldl max (max a y) ∈ y :: r
      rcases h3 with e | e
      · rw [e]
        rcases Nat.le_total a y with h | h
        · rw [Nat.max_eq_right h]; exact .inr (List.mem_cons_self ..)
        · rw [Nat.max_eq_left h]; exact .inl rfl
      · exact .inr (List.mem_cons_of_mem _ e)
theorem rank_ge {n : Nat} {bs : List Nat} {m b : Nat} (h : b ∈ bs) : cnt n (m &&& b) ≤ rankOf n bs m :=
  (fold_max _ 0).2.1 _ (List.mem_map.mpr ⟨b, h, rfl⟩)
theorem rank_at (n : Nat) (bs : List Nat) (m : Nat) : rankOf n bs m = 0 ∨ ∃ b, b ∈ bs ∧ rankOf n bs m = cnt n (m &&& b) := by
  rcases (fold_max (bs.map fun b => cnt n (m &&& b)) 0).2.2 with e | e
  · exact .inl e
  · obtain ⟨b, h, e⟩ := List.mem_map.mp e
    exact .inr ⟨b, h, e.symm⟩
theorem rank_le {n : Nat} {bs : List Nat} {m x : Nat} (h : ∀ b, b ∈ bs → cnt n (m &&& b) ≤ x) : rankOf n bs m ≤ x := by
  rcases rank_at n bs m with e | ⟨b, hb, e⟩
  · omega
  · rw [e]; exact h b hb
theorem and_sub_l (a b : Nat) : sub (a &&& b) a := sub_iff.mpr fun i hi => by rw [Nat.testBit_and] at hi; simp at hi; exact hi.1
theorem and_sub_r (a b : Nat) : sub (a &&& b) b := sub_iff.mpr fun i hi => by rw [Nat.testBit_and] at hi; simp at hi; exact hi.2
theorem and_mono {a b c : Nat} (h : sub a b) : sub (a &&& c) (b &&& c) := sub_iff.mpr fun i hi => by
  rw [Nat.testBit_and] at hi ⊢
  simp at hi
  simp [sub_iff.mp h i hi.1, hi.2]
theorem rank_mono {n : Nat} {bs : List Nat} {a b : Nat} (h : sub a b) : rankOf n bs a ≤ rankOf n bs b :=
  rank_le fun x hx => Nat.le_trans (cnt_mono (and_mono h)) (rank_ge hx)
theorem rank_below {n : Nat} {bs : List Nat} {m : Nat} (h : belowAny bs m = true) : rankOf n bs m = cnt n m := by
  obtain ⟨b, hb, e⟩ := below_iff.mp h
  refine Nat.le_antisymm (rank_le fun x _ => cnt_mono (and_sub_l m x)) ?_
  have := rank_ge (n := n) (m := m) hb
  rwa [show m &&& b = m from e] at this
theorem rank_zero (n : Nat) (bs : List Nat) : rankOf n bs 0 = 0 := by
  have : rankOf n bs 0 ≤ 0 := rank_le fun b _ => by
    rw [Nat.zero_and]
    unfold cnt placesIn
    simp
  omega
/-- one place less: no base has the mask -/
theorem rank_step {n : Nat} {bs : List Nat} {m : Nat} (hm : m < 2 ^ n) (h : belowAny bs m = false) (h0 : 0 < m) :
    (∃ k, k ∈ placesIn m n ∧ rankOf n bs (m ^^^ 2 ^ k) = rankOf n bs m) ∧ ∀ k, k ∈ placesIn m n → rankOf n bs (m ^^^ 2 ^ k) ≤ rankOf n bs m := by
  have up : ∀ k, k ∈ placesIn m n → rankOf n bs (m ^^^ 2 ^ k) ≤ rankOf n bs m := fun k hk => by
    rw [xor_clr (places_lt hk).2]
    exact rank_mono (clr_sub m k)
  refine ⟨?_, up⟩
  have ⟨i, hi⟩ : ∃ i, m.testBit i = true := by
    refine Classical.byContradiction fun z => ?_
    have : m = 0 := Nat.eq_of_testBit_eq fun i => by
      rw [Nat.zero_testBit]
      cases e : m.testBit i with
      | true => exact absurd ⟨i, e⟩ z
      | false => rfl
    omega
  have mem : ∀ k, m.testBit k = true → k ∈ placesIn m n := fun k hk => by
    unfold placesIn
    rw [List.mem_filter, List.mem_range]
    exact ⟨lt_bit hm hk, hk⟩
  rcases rank_at n bs m with e | ⟨b, hb, e⟩
  · refine ⟨i, mem i hi, ?_⟩
    have := up i (mem i hi)
    omega
  · have hn : ¬ sub m b := fun z => by
      rw [below_iff.mpr ⟨b, hb, z⟩] at h
      cases h
    have ⟨k, h1, h2⟩ : ∃ k, m.testBit k = true ∧ b.testBit k = false := by
      refine Classical.byContradiction fun z => hn (sub_iff.mpr fun k hk => ?_)
      cases e : b.testBit k with
      | true => rfl
      | false => exact absurd ⟨k, hk, e⟩ z
    refine ⟨k, mem k h1, Nat.le_antisymm (up k (mem k h1)) ?_⟩
    have e2 : (m ^^^ 2 ^ k) &&& b = m &&& b := by
      refine Nat.eq_of_testBit_eq fun j => ?_
      rw [xor_clr h1, Nat.testBit_and, Nat.testBit_and, clr_bit]
      by_cases ej : k = j
      · subst ej; simp [h2]
      · simp [ej]
    rw [e, ← e2]
    exact rank_ge hb
end MB

set_option Elab.async false
set_option linter.all false
namespace MB
open PySem
/-- sums of different powers of two -/
theorem sum_pow_bit : ∀ (L : List Nat), L.Nodup → ∀ i, ((L.map fun k => 2 ^ k).sum).testBit i = decide (i ∈ L) := by
  -- by leaving out the greatest place, so that the rest is less than its power
  have key : ∀ (n : Nat) (L : List Nat), L.Nodup → (∀ k, k ∈ L → k < n) → (L.map fun k => 2 ^ k).sum < 2 ^ n ∧ ∀ i, ((L.map fun k => 2 ^ k).sum).testBit i = decide (i ∈ L) := by
    intro n
    induction n with
    | zero =>
      intro L _ h
      have : L = [] := by
        cases L with
        | nil => rfl
        | cons a r => exact absurd (h a (List.mem_cons_self ..)) (Nat.not_lt_zero a)
      subst this
      exact ⟨by decide, fun i => by simp⟩
    | succ n ih =>
      intro L nd h
      by_cases hn : n ∈ L
      · have hp : L.Perm (n :: L.erase n) := List.perm_cons_erase hn
        have nd' : (L.erase n).Nodup := nd.erase n
        have hmem : ∀ k, k ∈ L.erase n ↔ k ≠ n ∧ k ∈ L := fun k => by rw [nd.mem_erase_iff]
        have hlt : ∀ k, k ∈ L.erase n → k < n := fun k hk => by
          have := (hmem k).mp hk
          have := h k this.2
          omega
        obtain ⟨h1, h2⟩ := ih (L.erase n) nd' hlt
        have es : (L.map fun k => 2 ^ k).sum = 2 ^ n + ((L.erase n).map fun k => 2 ^ k).sum := by
          rw [(hp.map _).sum_nat, List.map_cons, List.sum_cons]
        rw [es]
        refine ⟨by rw [Nat.pow_succ]; omega, fun i => ?_⟩
        rcases Nat.lt_trichotomy i n with hi | hi | hi
        · rw [Nat.testBit_two_pow_add_gt hi, h2 i]
          have : i ≠ n := by omega
          simp [hmem, this]
        · subst hi
          rw [Nat.testBit_two_pow_add_eq, h2 i]
          simp [hmem, hn]
        · have b : 2 ^ n + ((L.erase n).map fun k => 2 ^ k).sum < 2 ^ i := Nat.lt_of_lt_of_le (by rw [Nat.pow_succ]; omega : _ < 2 ^ (n + 1)) (Nat.pow_le_pow_right (by decide) hi)
          rw [Nat.testBit_lt_two_pow b]
          have : i ∉ L := fun z => by have := h i z; omega
          simp [this]
      · obtain ⟨h1, h2⟩ := ih L nd fun k hk => by
          have := h k hk
          have : k ≠ n := fun z => hn (z ▸ hk)
          omega
        exact ⟨Nat.lt_of_lt_of_le h1 (Nat.pow_le_pow_right (by decide) (Nat.le_succ n)), h2⟩
  intro L nd i
  refine (key (L.foldl max 0 + 1) L nd fun k hk => ?_).2 i
  have := (fold_max L 0).2.1 k hk
  omega
theorem sum_pow_lt {n : Nat} {L : List Nat} (nd : L.Nodup) (h : ∀ k, k ∈ L → k < n) : (L.map fun k => 2 ^ k).sum < 2 ^ n := by
  refine Nat.lt_pow_two_of_testBit _ fun i hi => ?_
  rw [sum_pow_bit L nd]
  have : i ∉ L := fun z => by have := h i z; omega
  simp [this]
theorem zip_nd (g : List Int) (p : Int × Nat → Bool) : ((g.zipIdx.filter p).map (·.2)).Nodup := by
  have h : (g.zipIdx.map (·.2)).Nodup := by
    rw [List.zipIdx_map_snd]
    exact List.nodup_range' 
  exact (List.filter_sublist.map _).nodup h
theorem msk_eq (l g : List Int) : mskOf l g = (((g.zipIdx.filter fun x => decide (x.1 ∈ l)).map (·.2)).map fun k => 2 ^ k).sum := by
  unfold mskOf
  rw [List.map_map]
  rfl
theorem zip_mem {g : List Int} {p : Int × Nat → Bool} {i : Nat} : i ∈ (g.zipIdx.filter p).map (·.2) ↔ ∃ x, g[i]? = some x ∧ p (x, i) = true := by
  rw [List.mem_map]
  constructor
  · rintro ⟨⟨x, j⟩, h, rfl⟩
    obtain ⟨h1, h2⟩ := List.mem_filter.mp h
    exact ⟨x, List.mem_zipIdx_iff_getElem?.mp h1, h2⟩
  · rintro ⟨x, h1, h2⟩
    exact ⟨(x, i), List.mem_filter.mpr ⟨List.mem_zipIdx_iff_getElem?.mpr h1, h2⟩, rfl⟩
theorem msk_bit (l g : List Int) (i : Nat) : (mskOf l g).testBit i = true ↔ ∃ x, g[i]? = some x ∧ x ∈ l := by
  rw [msk_eq, sum_pow_bit _ (zip_nd _ _), decide_eq_true_eq, zip_mem]
  simp
theorem msk_lt (l g : List Int) : mskOf l g < 2 ^ g.length := by
  rw [msk_eq]
  refine sum_pow_lt (zip_nd _ _) fun k hk => ?_
  obtain ⟨x, h, _⟩ := zip_mem.mp hk
  exact (List.getElem?_eq_some_iff.mp h).1
theorem mem_setOf {m : Nat} {g : List Int} {x : Int} : x ∈ setOf m g ↔ ∃ i, g[i]? = some x ∧ m.testBit i = true := by
  unfold setOf
  rw [List.mem_map]
  constructor
  · rintro ⟨⟨y, j⟩, h, rfl⟩
    obtain ⟨h1, h2⟩ := List.mem_filter.mp h
    exact ⟨j, List.mem_zipIdx_iff_getElem?.mp h1, h2⟩
  · rintro ⟨i, h1, h2⟩
    exact ⟨(x, i), List.mem_filter.mpr ⟨List.mem_zipIdx_iff_getElem?.mpr h1, h2⟩, rfl⟩
theorem nd_at {g : List Int} (nd : g.Nodup) {i j : Nat} {x : Int} (h : g[i]? = some x) (h' : g[j]? = some x) : i = j := by
  obtain ⟨h1, e1⟩ := List.getElem?_eq_some_iff.mp h
  obtain ⟨h2, e2⟩ := List.getElem?_eq_some_iff.mp h'
  exact (List.getElem_inj nd).mp (e1.trans e2.symm)
theorem msk_set {m : Nat} {g : List Int} (nd : g.Nodup) (hm : m < 2 ^ g.length) : mskOf (setOf m g) g = m := by
  refine Nat.eq_of_testBit_eq fun i => ?_
  have key : (mskOf (setOf m g) g).testBit i = true ↔ m.testBit i = true := by
    rw [msk_bit]
    constructor
    · rintro ⟨x, h, hx⟩
      obtain ⟨j, h1, h2⟩ := mem_setOf.mp hx
      rw [nd_at nd h h1]
      exact h2
    · intro h
      have hi := lt_bit hm h
      exact ⟨g[i], List.getElem?_eq_getElem hi, mem_setOf.mpr ⟨i, List.getElem?_eq_getElem hi, h⟩⟩
  cases h1 : (mskOf (setOf m g) g).testBit i <;> cases h2 : m.testBit i <;> simp_all
theorem set_sub (m : Nat) (g : List Int) : (setOf m g).Sublist g := by
  unfold setOf
  have h : (g.zipIdx.map (·.1)).Sublist g := by rw [List.zipIdx_map_fst]; exact List.Sublist.refl g
  exact (List.filter_sublist.map _).trans h
theorem sub_filter : ∀ {l g : List Int}, l.Sublist g → g.Nodup → g.filter (fun x => decide (x ∈ l)) = l := by
  intro l g h
  induction h with
  | slnil => intro _; rfl
  | @cons l g a h ih =>
    intro nd
    obtain ⟨h1, h2⟩ := List.nodup_cons.mp nd
    have : a ∉ l := fun z => h1 (h.subset z)
    rw [List.filter_cons, if_neg (by simp [this])]
    exact ih h2
  | @cons_cons l g a h ih =>
    intro nd
    obtain ⟨h1, h2⟩ := List.nodup_cons.mp nd
    rw [List.filter_cons, if_pos (by simp)]
    refine congrArg _ ?_
    rw [← ih h2]
    refine List.filter_congr fun x hx => ?_
    have : x ≠ a := fun z => h1 (z ▸ hx)
    have e : x ∈ a :: l ↔ x ∈ l := by rw [List.mem_cons]; exact ⟨fun z => z.elim (fun q => absurd q this) id, .inr⟩
    rw [ih h2]
    simp [e]
theorem sub_eq {l l' g : List Int} (h : l.Sublist g) (h' : l'.Sublist g) (nd : g.Nodup) (e : ∀ x, x ∈ l ↔ x ∈ l') : l = l' := by
  rw [← sub_filter h nd, ← sub_filter h' nd]
  exact List.filter_congr fun x _ => by simp [e x]
theorem set_msk {l g : List Int} (h : l.Sublist g) (nd : g.Nodup) : setOf (mskOf l g) g = l := by
  refine sub_eq (set_sub _ _) h nd fun x => ?_
  rw [mem_setOf]
  constructor
  · rintro ⟨i, h1, h2⟩
    obtain ⟨y, h3, h4⟩ := (msk_bit l g i).mp h2
    rw [h1] at h3
    cases h3
    exact h4
  · intro hx
    obtain ⟨i, hi, e⟩ := List.getElem_of_mem (h.subset hx)
    exact ⟨i, by rw [List.getElem?_eq_getElem hi, e], (msk_bit l g i).mpr ⟨x, by rw [List.getElem?_eq_getElem hi, e], hx⟩⟩
/-- the sum of the members' own powers -/
theorem msk_sum {l g : List Int} (h : l.Sublist g) (nd : g.Nodup) : (l.map fun x => 2 ^ g.idxOf x).sum = mskOf l g := by
  have hi : ∀ x, x ∈ l → g[g.idxOf x]? = some x := fun x hx => by
    have := List.idxOf_lt_length_of_mem (h.subset hx)
    rw [List.getElem?_eq_getElem this, List.getElem_idxOf]
  have ndl : (l.map fun x => g.idxOf x).Nodup := by
    show List.Pairwise (· ≠ ·) (l.map fun x => g.idxOf x)
    rw [List.pairwise_map]
    refine List.Pairwise.imp_of_mem (fun {a b} ha hb (hab : a ≠ b) e => hab ?_) (h.nodup nd)
    have := hi a ha
    rw [e, hi b hb] at this
    exact (Option.some.inj this).symm
  have e : (l.map fun x => 2 ^ g.idxOf x) = (l.map fun x => g.idxOf x).map fun k => 2 ^ k := by rw [List.map_map]; rfl
  rw [e]
  refine Nat.eq_of_testBit_eq fun i => ?_
  rw [sum_pow_bit _ ndl]
  have key : i ∈ l.map (fun x => g.idxOf x) ↔ (mskOf l g).testBit i = true := by
    rw [msk_bit, List.mem_map]
    constructor
    · rintro ⟨x, hx, rfl⟩
      exact ⟨x, hi x hx, hx⟩
    · rintro ⟨x, h1, h2⟩
      exact ⟨x, h2, nd_at nd (hi x h2) h1⟩
  cases h1 : (mskOf l g).testBit i
  · simp only [decide_eq_false_iff_not]
    intro z
    rw [key.mp z] at h1
    cases h1
  · exact decide_eq_true (key.mpr h1)
end MB

set_option Elab.async false
set_option linter.all false
set_option maxRecDepth 100000
/-! dicts from ints to data -/
namespace L2
open PySem PySem.Spec PyProof.Rows PySem.W
section
variable {α : Type} {K : PySem.W.Frag} {σ : L2.St} {H H' : Hp} {td ty tk tv : TE} {xs : List α}
inductive KvAll (H : Hp) : List (Key × V) → List (Int × PyData) → Prop
  | nil : KvAll H [] []
  | cons {k : Int} {v : V} {d : PyData} {ks : List (Key × V)} {kvs : List (Int × PyData)} : Dq H v d → KvAll H ks kvs → KvAll H ((.inl k, v) :: ks) ((k, d) :: kvs)
theorem KvAll.mono (s : Le H H') {ks : List (Key × V)} {kvs : List (Int × PyData)} (h : KvAll H ks kvs) : KvAll H' ks kvs := by
  induction h with
  | nil => exact .nil
  | cons d _ ih => exact .cons (d.mono s) ih
theorem KvAll.len {ks : List (Key × V)} {kvs : List (Int × PyData)} (h : KvAll H ks kvs) : ks.length = kvs.length := by
  induction h with
  | nil => rfl
  | cons _ _ ih => rw [List.length_cons, List.length_cons, ih]
theorem KvAll.snoc {ks : List (Key × V)} {kvs : List (Int × PyData)} {k : Int} {v : V} {d : PyData} (h : KvAll H ks kvs) (hd : Dq H v d) : KvAll H (ks ++ [(.inl k, v)]) (kvs ++ [(k, d)]) := by
  induction h with
  | nil => exact .cons hd .nil
  | cons d _ ih => exact .cons d ih
theorem KvAll.look {ks : List (Key × V)} {kvs : List (Int × PyData)} (h : KvAll H ks kvs) (k : Int) : (valV ks (Sum.inl k) = none ∧ k ∉ kvs.map (·.1)) ∨ ∃ v d, valV ks (Sum.inl k) = some v ∧ Dq H v d ∧ (k, d) ∈ kvs := by
  induction h with
  | nil => exact .inl ⟨rfl, by simp⟩
  | @cons j v d ks kvs hd _ ih =>
    by_cases e : j = k
    · subst e
      exact .inr ⟨v, d, valV_pos rfl, hd, List.mem_cons_self ..⟩
    · have ne : ¬ (Sum.inl j : Key) = Sum.inl k := fun z => e (Sum.inl.inj z)
      rw [valV_neg ne]
      rcases ih with ⟨h1, h2⟩ | ⟨v', d', h1, h2, h3⟩
      · refine .inl ⟨h1, ?_⟩
        rw [List.map_cons, List.mem_cons]
        exact fun z => z.elim (fun z => e z.symm) h2
      · exact .inr ⟨v', d', h1, h2, List.mem_cons_of_mem _ h3⟩
/-- the value is a dict of these -/
def DpI (H : Hp) (v : V) (kvs : List (Int × PyData)) : Prop := ∃ a ks, v = .ref a ∧ H a = some (.dK ks) ∧ KvAll H ks kvs
theorem DpI.mono {v : V} {kvs : List (Int × PyData)} (s : Le H H') (h : DpI H v kvs) : DpI H' v kvs := by
  obtain ⟨a, ks, e, h1, h2⟩ := h
  exact ⟨a, ks, e, s.dK h1, h2.mono s⟩
def EdK (te : TE) (σ : L2.St) (H : Hp) (kvs : List (Int × PyData)) : Prop := ∀ (O : Addr → Prop) (H1 : Hp), Hid O H1 → Le H (hid O H1) → ∀ Q : VK, (∀ v H2, Le H1 H2 → DpI (hid O H2) v kvs → Q v H2) → te σ H1 Q
theorem edk_var {i : Nat} {v : V} {kvs : List (Int × PyData)} (h : σ[i]? = some (some v)) (hd : DpI H v kvs) : EdK (tVar i) σ H kvs := fun O H1 _ s Q q => ⟨v, h, q v H1 (.refl H1) (hd.mono s)⟩
/-- d[k] -/
theorem ed_dget {kvs : List (Int × PyData)} {k : Int} {d : PyData} (hk : k ∈ kvs.map (·.1)) (hu : ∀ d', (k, d') ∈ kvs → d' = d) (hd : EdK td σ H kvs) (hy : Ed ty σ H (.int k)) : Ed (tDGet td ty) σ H d := fun O H1 o s Q q =>
  hd O H1 o s _ fun v H2 s2 hv => hy O H2 (o.mono s2) (s.trans (hid_same s2)) _ fun y H3 s3 hy3 => by
    obtain ⟨a, ks, rfl, h1, h2⟩ := hv.mono (hid_same s3)
    rcases h2.look k with ⟨_, z⟩ | ⟨u, d', e, du, m⟩
    · exact absurd hk z
    · have ed := hu d' m
      subst ed
      refine ⟨a, u, rfl, ?_, q u H3 (s2.trans s3) du⟩
      rw [hy3.int_inv]
      have := DGet.k (k := Sum.inl k) ((hid_sub _ _).dK h1)
      rw [e] at this
      exact this
/-- k in d -/
theorem ed_din {kvs : List (Int × PyData)} {k : Int} (hy : Ed ty σ H (.int k)) (hd : EdK td σ H kvs) : Ed (tDIn ty td) σ H (.bool (decide (k ∈ kvs.map (·.1)))) := fun O H1 o s Q q =>
  hy O H1 o s _ fun y H2 s2 hy2 => hd O H2 (o.mono s2) (s.trans (hid_same s2)) _ fun v H3 s3 hv => by
    obtain ⟨a, ks, rfl, h1, h2⟩ := hv
    have g := DGet.k (k := Sum.inl k) ((hid_sub _ _).dK h1)
    refine ⟨a, _, rfl, by rw [hy2.int_inv]; exact g, ?_⟩
    rcases h2.look k with ⟨e, z⟩ | ⟨u, d', e, du, m⟩
    · rw [e]
      have := q (.bl (decide (k ∈ kvs.map (·.1)))) H3 (s2.trans s3) (.bl _)
      simpa [z] using this
    · rw [e]
      have z : k ∈ kvs.map (·.1) := List.mem_map.mpr ⟨_, m, rfl⟩
      have := q (.bl (decide (k ∈ kvs.map (·.1)))) H3 (s2.trans s3) (.bl _)
      simpa [z] using this
/-- {k: v for .. in ..}, keys that differ -/
theorem edk_dc {wi : TI} {g : TG} {B : α → St → St → Hp → Prop} {vs : List Nat} (κ : α → Int) (f : α → PyData) (hlen : xs.length ≤ 100000) (nd : (xs.map κ).Nodup) (hi : Iw wi g σ H xs B) (hw : ∀ x σ4 H4, B x (wipe σ vs) σ4 H4 → wipe σ4 vs = wipe σ vs)
    (hb : ∀ x, x ∈ xs → ∀ σ2 H2, Le H H2 → B x (wipe σ vs) σ2 H2 → Ed tk σ2 H2 (.int (κ x)) ∧ Ed tv σ2 H2 (f x)) :
    EdK (tDc wi g tYes tk tv vs) σ H (xs.map fun x => (κ x, f x)) := by
  intro O H0 o s Q q
  refine hi O H0 o s _ fun J H1 s1 turn stop => ?_
  intro D nD
  have o1 := o.mono s1
  have hOD : ¬ O D := o1.new nD
  have nDh : hid O H1 D = none := by rw [hid_out hOD]; exact nD
  have sD := same_new (o := .dK []) nD
  refine ⟨fun i m H2 => m = xs.length - i ∧ i ≤ xs.length ∧ Le H1 H2 ∧ ∃ ks, H2 D = some (.dK ks) ∧ KvAll (hid (plus O D) H2) ks ((xs.take i).map fun x => (κ x, f x)), ⟨_, rfl, Nat.zero_le _, sD, [], upd_same, .nil⟩, ?_⟩
  rintro i m H2 ⟨rfl, hil, s2, ks, hD, hks⟩
  have o2 : Hid (plus O D) H2 := (o1.mono s2).plus hD
  by_cases hlt : i < xs.length
  · have hx : xs[i]? = some xs[i] := List.getElem?_eq_getElem hlt
    obtain ⟨go, yl⟩ := turn i xs[i] H2 hx (hid_same s2)
    have htake : xs.take (i + 1) = xs.take i ++ [xs[i]] := by rw [List.take_add_one, hx]; rfl
    have hnew : valV ks (Sum.inl (κ xs[i]) : Key) = none := by
      rcases hks.look (κ xs[i]) with ⟨e, _⟩ | ⟨_, d', _, _, mm⟩
      · exact e
      · exfalso
        obtain ⟨x, hx1, hx2⟩ := List.mem_map.mp mm
        have e1 : κ x = κ xs[i] := (Prod.mk.inj hx2).1
        obtain ⟨j, hj, ej⟩ := List.getElem_of_mem hx1
        rw [List.length_take] at hj
        rw [List.getElem_take] at ej
        have h1 : (xs.map κ)[j]'(by rw [List.length_map]; omega) = (xs.map κ)[i]'(by rw [List.length_map]; exact hlt) := by
          rw [List.getElem_map, List.getElem_map, ej, e1]
        have := (List.getElem_inj nd).mp h1
        omega
    refine .inr ⟨go, fun H' => i + 1 ≤ xs.length ∧ Le H1 H' ∧ ∃ ks, H' D = some (.dK ks) ∧ KvAll (hid (plus O D) H') ks ((xs.take (i + 1)).map fun x => (κ x, f x)), fun H' ⟨a1, a2, a3⟩ => ⟨_, ?_, rfl, a1, a2, a3⟩, fun v H3 hy => ?_⟩
    · omega
    refine yl v H3 hy (plus O D) (wipe σ vs) _ o2 (hid_add (hid_same s2) nDh) fun σ4 H4 s4 hB => ⟨hw _ _ _ hB, ?_⟩
    have s14 : Le H1 H4 := s2.trans s4
    have o4 := o2.mono s4
    have sB : Le H (hid (plus O D) H4) := s.trans (hid_same s1) |>.trans (hid_add (hid_same s14) nDh)
    obtain ⟨hk, hv⟩ := hb xs[i] (List.getElem_mem hlt) σ4 _ sB hB
    unfold tYes
    dsimp only
    rw [if_pos rfl]
    refine hk (plus O D) H4 o4 (.refl _) _ fun y H5 s5 hy5 => hv (plus O D) H5 (o4.mono s5) (hid_same s5) _ fun z H6 s6 hz => ?_
    have hD6 : H6 D = some (.dK ks) := s6.dK (s5.dK (s4.dK hD))
    refine ⟨ks, Sum.inl (κ xs[i]), hy5.int_inv, hD6, ?_, hlt, (s14.trans (s5.trans s6)).updN nD (nt_dK hD6), ks ++ [(Sum.inl (κ xs[i]), z)], ?_, ?_⟩
    · rw [hks.len, List.length_map, List.length_take]
      exact Nat.lt_of_le_of_lt (Nat.le_trans (Nat.min_le_right _ _) hlen) (by decide)
    · rw [upd_same, putK_new _ hnew]
    · rw [hid_upd _ (nt_dK hD6) rfl, htake, List.map_append]
      exact (hks.mono (hid_same (s4.trans (s5.trans s6)))).snoc hz
  · have e : i = xs.length := by omega
    subst e
    rw [List.take_length] at hks
    refine .inl ⟨stop H2 (hid_same s2), q _ _ (s1.trans s2) ⟨D, ks, rfl, ?_, hks.mono (hid_plus _ _ _)⟩⟩
    rw [hid_out hOD]
    exact hD
theorem asg_edk {te : TE} {i : Nat} {D : Ends} {G : Hp} {O : Addr → Prop} {kvs : List (Int × PyData)} (h : EdK te σ G kvs) (o : Hid O H) (s : Le G (hid O H)) (k : ∀ v H2, Le H H2 → DpI (hid O H2) v kvs → D.nx (σ.set i (some v)) H2) : tAsg te (gName i) D σ H :=
  h O H o s _ fun v H2 s2 hv => k v H2 s2 hv
end
end L2

set_option Elab.async false
set_option linter.all false
set_option maxRecDepth 100000
/-! a dict comprehension assigned to a local on one line -/
namespace L2
open PySem PySem.Spec PyProof.Rows PySem.W
section
variable {X : Cx}
theorem ps_setDc {i : Nat} {y : Str} {py : Pos} {kx vx tg iter : Expr} {ifs : List Expr} {scope : Scope} {own : List (Str × Nat)} {pos spos : Pos} {wi : TI} {g : TG} {tt : TT} {tk tv : TE} (hc : X.calm = true) (hN : X.N.Nodup) (hy : X.N[i]? = some y) (hyl : X.env.scope.names.lookup y = some .local)
    (hsw : swapsWith (.DictComp kx vx [⟨tg, iter, ifs, 0⟩] scope pos) (some (.Name y py)) spos.line X.env = pure true) (hi : PI X tg iter wi) (ok : BlkOk X.N X.env.scope scope own)
    (hg : ∀ (s : Shared) (H : Hp) (C : Addr) (cl : List (Str × Addr)) (fp : List Addr), PG (X.blk s H scope (compEnvC scope cl C X.env) fp) tg g) (ht : ∀ (s : Shared) (H : Hp) (C : Addr) (cl : List (Str × Addr)) (fp : List Addr), PTs (X.blk s H scope (compEnvC scope cl C X.env) fp) ifs tt)
    (hk : ∀ (s : Shared) (H : Hp) (C : Addr) (cl : List (Str × Addr)) (fp : List Addr), PE (X.blk s H scope (compEnvC scope cl C X.env) fp) kx tk)
    (he : ∀ (s : Shared) (H : Hp) (C : Addr) (cl : List (Str × Addr)) (fp : List Addr), PE (X.blk s H scope (compEnvC scope cl C X.env) fp) vx tv) (hs : ∀ x, foldedSetIterable iter X.env x = pure x := by intro _; rfl) :
    PS X (.Assign [.Name y py] (.DictComp kx vx [⟨tg, iter, ifs, 0⟩] scope pos) spos) (tAsg (tDc wi g tt tk tv (own.map (·.2))) (gName i)) := by
  refine ⟨fun pins s σ H D I h => ?_⟩
  rw [exec_Assign_Name_used _ _ _ _ hsw]
  refine wpAny_bind (wpAny_standAt (wpAny_bind ?_))
  show wpAny _ X.A (do let _ ← comprehension (.DictComp kx vx [⟨tg, iter, ifs, 0⟩] scope pos) scope X.env (firstIterPos [⟨tg, iter, ifs, 0⟩] pos) newDict false (eval iter X.env) (some (assign (.Name y py) X.env))) _ _ s
  have h : tDc wi g tt tk tv (own.map (·.2)) σ H (fun x H1 => gName i x σ H1 D.nx) := h
  refine wpAny_bind (thn (dc_core (Qf := fun _ s' => SP X pins D .next s') hc hN I hi ok hg ht hk he hs h fun L C s' m H' I' q hn f => ?_) fun _ s' hq => wpAny_pure (wpAny_pure hq))
  show wpAny _ _ (assign (.Name y py) X.env (.ref L)) _ _ _
  refine wpAny_assign_Name (store_ok2 (v := V.ref L) I' hN hy (.inl hyl) rfl (fun s2 I2 ⟨a, sb, ha⟩ => ?_) (.inr hyl))
  obtain ⟨f0, f1, f2, f3, f4, f5⟩ := f
  have haC : C ≠ a := by
    rcases ha with z | z
    · rw [z]; exact f1
    · exact fun e => f4 y a z e.symm
  refine ⟨m, hn.sameBut sb haC, fun h3 sb3 => ?_⟩
  exact ⟨_, H', I2.turned (t' := s2.toks) (fun b o hb e => (sb3.2 b hb).trans e) f0 f1 f3 f4 f5, q⟩
theorem sw_trueD {k v : Expr} {gs : List Comprehension} {scope : Scope} {pos py : Pos} {y : Str} {l : Nat} {env : Env} (hk : env.scope.kind = .function) (hy : env.scope.names.lookup y = some .local) (hl : (py.line == pos.line) = true)
    (ha : (scope.names.any fun (n, k) => n == y && (k == .local || k == .cell)) = false) : swapsWith (.DictComp k v gs scope pos) (some (.Name y py)) l env = pure true := by
  have ky : env.kindOf y = some .local := hy
  have hb : env.blockKind = .function := by unfold Env.blockKind; rw [hk]; rfl
  unfold swapsWith
  simp only [hb, ky, ha, Expr.pos, hl]
  rfl
end
end L2

set_option Elab.async false
set_option linter.all false
set_option maxRecDepth 100000
/-! isinstance of data -/
namespace L2
open PySem PySem.Spec PyProof.Rows PySem.W
section
variable {K : PySem.W.Frag} {σ : L2.St} {H : Hp} {ta tb tc : TE}
theorem kc_isi {X : Cx} (K : PySem.W.Frag) (hK : X.K = K := by exact rfl) : CallR X (.builtin "isinstance") (rIsi K) := hK ▸ call_isi
def tyD : PyData → String
  | .none => "NoneType"
  | .bool _ => "bool"
  | .int _ => "int"
  | .str _ => "str"
  | .list _ => "list"
  | .tuple _ => "tuple"
  | _ => "object"
theorem Dq.tyx {v : V} {d : PyData} (h : Dq H v d) : TyX K H v (.type (tyD d)) := by
  cases h with
  | non => exact .base .non
  | bl b => exact .base (.bl b)
  | int i => exact .base (.int i)
  | str x => exact .base (.str x)
  | lst s _ =>
    rcases s with (e | ⟨ob, e⟩) | ⟨o, _, _, e, c, _⟩
    · exact .base (.lst e)
    · exact .base (.frz e)
    · cases e
  | tup s _ => exact .base (.tup s)
def isIntD : PyData → Bool
  | .int _ => true
  | _ => false
def isBoolD : PyData → Bool
  | .bool _ => true
  | _ => false
def isTupD : PyData → Bool
  | .tuple _ => true
  | _ => false
theorem Dq.kInt {v : V} {d : PyData} (h : Dq H v d) : kitB (tyD d) "int" = some (isIntD d || isBoolD d) := by
  cases h <;> (simp only [tyD, isIntD, isBoolD, isTupD]; decide +kernel)
theorem Dq.kBool {v : V} {d : PyData} (h : Dq H v d) : kitB (tyD d) "bool" = some (isBoolD d) := by
  cases h <;> (simp only [tyD, isIntD, isBoolD, isTupD]; decide +kernel)
theorem Dq.kTup {v : V} {d : PyData} (h : Dq H v d) : kitB (tyD d) "tuple" = some (isTupD d) := by
  cases h <;> (simp only [tyD, isIntD, isBoolD, isTupD]; decide +kernel)
theorem ed_isi {n : String} {d : PyData} {b : Bool} (hb : kitB (tyD d) n = some b) (ha : Ed ta σ H d) : Ed (tCB (rIsi K) (tCons ta (tCons (tC (.ty n)) tNil))) σ H (.bool b) :=
  fun O H1 o s Q q => ha O H1 o s _ fun v H2 s2 hv => ⟨v, .ty n, .type (tyD d), .type n, b, rfl, .ty n, (hv.mono (hid_sub _ _)).tyx, kit_ty hb, q _ H2 s2 (.bl _)⟩
theorem ed_chainB {g g' : Int → Int → Bool} {i j k : Int} (ha : Ed ta σ H (.int i)) (hb : Ed tb σ H (.int j)) (hc : Ed tc σ H (.int k)) :
    Ed (tChain (rI0 fun i j => .bl (g i j)) (rI0 fun i j => .bl (g' i j)) ta tb tc) σ H (.bool (g i j && g' j k)) :=
  fun O H1 o s Q q => ha O H1 o s _ fun v H2 s2 hv => hb O H2 (o.mono s2) (s.trans (hid_same s2)) _ fun u H3 s3 hu => by
    refine ⟨i, j, hv.int_inv, hu.int_inv, g i j, rfl, ?_⟩
    cases hg : g i j with
    | true =>
      refine hc O H3 (o.mono (s2.trans s3)) (s.trans (hid_same (s2.trans s3))) _ fun w H4 s4 hw => ⟨j, k, hu.int_inv, hw.int_inv, ?_⟩
      exact q _ H4 (s2.trans (s3.trans s4)) (by rw [hg]; exact .bl _)
    | false => exact q _ H3 (s2.trans s3) (by rw [hg]; exact .bl _)
theorem ed_ltI {g : Int → Int → Bool} {r' : R2} {i j : Int} (ha : Ed ta σ H (.int i)) (hb : Ed tb σ H (.int j)) : Ed (tOp (fun x y H Q => rI0 (fun i j => .bl (g i j)) x y H Q ∨ r' x y H Q) ta tb) σ H (.bool (g i j)) :=
  ed_op ha hb fun O x y H1 _ _ hx hy Q q => .inl ⟨i, j, hx.int_inv, hy.int_inv, q _ H1 (.refl _) (.bl _)⟩
theorem ed_ltT {r : R2} {l m : List Int} (ha : Ed ta σ H (.tuple (l.map .int))) (hb : Ed tb σ H (.tuple (m.map .int))) : Ed (tOp (fun x y H Q => r x y H Q ∨ rLtT K x y H Q) ta tb) σ H (.bool (HT.lexLt l m)) :=
  ed_op ha hb fun O x y H1 _ _ hx hy Q q => by
    obtain ⟨a, xs, rfl, hs, hd⟩ := hx.tup_inv
    obtain ⟨b, ys, rfl, ht, he⟩ := hy.tup_inv
    rw [hd.ints_inv] at hs
    rw [he.ints_inv] at ht
    exact .inr ⟨a, b, l, m, rfl, rfl, (hid_sub O H1).seqT hs, (hid_sub O H1).seqT ht, q _ H1 (.refl _) (.bl _)⟩
theorem iw_range1z {i : Nat} {ta : TA} {j : Int} {n : Nat} (hj : j.toNat = n) (hlo : -1 ≤ j) (hn : n < 1000000) (h : Ea ta σ H [.int j]) : Iw (iRng1 ta) (gName i) σ H (List.range n) (B1 i fun k => .int (k : Int)) := fun O H0 o s R q =>
  h O H0 o s _ fun vs H1 s1 hv => by
    cases hv with
    | cons h0 t =>
      cases t
      rw [h0.int_inv]
      refine ⟨j, rfl, by omega, by omega, q (Itr 0 j.toNat) H1 s1 (fun i x H2 hx s2 => ?_) fun H2 s2 => by show j.toNat ≤ _; simp [hj]⟩
      obtain ⟨hi, rfl⟩ := List.getElem?_eq_some_iff.mp hx
      rw [List.length_range] at hi
      refine ⟨by show i < j.toNat; rw [hj]; exact hi, fun v H3 ⟨e3, hv⟩ O' σ' Q o' s' k => ?_⟩
      subst e3
      subst hv
      refine k _ _ (.refl _) ⟨_, rfl, ?_⟩
      rw [List.getElem_range]
      have : (0 : Int) + (i : Nat) = (i : Int) := by omega
      rw [this]
      exact .int _
/-- each is less than the next one -/
def ascB {α : Type} (lt : α → α → Bool) : List α → Bool
  | a :: b :: l => lt a b && ascB lt (b :: l)
  | _ => true
theorem ascB_by {α : Type} (lt : α → α → Bool) : ∀ (l : List α) (f : Nat → Bool), (∀ k a b, l[k]? = some a → l[k + 1]? = some b → f k = lt a b) → ((List.range (l.length - 1)).map f).all id = ascB lt l
  | [], _, _ => rfl
  | [_], _, _ => rfl
  | a :: b :: l, f, h => by
    have ih := ascB_by lt (b :: l) (fun k => f (k + 1)) fun k x y hx hy => h (k + 1) x y (by simpa using hx) (by simpa using hy)
    have e : (a :: b :: l).length - 1 = ((b :: l).length - 1) + 1 := by simp
    rw [e, List.range_succ_eq_map, List.map_cons, List.all_cons, List.map_map]
    show (f 0 && _) = (lt a b && _)
    rw [h 0 a b rfl rfl]
    congr 1
theorem ascB_iff {α : Type} {lt : α → α → Bool} (tr : ∀ a b c, lt a b = true → lt b c = true → lt a c = true) : ∀ l : List α, ascB lt l = true ↔ l.Pairwise fun a b => lt a b = true
  | [] => by simp [ascB]
  | [a] => by simp [ascB]
  | a :: b :: l => by
    rw [ascB, Bool.and_eq_true, ascB_iff tr (b :: l), List.pairwise_cons (a := a)]
    constructor
    · rintro ⟨h, p⟩
      refine ⟨fun x hx => ?_, p⟩
      rcases List.mem_cons.mp hx with rfl | hx
      · exact h
      · exact tr _ _ _ h ((List.pairwise_cons.mp p).1 x hx)
    · rintro ⟨h, p⟩
      exact ⟨h b List.mem_cons_self, p⟩
end
section
variable {P : Program} {w : World} {K : PySem.W.Frag} {mg : Str → Option Value} {base : Heap}
theorem okDN {x qual : Str} {st : Stmt} {f : Addr} {fd : FuncData} {N ps : List Str} {k : Nat} {R : List PyData → PyData → Prop} (F : Fun K x qual st f fd) (S : FnScope N ps (defScope st)) (hl : ∀ ds d, R ds d → ds.length = ps.length ∧ d = .none)
    (body : ∀ (cdv : Value) (A : Around) (outer : List Env) (s : Shared) (H : Hp) (E : XK) (O : Addr → Prop) (vs : List V) (ds : List PyData) (d : PyData),
      Room k (A.deeper (envOfC qual (defScope st) s.heap.objs.size f cdv)) → Hid O H → DqAll (hid O H) vs ds → R ds d →
      ∃ t, PSs (cxOf CX0 P w K mg base N qual (defScope st) f cdv A outer s H E).nox (defBody st) t ∧
        ∀ D : Ends, (∀ σ H', Le H H' → D.nx σ H') → t D (start N vs) H) :
    FnOk P w K mg base CX0 (k + 1) f fd ps (spD K R) := by
  refine F.ok S (fun vs H Q E h => ?_) (fun cdv A outer s H vs Q E hr h => ?_)
  · obtain ⟨O, ds, d, o, hv, r, _⟩ := h
    rw [dpAll_len hv]
    exact (hl ds d r).1
  · obtain ⟨O, ds, d, o, hv, r, q⟩ := h
    obtain ⟨t, ht, k⟩ := body cdv A outer s H E O vs ds d hr o hv r
    have e := (hl ds d r).2
    subst e
    exact ⟨t, ht, k _ fun _ H' s' => q _ H' s' .non⟩
end
end L2

set_option Elab.async false
set_option linter.all false
set_option maxRecDepth 100000
/-! instances that stand in a heap; matroids as values -/
namespace L2
open PySem PySem.Spec PyProof.Rows PySem.W
def N0 : Addr → Prop := fun _ => False
section
variable {K : PySem.W.Frag} {σ : L2.St} {H H' G G' : Hp} {ta tv te to : TE} {C dx p : Addr} {fs : List (Str × V)} {f : Str} {g : List Int} {bs : List (List Int)}
/-! ### plain instances -/
/-- name.f, the instance known to the attribute (not a matroid) -/
theorem ed_fld {i : Nat} {v : V} {d : PyData} (hσ : σ[i]? = some (some (.ref p))) (hp : G p = some (.ins C dx fs)) (hn : fs.length ≠ 5) (c : Cls K C) (n : NoAttr K C f) (hf : fs.lookup f = some v) (dv : Dq G v d) : Ed (tFld K (tVar i) f) σ G d :=
  fun O H1 o s Q q => ⟨.ref p, hσ, p, C, dx, fs, v, rfl, ((s.trans (hid_sub O H1))).ins hp hn, c, n, hf, q v H1 (.refl _) (dv.mono s)⟩
/-- a call whose answer is dropped -/
theorem drop_ed {te : TE} {D : Ends} {O : Addr → Prop} {d : PyData} (h : Ed te σ G d) (o : Hid O H) (s : Le G (hid O H)) (k : ∀ H2, Le H H2 → D.nx σ H2) : tDrop te D σ H :=
  h O H o s _ fun v H2 s2 _ => k H2 s2
theorem ed_const {v : V} {d : PyData} (h : Dq G v d) : Ed (tC v) σ G d := fun O H1 _ s Q q => q v H1 (.refl _) (h.mono s)
def isNoneD : PyData → Bool
  | .none => true
  | _ => false
theorem Dq.isN {v : V} {d : PyData} (h : Dq H v d) : decide (v = .non) = isNoneD d := by
  cases h <;> simp [isNoneD]
theorem ed_isN {d : PyData} (ha : Ed ta σ G d) (hb : Ed tv σ G .none) : Ed (tOp (fun x y H Q => y = .non ∧ Q (.bl (decide (x = .non))) H) ta tv) σ G (.bool (isNoneD d)) :=
  ed_op ha hb fun O x y H1 _ _ hx hy Q q => ⟨by cases hy; rfl, by rw [hx.isN]; exact q _ H1 (.refl _) (.bl _)⟩
theorem ed_notN {d : PyData} (ha : Ed ta σ G d) (hb : Ed tv σ G .none) : Ed (tOp (fun x y H Q => y = .non ∧ Q (.bl (!decide (x = .non))) H) ta tv) σ G (.bool (!isNoneD d)) :=
  ed_op ha hb fun O x y H1 _ _ hx hy Q q => ⟨by cases hy; rfl, by rw [hx.isN]; exact q _ H1 (.refl _) (.bl _)⟩
theorem putF_new {v : V} : ∀ {fs : List (Str × V)}, fs.lookup f = none → putF f v fs = fs ++ [(f, v)]
  | [], _ => rfl
  | (g, x) :: r, h => by
    rw [List.lookup_cons] at h
    show (if g = f then _ else _) = _
    by_cases e : g = f
    · subst e
      simp at h
    · have e' : (f == g) = false := by simpa using fun z : f = g => e z.symm
      rw [e'] at h
      rw [if_neg e, putF_new h]
      rfl
theorem Hid.upd {O : Addr → Prop} {o : HO} (h : Hid O H) : Hid O (upd H p o) := fun b hb => by
  by_cases e : b = p
  · exact ⟨o, by rw [e, upd_same]⟩
  · obtain ⟨z, hz⟩ := h b hb
    exact ⟨z, by rw [upd_ne e]; exact hz⟩
/-- name.f = value, the name's instance hidden, the attribute new or old -/
theorem fld_put {i : Nat} {D : Ends} {O : Addr → Prop} {d : PyData} (h : Ed tv σ G d) (o : Hid (plus O p) H) (s : Le G (hid (plus O p) H)) (hσ : σ[i]? = some (some (.ref p))) (hp : H p = some (.ins C dx fs)) (hn : fs.length ≠ 5) (c : Cls K C) (n : NoAttr K C f) (hl : fs.length < 1000)
    (k : ∀ v H2, Hid (plus O p) H2 → (∀ O', Le (hid (plus O' p) H) (hid (plus O' p) H2)) → H2 p = some (.ins C dx (putF f v fs)) → Dq (hid (plus O p) H2) v d → D.nx σ H2) : sFld K (tVar i) tv f D σ H :=
  h _ H o s _ fun v H2 s2 hv => ⟨.ref p, hσ, p, C, dx, fs, rfl, s2.ins hp hn, c, n, hl,
    k v _ (o.mono s2).upd (fun O' => by rw [hid_upd _ (nt_ins (s2.ins hp hn)) rfl]; exact hid_same s2) upd_same (by rw [hid_upd _ (nt_ins (s2.ins hp hn)) rfl]; exact hv)⟩
/-! ### matroids -/
/-- a matroid stands at p -/
def MatV (C : Addr) (G : Hp) (p : Addr) (g : List Int) (bs : List (List Int)) : Prop := ∃ dx v1 v2 v3 v4 v5, G p = some (.ins C dx (flds5 v1 v2 v3 v4 v5)) ∧ Raw (tp G) v1 v2 v3 v4 v5 g bs
theorem MatV.mono (h : MatV C G p g bs) (s : Le G G') : MatV C G' p g bs := by
  obtain ⟨dx, v1, v2, v3, v4, v5, hp, r⟩ := h
  obtain ⟨w3, w4, w5, h', k⟩ := s.m _ _ _ _ _ _ _ _ hp
  exact ⟨dx, v1, v2, w3, w4, w5, h', k _ _ r⟩
/-- te gives a matroid -/
def Eo (C : Addr) (te : TE) (σ : St) (G : Hp) (g : List Int) (bs : List (List Int)) : Prop := ∀ (O : Addr → Prop) (H1 : Hp), Hid O H1 → Le G (hid O H1) → ∀ Q : VK, (∀ p H2, Le H1 H2 → MatV C (hid O H2) p g bs → Q (.ref p) H2) → te σ H1 Q
theorem Eo.mono (s : Le G G') (h : Eo C te σ G g bs) : Eo C te σ G' g bs := fun O H1 o e Q q => h O H1 o (s.trans e) Q q
theorem eo_var {i : Nat} (h : σ[i]? = some (some (.ref p))) (m : MatV C G p g bs) : Eo C (tVar i) σ G g bs := fun O H1 _ s Q q => ⟨.ref p, h, q p H1 (.refl H1) (m.mono s)⟩
theorem Eo.of {g' : List Int} {bs' : List (List Int)} (e : g = g') (e' : bs = bs') (h : Eo C te σ G g bs) : Eo C te σ G g' bs' := e ▸ e' ▸ h
theorem Dq.untp {v : V} {d : PyData} {O : Addr → Prop} (h : Dq (tp H) v d) : Dq (hid O H) v d := by
  rw [← tp_hid O] at h
  exact h.mono (.of (tp_sub _))
theorem ed_fld5 {d : PyData} (sel : V → V → V) (c : Cls K C) (n : NoAttr K C f) (hf : ∀ a b c d e, (flds5 a b c d e).lookup f = some (sel a b)) (hd : ∀ G v1 v2 v3 v4 v5, Raw G v1 v2 v3 v4 v5 g bs → Dq G (sel v1 v2) d) (h : Eo C to σ G g bs) : Ed (tFld K to f) σ G d :=
  fun O H1 o s Q q => h O H1 o s _ fun p H2 s2 hm => by
    obtain ⟨dx, v1, v2, v3, v4, v5, hp, r⟩ := hm
    exact ⟨p, C, dx, _, _, rfl, (hid_some hp).1, c, n, hf _ _ _ _ _, q _ H2 s2 ((hd _ _ _ _ _ _ r).mono (.of (tp_sub _)))⟩
theorem ed_ground (c : Cls K C) (n : NoAttr K C "ground") (h : Eo C to σ G g bs) : Ed (tFld K to "ground") σ G (dSet g) := ed_fld5 (fun a _ => a) c n (fun _ _ _ _ _ => rfl) (fun _ _ _ _ _ _ r => r.d1) h
theorem ed_bases (c : Cls K C) (n : NoAttr K C "bases") (h : Eo C to σ G g bs) : Ed (tFld K to "bases") σ G (dSets bs) := ed_fld5 (fun _ b => b) c n (fun _ _ _ _ _ => by kernel_rfl) (fun _ _ _ _ _ _ r => r.d2) h
theorem ints_inj : ∀ {a b : List Int}, a.map PyData.int = b.map PyData.int → a = b
  | [], [], _ => rfl
  | [], _ :: _, h => by cases h
  | _ :: _, [], h => by cases h
  | x :: a, y :: b, h => by
    simp only [List.map_cons, List.cons.injEq] at h
    cases h.1
    rw [ints_inj h.2]
theorem dSet_inj {a b : List Int} (h : dSet a = dSet b) : a = b := ints_inj (by injection h)
theorem sets_inj : ∀ {a b : List (List Int)}, a.map dSet = b.map dSet → a = b
  | [], [], _ => rfl
  | [], _ :: _, h => by cases h
  | _ :: _, [], h => by cases h
  | x :: a, y :: b, h => by
    simp only [List.map_cons, List.cons.injEq] at h
    rw [dSet_inj (a := x) (b := y) h.1, sets_inj h.2]
theorem dSets_inj {a b : List (List Int)} (h : dSets a = dSets b) : a = b := sets_inj (by injection h)
theorem tp_upd {o : HO} (h : isTupO (H p) = false) (t : isTupO (some o) = false) : tp (upd H p o) = tp H := by
  funext b
  by_cases e : b = p
  · subst e
    unfold tp
    rw [upd_same, if_neg (by rw [t]; decide), if_neg (by rw [h]; decide)]
  · unfold tp
    rw [upd_ne e]
/-- what a matroid keeps is stored -/
theorem Le.putM {v1 v2 v3 v4 v5 u3 u4 u5 w3 w4 w5 : V} (s : Le H H') (h0 : H p = some (.ins C dx (flds5 v1 v2 v3 v4 v5))) (h : H' p = some (.ins C dx (flds5 v1 v2 u3 u4 u5))) (r : Raw (tp H') v1 v2 u3 u4 u5 g bs) (r' : Raw (tp H') v1 v2 w3 w4 w5 g bs) :
    Le H (upd H' p (.ins C dx (flds5 v1 v2 w3 w4 w5))) := by
  refine ⟨fun b o e n => ?_, fun q C' dx' x1 x2 x3 x4 x5 e => ?_⟩
  · have ne : b ≠ p := fun z => by
      subst z
      rw [h0] at e
      cases e
      exact n ⟨_, _, _, _, _, _, _, rfl⟩
    rw [upd_ne ne]
    exact s.s _ _ e n
  · obtain ⟨y3, y4, y5, e', k⟩ := s.m _ _ _ _ _ _ _ _ e
    rw [tp_upd (nt_ins h) rfl]
    by_cases z : q = p
    · subst z
      rw [h0] at e
      cases e
      rw [h] at e'
      cases e'
      refine ⟨w3, w4, w5, upd_same, fun g' bs' rr => ?_⟩
      have rr' := k g' bs' rr
      have e1 := dSet_inj (rr'.d1.fn r.d1)
      have e2 := dSets_inj (rr'.d2.fn r.d2)
      subst e1 e2
      exact r'
    · exact ⟨y3, y4, y5, by rw [upd_ne z]; exact e', k⟩
/-- name.f = value: a matroid keeps its circuits (flats) -/
theorem put_run {i : Nat} {D : Ends} {O : Addr → Prop} {d : PyData} (w3 w4 w5 : V → V → V) (h : Ed tv σ G d) (o : Hid O H) (s : Le G (hid O H)) (hσ : σ[i]? = some (some (.ref p))) (m : MatV C (hid O H) p g bs) (c : Cls K C) (n : NoAttr K C f) (td : Tupd d)
    (hw : ∀ v v1 v2 v3 v4 v5, putF f v (flds5 v1 v2 v3 v4 v5) = flds5 v1 v2 (w3 v v3) (w4 v v4) (w5 v v5)) (hr : ∀ G v v1 v2 v3 v4 v5, Dq G v d → Raw G v1 v2 v3 v4 v5 g bs → Raw G v1 v2 (w3 v v3) (w4 v v4) (w5 v v5) g bs)
    (k : ∀ v v1 v2 v3 v4 v5 dx H2, Le H H2 → H2 p = some (.ins C dx (flds5 v1 v2 (w3 v v3) (w4 v v4) (w5 v v5))) → Raw (tp H2) v1 v2 (w3 v v3) (w4 v v4) (w5 v v5) g bs → Dq (hid O H2) v d → D.nx σ H2) : sFld K (tVar i) tv f D σ H :=
  h O H o s _ fun v H2 s2 hv => by
    obtain ⟨dx, v1, v2, v3, v4, v5, hp, r⟩ := m
    have hp0 := (hid_some hp).1
    obtain ⟨u3, u4, u5, hp2, k2⟩ := s2.m _ _ _ _ _ _ _ _ hp0
    rw [tp_hid] at r
    have r2 := k2 _ _ r
    have hv2 : Dq (tp H2) v d := by
      have := hv.tpd td
      rwa [tp_hid] at this
    have r3 := hr _ _ _ _ _ _ _ hv2 r2
    refine ⟨.ref p, hσ, p, C, dx, _, rfl, hp2, c, n, (by show 5 < 1000; decide), ?_⟩
    rw [hw]
    refine k v v1 v2 u3 u4 u5 dx _ (s2.putM hp0 hp2 r2 r3) upd_same (by rw [tp_upd (nt_ins hp2) rfl]; exact r3) ?_
    refine Dq.untp ?_
    rw [tp_upd (nt_ins hp2) rfl]
    exact hv2
/-- if name.f is None -/
theorem ifN_run {i : Nat} {v : V} {D : Ends} {t u : TS} (hσ : σ[i]? = some (some (.ref p))) (hp : H p = some (.ins C dx fs)) (c : Cls K C) (n : NoAttr K C f) (hf : fs.lookup f = some v) (k1 : v = .non → t D σ H) (k2 : v ≠ .non → u D σ H) :
    tIfS (tTest (tOp (fun x y H Q => y = .non ∧ Q (.bl (decide (x = .non))) H) (tFld K (tVar i) f) (tC .non))) t u D σ H := by
  refine ⟨.ref p, hσ, p, C, dx, fs, v, rfl, hp, c, n, hf, rfl, _, rfl, ?_⟩
  by_cases e : v = .non
  · rw [decide_eq_true e]
    exact k1 e
  · rw [decide_eq_false e]
    exact k2 e
/-! ### values: data and matroids -/
inductive Vl where
  | d (x : PyData)
  | m (g : List Int) (bs : List (List Int))
  | k (kvs : List (Key × V))
  | t (kvs : List (List Key × V))
inductive Vr (C : Addr) (G : Hp) : V → Vl → Prop
  | d {v : V} {x : PyData} : Dq G v x → Vr C G v (.d x)
  | m {p : Addr} {g : List Int} {bs : List (List Int)} : MatV C G p g bs → Vr C G (.ref p) (.m g bs)
  | k {p : Addr} {kvs : List (Key × V)} : G p = some (.dK kvs) → Vr C G (.ref p) (.k kvs)
  | t {p : Addr} {kvs : List (List Key × V)} : G p = some (.dT kvs) → Vr C G (.ref p) (.t kvs)
inductive VrAll (C : Addr) (G : Hp) : List V → List Vl → Prop
  | nil : VrAll C G [] []
  | cons {v : V} {x : Vl} {vs : List V} {xs : List Vl} : Vr C G v x → VrAll C G vs xs → VrAll C G (v :: vs) (x :: xs)
theorem Vr.mono {v : V} {x : Vl} (h : Vr C G v x) (s : Le G G') : Vr C G' v x := by
  cases h with
  | d h => exact .d (h.mono s)
  | m h => exact .m (h.mono s)
  | k h => exact .k (s.dK h)
  | t h => exact .t (s.dT h)
theorem VrAll.mono {vs : List V} {xs : List Vl} (h : VrAll C G vs xs) (s : Le G G') : VrAll C G' vs xs := by
  induction h with
  | nil => exact .nil
  | cons h _ ih => exact .cons (h.mono s) ih
theorem VrAll.len {vs : List V} {xs : List Vl} (h : VrAll C G vs xs) : vs.length = xs.length := by
  induction h with
  | nil => rfl
  | cons h _ ih => rw [List.length_cons, List.length_cons, ih]
theorem Vr.dp {v : V} {x : PyData} (h : Vr C G v (.d x)) : Dq G v x := by cases h; assumption
theorem Vr.mt {v : V} (h : Vr C G v (.m g bs)) : ∃ p, v = .ref p ∧ MatV C G p g bs := by cases h; exact ⟨_, rfl, by assumption⟩
theorem vr1 {vs : List V} {a : Vl} (h : VrAll C G vs [a]) : ∃ x, vs = [x] ∧ Vr C G x a := by
  cases h with | cons h t => cases t; exact ⟨_, rfl, h⟩
theorem vr2 {vs : List V} {a b : Vl} (h : VrAll C G vs [a, b]) : ∃ x y, vs = [x, y] ∧ Vr C G x a ∧ Vr C G y b := by
  cases h with | cons h t => obtain ⟨y, rfl, h2⟩ := vr1 t; exact ⟨_, _, rfl, h, h2⟩
theorem vr3 {vs : List V} {a b c : Vl} (h : VrAll C G vs [a, b, c]) : ∃ x y z, vs = [x, y, z] ∧ Vr C G x a ∧ Vr C G y b ∧ Vr C G z c := by
  cases h with | cons h t => obtain ⟨y, z, rfl, h2, h3⟩ := vr2 t; exact ⟨_, _, _, rfl, h, h2, h3⟩
theorem vr4 {vs : List V} {a b c d : Vl} (h : VrAll C G vs [a, b, c, d]) : ∃ x y z w, vs = [x, y, z, w] ∧ Vr C G x a ∧ Vr C G y b ∧ Vr C G z c ∧ Vr C G w d := by
  cases h with | cons h t => obtain ⟨y, z, w, rfl, h2, h3, h4⟩ := vr3 t; exact ⟨_, _, _, _, rfl, h, h2, h3, h4⟩
def Ev (C : Addr) (te : TE) (σ : St) (G : Hp) (x : Vl) : Prop := ∀ (O : Addr → Prop) (H1 : Hp), Hid O H1 → Le G (hid O H1) → ∀ Q : VK, (∀ v H2, Le H1 H2 → Vr C (hid O H2) v x → Q v H2) → te σ H1 Q
def Ex (C : Addr) (ta : TA) (σ : St) (G : Hp) (xs : List Vl) : Prop := ∀ (O : Addr → Prop) (H1 : Hp), Hid O H1 → Le G (hid O H1) → ∀ Q : List V → Hp → Prop, (∀ vs H2, Le H1 H2 → VrAll C (hid O H2) vs xs → Q vs H2) → ta σ H1 Q
theorem Ev.ed {d : PyData} (h : Ev C te σ G (.d d)) : Ed te σ G d := fun O H1 o s Q q => h O H1 o s Q fun v H2 s2 hv => q v H2 s2 hv.dp
theorem Ev.eo (h : Ev C te σ G (.m g bs)) : Eo C te σ G g bs := fun O H1 o s Q q => h O H1 o s Q fun v H2 s2 hv => by
  obtain ⟨p, rfl, m⟩ := hv.mt
  exact q p H2 s2 m
theorem Ed.ev {d : PyData} (h : Ed te σ G d) : Ev C te σ G (.d d) := fun O H1 o s Q q => h O H1 o s Q fun v H2 s2 hv => q v H2 s2 (.d hv)
theorem Eo.ev (h : Eo C te σ G g bs) : Ev C te σ G (.m g bs) := fun O H1 o s Q q => h O H1 o s Q fun v H2 s2 hv => q _ H2 s2 (.m hv)
theorem ex_nil : Ex C tNil σ G [] := fun O H1 o s Q q => q _ H1 (.refl H1) .nil
theorem ex_cons {x : Vl} {xs : List Vl} {a : TA} (h : Ev C te σ G x) (hs : Ex C a σ G xs) : Ex C (tCons te a) σ G (x :: xs) := fun O H1 o s Q q =>
  h O H1 o s _ fun v H2 s2 hv => hs O H2 (o.mono s2) (s.trans (hid_same s2)) _ fun vs H3 s3 hvs => q _ H3 (s2.trans s3) (.cons (hv.mono (hid_same s3)) hvs)
/-- a def over values that changes nothing but what matroids keep -/
def spX (C : Addr) (R : List Vl → Vl → Prop) : Sp := fun vs H Q _ => ∃ (O : Addr → Prop) (xs : List Vl) (x : Vl), Hid O H ∧ VrAll C (hid O H) vs xs ∧ R xs x ∧ ∀ v H', Le H H' → Vr C (hid O H') v x → Q v H'
theorem ev_call {R : List Vl → Vl → Prop} {E : XK} {a : TA} {xs : List Vl} {x : Vl} (hr : R xs x) (ha : Ex C a σ G xs) : Ev C (tCall (spX C R) [] E a) σ G x := fun O H1 o s Q q =>
  ha O H1 o s _ fun vs H2 s2 hv => ⟨O, xs, x, o.mono s2, by rw [List.append_nil]; exact hv, hr, fun v H3 s3 dv => q v H3 (s2.trans s3) dv⟩
theorem ev_meth {m : Str} {R : List Vl → Vl → Prop} {E : XK} {a : TA} {xs : List Vl} {x : Vl} (hm : ∀ a b c d e, (flds5 a b c d e).lookup m = none) (ho : Eo C to σ G g bs) (ha : Ex C a σ G xs) (hr : R (.m g bs :: xs) x) : Ev C (tMeth C m (spX C R) [] E to a) σ G x := fun O H1 o s Q q =>
  ho O H1 o s _ fun p H2 s2 hm2 => by
    obtain ⟨dx, v1, v2, v3, v4, v5, hp, _⟩ := id hm2
    refine ⟨p, dx, _, rfl, (hid_some hp).1, hm _ _ _ _ _, ha O H2 (o.mono s2) (s.trans (hid_same s2)) _ fun vs H3 s3 hv => ?_⟩
    exact ⟨O, _, x, o.mono (s2.trans s3), .cons (.m (hm2.mono (hid_same s3))) (by rw [List.append_nil]; exact hv), hr, fun v H4 s4 dv => q v H4 ((s2.trans s3).trans s4) dv⟩
theorem ev_prop {R : List Vl → Vl → Prop} {E : XK} {x : Vl} (ho : Eo C to σ G g bs) (hr : R [.m g bs] x) : Ev C (tProp C (spX C R) [] E to) σ G x := fun O H1 o s Q q =>
  ho O H1 o s _ fun p H2 s2 hm2 => by
    obtain ⟨dx, v1, v2, v3, v4, v5, hp, _⟩ := id hm2
    exact ⟨p, dx, _, rfl, (hid_some hp).1, O, _, x, o.mono s2, .cons (.m hm2) .nil, hr, fun v H4 s4 dv => q v H4 (s2.trans s4) dv⟩
/-- a new matroid -/
def spMk (C : Addr) (M : List Int → List (List Int) → Prop) : Sp := fun vs H Q _ => ∃ (O : Addr → Prop) (p dx : Addr) (g : List Int) (bs : List (List Int)) (v1 v2 : V), vs = [.ref p, v1, v2] ∧ H p = some (.ins C dx []) ∧ ¬ O p ∧ Hid O H ∧ Dq (hid (plus O p) H) v1 (dSet g) ∧ Dq (hid (plus O p) H) v2 (dSets bs) ∧ M g bs ∧
  ∀ H', (∀ O', Le (hid (plus O' p) H) (hid (plus O' p) H')) → (∃ dx w1 w2, H' p = some (.ins C dx (flds5 w1 w2 .non .non .non))) → MatV C (hid O H') p g bs → Q .non H'
theorem mk_run {M : List Int → List (List Int) → Prop} {E : XK} {t : TA} {O : Addr → Prop} {Q : VK} (ha : Ea t σ G [dSet g, dSets bs]) (hM : M g bs) (o : Hid O H) (s : Le G (hid O H))
    (k : ∀ p H2, Le H H2 → H p = none → (∃ dx w1 w2, H2 p = some (.ins C dx (flds5 w1 w2 .non .non .non))) → MatV C (hid O H2) p g bs → Q (.ref p) H2) : tMake C (spMk C M) [] E t σ H Q :=
  ha O H o s _ fun vs H2 s2 hv x dx hx hdx ne => by
    obtain ⟨v1, v2, rfl, h1, h2⟩ := dp2 hv
    have sA : Le H2 (upd H2 dx (.own x)) := same_new hdx
    have nx : (upd H2 dx (.own x)) x = none := by rw [upd_ne (Ne.symm ne)]; exact hx
    have sB := sA.trans (same_new (o := .ins C dx []) nx)
    have o2 := o.mono s2
    have hO : ¬ O x := o2.new hx
    have key : ∀ O', Le (hid O' H2) (hid (plus O' x) (upd (upd H2 dx (.own x)) x (.ins C dx []))) := fun O' => hid_add (hid_same sB) (by
      by_cases z : O' x
      · exact hid_in z (by rw [hx]; rfl)
      · rw [hid_out z]; exact hx)
    refine ⟨O, x, dx, g, bs, v1, v2, rfl, upd_same, hO, o2.mono sB, h1.mono (key O), h2.mono (key O), hM, fun H' s' hf hm => ⟨rfl, ?_⟩⟩
    have fin : Le H2 H' := by
      have e := (key N0).trans (s' N0)
      have z : hid N0 H2 = H2 := hid_no H2
      rw [z] at e
      exact e.trans (hid_sub _ _)
    exact k x H' (s2.trans fin) (s2.free hx) hf hm
theorem asg_mk {M : List Int → List (List Int) → Prop} {E : XK} {t : TA} {O : Addr → Prop} {i : Nat} {D : Ends} (ha : Ea t σ G [dSet g, dSets bs]) (hM : M g bs) (o : Hid O H) (s : Le G (hid O H))
    (k : ∀ p H2, Le H H2 → H p = none → (∃ dx w1 w2, H2 p = some (.ins C dx (flds5 w1 w2 .non .non .non))) → MatV C (hid O H2) p g bs → D.nx (σ.set i (some (.ref p))) H2) : tAsg (tMake C (spMk C M) [] E t) (gName i) D σ H :=
  mk_run ha hM o s k
theorem eo_make {M : List Int → List (List Int) → Prop} {E : XK} {t : TA} (ha : Ea t σ G [dSet g, dSets bs]) (hM : M g bs) : Eo C (tMake C (spMk C M) [] E t) σ G g bs := fun O H1 o s Q q =>
  mk_run ha hM o s fun p H2 s2 _ _ hm => q p H2 s2 hm
end
section
variable {P : Program} {w : World} {K : PySem.W.Frag} {mg : Str → Option Value} {base : Heap}
/-- a def over values -/
theorem okX {C : Addr} {x qual : Str} {st : Stmt} {f : Addr} {fd : FuncData} {N ps : List Str} {k : Nat} {R : List Vl → Vl → Prop} (F : Fun K x qual st f fd) (S : FnScope N ps (defScope st)) (hl : ∀ ds d, R ds d → ds.length = ps.length)
    (body : ∀ (cdv : Value) (A : Around) (outer : List Env) (s : Shared) (H : Hp) (E : XK) (O : Addr → Prop) (vs : List V) (ds : List Vl) (d : Vl),
      Room k (A.deeper (envOfC qual (defScope st) s.heap.objs.size f cdv)) → Hid O H → VrAll C (hid O H) vs ds → R ds d →
      ∃ t, PSs (cxOf CX0 P w K mg base N qual (defScope st) f cdv A outer s H E).nox (defBody st) t ∧
        ∀ D : Ends, (∀ v H', Le H H' → Vr C (hid O H') v d → D.rt v H') → t D (start N vs) H) :
    FnOk P w K mg base CX0 (k + 1) f fd ps (spX C R) := by
  refine F.ok S (fun vs H Q E h => ?_) (fun cdv A outer s H vs Q E hr h => ?_)
  · obtain ⟨O, ds, d, o, hv, r, _⟩ := h
    rw [hv.len]
    exact hl ds d r
  · obtain ⟨O, ds, d, o, hv, r, q⟩ := h
    obtain ⟨t, ht, k⟩ := body cdv A outer s H E O vs ds d hr o hv r
    exact ⟨t, ht, k _ q⟩
end
end L2
namespace L2
open PySem PySem.Spec PyProof.Rows PySem.W
theorem Dq.toTp {O : Addr → Prop} {H : Hp} {v : V} {d : PyData} (h : Dq (hid O H) v d) (t : Tupd d) : Dq (tp H) v d := by
  have := h.tpd t
  rwa [tp_hid] at this
theorem Le.tp2 {O O' : Addr → Prop} {H H' : Hp} (s : Le (hid O H) (hid O' H')) : Same (tp H) (tp H') := by
  have := s.tps
  rwa [tp_hid, tp_hid] at this
theorem tupd_non : Tupd .none := .non
end L2

set_option Elab.async false
set_option linter.all false
set_option maxRecDepth 100000
/-! joining lists and tuples that are known as data -/
namespace L2
open PySem PySem.Spec PyProof.Rows PySem.W
/-- xs + ys of lists, frozen ones too -/
def rCatL (K : PySem.W.Frag) : R2 := fun x y H Q => ∃ a b xs ys, x = .ref a ∧ y = .ref b ∧ SqL K H a xs ∧ SqL K H b ys ∧ xs.length + ys.length ≤ sizeLine ∧ ∀ p, H p = none → Q (.ref p) (upd H p (.lst (xs ++ ys)))
theorem op_catL {X : Cx} : OpR X (binaryOp .Add) (rCatL X.K) := by
  intro pins s σ H x y v u Q I rx ry h
  obtain ⟨a, b, xs, ys, rfl, rfl, ha, hb, hz, q⟩ := h
  cases rx
  cases ry
  obtain ⟨its, r1, ⟨⟨c1, dd1, da1, sl1⟩, n1, e1, k1, _, j1⟩, _⟩ := I.list ha
  obtain ⟨its2, r2, ⟨⟨c2, dd2, da2, sl2⟩, n2, e2, k2, _, j2⟩, _⟩ := I.list hb
  simp only at k1 j1 k2 j2
  subst k1 j1 k2 j2
  refine concat_meets ⟨_, e1, rfl⟩ ⟨_, e2, rfl⟩ noFill_list_add seq_list_add PySem.F.slot_list_add PySem.F.entry_list_add (PySem.F.args_list_add_2 _ _) (list_addW a b its.toArray its2.toArray n1 n2 dd1 dd2 sl1 sl2 (by rw [List.size_toArray, List.size_toArray, ← r1.length, ← r2.length]; exact hz)) ⟨e1, e2, ?_⟩
  have ea : its.toArray ++ its2.toArray = (its ++ its2).toArray := by simp
  rw [ea]
  exact ⟨.ref _, _, I.lnew (t' := s.toks) (r1.append r2) (by rw [List.length_append]; exact hz), rfl, q _ I.fresh⟩
theorem ko_catL {X : Cx} (K : PySem.W.Frag) (hK : X.K = K := by exact rfl) : OpR X (binaryOp .Add) (rCatL K) := hK ▸ op_catL
theorem ko_catA {X : Cx} (K : PySem.W.Frag) (hK : X.K = K := by exact rfl) : OpR X (binaryOp .Add) (rCatA K) := hK ▸ op_catA
section
variable {K : PySem.W.Frag} {σ : L2.St} {G : Hp} {ta tb : TE} {ds es : List PyData}
theorem ed_catL (hl : ds.length + es.length ≤ 100000) (ha : Ed ta σ G (.list ds)) (hb : Ed tb σ G (.list es)) : Ed (tOp (rCatL K) ta tb) σ G (.list (ds ++ es)) :=
  ed_op ha hb fun O x y H1 o s hx hy Q q => by
    obtain ⟨a, xs, rfl, hs, hd⟩ := hx.lst_inv
    obtain ⟨b, ys, rfl, ht, he⟩ := hy.lst_inv
    exact ⟨a, b, xs, ys, rfl, rfl, (hid_sub O H1).seq hs, (hid_sub O H1).seq ht, by rw [dpAll_len hd, dpAll_len he]; exact Nat.le_trans hl (by decide), fun p np => q _ _ (same_new np) (dp_newL o np (hd.append he))⟩
theorem ed_catA (hl : ds.length + es.length ≤ 100000) (ha : Ed ta σ G (.tuple ds)) (hb : Ed tb σ G (.tuple es)) : Ed (tOp (rCatA K) ta tb) σ G (.tuple (ds ++ es)) :=
  ed_op ha hb fun O x y H1 o s hx hy Q q => by
    obtain ⟨a, xs, rfl, hs, hd⟩ := id hx.tup_inv
    obtain ⟨b, ys, rfl, ht, he⟩ := id hy.tup_inv
    refine ⟨a, b, xs, ys, rfl, rfl, (hid_sub O H1).seqT hs, (hid_sub O H1).seqT ht, by rw [dpAll_len hd, dpAll_len he]; exact Nat.le_trans hl (by decide), fun e => ?_, fun _ e => ?_, fun _ _ p np => q _ _ (same_new np) (dp_newT o np (hd.append he))⟩
    · subst e
      cases hd
      exact q _ H1 (.refl _) hy
    · subst e
      cases he
      exact q _ H1 (.refl _) (by rw [List.append_nil]; exact hx)
theorem DqAll.drop {H : Hp} : ∀ {n : Nat} {vs : List V} {ds : List PyData}, DqAll H vs ds → DqAll H (vs.drop n) (ds.drop n)
  | 0, _, _, h => h
  | _ + 1, _, _, .nil => .nil
  | n + 1, _, _, .cons _ t => DqAll.drop (n := n) t
theorem cutV1 (xs : List V) : cutV xs (some 1) none = xs.drop 1 := by
  unfold cutV
  rw [show HT.sIx xs.length 0 (some 1) = min 1 xs.length from HT.sIx_nat xs.length 0 1, HT.sIx_none]
  cases xs with
  | nil => rfl
  | cons x r =>
    have e : min 1 (x :: r).length = 1 := by
      rw [List.length_cons]
      omega
    rw [e]
    show List.take ((x :: r).length - 1) r = r
    rw [List.length_cons, Nat.add_sub_cancel]
    exact List.take_length
/-- xs[1:] -/
theorem ed_rest (ha : Ed ta σ G (.list ds)) (hb : Ed tb σ G (.int 1)) : Ed (tSl (rSlL K) ta (tPart tb) tNoPart) σ G (.list (ds.drop 1)) :=
  fun O H1 o s Q q => ha O H1 o s _ fun v H2 s2 hv => hb O H2 (o.mono s2) (s.trans (hid_same s2)) _ fun u H3 s3 hu => by
    refine ⟨1, hu.int_inv, ?_⟩
    have hv3 := hv.mono (hid_same s3)
    obtain ⟨a, xs, e, hs, hd⟩ := hv3.lst_inv
    refine ⟨a, xs, e, (hid_sub O H3).seq hs, fun p np => ?_⟩
    rw [cutV1]
    exact q _ _ (s2.trans (s3.trans (same_new np))) (dp_newL (o.mono (s2.trans s3)) np hd.drop)
end
theorem kl_list {X : Cx} (K : PySem.W.Frag) (hK : X.K = K := by exact rfl) : SlR X (rSlL K) := hK ▸ sl_list
end L2

set_option Elab.async false
set_option linter.all false
set_option maxRecDepth 100000
/-! repr of data, where no repr is under way -/
namespace L2
open PySem PySem.Spec PyProof.Rows PySem.W
def rRepr (K : PySem.W.Frag) : List V → Hp → VK → Prop := fun xs H Q => ∃ (x : V) (d : PyData), xs = [x] ∧ Dq H x d ∧ (d = .none ∨ (∃ ds, d = .tuple ds) ∨ ∃ ds, d = .list ds) ∧ d.showable = true ∧ d.hasDict = false ∧ d.depth ≤ 60 ∧ d.shown.length ≤ sizeLine ∧ Q (.str d.shown) H
theorem cr_repr {X : Cx} (gd : X.A.guards = some []) (hu : X.A.units + 64 < cLine) : CallR X (.builtin "repr") (rRepr X.K) := by
  intro pins s σ H xs us Q I r h
  obtain ⟨x, d, rfl, hd, hk, hs, hn, hdp, hl, q⟩ := h
  obtain ⟨u, rfl, ru⟩ := vals1 r
  rcases hk with rfl | ⟨ds, rfl⟩ | ⟨ds, rfl⟩
  · have ex := hd.non_inv
    subst ex
    cases ru
    exact PySem.P.repr_of_none ⟨.str "None", H, I.tok _, ⟨_, rfl⟩, q⟩
  · obtain ⟨a, ys, rfl, _, _⟩ := id hd.tup_inv
    cases ru
    obtain ⟨as, hr⟩ := Dp.reads I _ _ (.ref a) hd.up rfl
    exact repr_of_reads' hr hs (PyData.noDict_hsm hn) gd (by omega) (fun _ _ e => e) (fun h' u tk hk => ⟨.str _, H, I.kept hk, ⟨_, rfl⟩, q⟩) hl
  · obtain ⟨a, ys, rfl, _, _⟩ := id hd.lst_inv
    cases ru
    obtain ⟨as, hr⟩ := Dp.reads I _ _ (.ref a) hd.up rfl
    exact repr_of_reads' hr hs (PyData.noDict_hsm hn) gd (by omega) (fun _ _ e => e) (fun h' u tk hk => ⟨.str _, H, I.kept hk, ⟨_, rfl⟩, q⟩) hl
theorem kc_repr {X : Cx} (K : PySem.W.Frag) (gd : X.A.guards = some []) (hu : X.A.units + 64 < cLine) (hK : X.K = K := by exact rfl) : CallR X (.builtin "repr") (rRepr K) := hK ▸ cr_repr gd hu
section
variable {K : PySem.W.Frag} {σ : L2.St} {G : Hp} {ta : TE} {d : PyData}
/-- data that repr tells -/
structure ShowD (d : PyData) : Prop where
  kd : d = .none ∨ (∃ ds, d = .tuple ds) ∨ ∃ ds, d = .list ds
  sh : d.showable = true
  nd : d.hasDict = false
  dp : d.depth ≤ 60
  ln : d.shown.length ≤ sizeLine
theorem ed_repr (hd : ShowD d) (ha : Ed ta σ G d) : Ed (tCB (rRepr K) (tCons ta tNil)) σ G (.str d.shown) :=
  ed_cb (ea_one ha) fun O vs H1 o s hv Q q => by
    cases hv with
    | cons h0 t =>
      cases t
      exact ⟨_, d, rfl, h0.mono (hid_sub _ _), hd.kd, hd.sh, hd.nd, hd.dp, hd.ln, q _ H1 (.refl _) (.str _)⟩
end
end L2

set_option Elab.async false
set_option linter.all false
set_option maxRecDepth 100000
/-! == and != of instances of one class by the class's own __eq__ -/
namespace L2
open PySem PySem.Spec PyProof.Rows PySem.SeqAt
section
variable {M : Model} {prog : Program} {w : World} {A : Around} {E : Value → Shared → Prop} {s : Shared} {K : PySem.W.Frag} {x C f : Addr} {ox : Obj} {od : Option Obj} {b : Value}
theorem ifBound_objNe {args : List Value} {Q : Option Value → Shared → Prop} (X : K.In s.heap) (I : PySem.W.InstAt s.heap x ox C od) (hs : PySem.W.findIn K (.ref C) "__ne__" = some (some (.builtin "object.__ne__")))
    (h : wpAny M A (call (.builtin "object.__ne__") (.ref x :: args)) (fun v => Q (some v)) E s) : wpAny M A (callSpecialIfBound? (.ref x) "__ne__" args) Q E s := by
  simp only [callSpecialIfBound?, bindSpecialIfBound?]
  refine wpAny_holding (wpAny_bind (wpAny_bind (wpAny_bind (I.type.here ((PySem.W.looks_findIn X hs).here ?_)))))
  refine wpAny_bind (wpAny_askSetting (wpAny_ite ?_))
  have fin : wpAny M A (call (.builtin "object.__ne__") ([.ref x] ++ args) >>= fun v => pure (some v)) Q E s := wpAny_bind (wpAny_mono h (fun v s' h' => wpAny_pure h') fun _ _ h' => h')
  split
  · exact wpAny_bind (wpAny_of_eq (F.cmp_object.ne.bind _) (wpAny_pure (by exact fin)))
  · exact wpAny_tryCatch (wpAny_bind (wpAny_of_eq (F.cmp_object.ne.bind _) (wpAny_pure (by exact fin))))
theorem objNe_own {Q : Fin → Shared → Prop} (hu : A.units < cLine) (X : K.In s.heap) (I : PySem.W.InstAt s.heap x ox C od) (hs : PySem.W.findIn K (.ref C) "__eq__" = some (some (.ref f))) (hf : PySem.W.isFn K (.ref f) = true)
    (h : wpAny (model prog w) A (call (.ref f) [.ref x, b]) (fun v s' => ∃ r, v = .bool r ∧ Q (.done (.ret (.bool (!r)))) s') E s) : wpAny (model prog w) A (Builtin.«object.__ne__» ⟨[.ref x, b], []⟩) Q E s := by
  unfold Builtin.«object.__ne__»
  repeat (first
    | with_reducible refine wpAny_cRoomFor hu ?_
    | (refine wpAny_bind (m := callSpecialIfBound? (.ref x) (Str.ofString "__eq__") [b])
        (PySem.W.ifBound_K X I hs hf (wpAny_mono h (fun r s' hr => by
          obtain ⟨b, rfl, hq⟩ := hr
          repeat (first | exact hq | exact wpAny_pure hq | exact wpAny_truthy_bool hq | (refine wpAny_bind (m := truthy (.bool _)) (wpAny_truthy_bool ?_)) | wp_step)) fun _ _ e => e)))
    | wp_step)
theorem ne_K {Q : Value → Shared → Prop} {y : Addr} {oy : Obj} {oz : Option Obj} (hu : A.units + 1 < cLine) (X : K.In s.heap) (I : PySem.W.InstAt s.heap x ox C od) (J : PySem.W.InstAt s.heap y oy C oz) (hs : PySem.W.findIn K (.ref C) "__eq__" = some (some (.ref f))) (hf : PySem.W.isFn K (.ref f) = true)
    (hn : PySem.W.findIn K (.ref C) "__ne__" = some (some (.builtin "object.__ne__"))) (hm : PySem.W.mroIn K C (.type "object") = some true)
    (h : wpAny (model prog w) A.in1 (call (.ref f) [.ref x, .ref y]) (fun v s' => ∃ r, v = .bool r ∧ Q (.bool (!r)) s') E s) : wpAny (model prog w) A (richCompare .NotEq (.ref x) (.ref y)) Q E s := by
  have one : wpAny (model prog w) A (tryCompare (.ref x) "__ne__" (.ref y)) (fun r s' => ∃ v, r = some v ∧ Q v s') E s := by
    unfold tryCompare
    refine wpAny_bind (ifBound_objNe X I hn (wpAny_call (codeAny_call_builtin F.cmp_object.ne.plain F.cmpEntry_ne (PySem.W.check_slot F.cmpKind_ne F.cmpSplit_ne (I.type.andThen (PySem.W.looks_mroIn X hm)) (F.cmpArgs_ne _ _)
      (objNe_own (A := A.in1) hu X I hs hf (wpAny_mono h (fun v s' hv => ?_) fun _ _ e => e))))))
    obtain ⟨b, rfl, hq⟩ := hv
    first | exact ⟨b, rfl, wpAny_pure ⟨_, rfl, hq⟩⟩ | exact ⟨b, rfl, wpAny_pure (wpAny_pure ⟨_, rfl, hq⟩)⟩
  unfold richCompare
  simp only [oneThing_ref]
  refine wpAny_holding (wpAny_bind (wpAny_cRoomFor (Nat.lt_of_succ_lt hu) ?_))
  rw [cmpInfo_NotEq]
  dsimp only
  refine wpAny_bind (I.type.here (wpAny_bind (J.type.here ?_)))
  rw [show (Value.ref C != Value.ref C) = false from by simp]
  simp only [Bool.false_eq_true, if_false]
  refine wpAny_bind (wpAny_pure ?_)
  simp only [Bool.false_eq_true, if_false]
  refine wpAny_bind (wpAny_mono one (fun r s' z => ?_) fun _ _ e => e)
  obtain ⟨v, rfl, hq⟩ := z
  exact wpAny_pure hq
end
/-- x == y, x != y: the class's own __eq__ -/
def rOwn (C : Addr) (sp : Sp) (E : XK) (neg : Bool) : R2 := fun x y H Q => ∃ a b dx dy fs gs, x = .ref a ∧ y = .ref b ∧ H a = some (.ins C dx fs) ∧ H b = some (.ins C dy gs) ∧ sp [x, y] H (fun v H' => ∃ r, v = .bl r ∧ Q (.bl (if neg then !r else r)) H') E
section
variable {X : Cx} {CX : CXT} {n : Nat} {C f : Addr} {fd : FuncData} {ps : List Str} {sp : Sp} {E : XK}
theorem op_ownEq (F : FnOk X.prog X.w X.K X.mg X.base CX n f fd ps sp) (hs : PySem.W.findIn X.K (.ref C) "__eq__" = some (some (.ref f))) (hf : PySem.W.isFn X.K (.ref f) = true) (hb : Binds X.K fd ps []) (hx : Passes CX X E) (hr : Room n X.A) : OpR X (compareOp .Eq) (rOwn C sp E false) := by
  intro pins s σ H x y v u Q I rx ry hq
  obtain ⟨a, b, dx, dy, fs, gs, rfl, rfl, ha, hb', hsp⟩ := hq
  cases rx
  cases ry
  obtain ⟨mA, J, _⟩ := ins_get I.hok ha
  obtain ⟨mB, J', _⟩ := ins_get I.hok hb'
  obtain ⟨od, J, _⟩ := J.look
  obtain ⟨od', J', _⟩ := J'.look
  obtain ⟨m, hF⟩ := I.fr
  show wpAny (model X.prog X.w) X.A (richCompare .Eq (.ref a) (.ref b)) (EP X pins σ Q) X.xe s
  refine PySem.W.cmp_K (op := .Eq) (tb := .ref C) hr.units0 hF I.ok.mod.kin J J'.type (by simp [PySem.W.notFirst]) hs hf ?_
  have hl := F.len _ _ _ _ hsp
  have r2 : Vals [V.ref a, V.ref b] [Value.ref a, Value.ref b] := .cons rfl (.cons rfl .nil)
  refine wpAny_call (codeAny_mono (F.run X.A X.stack s H ⟨[.ref a, .ref b], []⟩ [.ref a, .ref b] [.ref a, .ref b] _ E hr I.env0 (by
    have := hb s [.ref a, .ref b] I.kIn (by simpa using hl)
    simpa using this) r2 hsp) fun r s' hq => ?_)
  cases r with
  | error e => exact hx pins σ H s e s' I hq
  | ok fl =>
    cases fl with
    | ret w =>
      obtain ⟨z, H', I', rz, ez⟩ := I.after hq
      obtain ⟨r, ez, q⟩ := ez
      subst ez
      cases rz
      exact ⟨.bl r, H', I', rfl, q⟩
    | next => exact False.elim hq
    | brk => exact False.elim hq
    | cont => exact False.elim hq
theorem op_ownNe (F : FnOk X.prog X.w X.K X.mg X.base CX n f fd ps sp) (hs : PySem.W.findIn X.K (.ref C) "__eq__" = some (some (.ref f))) (hf : PySem.W.isFn X.K (.ref f) = true)
    (hn : PySem.W.findIn X.K (.ref C) "__ne__" = some (some (.builtin "object.__ne__"))) (hm : PySem.W.mroIn X.K C (.type "object") = some true)
    (hb : Binds X.K fd ps []) (hx : Passes CX X E) (hr : Room (n + 1) X.A) : OpR X (compareOp .NotEq) (rOwn C sp E true) := by
  intro pins s σ H x y v u Q I rx ry hq
  obtain ⟨a, b, dx, dy, fs, gs, rfl, rfl, ha, hb', hsp⟩ := hq
  cases rx
  cases ry
  obtain ⟨mA, J, _⟩ := ins_get I.hok ha
  obtain ⟨mB, J', _⟩ := ins_get I.hok hb'
  obtain ⟨od, J, _⟩ := J.look
  obtain ⟨od', J', _⟩ := J'.look
  have hr1 : Room n X.A.in1 := (Sub.in1 (X := X) ⟨hr, rfl⟩).room
  show wpAny (model X.prog X.w) X.A (richCompare .NotEq (.ref a) (.ref b)) (EP X pins σ Q) X.xe s
  refine ne_K (by have := hr.un; omega) I.kIn J J' hs hf hn hm ?_
  have hl := F.len _ _ _ _ hsp
  have r2 : Vals [V.ref a, V.ref b] [Value.ref a, Value.ref b] := .cons rfl (.cons rfl .nil)
  have e0 : Env0 X.prog X.w X.K X.mg X.base X.A.in1 X.stack s H := by
    have e := I.env0
    exact ⟨by exact e.frames, e.mod, e.bs, e.bsz, e.funs, e.frf, e.hok, e.bare⟩
  refine wpAny_call (codeAny_mono (F.run X.A.in1 X.stack s H ⟨[.ref a, .ref b], []⟩ [.ref a, .ref b] [.ref a, .ref b] _ E hr1 e0 (by
    have := hb s [.ref a, .ref b] I.kIn (by simpa using hl)
    simpa using this) r2 hsp) fun r s' hq => ?_)
  cases r with
  | error e => exact hx pins σ H s e s' I hq
  | ok fl =>
    cases fl with
    | ret w =>
      obtain ⟨z, H', I', rz, ez⟩ := I.after hq
      obtain ⟨r, ez, q⟩ := ez
      subst ez
      cases rz
      exact ⟨r, rfl, .bl (!r), H', I', rfl, q⟩
    | next => exact False.elim hq
    | brk => exact False.elim hq
    | cont => exact False.elim hq
end
end L2

set_option Elab.async false
set_option linter.all false
namespace L2
open PySem PySem.Spec PyProof.Rows PySem.W
theorem kit_self (K : PySem.W.Frag) (C : Addr) : PySem.W.kitOne K (.ref C) (.ref C) = some true := by
  unfold PySem.W.kitOne
  rw [if_pos (by simp)]
end L2

set_option Elab.async false
set_option linter.all false
set_option maxRecDepth 100000
namespace L2
open PySem PySem.Spec PyProof.Rows PySem.W
/-- a loop that changes nothing but names -/
theorem for_keep {α : Type} {σ : L2.St} {H G : Hp} {wi : TI} {g : TG} {tb : TS} {D : Ends} {O : Addr → Prop} {xs : List α} {B : α → St → St → Hp → Prop} (Ss : St → Prop) (hi : Iw wi g σ G xs B) (o : Hid O H) (s : Le G (hid O H)) (h0 : Ss σ)
    (turn : ∀ x, x ∈ xs → ∀ σ2 H2, Ss σ2 → Le H H2 → ∀ σ4 H4, Le H2 H4 → B x σ2 σ4 (hid O H4) → ∀ Nx : St → Hp → Prop, (∀ σ' H', Ss σ' → Le H4 H' → Nx σ' H') → tb { D with nx := Nx, ct := Nx, bk := D.nx } σ4 H4)
    (done : ∀ σ2 H2, Ss σ2 → Le H H2 → D.nx σ2 H2) : tFor wi g tb D σ H := by
  refine for_iw hi o s fun H1 s1 => ⟨fun i σ2 H2 => Ss σ2 ∧ Le H1 H2, ⟨h0, .refl _⟩, fun i σ2 H2 _ h => hid_same h.2, fun i x σ2 H2 hx h => ⟨O, o.mono (s1.trans h.2), hid_same h.2, fun σ4 H4 s4 hB => ?_⟩, fun σ2 H2 h => done σ2 H2 h.1 (s1.trans h.2)⟩
  exact turn x (List.mem_of_getElem? hx) σ2 H2 h.1 (s1.trans h.2) σ4 H4 s4 hB _ fun σ' H' h' s' => ⟨h', h.2.trans (s4.trans s')⟩
/-- x = a matroid -/
theorem asg_eo {σ : L2.St} {H G : Hp} {te : TE} {i : Nat} {D : Ends} {O : Addr → Prop} {C : Addr} {g : List Int} {bs : List (List Int)} (h : Eo C te σ G g bs) (o : Hid O H) (s : Le G (hid O H)) (k : ∀ p H2, Le H H2 → MatV C (hid O H2) p g bs → D.nx (σ.set i (some (.ref p))) H2) : tAsg te (gName i) D σ H :=
  h O H o s _ fun p H2 s2 m => k p H2 s2 m
section
variable {P : Program} {w : World} {K : PySem.W.Frag} {mg : Str → Option Value} {base : Heap}
/-- a def over values, where no repr is under way -/
theorem okXG {C : Addr} {x qual : Str} {st : Stmt} {f : Addr} {fd : FuncData} {N ps : List Str} {k : Nat} {R : List Vl → Vl → Prop} (F : Fun K x qual st f fd) (S : FnScope N ps (defScope st)) (hl : ∀ ds d, R ds d → ds.length = ps.length)
    (body : ∀ (cdv : Value) (A : Around) (outer : List Env) (s : Shared) (H : Hp) (E : XK) (O : Addr → Prop) (vs : List V) (ds : List Vl) (d : Vl),
      A.guards = some [] → Room k (A.deeper (envOfC qual (defScope st) s.heap.objs.size f cdv)) → Hid O H → VrAll C (hid O H) vs ds → R ds d →
      ∃ t, PSs (cxOf CX0 P w K mg base N qual (defScope st) f cdv A outer s H E).nox (defBody st) t ∧
        ∀ D : Ends, (∀ v H', Le H H' → Vr C (hid O H') v d → D.rt v H') → t D (start N vs) H) :
    FnG P w K mg base (k + 1) f fd ps (spX C R) := by
  refine fnG_of F S (fun vs H Q E h => ?_) (fun cdv A outer s H vs Q E gd hr h => ?_)
  · obtain ⟨O, ds, d, o, hv, r, _⟩ := h
    rw [hv.len]
    exact hl ds d r
  · obtain ⟨O, ds, d, o, hv, r, q⟩ := h
    obtain ⟨t, ht, k⟩ := body cdv A outer s H E O vs ds d gd hr o hv r
    exact ⟨t, ht, k _ q⟩
end
end L2

set_option Elab.async false
set_option linter.all false
set_option maxRecDepth 100000
/-! errors: raised with a word, passed on, caught by their classes -/
namespace L2
open PySem PySem.Spec PyProof.Rows PySem.W
/-- what the __init__ of an own error does: it stores its one argument -/
def spEI (K : PySem.W.Frag) (f : Str) : Sp := fun vs H Q _ => ∃ (a C : Addr) (v : V), vs = [.ref a, v] ∧ OexC K C ∧ PySem.W.findIn K (.ref C) f = some none ∧ H a = some (exo a C none) ∧
  ∀ dx, H dx = none → dx ≠ a → Q .non (upd (upd H dx (exd dx [(f, v)])) a (exo a C (some dx)))
/-- what the written part says of an own error -/
structure ErrC (K : PySem.W.Frag) (mg : Str → Option Value) (nm f : Str) (C fI : Addr) : Prop where
  oe : OexC K C
  iC : PySem.W.findIn K (.ref C) "__init__" = some (some (.ref fI))
  tI : PySem.W.typeIn K (.ref fI) = some (.type "function")
  nf : PySem.W.findIn K (.ref C) f = some none
  gm : mg nm = some (.ref C)
section
variable {K : PySem.W.Frag} {σ : L2.St} {H H' G G' : Hp} {te : TE} {C : Addr} {f : Str} {d : PyData}
theorem mko_run {O : Addr → Prop} {Q : XK} (h : Ed te σ G d) (o : Hid O H) (s : Le G (hid O H)) (oe : OexC K C) (nf : PySem.W.findIn K (.ref C) f = some none) (k : ∀ dd H', Le H H' → Q (.ref C) (some dd) H') : tMkO C (spEI K f) [] (tCons te tNil) σ H Q :=
  h O H o s _ fun v H1 s1 hv => by
    refine ⟨by show 1 ≤ 1000; decide, fun a na => ⟨a, C, v, rfl, oe, nf, upd_same, fun dx hdx ne => ⟨rfl, dx, [(f, v)], upd_same, ?_, ?_, k dx _ (s1.trans (.of fun b ob e => ?_))⟩⟩⟩
    · rw [upd_ne ne, upd_same]
    · rw [upd_ne ne] at hdx
      exact hdx
    · have nb : b ≠ a := ne_of_none e na
      have nd : b ≠ dx := ne_of_none e (by rw [upd_ne ne] at hdx; exact hdx)
      rw [upd_ne nd, del_ne nb, upd_ne nb, upd_ne nd, upd_ne nb]
      exact e
/-- a def that lets out an error -/
def spR (C : Addr) (R : List Vl → Prop) (CE : Addr) : Sp := fun vs H _ E => ∃ (O : Addr → Prop) (xs : List Vl), Hid O H ∧ VrAll C (hid O H) vs xs ∧ R xs ∧ ∀ d H', Le H H' → E (.ref CE) (some d) H'
/-- a call of it, the answer never there -/
theorem callS_run {R : List Vl → Prop} {CE : Addr} {E : L2.St → XK} {a : TA} {xs : List Vl} {Q : VK} {O : Addr → Prop} (ha : Ex C a σ G xs) (o : Hid O H) (s : Le G (hid O H)) (hr : R xs) (k : ∀ d H', Le H H' → E σ (.ref CE) (some d) H') : tCallS (spR C R CE) E a σ H Q := by
  exact ha O H o s _ fun vs H2 s2 hv => ⟨O, xs, o.mono s2, hv, hr, fun d H3 s3 => k d H3 (s2.trans s3)⟩
end
section
variable {P : Program} {w : World} {K : PySem.W.Frag} {mg : Str → Option Value} {base : Heap}
theorem okR {C CE : Addr} {x qual : Str} {st : Stmt} {f : Addr} {fd : FuncData} {N ps : List Str} {k : Nat} {R : List Vl → Prop} (F : Fun K x qual st f fd) (S : FnScope N ps (defScope st)) (hl : ∀ ds, R ds → ds.length = ps.length)
    (body : ∀ (cdv : Value) (A : Around) (outer : List Env) (s : Shared) (H : Hp) (E : XK) (O : Addr → Prop) (vs : List V) (ds : List Vl),
      Room k (A.deeper (envOfC qual (defScope st) s.heap.objs.size f cdv)) → Hid O H → VrAll C (hid O H) vs ds → R ds →
      ∃ t, PSs (cxOf (L2.CX P w) P w K mg base N qual (defScope st) f cdv A outer s H E) (defBody st) t ∧
        ∀ D : Ends, (∀ d H', Le H H' → E (.ref CE) (some d) H') → t D (start N vs) H) :
    FnOk P w K mg base (L2.CX P w) (k + 1) f fd ps (spR C R CE) := by
  refine F.okX S (fun vs H Q E h => ?_) (fun cdv A outer s H vs Q E hr h => ?_)
  · obtain ⟨O, ds, o, hv, r, _⟩ := h
    rw [hv.len]
    exact hl ds r
  · obtain ⟨O, ds, o, hv, r, q⟩ := h
    obtain ⟨t, ht, k⟩ := body cdv A outer s H E O vs ds hr o hv r
    exact ⟨t, ht, k _ q⟩
end
/-! ### o.m(..) that may raise, within a try -/
def tMethX (C : Addr) (m : Str) (sp : Sp) (E : L2.St → XK) (ta : TE) (t : TA) : TE := fun σ H Q => ta σ H fun x H1 => ∃ a dx fs, x = .ref a ∧ H1 a = some (.ins C dx fs) ∧ fs.lookup m = none ∧
  t σ H1 fun vs H2 => sp (x :: vs) H2 Q (E σ)
section
variable {X : Cx} {CX : CXT} {k : Nat} {f C : Addr} {fd : FuncData} {ps : List Str} {sp : Sp} {E : L2.St → XK} {m : Str} {pos apos : Pos} {e o : Expr} {es : List Expr} {ta : TE} {t : TA}
theorem pe_methX {pl : Sem Bool} (ho : PE X o ta) (c : Cls X.K C) (hm : Meth X.K C m f) (F : FnOk X.prog X.w X.K X.mg X.base CX k f fd ps sp) (hr : Room k X.A) (hb : Binds X.K fd ps []) (hx : ∀ σ, PassesAt CX X σ (E σ)) (ha : PA X (e :: es) t)
    (h1 : starEach (e :: es) X.env = (false, eval e X.env) :: starEach es X.env := by rfl) (h2 : (backTo pos (starEach es X.env)).any (·.1) = false := by rfl)
    (h3 : eval (.Call (.Attribute o m apos) (e :: es) [] pos) X.env = (do
      let own ← eval o X.env
      standAt apos.atName
      let (g, front) ← holding [own] (getMethod own m pl)
      callWith pos g front (backTo pos (starEach (e :: es) X.env)) (backToKw pos (keywordEach [] X.env))) := by rfl) :
    PE X (.Call (.Attribute o m apos) (e :: es) [] pos) (tMethX C m sp E ta t) := by
  refine ⟨fun pins s σ H Q I hh => ?_⟩
  refine PySem.W.methodCall_KW (pl := pl) (thn (ho.run pins s σ H _ I hh) fun u s1 ⟨x, H1, I1, rx, a, dx, fs, ex, ea, nl, q⟩ => ?_) h3
  subst ex
  obtain rfl : u = Value.ref a := rx
  refine getmeth_ok I1 ea c hm nl (PySem.W.callWith_K (first := [.ref a]) (h₀ := X.base) I.ok.mod.kin hm.kp (thn (ha.run pos pins s1 σ H1 _ I1 q) fun us s2 ⟨vs, H2, I2, rr, q2⟩ => ⟨I2.kIn, ?_⟩) h1 h2)
  exact run_fnS (us := .ref a :: us) (vs := .ref a :: vs) F hr hb (hx σ) I2 (.cons rfl rr) q2
end
theorem methX_run {σ : L2.St} {H G : Hp} {C CE p : Addr} {m : Str} {g : List Int} {bs : List (List Int)} {to : TE} {R : List Vl → Prop} {E : L2.St → XK} {a : TA} {xs : List Vl} {Q : VK} {O : Addr → Prop} (hm : ∀ a b c d e, (flds5 a b c d e).lookup m = none) (ho : Eo C to σ G g bs) (ha : Ex C a σ G xs) (o : Hid O H) (s : Le G (hid O H)) (hr : R (.m g bs :: xs))
    (k : ∀ d H', Le H H' → E σ (.ref CE) (some d) H') : tMethX C m (spR C R CE) E to a σ H Q :=
  ho O H o s _ fun p H2 s2 hm2 => by
    obtain ⟨dx, v1, v2, v3, v4, v5, hp, _⟩ := id hm2
    refine ⟨p, dx, _, rfl, (hid_some hp).1, hm _ _ _ _ _, ha O H2 (o.mono s2) (s.trans (hid_same s2)) _ fun vs H3 s3 hv => ?_⟩
    exact ⟨O, _, o.mono (s2.trans s3), .cons (.m (hm2.mono (hid_same s3))) hv, hr, fun d H4 s4 => k d H4 ((s2.trans s3).trans s4)⟩
/-! ### try with several clauses, of which the last ones are never asked -/
def wFew (K : PySem.W.Frag) (D : Ends) : List (Value × (Addr → Value → Option Addr → TS)) → WX
  | [] => fun _ _ _ _ => False
  | (c, ts) :: r => fun cls d σ H => ∃ b, PySem.W.exmOne K cls c = some b ∧ (b = true → ∀ a, H a = none → ts a cls d D σ H) ∧ (b = false → wFew K D r cls d σ H)
inductive FewOk (X : Cx) : List ExceptHandler → List (Value × (Addr → Value → Option Addr → TS)) → Prop
  | rest (hds : List ExceptHandler) : FewOk X hds []
  | more {x : Str} {c : Value} {ts : Addr → Value → Option Addr → TS} {st : Stmt} {sts : List Stmt} {np pq : Pos} {hds : List ExceptHandler} {l : List (Value × (Addr → Value → Option Addr → TS))} (nc : Names X x c)
      (su : ∀ (a : Addr) (oe : Obj) (cls : Value) (d : Option Addr) (pn : List (Addr × Obj)), Zc cls d oe → (∃ vs, oe.data = .fields vs) → PSs (X.suite a ((a, oe) :: pn)) (st :: sts) (ts a cls d)) (r : FewOk X hds l) :
      FewOk X (.ExceptHandler (some (.Name x np)) none (st :: sts) pq :: hds) ((c, ts) :: l)
section
variable {X : Cx} {body : List Stmt} {hd0 : ExceptHandler} {hds : List ExceptHandler} {l : List (Value × (Addr → Value → Option Addr → TS))} {pos : Pos} {tb : WX → TS}
theorem ps_tryFew (st0 : X.stack = X.env :: X.outer) (fr0 : X.env.frame = some X.env.locals)
    (hb : ∀ (W : WX) (pn : List (Addr × Obj)) (xe : Value → Shared → Prop), Takes (X.tr pn xe) W → PassesOwn (model X.prog X.w) X.A X.env xe → PSs (X.tr pn xe) body (tb W))
    (few : FewOk X (hd0 :: hds) l) : PS X (.Try body (hd0 :: hds) [] [] pos) (fun D σ H => tb (wFew X.K D l) D σ H) := by
  refine ⟨fun pins s σ H D I hh => ?_⟩
  have okX := I.ok
  have frs0 : X.A.frames = some (X.env :: X.outer) := by rw [okX.frames, st0]
  refine wpAny_Try_except (wpAny_mono ((hb (wFew X.K D l) (X.pn ++ pins) (fun u s₁ => wpAny (model X.prog X.w) X.A (noteFrame u X.env) (fun _ s₂ => wpAny (model X.prog X.w) X.A (setFlight u none) (fun _ s₃ =>
    wpAny (model X.prog X.w) X.A (handleBy u X.env (hd0 :: hds)) (SP X pins D) X.xe s₃) X.xe s₂) X.xe s₁) (fun u t xx => ?caught) PassesOwn.looking).run [] s σ H D (I.toTry _) hh) (fun fl t sp => ?ended) (fun _ _ z => z))
  case caught =>
    obtain ⟨a, B, sI, pq, σ1, Hx, cls, d, rfl, Jt, nb, up0, skyX, na, os, ag, wish⟩ := xx
    have J : Inv X pins σ1 Hx sI := Jt.ofTry okX
    have sky1 : Sky B (X.env :: X.outer) a (Zc cls d) X.env.locals t.heap := by rw [← st0]; exact skyX
    show wpAny (model X.prog X.w) X.A (noteFrame (.ref a) X.env) _ _ _
    refine Sky.land Zc.steady frs0 fr0 sky1 fun h3 fl3 up3 => ?_
    have J3 : Inv X pins σ1 Hx { t with heap := h3 } := J.landed nb fl3.1 (up0.trans up3) os ag
    obtain ⟨o3, vs3, at3, z3, dat3⟩ := fl3.there
    have apart : ∀ {hp : Heap} {ob : Obj} {vv : Array Value}, hp.FunFrames B (X.env :: X.outer) → hp.get? a = some ob → ob.data = .fields vv → a ∉ frs (X.env :: X.outer) := fun {hp ob vv} ff e1 e2 hin => by
      obtain ⟨_, ob', e3, nof⟩ := ff.mem hin
      rw [e1] at e3
      cases e3
      exact nof _ e2
    have away := apart fl3.2.2.1 at3 dat3
    have aL : a ≠ X.env.locals := fun z => away (List.mem_filterMap.mpr ⟨X.env, List.mem_cons_self, by rw [fr0, z]⟩)
    have aF : a ∉ X.fs := fun hin => by
      obtain ⟨en, h1, h2⟩ := List.mem_filterMap.mp hin
      exact away (List.mem_filterMap.mpr ⟨en, List.mem_cons_of_mem _ h1, h2⟩)
    have S3 := J3.suite at3 dat3 na aL aF
    have each : ∀ {hs' : List ExceptHandler} {l' : List (Value × (Addr → Value → Option Addr → TS))}, FewOk X hs' l' → wFew X.K D l' cls d σ1 Hx →
        wpAny (model X.prog X.w) X.A (handleBy (.ref a) X.env hs') (SP X pins D) X.xe { t with heap := h3 } := by
      intro hs' l' few'
      induction few' with
      | rest hds => exact fun z => z.elim
      | @more x c ts st sts np pq hs2 l2 nc su r ih =>
        rintro ⟨b, hb1, yes, no⟩
        refine wpAny_handleBy_cons (codeAny_handlers_test ?_) (by intro z; cases z)
        have lt : PySem.W.Looks (model X.prog X.w) h3 (typeOf (.ref a)) cls := fun A Q E s kk q => wpAny_typeOf_ref (kk _ _ at3) (by rw [z3.1]; exact q)
        have lm := PySem.W.exm_one (M := model X.prog X.w) (J3.kIn) lt hb1
        have ask : ∀ {Q : Value → Shared → Prop} {E : Value → Shared → Prop}, Q c { t with heap := h3 } → wpAny (model X.prog X.w) (X.A.mark (some (.ref a))) (eval (.Name x np) X.env) Q E { t with heap := h3 } := fun {Q E} q => by
          obtain ⟨g1, g2, m1 | ⟨m1, m2, m3⟩⟩ := nc
          · exact ld_glob (X := X.suite a ((a, o3) :: (X.pn ++ pins))) S3 g1 m1 q g2
          · exact ld_blt (X := X.suite a ((a, o3) :: (X.pn ++ pins))) S3 g1 m1 m2 q m3 g2
        refine ask (lm.here ?_)
        cases b with
        | false =>
          show wpAny _ X.A (handleBy (.ref a) X.env hs2) _ _ _
          exact ih (no rfl)
        | true =>
          refine codeAny_handlers_suite (HandSPX.lands_againZ fl3 fun h4 fl4 up4 => ?_)
          have J4 : Inv X pins σ1 Hx { t with heap := h4 } := J.landed nb fl4.1 ((up0.trans up3).trans up4) os ag
          obtain ⟨o4, vs4, at4, z4, dat4⟩ := fl4.there
          have S4 := J4.suite at4 dat4 na aL aF
          refine wpAny_mono ((su a o4 cls d (X.pn ++ pins) z4 ⟨_, dat4⟩).run [] _ _ Hx _ S4 (yes rfl a na)) (fun fl t6 sp6 => ?_) (fun _ _ z => False.elim z)
          cases fl with
          | ret u =>
            obtain ⟨v6, σ6, H6, S6, r6, q6⟩ := sp6
            exact ⟨_, _, _, S6.unsuite okX, r6, q6⟩
          | next =>
            obtain ⟨σ6, H6, S6, q6⟩ := sp6
            exact ⟨_, _, S6.unsuite okX, q6⟩
          | brk =>
            obtain ⟨σ6, H6, S6, q6⟩ := sp6
            exact ⟨_, _, S6.unsuite okX, q6⟩
          | cont =>
            obtain ⟨σ6, H6, S6, q6⟩ := sp6
            exact ⟨_, _, S6.unsuite okX, q6⟩
    exact each few wish
  case ended =>
    cases fl with
    | ret u =>
      obtain ⟨v, σ1, H1, J1, rv, q⟩ := sp
      exact ⟨v, σ1, H1, J1.ofTry okX, rv, q⟩
    | next =>
      obtain ⟨σ1, H1, J1, q⟩ := sp
      exact wpAny_execs_nil ⟨σ1, H1, J1.ofTry okX, q⟩
    | brk =>
      obtain ⟨σ1, H1, J1, q⟩ := sp
      exact ⟨σ1, H1, J1.ofTry okX, q⟩
    | cont =>
      obtain ⟨σ1, H1, J1, q⟩ := sp
      exact ⟨σ1, H1, J1.ofTry okX, q⟩
end
/-- whether an error of the class at A is what «except B» names -/
theorem exm_of {K : PySem.W.Frag} {A B : Addr} {b : Bool} (h1 : PySem.W.subIn K (.ref B) (.type "BaseException") = some true) (h2 : PySem.W.isClsIn K B = true) (h3 : PySem.W.typeIn K (.ref B) = some (.type "type")) (h4 : PySem.W.subIn K (.ref A) (.ref B) = some b) :
    PySem.W.exmOne K (.ref A) (.ref B) = some b := by
  have e1 : (PySem.W.subIn K (.ref B) (.type "BaseException") == some true) = true := by rw [h1]; rfl
  have e2 : ((PySem.W.clsIn K B).isSome && PySem.W.typeIn K (.ref B) == some (.type "type")) = true := by
    have h : (PySem.W.clsIn K B).isSome = true := h2
    rw [h, h3]; rfl
  show (if (PySem.W.subIn K (.ref B) (.type "BaseException") == some true) = true then (if ((PySem.W.clsIn K B).isSome && PySem.W.typeIn K (.ref B) == some (.type "type")) = true then PySem.W.subIn K (.ref A) (.ref B) else none) else none) = some b
  rw [if_pos e1, if_pos e2, h4]
end L2

set_option Elab.async false
set_option linter.all false
set_option maxRecDepth 100000
/-! sorted(set([*one, *other])) -/
namespace L2
open PySem PySem.Spec PyProof.Rows PySem.W StX
abbrev emptyS (w : World) : Obj := { cls := .type "set", dict := none, data := .set #[] 0 (.fresh 0 0 (!w.params.followText "set-order")) }
section
variable {P : Program} {w : World} {A : Around} {E : Value → Shared → Prop} {s : Shared}
set_option maxRecDepth 100000 in
set_option maxHeartbeats 3200000 in
theorem set_of_list {l : Addr} {items : Array Value} (ns : List Int) {Q : Value → Shared → Prop} (hh : A.handled = none) (hl : s.heap.IsList l items) (hit : IntsAre items.toList ns) (hb : ns.length + 1 < scanBound)
    (h : ∀ (h' : Heap) (tk c : Nat), SetR w h' s.heap.objs.size (fun j => decide (j ∈ ns)) c → c ≤ ns.length → (∀ b o, s.heap.get? b = some o → h'.get? b = some o) → Q (.ref s.heap.objs.size) { s with heap := h', toks := tk }) :
    wpAny (model P w) A (call (.type "set") [.ref l]) Q E s := by
  have szI : items.size = ns.length := by
    have q := IntsAre.length hit
    rw [Array.length_toList] at q
    exact q
  obtain ⟨c, tl, mro0⟩ := F.called_set.mro
  have made0 := F.called_set.made
  have sub0 := F.called_set.sub
  refine wpAny_call (codeAny_of_tree ?_)
  show wpAny _ _ (callAny (.type "set") _) _ _ _
  refine wpAny_pure ⟨Code.quiet_builtin _ (by decide +kernel), codeAny_builtin F.entry_type_call ?_⟩
  rw [Around.under_plain (weight_type_call_type "set" [.ref l] []) rfl]
  have h1 := F.called_set.notType
  have h2 := F.called_set.canCreate
  have tc0 := F.typeCall_set_1 (.ref l)
  repeat (any_goals (first | assumption | wp_step))

  refine codeAny_mono (code_set_led1 (.ref l) (E := E) (Q₁ := fun obj s₁ => obj = .ref s.heap.objs.size ∧ s₁ = { s with heap := s.heap.push (emptyS w) }) ⟨rfl, rfl⟩) fun r s₁ hr => ?_
  cases r with
  | error e => exact hr
  | ok fl =>
    cases fl with
    | ret obj =>
      obtain ⟨rfl, rfl⟩ := hr
      have gS : (s.heap.push (emptyS w)).get? s.heap.objs.size = some (emptyS w) := Heap.get?_push_size _ rfl
      have gT : Shared.TypeIs { s with heap := s.heap.push (emptyS w) } (.ref s.heap.objs.size) "set" := ⟨_, gS, rfl⟩
      have li0 := F.called_set.init.lookup
      have bi0 := F.called_set.init.bind (.ref s.heap.objs.size)
      repeat (any_goals (first | assumption | wp_step))

      refine codeAny_mono (codeAny_call_builtin (R := wants (fun r s₂ => r = .none ∧ ∃ h' tk c, s₂ = { s with heap := h', toks := tk } ∧ SetR w h' s.heap.objs.size (fun j => decide (j ∈ ns)) c ∧ c ≤ ns.length ∧
          (∀ b o, s.heap.get? b = some o → h'.get? b = some o)) E) F.called_set.init.plain F.entry_set_init (check_set_init_1 gT ?_)) fun r₂ s₂ q2 => ?_
      · obtain ⟨ol, ol1, cl1, nl, dl1⟩ := hl
        obtain ⟨oc0, od0, da0, os0⟩ := ol
        simp only at cl1 dl1
        subst cl1; subst dl1
        have ol2 : (s.heap.push (emptyS w)).get? l = some { cls := .type "list", dict := od0, data := .seq items nl, slots := os0 } := Heap.get?_push_of_some _ ol1
        have ss1 := F.sub_list_set
        have sf1 := F.sub_list_frozenset
        have ne0 : (Value.type "list" == Value.type "dict") = false := by decide
        have gl1 : (s.heap.push (emptyS w)).IsList l items := ⟨_, ol2, rfl, nl, rfl⟩
        unfold Builtin.«set.__init__» noKeywords Builtin.Frozenset.updateFrom
        generalize pIt : pyIter = PI
        wp_walk
        subst pIt

        refine wpAny_pyIter_list gl1 ?_
        refine wpAny_bind (wpAny_runValue ?_)
        have ltS : l < s.heap.objs.size := Heap.lt_size ol1
        have hd3 : A.in1.in1.in1.handled = none := by simp [hh]
        have z1 : (s.heap.push (emptyS w)).objs.size = s.heap.objs.size + 1 := Heap.size_push ..
        have neI : l ≠ (s.heap.push (emptyS w)).objs.size := by
          rw [Heap.size_push]; exact Nat.ne_of_lt (Nat.lt_succ_of_lt ltS)
        have nSf : s.heap.objs.size ∉ [(s.heap.push (emptyS w)).objs.size, l] := by
          rw [Heap.size_push]; simp only [List.mem_cons, List.mem_singleton, List.not_mem_nil, or_false, not_or]
          exact ⟨Nat.ne_of_lt (Nat.lt_succ_self _), Nat.ne_of_gt ltS⟩
        have vals0 : ∀ (i : Nat) (v : Value), items[i]? = some v → ∃ k t, ns[i]? = some k ∧ v = .int k t := fun i v hv => by
          have hi : i < ns.length := by rw [← szI]; exact (Array.getElem?_eq_some_iff.mp hv).1
          obtain ⟨t, e⟩ := PyProof.Rows.IntsAre.int_at hit i v (by rw [Array.getElem?_toList]; exact hv)
          refine ⟨ns[i], t, List.getElem?_eq_getElem hi, ?_⟩
          rw [e, List.getD_eq_getElem?_getD, List.getElem?_eq_getElem hi] <;> rfl
        refine set_update_ints ((Walks.list hd3 _ l neI items).toS) s.heap.objs.size
          nSf ns szI hb vals0 (items.size - 0) 0 _ (by omega) (Nat.zero_le _)
          ⟨⟨_, Heap.get?_push_size _ rfl, rfl, rfl⟩, (gl1.push _)⟩ ?hS0 ?hR
        case hS0 =>
          have got : ((s.heap.push (emptyS w)).push { cls := .type "list_iterator", data := .fields #[.ref l, .int 0 0] }).get? s.heap.objs.size
              = some (emptyS w) := Heap.get?_push_of_some _ gS
          exact ⟨0, Nat.le_refl 0, setR_new_at got⟩
        case hR =>
          intro s' c' mv cc2 gS2
          obtain ⟨h', g2, d', tk', os'⟩ := s'
          have eg : g2 = s.gens := mv.gens
          have ed : d' = s.drawn := mv.drawn
          have eo : os' = s.os := mv.os
          subst eg; subst ed; subst eo
          show wpAny _ _ _ _ _ _
          refine wpAny_pure ?_
          show wpAny _ _ (ret Value.none) _ _ _
          rw [szI] at cc2
          refine wpAny_pure ⟨rfl, h', tk', c', rfl, gS2, cc2, fun b o e => ?_⟩
          have b0 : b < s.heap.objs.size := Heap.lt_size e
          have b1 : b ≠ s.heap.objs.size := Nat.ne_of_lt b0
          have b2 : b ≠ (s.heap.push (emptyS w)).objs.size := by
            rw [Heap.size_push]; exact Nat.ne_of_lt (Nat.lt_succ_of_lt b0)
          exact mv.heap b o (by simp only [List.mem_cons, List.mem_singleton, List.not_mem_nil, or_false, not_or]; exact ⟨b1, b2⟩) (Heap.get?_push_of_some _ (Heap.get?_push_of_some _ e))

      · cases r₂ with
        | error e => exact q2
        | ok fl₂ =>
          cases fl₂ with
          | ret r =>
            obtain ⟨rfl, h', tk, c', rfl, gS2, cc2, kk2⟩ := q2
            repeat (any_goals (first | assumption | wp_step))
            exact h _ _ _ gS2 cc2 kk2
          | _ => exact q2.elim
    | _ => exact hr.elim

end
section
variable {X : Cx} {pins : List (Addr × Obj)} {σ : L2.St} {H : Hp} {s : Shared}
/-- sorted(set(xs)) of ints -/
def tSortSet (K : PySem.W.Frag) (ta : TE) : TE := fun σ H Q => ta σ H fun x H1 => ∃ (l : Addr) (ns : List Int), x = .ref l ∧ SqL K H1 l (ns.map V.int) ∧ ns.length < 60 ∧
  ∀ (ys : List Int) (p : Addr), ys.Pairwise (· < ·) → (∀ k, k ∈ ys ↔ k ∈ ns) → H1 p = none → Q (.ref p) (upd H1 p (.lst (ys.map V.int)))
theorem pe_sortSet (K : PySem.W.Frag) {a : Expr} {ta : TE} {p p2 q pos : Pos} (hg : Gl X "sorted") (hm : X.mg "sorted" = none) (hg2 : Gl X "set") (hm2 : X.mg "set" = none) (ha : PE X a ta) (hc : X.calm = true := by rfl) (hK : X.K = K := by exact rfl)
    (na : starEach [a] X.env = (false, eval a X.env) :: starEach [] X.env := by rfl) : PE X (.Call (.Name "sorted" p) [.Call (.Name "set" p2) [a] [] q] [] pos) (tSortSet K ta) := by
  subst hK
  refine ⟨fun pins s σ H Q I h => ?_⟩
  refine Call_ (ld_blt I hg hm boot_sorted ?_)
  refine PyProof.Rows.callWith_builtin1 (PyProof.Rows.args_cons ?_ rfl) rfl rfl
  refine Call_ (ld_blt I hg2 hm2 boot_set ?_)
  refine PyProof.Rows.callWith_type1 (PyProof.Rows.args_cons (thn (ha.run pins s σ H _ I h) fun v s1 ⟨x, H1, I1, r1, q1⟩ => PyProof.Rows.args_nil ?_) na) na rfl
  obtain ⟨l, ns, rfl, hq, h60, q1⟩ := q1
  cases r1
  obtain ⟨its, r, pl, hz⟩ := I1.list hq
  refine set_of_list ns (I1.ok.hd hc) pl.isList (by simpa using r.ints) (by unfold scanBound; omega) fun h' tk c R hc' hk => PyProof.Rows.args_nil ?_
  have I2 : Inv X pins σ H1 { s1 with heap := h', toks := tk } := I1.kept hk
  have R2 : SetR X.w ({ s1 with heap := h', toks := tk } : Shared).heap _ _ _ := R
  generalize ({ s1 with heap := h', toks := tk } : Shared) = s2 at I2 R2 ⊢
  refine sorted_set R2 (I1.ok.hd hc) (by omega) fun s' p out c2 ys k g o hp hg hi hs hm hl => ?_
  have hlen : (ys.map V.int).length ≤ sizeLine := by rw [List.length_map, hl, sizeLine_eq]; omega
  have hn : H1 p = none := I2.hok.fresh hp
  have J : Inv X pins σ (upd H1 p (.lst (ys.map V.int))) { s2 with heap := s'.heap, gens := s'.gens, drawn := s'.drawn, toks := s'.toks } :=
    I2.call (ch := []) (Un.laid k hp hn) (I2.hok.laid k hp ⟨hlen, out.toList, c2, vals_of_ints hi, hg⟩) (by rw [g]; exact I2.bare) (fun _ z => nomatch z)
  have e : s' = { s2 with heap := s'.heap, gens := s'.gens, drawn := s'.drawn, toks := s'.toks } := by
    cases s'
    cases s2
    cases o
    rfl
  rw [e]
  exact ⟨.ref p, _, J, rfl, q1 ys p hs (fun z => by rw [hm z, decide_eq_true_eq]) hn⟩
end
section
variable {X : Cx} (K : PySem.W.Frag) {te : TE} {t : TA} {e : Expr} {es : List Expr} {p : Pos}
theorem ka_star (he : PE X e te) (hr : PA X es t) (hK : X.K = K := by exact rfl) (hs : starEach (.Starred e p :: es) X.env = (true, eval e X.env) :: starEach es X.env := by rfl) : PA X (.Starred e p :: es) (tStar K te t) := hK ▸ pa_star he hr hs
end
section
variable {K : PySem.W.Frag} {σ : L2.St} {G : Hp} {te : TE} {t : TA} {ds es : List PyData}
theorem ea_star {kd : Bool} (h : Ed te σ G (sqD kd ds)) (hs : Ea t σ G es) : Ea (tStar K te t) σ G (ds ++ es) := fun O H1 o s Q q =>
  h O H1 o s _ fun v H2 s2 hv => by
    obtain ⟨a, ys, rfl, hq, hd⟩ := sqD_inv hv
    refine ⟨a, ys, rfl, ?_, hs O H2 (o.mono s2) (s.trans (hid_same s2)) _ fun vs H3 s3 hvs => q _ H3 (s2.trans s3) ((hd.mono (hid_same s3)).append hvs)⟩
    cases kd with
    | true => exact .inl ((hid_sub O H2).seqT hq)
    | false => exact .inr ((hid_sub O H2).seq hq)
/-- x put into an ascending row -/
def insU (x : Int) : List Int → List Int
  | [] => [x]
  | y :: r => if x < y then x :: y :: r else if x = y then y :: r else y :: insU x r
theorem mem_insU {x z : Int} : ∀ {l : List Int}, z ∈ insU x l ↔ z = x ∨ z ∈ l
  | [] => by simp [insU]
  | y :: r => by
    unfold insU
    split
    · simp
    · split
      · rename_i h
        subst h
        simp
      · rw [List.mem_cons, mem_insU, List.mem_cons]
        constructor
        · rintro (h | h | h)
          · exact .inr (.inl h)
          · exact .inl h
          · exact .inr (.inr h)
        · rintro (h | h | h)
          · exact .inr (.inl h)
          · exact .inl h
          · exact .inr (.inr h)
theorem asc_insU {x : Int} : ∀ {l : List Int}, l.Pairwise (· < ·) → (insU x l).Pairwise (· < ·)
  | [], _ => List.pairwise_singleton _ _
  | y :: r, h => by
    unfold insU
    have h1 := (List.pairwise_cons.mp h).1
    have h2 := (List.pairwise_cons.mp h).2
    split
    · rename_i lt
      refine List.pairwise_cons.mpr ⟨fun z hz => ?_, h⟩
      rcases List.mem_cons.mp hz with e | hz
      · omega
      · have := h1 z hz
        omega
    · split
      · exact h
      · refine List.pairwise_cons.mpr ⟨fun z hz => ?_, asc_insU h2⟩
        rcases mem_insU.mp hz with e | hz
        · omega
        · exact h1 z hz
/-- what either of two rows has, ascending -/
def tog (a b : List Int) : List Int := (a ++ b).foldr insU []
theorem asc_tog (a b : List Int) : (tog a b).Pairwise (· < ·) := by
  unfold tog
  induction (a ++ b) with
  | nil => exact .nil
  | cons x r ih => exact asc_insU ih
theorem mem_tog {a b : List Int} {z : Int} : z ∈ tog a b ↔ z ∈ a ∨ z ∈ b := by
  rw [← List.mem_append]
  unfold tog
  induction (a ++ b) with
  | nil => simp
  | cons x r ih => rw [List.foldr_cons, mem_insU, ih, List.mem_cons]
theorem asc_eq : ∀ {l l' : List Int}, l.Pairwise (· < ·) → l'.Pairwise (· < ·) → (∀ z, z ∈ l ↔ z ∈ l') → l = l'
  | [], [], _, _, _ => rfl
  | [], y :: r, _, _, h => absurd ((h y).mpr List.mem_cons_self) List.not_mem_nil
  | x :: r, [], _, _, h => absurd ((h x).mp List.mem_cons_self) List.not_mem_nil
  | x :: r, y :: r', h, h', e => by
    have h1 := List.pairwise_cons.mp h
    have h2 := List.pairwise_cons.mp h'
    have exy : x = y := by
      rcases List.mem_cons.mp ((e x).mp List.mem_cons_self) with z | z
      · exact z
      · rcases List.mem_cons.mp ((e y).mpr List.mem_cons_self) with u | u
        · exact u.symm
        · have := h1.1 y u
          have := h2.1 x z
          omega
    subst exy
    rw [asc_eq h1.2 h2.2 fun z => ?_]
    have hz := e z
    rw [List.mem_cons, List.mem_cons] at hz
    constructor
    · intro m
      rcases hz.mp (.inr m) with u | u
      · have := h1.1 z m
        omega
      · exact u
    · intro m
      rcases hz.mpr (.inr m) with u | u
      · have := h2.1 z m
        omega
      · exact u
theorem ed_sortSet {ns ys : List Int} (hl : ns.length < 60) (hy : ys.Pairwise (· < ·)) (hm : ∀ k, k ∈ ys ↔ k ∈ ns) (h : Ed te σ G (.list (ns.map .int))) : Ed (tSortSet K te) σ G (.list (ys.map .int)) := fun O H1 o s Q q =>
  h O H1 o s _ fun v H2 s2 hv => by
    obtain ⟨a, xs, rfl, hq, hd⟩ := hv.lst_inv
    rw [hd.ints_inv] at hq
    refine ⟨a, ns, rfl, (hid_sub O H2).seq hq, hl, fun zs p hz hmz np => ?_⟩
    have e : zs = ys := asc_eq hz hy fun z => by rw [hmz z, hm z]
    subst e
    exact q _ _ (s2.trans (same_new np)) (dp_newL (o.mono s2) np (DqAll.of_ints zs))
end
end L2

set_option Elab.async false
set_option linter.all false
set_option maxRecDepth 100000
namespace K9
open PySem PySem.Spec PyProof.Rows L2 PySem.W
def top (i : Nat) : Stmt := PySem.Challenge.pw_rankwright_k66_whole_good_splits.main.body.getD i (.Pass ⟨0, 0, 0, 0⟩)
abbrev s_is_integer : Stmt := top 12
theorem sc_is_integer : FnScope ["thing"] ["thing"] (defScope s_is_integer) := ⟨rfl, rfl, rfl, by decide +kernel, rfl, by decide +kernel, by decide +kernel⟩
abbrev s_is_element : Stmt := top 13
theorem sc_is_element : FnScope ["thing"] ["thing"] (defScope s_is_element) := ⟨rfl, rfl, rfl, by decide +kernel, rfl, by decide +kernel, by decide +kernel⟩
abbrev s_is_ascending : Stmt := top 14
theorem sc_is_ascending : FnScope ["things", "at"] ["things"] (defScope s_is_ascending) := ⟨rfl, rfl, rfl, by decide +kernel, rfl, by decide +kernel, by decide +kernel⟩
abbrev s_is_set : Stmt := top 15
theorem sc_is_set : FnScope ["thing", "one"] ["thing"] (defScope s_is_set) := ⟨rfl, rfl, rfl, by decide +kernel, rfl, by decide +kernel, by decide +kernel⟩
abbrev s_is_set_within : Stmt := top 16
theorem sc_is_set_within : FnScope ["thing", "ground", "one"] ["thing", "ground"] (defScope s_is_set_within) := ⟨rfl, rfl, rfl, by decide +kernel, rfl, by decide +kernel, by decide +kernel⟩
abbrev s_are_sets_within : Stmt := top 17
theorem sc_are_sets_within : FnScope ["thing", "ground", "one"] ["thing", "ground"] (defScope s_are_sets_within) := ⟨rfl, rfl, rfl, by decide +kernel, rfl, by decide +kernel, by decide +kernel⟩
abbrev s_check_ground : Stmt := top 18
theorem sc_check_ground : FnScope ["ground"] ["ground"] (defScope s_check_ground) := ⟨rfl, rfl, rfl, by decide +kernel, rfl, by decide +kernel, by decide +kernel⟩
abbrev s_check_sets : Stmt := top 19
theorem sc_check_sets : FnScope ["things", "ground"] ["things", "ground"] (defScope s_check_sets) := ⟨rfl, rfl, rfl, by decide +kernel, rfl, by decide +kernel, by decide +kernel⟩
abbrev s_set_of : Stmt := top 21
theorem sc_set_of : FnScope ["mask", "ground", "at", "one"] ["mask", "ground"] (defScope s_set_of) := ⟨rfl, rfl, rfl, by decide +kernel, rfl, by decide +kernel, by decide +kernel⟩
abbrev s_sets_of : Stmt := top 22
theorem sc_sets_of : FnScope ["masks", "ground", "mask"] ["masks", "ground"] (defScope s_sets_of) := ⟨rfl, rfl, rfl, by decide +kernel, rfl, by decide +kernel, by decide +kernel⟩
abbrev s_mask_of : Stmt := top 23
theorem sc_mask_of : FnScope ["members", "ground", "at", "one"] ["members", "ground"] (defScope s_mask_of) := ⟨rfl, rfl, rfl, by decide +kernel, rfl, by decide +kernel, by decide +kernel⟩
abbrev s_masks_of : Stmt := top 24
theorem sc_masks_of : FnScope ["sets", "ground", "bits", "at", "one", "members"] ["sets", "ground"] (defScope s_masks_of) := ⟨rfl, rfl, rfl, by decide +kernel, rfl, by decide +kernel, by decide +kernel⟩
abbrev s_places_in : Stmt := top 26
theorem sc_places_in : FnScope ["mask", "many", "at"] ["mask", "many"] (defScope s_places_in) := ⟨rfl, rfl, rfl, by decide +kernel, rfl, by decide +kernel, by decide +kernel⟩
abbrev s_places_outside : Stmt := top 27
theorem sc_places_outside : FnScope ["mask", "many", "at"] ["mask", "many"] (defScope s_places_outside) := ⟨rfl, rfl, rfl, by decide +kernel, rfl, by decide +kernel, by decide +kernel⟩
abbrev s_sizes_of_masks : Stmt := top 28
theorem sc_sizes_of_masks : FnScope ["many", "sizes", "_", "size"] ["many"] (defScope s_sizes_of_masks) := ⟨rfl, rfl, rfl, by decide +kernel, rfl, by decide +kernel, by decide +kernel⟩
abbrev s_flags_above : Stmt := top 29
theorem sc_flags_above : FnScope ["masks", "many", "flags", "mask", "at"] ["masks", "many"] (defScope s_flags_above) := ⟨rfl, rfl, rfl, by decide +kernel, rfl, by decide +kernel, by decide +kernel⟩
abbrev s_flags_below : Stmt := top 30
theorem sc_flags_below : FnScope ["masks", "many", "flags", "mask", "at"] ["masks", "many"] (defScope s_flags_below) := ⟨rfl, rfl, rfl, by decide +kernel, rfl, by decide +kernel, by decide +kernel⟩
abbrev s_ranks_by_bases : Stmt := top 31
theorem sc_ranks_by_bases : FnScope ["masks", "many", "independent", "ranks", "greatest", "at", "mask", "wider", "raised"] ["masks", "many"] (defScope s_ranks_by_bases) := ⟨rfl, rfl, rfl, by decide +kernel, rfl, by decide +kernel, by decide +kernel⟩
abbrev s_closure_mask : Stmt := top 32
theorem sc_closure_mask : FnScope ["mask", "ranks", "many", "at"] ["mask", "ranks", "many"] (defScope s_closure_mask) := ⟨rfl, rfl, rfl, by decide +kernel, rfl, by decide +kernel, by decide +kernel⟩
abbrev s_circuit_masks : Stmt := top 33
theorem sc_circuit_masks : FnScope ["ranks", "many", "mask"] ["ranks", "many"] (defScope s_circuit_masks) := ⟨rfl, rfl, rfl, by decide +kernel, rfl, by decide +kernel, by decide +kernel⟩
abbrev s_is_circuit_mask : Stmt := top 34
theorem sc_is_circuit_mask : FnScope ["mask", "ranks", "many", "places", "fewer", "at"] ["mask", "ranks", "many"] (defScope s_is_circuit_mask) := ⟨rfl, rfl, rfl, by decide +kernel, rfl, by decide +kernel, by decide +kernel⟩
abbrev s_flat_masks : Stmt := top 35
theorem sc_flat_masks : FnScope ["ranks", "many", "mask"] ["ranks", "many"] (defScope s_flat_masks) := ⟨rfl, rfl, rfl, by decide +kernel, rfl, by decide +kernel, by decide +kernel⟩
abbrev s_fault_in : Stmt := top 37
theorem sc_fault_in : FnScope ["kind", "ground", "table"] ["kind", "ground", "table"] (defScope s_fault_in) := ⟨rfl, rfl, rfl, by decide +kernel, rfl, by decide +kernel, by decide +kernel⟩
abbrev s_fault_in_bases : Stmt := top 38
theorem sc_fault_in_bases : FnScope ["ground", "bases", "base"] ["ground", "bases"] (defScope s_fault_in_bases) := ⟨rfl, rfl, rfl, by decide +kernel, rfl, by decide +kernel, by decide +kernel⟩
abbrev s__exchange_fault : Stmt := top 39
theorem sc__exchange_fault : FnScope ["ground", "bases", "many", "full", "masks", "known", "has_base", "base", "mask", "barriers", "stuck", "other", "at", "barrier"] ["ground", "bases"] (defScope s__exchange_fault) := ⟨rfl, rfl, rfl, by decide +kernel, rfl, by decide +kernel, by decide +kernel⟩
abbrev s__barriers : Stmt := top 40
theorem sc__barriers : FnScope ["mask", "known", "many", "outside", "barriers", "at", "rest", "stead", "new"] ["mask", "known", "many"] (defScope s__barriers) := ⟨rfl, rfl, rfl, by decide +kernel, rfl, by decide +kernel, by decide +kernel⟩
abbrev s_rest_of : Stmt := top 53
theorem sc_rest_of : FnScope ["members", "gone", "one"] ["members", "gone"] (defScope s_rest_of) := ⟨rfl, rfl, rfl, by decide +kernel, rfl, by decide +kernel, by decide +kernel⟩
abbrev s_Matroid___init__ : Stmt := inClass (top 55) 0
theorem sc_Matroid___init__ : FnScope ["self", "ground", "bases", "fault"] ["self", "ground", "bases"] (defScope s_Matroid___init__) := ⟨rfl, rfl, rfl, by decide +kernel, rfl, by decide +kernel, by decide +kernel⟩
abbrev s_Matroid_mask_ranks : Stmt := inClass (top 55) 3
theorem sc_Matroid_mask_ranks : FnScope ["self"] ["self"] (defScope s_Matroid_mask_ranks) := ⟨rfl, rfl, rfl, by decide +kernel, rfl, by decide +kernel, by decide +kernel⟩
abbrev s_Matroid_dual : Stmt := inClass (top 55) 14
theorem sc_Matroid_dual : FnScope ["self", "base"] ["self"] (defScope s_Matroid_dual) := ⟨rfl, rfl, rfl, by decide +kernel, rfl, by decide +kernel, by decide +kernel⟩
abbrev s_sure_matroid : Stmt := top 56
theorem sc_sure_matroid : FnScope ["ground", "bases", "made"] ["ground", "bases"] (defScope s_sure_matroid) := ⟨rfl, rfl, rfl, by decide +kernel, rfl, by decide +kernel, by decide +kernel⟩
abbrev s_check_matroid : Stmt := top 57
theorem sc_check_matroid : FnScope ["matroid"] ["matroid"] (defScope s_check_matroid) := ⟨rfl, rfl, rfl, by decide +kernel, rfl, by decide +kernel, by decide +kernel⟩
abbrev s_parts_of : Stmt := top 59
theorem sc_parts_of : FnScope ["matroid", "connectivity", "parts", "mask", "part"] ["matroid"] (defScope s_parts_of) := ⟨rfl, rfl, rfl, by decide +kernel, rfl, by decide +kernel, by decide +kernel⟩
abbrev s__connectivity : Stmt := top 60
theorem sc__connectivity : FnScope ["matroid", "ranks", "full", "mask"] ["matroid"] (defScope s__connectivity) := ⟨rfl, rfl, rfl, by decide +kernel, rfl, by decide +kernel, by decide +kernel⟩
abbrev s_splits_of : Stmt := top 61
theorem sc_splits_of : FnScope ["matroid"] ["matroid"] (defScope s_splits_of) := ⟨rfl, rfl, rfl, by decide +kernel, rfl, by decide +kernel, by decide +kernel⟩
abbrev s_good_splits_of : Stmt := top 62
theorem sc_good_splits_of : FnScope ["matroid", "splits", "full", "split"] ["matroid"] (defScope s_good_splits_of) := ⟨rfl, rfl, rfl, by decide +kernel, rfl, by decide +kernel, by decide +kernel⟩
abbrev s__split_masks : Stmt := top 63
theorem sc__split_masks : FnScope ["matroid", "many", "connectivity", "sizes", "mask"] ["matroid"] (defScope s__split_masks) := ⟨rfl, rfl, rfl, by decide +kernel, rfl, by decide +kernel, by decide +kernel⟩
abbrev s__crosses_one : Stmt := top 64
theorem sc__crosses_one : FnScope ["split", "splits", "full", "other"] ["split", "splits", "full"] (defScope s__crosses_one) := ⟨rfl, rfl, rfl, by decide +kernel, rfl, by decide +kernel, by decide +kernel⟩
abbrev s__check_one_part : Stmt := top 65
theorem sc__check_one_part : FnScope ["matroid"] ["matroid"] (defScope s__check_one_part) := ⟨rfl, rfl, rfl, by decide +kernel, rfl, by decide +kernel, by decide +kernel⟩
abbrev s__law_source : Stmt := top 67
theorem sc__law_source : FnScope ["script", "k", "cell"] ["script", "k"] (defScope s__law_source) := ⟨rfl, rfl, rfl, by decide +kernel, rfl, by decide +kernel, by decide +kernel⟩
abbrev s__law_next : Stmt := top 68
theorem sc__law_next : FnScope ["source", "many", "found", "primes", "prime", "mixed"] ["source", "many"] (defScope s__law_next) := ⟨rfl, rfl, rfl, by decide +kernel, rfl, by decide +kernel, by decide +kernel⟩
abbrev s__law_pick : Stmt := top 69
theorem sc__law_pick : FnScope ["source", "items"] ["source", "items"] (defScope s__law_pick) := ⟨rfl, rfl, rfl, by decide +kernel, rfl, by decide +kernel, by decide +kernel⟩
abbrev s__law_turned : Stmt := top 70
theorem sc__law_turned : FnScope ["source", "items", "rest", "found"] ["source", "items"] (defScope s__law_turned) := ⟨rfl, rfl, rfl, by decide +kernel, rfl, by decide +kernel, by decide +kernel⟩
abbrev s__law_count : Stmt := top 71
theorem sc__law_count : FnScope ["mask", "found"] ["mask"] (defScope s__law_count) := ⟨rfl, rfl, rfl, by decide +kernel, rfl, by decide +kernel, by decide +kernel⟩
abbrev s__law_ranks : Stmt := top 72
theorem sc__law_ranks : FnScope ["many", "bases", "found", "mask", "base"] ["many", "bases"] (defScope s__law_ranks) := ⟨rfl, rfl, rfl, by decide +kernel, rfl, by decide +kernel, by decide +kernel⟩
abbrev s__law_sized : Stmt := top 73
theorem sc__law_sized : FnScope ["many", "size", "mask"] ["many", "size"] (defScope s__law_sized) := ⟨rfl, rfl, rfl, by decide +kernel, rfl, by decide +kernel, by decide +kernel⟩
abbrev s__law_sparse : Stmt := top 74
theorem sc__law_sparse : FnScope ["source", "many", "size", "rest", "gone", "mask", "found", "mate"] ["source", "many"] (defScope s__law_sparse) := ⟨rfl, rfl, rfl, by decide +kernel, rfl, by decide +kernel, by decide +kernel⟩
abbrev s__law_forest_bases : Stmt := top 75
theorem sc__law_forest_bases : FnScope ["many", "lines", "kept", "mask", "low", "where", "line", "first", "last", "most", "spot"] ["many", "lines"] (defScope s__law_forest_bases) := ⟨rfl, rfl, rfl, by decide +kernel, rfl, by decide +kernel, by decide +kernel⟩
abbrev s__law_drawn_lines : Stmt := top 76
theorem sc__law_drawn_lines : FnScope ["source", "many", "spots", "found", "place", "start"] ["source", "many"] (defScope s__law_drawn_lines) := ⟨rfl, rfl, rfl, by decide +kernel, rfl, by decide +kernel, by decide +kernel⟩
abbrev s__law_column_bases : Stmt := top 77
theorem sc__law_column_bases : FnScope ["many", "columns", "free", "mask", "total", "is_free", "place", "most"] ["many", "columns"] (defScope s__law_column_bases) := ⟨rfl, rfl, rfl, by decide +kernel, rfl, by decide +kernel, by decide +kernel⟩
abbrev s__law_drawn_bases : Stmt := top 78
theorem sc__law_drawn_bases : FnScope ["source", "many", "way", "place"] ["source", "many"] (defScope s__law_drawn_bases) := ⟨rfl, rfl, rfl, by decide +kernel, rfl, by decide +kernel, by decide +kernel⟩
abbrev s__law_drawn_ground : Stmt := top 79
theorem sc__law_drawn_ground : FnScope ["source", "many", "found", "last", "place"] ["source", "many"] (defScope s__law_drawn_ground) := ⟨rfl, rfl, rfl, by decide +kernel, rfl, by decide +kernel, by decide +kernel⟩
abbrev s__law_set : Stmt := top 80
theorem sc__law_set : FnScope ["ground", "mask", "place", "element"] ["ground", "mask"] (defScope s__law_set) := ⟨rfl, rfl, rfl, by decide +kernel, rfl, by decide +kernel, by decide +kernel⟩
abbrev s__law_given : Stmt := top 81
theorem sc__law_given : FnScope ["ground", "bases", "mask"] ["ground", "bases"] (defScope s__law_given) := ⟨rfl, rfl, rfl, by decide +kernel, rfl, by decide +kernel, by decide +kernel⟩
abbrev s__law_link : Stmt := top 82
theorem sc__law_link : FnScope ["ranks", "mask", "full"] ["ranks", "mask"] (defScope s__law_link) := ⟨rfl, rfl, rfl, by decide +kernel, rfl, by decide +kernel, by decide +kernel⟩
abbrev s__law_part_masks : Stmt := top 83
theorem sc__law_part_masks : FnScope ["ranks", "some", "mask", "mate"] ["ranks"] (defScope s__law_part_masks) := ⟨rfl, rfl, rfl, by decide +kernel, rfl, by decide +kernel, by decide +kernel⟩
abbrev s__law_split_masks : Stmt := top 84
theorem sc__law_split_masks : FnScope ["many", "ranks", "found", "mask"] ["many", "ranks"] (defScope s__law_split_masks) := ⟨rfl, rfl, rfl, by decide +kernel, rfl, by decide +kernel, by decide +kernel⟩
abbrev s__law_good_masks : Stmt := top 85
theorem sc__law_good_masks : FnScope ["many", "ranks", "some", "full", "found", "one", "clash", "other", "spots"] ["many", "ranks"] (defScope s__law_good_masks) := ⟨rfl, rfl, rfl, by decide +kernel, rfl, by decide +kernel, by decide +kernel⟩
abbrev s__law_whole_bases : Stmt := top 86
theorem sc__law_whole_bases : FnScope ["source", "many", "turn", "bases"] ["source", "many"] (defScope s__law_whole_bases) := ⟨rfl, rfl, rfl, by decide +kernel, rfl, by decide +kernel, by decide +kernel⟩
abbrev s__law_sorted_sets : Stmt := top 87
theorem sc__law_sorted_sets : FnScope ["ground", "masks", "mask"] ["ground", "masks"] (defScope s__law_sorted_sets) := ⟨rfl, rfl, rfl, by decide +kernel, rfl, by decide +kernel, by decide +kernel⟩
abbrev s_law : Stmt := top 88
theorem sc_law : FnScope ["script", "k", "source", "many", "ground", "turn", "bases", "whole", "ranks", "told", "ring", "chord"] ["script"] (defScope s_law) := ⟨rfl, rfl, rfl, by decide +kernel, rfl, by decide +kernel, by decide +kernel⟩
set_option maxHeartbeats 0 in
structure Tx (K : PySem.W.Frag) (mg : Str → Option Value) where
  n_list : mg "list" = none
  n_int : mg "int" = none
  n_len : mg "len" = none
  n_range : mg "range" = none
  n_enumerate : mg "enumerate" = none
  n_tuple : mg "tuple" = none
  n_sorted : mg "sorted" = none
  n_min : mg "min" = none
  n_max : mg "max" = none
  n_sum : mg "sum" = none
  n_all : mg "all" = none
  n_any : mg "any" = none
  n_isinstance : mg "isinstance" = none
  n_zip : mg "zip" = none
  n_reversed : mg "reversed" = none
  n_repr : mg "repr" = none
  n_bool : mg "bool" = none
  g_MAX_ELEMENT : ∃ u, mg "MAX_ELEMENT" = some u ∧ RelV (.int 199) u
  g_MAX_GROUND : ∃ u, mg "MAX_GROUND" = some u ∧ RelV (.int 10) u
  f_is_integer : Addr
  fd_is_integer : FuncData
  F_is_integer : Fun K "is_integer" "is_integer" s_is_integer f_is_integer fd_is_integer
  m_is_integer : mg "is_integer" = some (.ref f_is_integer)
  b_is_integer : Binds K fd_is_integer ["thing"] []
  f_is_element : Addr
  fd_is_element : FuncData
  F_is_element : Fun K "is_element" "is_element" s_is_element f_is_element fd_is_element
  m_is_element : mg "is_element" = some (.ref f_is_element)
  b_is_element : Binds K fd_is_element ["thing"] []
  f_is_ascending : Addr
  fd_is_ascending : FuncData
  F_is_ascending : Fun K "is_ascending" "is_ascending" s_is_ascending f_is_ascending fd_is_ascending
  m_is_ascending : mg "is_ascending" = some (.ref f_is_ascending)
  b_is_ascending : Binds K fd_is_ascending ["things"] []
  f_is_set : Addr
  fd_is_set : FuncData
  F_is_set : Fun K "is_set" "is_set" s_is_set f_is_set fd_is_set
  m_is_set : mg "is_set" = some (.ref f_is_set)
  b_is_set : Binds K fd_is_set ["thing"] []
  f_is_set_within : Addr
  fd_is_set_within : FuncData
  F_is_set_within : Fun K "is_set_within" "is_set_within" s_is_set_within f_is_set_within fd_is_set_within
  m_is_set_within : mg "is_set_within" = some (.ref f_is_set_within)
  b_is_set_within : Binds K fd_is_set_within ["thing", "ground"] []
  f_are_sets_within : Addr
  fd_are_sets_within : FuncData
  F_are_sets_within : Fun K "are_sets_within" "are_sets_within" s_are_sets_within f_are_sets_within fd_are_sets_within
  m_are_sets_within : mg "are_sets_within" = some (.ref f_are_sets_within)
  b_are_sets_within : Binds K fd_are_sets_within ["thing", "ground"] []
  f_check_ground : Addr
  fd_check_ground : FuncData
  F_check_ground : Fun K "check_ground" "check_ground" s_check_ground f_check_ground fd_check_ground
  m_check_ground : mg "check_ground" = some (.ref f_check_ground)
  b_check_ground : Binds K fd_check_ground ["ground"] []
  f_check_sets : Addr
  fd_check_sets : FuncData
  F_check_sets : Fun K "check_sets" "check_sets" s_check_sets f_check_sets fd_check_sets
  m_check_sets : mg "check_sets" = some (.ref f_check_sets)
  b_check_sets : Binds K fd_check_sets ["things", "ground"] []
  f_set_of : Addr
  fd_set_of : FuncData
  F_set_of : Fun K "set_of" "set_of" s_set_of f_set_of fd_set_of
  m_set_of : mg "set_of" = some (.ref f_set_of)
  b_set_of : Binds K fd_set_of ["mask", "ground"] []
  f_sets_of : Addr
  fd_sets_of : FuncData
  F_sets_of : Fun K "sets_of" "sets_of" s_sets_of f_sets_of fd_sets_of
  m_sets_of : mg "sets_of" = some (.ref f_sets_of)
  b_sets_of : Binds K fd_sets_of ["masks", "ground"] []
  f_mask_of : Addr
  fd_mask_of : FuncData
  F_mask_of : Fun K "mask_of" "mask_of" s_mask_of f_mask_of fd_mask_of
  m_mask_of : mg "mask_of" = some (.ref f_mask_of)
  b_mask_of : Binds K fd_mask_of ["members", "ground"] []
  f_masks_of : Addr
  fd_masks_of : FuncData
  F_masks_of : Fun K "masks_of" "masks_of" s_masks_of f_masks_of fd_masks_of
  m_masks_of : mg "masks_of" = some (.ref f_masks_of)
  b_masks_of : Binds K fd_masks_of ["sets", "ground"] []
  f_places_in : Addr
  fd_places_in : FuncData
  F_places_in : Fun K "places_in" "places_in" s_places_in f_places_in fd_places_in
  m_places_in : mg "places_in" = some (.ref f_places_in)
  b_places_in : Binds K fd_places_in ["mask", "many"] []
  f_places_outside : Addr
  fd_places_outside : FuncData
  F_places_outside : Fun K "places_outside" "places_outside" s_places_outside f_places_outside fd_places_outside
  m_places_outside : mg "places_outside" = some (.ref f_places_outside)
  b_places_outside : Binds K fd_places_outside ["mask", "many"] []
  f_sizes_of_masks : Addr
  fd_sizes_of_masks : FuncData
  F_sizes_of_masks : Fun K "sizes_of_masks" "sizes_of_masks" s_sizes_of_masks f_sizes_of_masks fd_sizes_of_masks
  m_sizes_of_masks : mg "sizes_of_masks" = some (.ref f_sizes_of_masks)
  b_sizes_of_masks : Binds K fd_sizes_of_masks ["many"] []
  f_flags_above : Addr
  fd_flags_above : FuncData
  F_flags_above : Fun K "flags_above" "flags_above" s_flags_above f_flags_above fd_flags_above
  m_flags_above : mg "flags_above" = some (.ref f_flags_above)
  b_flags_above : Binds K fd_flags_above ["masks", "many"] []
  f_flags_below : Addr
  fd_flags_below : FuncData
  F_flags_below : Fun K "flags_below" "flags_below" s_flags_below f_flags_below fd_flags_below
  m_flags_below : mg "flags_below" = some (.ref f_flags_below)
  b_flags_below : Binds K fd_flags_below ["masks", "many"] []
  f_ranks_by_bases : Addr
  fd_ranks_by_bases : FuncData
  F_ranks_by_bases : Fun K "ranks_by_bases" "ranks_by_bases" s_ranks_by_bases f_ranks_by_bases fd_ranks_by_bases
  m_ranks_by_bases : mg "ranks_by_bases" = some (.ref f_ranks_by_bases)
  b_ranks_by_bases : Binds K fd_ranks_by_bases ["masks", "many"] []
  f_closure_mask : Addr
  fd_closure_mask : FuncData
  F_closure_mask : Fun K "closure_mask" "closure_mask" s_closure_mask f_closure_mask fd_closure_mask
  m_closure_mask : mg "closure_mask" = some (.ref f_closure_mask)
  b_closure_mask : Binds K fd_closure_mask ["mask", "ranks", "many"] []
  f_circuit_masks : Addr
  fd_circuit_masks : FuncData
  F_circuit_masks : Fun K "circuit_masks" "circuit_masks" s_circuit_masks f_circuit_masks fd_circuit_masks
  m_circuit_masks : mg "circuit_masks" = some (.ref f_circuit_masks)
  b_circuit_masks : Binds K fd_circuit_masks ["ranks", "many"] []
  f_is_circuit_mask : Addr
  fd_is_circuit_mask : FuncData
  F_is_circuit_mask : Fun K "is_circuit_mask" "is_circuit_mask" s_is_circuit_mask f_is_circuit_mask fd_is_circuit_mask
  m_is_circuit_mask : mg "is_circuit_mask" = some (.ref f_is_circuit_mask)
  b_is_circuit_mask : Binds K fd_is_circuit_mask ["mask", "ranks", "many"] []
  f_flat_masks : Addr
  fd_flat_masks : FuncData
  F_flat_masks : Fun K "flat_masks" "flat_masks" s_flat_masks f_flat_masks fd_flat_masks
  m_flat_masks : mg "flat_masks" = some (.ref f_flat_masks)
  b_flat_masks : Binds K fd_flat_masks ["ranks", "many"] []
  f_fault_in : Addr
  fd_fault_in : FuncData
  F_fault_in : Fun K "fault_in" "fault_in" s_fault_in f_fault_in fd_fault_in
  m_fault_in : mg "fault_in" = some (.ref f_fault_in)
  b_fault_in : Binds K fd_fault_in ["kind", "ground", "table"] []
  f_fault_in_bases : Addr
  fd_fault_in_bases : FuncData
  F_fault_in_bases : Fun K "fault_in_bases" "fault_in_bases" s_fault_in_bases f_fault_in_bases fd_fault_in_bases
  m_fault_in_bases : mg "fault_in_bases" = some (.ref f_fault_in_bases)
  b_fault_in_bases : Binds K fd_fault_in_bases ["ground", "bases"] []
  f__exchange_fault : Addr
  fd__exchange_fault : FuncData
  F__exchange_fault : Fun K "_exchange_fault" "_exchange_fault" s__exchange_fault f__exchange_fault fd__exchange_fault
  m__exchange_fault : mg "_exchange_fault" = some (.ref f__exchange_fault)
  b__exchange_fault : Binds K fd__exchange_fault ["ground", "bases"] []
  f__barriers : Addr
  fd__barriers : FuncData
  F__barriers : Fun K "_barriers" "_barriers" s__barriers f__barriers fd__barriers
  m__barriers : mg "_barriers" = some (.ref f__barriers)
  b__barriers : Binds K fd__barriers ["mask", "known", "many"] []
  f_rest_of : Addr
  fd_rest_of : FuncData
  F_rest_of : Fun K "rest_of" "rest_of" s_rest_of f_rest_of fd_rest_of
  m_rest_of : mg "rest_of" = some (.ref f_rest_of)
  b_rest_of : Binds K fd_rest_of ["members", "gone"] []
  f_Matroid___init__ : Addr
  fd_Matroid___init__ : FuncData
  F_Matroid___init__ : Fun K "__init__" "Matroid.__init__" s_Matroid___init__ f_Matroid___init__ fd_Matroid___init__
  b_Matroid___init__ : Binds K fd_Matroid___init__ ["self", "ground", "bases"] []
  f_Matroid_mask_ranks : Addr
  fd_Matroid_mask_ranks : FuncData
  F_Matroid_mask_ranks : Fun K "mask_ranks" "Matroid.mask_ranks" s_Matroid_mask_ranks f_Matroid_mask_ranks fd_Matroid_mask_ranks
  b_Matroid_mask_ranks : Binds K fd_Matroid_mask_ranks ["self"] []
  f_Matroid_dual : Addr
  fd_Matroid_dual : FuncData
  F_Matroid_dual : Fun K "dual" "Matroid.dual" s_Matroid_dual f_Matroid_dual fd_Matroid_dual
  b_Matroid_dual : Binds K fd_Matroid_dual ["self"] []
  f_sure_matroid : Addr
  fd_sure_matroid : FuncData
  F_sure_matroid : Fun K "sure_matroid" "sure_matroid" s_sure_matroid f_sure_matroid fd_sure_matroid
  m_sure_matroid : mg "sure_matroid" = some (.ref f_sure_matroid)
  b_sure_matroid : Binds K fd_sure_matroid ["ground", "bases"] []
  f_check_matroid : Addr
  fd_check_matroid : FuncData
  F_check_matroid : Fun K "check_matroid" "check_matroid" s_check_matroid f_check_matroid fd_check_matroid
  m_check_matroid : mg "check_matroid" = some (.ref f_check_matroid)
  b_check_matroid : Binds K fd_check_matroid ["matroid"] []
  f_parts_of : Addr
  fd_parts_of : FuncData
  F_parts_of : Fun K "parts_of" "parts_of" s_parts_of f_parts_of fd_parts_of
  m_parts_of : mg "parts_of" = some (.ref f_parts_of)
  b_parts_of : Binds K fd_parts_of ["matroid"] []
  f__connectivity : Addr
  fd__connectivity : FuncData
  F__connectivity : Fun K "_connectivity" "_connectivity" s__connectivity f__connectivity fd__connectivity
  m__connectivity : mg "_connectivity" = some (.ref f__connectivity)
  b__connectivity : Binds K fd__connectivity ["matroid"] []
  f_splits_of : Addr
  fd_splits_of : FuncData
  F_splits_of : Fun K "splits_of" "splits_of" s_splits_of f_splits_of fd_splits_of
  m_splits_of : mg "splits_of" = some (.ref f_splits_of)
  b_splits_of : Binds K fd_splits_of ["matroid"] []
  f_good_splits_of : Addr
  fd_good_splits_of : FuncData
  F_good_splits_of : Fun K "good_splits_of" "good_splits_of" s_good_splits_of f_good_splits_of fd_good_splits_of
  m_good_splits_of : mg "good_splits_of" = some (.ref f_good_splits_of)
  b_good_splits_of : Binds K fd_good_splits_of ["matroid"] []
  f__split_masks : Addr
  fd__split_masks : FuncData
  F__split_masks : Fun K "_split_masks" "_split_masks" s__split_masks f__split_masks fd__split_masks
  m__split_masks : mg "_split_masks" = some (.ref f__split_masks)
  b__split_masks : Binds K fd__split_masks ["matroid"] []
  f__crosses_one : Addr
  fd__crosses_one : FuncData
  F__crosses_one : Fun K "_crosses_one" "_crosses_one" s__crosses_one f__crosses_one fd__crosses_one
  m__crosses_one : mg "_crosses_one" = some (.ref f__crosses_one)
  b__crosses_one : Binds K fd__crosses_one ["split", "splits", "full"] []
  f__check_one_part : Addr
  fd__check_one_part : FuncData
  F__check_one_part : Fun K "_check_one_part" "_check_one_part" s__check_one_part f__check_one_part fd__check_one_part
  m__check_one_part : mg "_check_one_part" = some (.ref f__check_one_part)
  b__check_one_part : Binds K fd__check_one_part ["matroid"] []
  f__law_source : Addr
  fd__law_source : FuncData
  F__law_source : Fun K "_law_source" "_law_source" s__law_source f__law_source fd__law_source
  m__law_source : mg "_law_source" = some (.ref f__law_source)
  b__law_source : Binds K fd__law_source ["script", "k"] []
  f__law_next : Addr
  fd__law_next : FuncData
  F__law_next : Fun K "_law_next" "_law_next" s__law_next f__law_next fd__law_next
  m__law_next : mg "_law_next" = some (.ref f__law_next)
  b__law_next : Binds K fd__law_next ["source", "many"] []
  f__law_pick : Addr
  fd__law_pick : FuncData
  F__law_pick : Fun K "_law_pick" "_law_pick" s__law_pick f__law_pick fd__law_pick
  m__law_pick : mg "_law_pick" = some (.ref f__law_pick)
  b__law_pick : Binds K fd__law_pick ["source", "items"] []
  f__law_turned : Addr
  fd__law_turned : FuncData
  F__law_turned : Fun K "_law_turned" "_law_turned" s__law_turned f__law_turned fd__law_turned
  m__law_turned : mg "_law_turned" = some (.ref f__law_turned)
  b__law_turned : Binds K fd__law_turned ["source", "items"] []
  f__law_count : Addr
  fd__law_count : FuncData
  F__law_count : Fun K "_law_count" "_law_count" s__law_count f__law_count fd__law_count
  m__law_count : mg "_law_count" = some (.ref f__law_count)
  b__law_count : Binds K fd__law_count ["mask"] []
  f__law_ranks : Addr
  fd__law_ranks : FuncData
  F__law_ranks : Fun K "_law_ranks" "_law_ranks" s__law_ranks f__law_ranks fd__law_ranks
  m__law_ranks : mg "_law_ranks" = some (.ref f__law_ranks)
  b__law_ranks : Binds K fd__law_ranks ["many", "bases"] []
  f__law_sized : Addr
  fd__law_sized : FuncData
  F__law_sized : Fun K "_law_sized" "_law_sized" s__law_sized f__law_sized fd__law_sized
  m__law_sized : mg "_law_sized" = some (.ref f__law_sized)
  b__law_sized : Binds K fd__law_sized ["many", "size"] []
  f__law_sparse : Addr
  fd__law_sparse : FuncData
  F__law_sparse : Fun K "_law_sparse" "_law_sparse" s__law_sparse f__law_sparse fd__law_sparse
  m__law_sparse : mg "_law_sparse" = some (.ref f__law_sparse)
  b__law_sparse : Binds K fd__law_sparse ["source", "many"] []
  f__law_forest_bases : Addr
  fd__law_forest_bases : FuncData
  F__law_forest_bases : Fun K "_law_forest_bases" "_law_forest_bases" s__law_forest_bases f__law_forest_bases fd__law_forest_bases
  m__law_forest_bases : mg "_law_forest_bases" = some (.ref f__law_forest_bases)
  b__law_forest_bases : Binds K fd__law_forest_bases ["many", "lines"] []
  f__law_drawn_lines : Addr
  fd__law_drawn_lines : FuncData
  F__law_drawn_lines : Fun K "_law_drawn_lines" "_law_drawn_lines" s__law_drawn_lines f__law_drawn_lines fd__law_drawn_lines
  m__law_drawn_lines : mg "_law_drawn_lines" = some (.ref f__law_drawn_lines)
  b__law_drawn_lines : Binds K fd__law_drawn_lines ["source", "many"] []
  f__law_column_bases : Addr
  fd__law_column_bases : FuncData
  F__law_column_bases : Fun K "_law_column_bases" "_law_column_bases" s__law_column_bases f__law_column_bases fd__law_column_bases
  m__law_column_bases : mg "_law_column_bases" = some (.ref f__law_column_bases)
  b__law_column_bases : Binds K fd__law_column_bases ["many", "columns"] []
  f__law_drawn_bases : Addr
  fd__law_drawn_bases : FuncData
  F__law_drawn_bases : Fun K "_law_drawn_bases" "_law_drawn_bases" s__law_drawn_bases f__law_drawn_bases fd__law_drawn_bases
  m__law_drawn_bases : mg "_law_drawn_bases" = some (.ref f__law_drawn_bases)
  b__law_drawn_bases : Binds K fd__law_drawn_bases ["source", "many"] []
  f__law_drawn_ground : Addr
  fd__law_drawn_ground : FuncData
  F__law_drawn_ground : Fun K "_law_drawn_ground" "_law_drawn_ground" s__law_drawn_ground f__law_drawn_ground fd__law_drawn_ground
  m__law_drawn_ground : mg "_law_drawn_ground" = some (.ref f__law_drawn_ground)
  b__law_drawn_ground : Binds K fd__law_drawn_ground ["source", "many"] []
  f__law_set : Addr
  fd__law_set : FuncData
  F__law_set : Fun K "_law_set" "_law_set" s__law_set f__law_set fd__law_set
  m__law_set : mg "_law_set" = some (.ref f__law_set)
  b__law_set : Binds K fd__law_set ["ground", "mask"] []
  f__law_given : Addr
  fd__law_given : FuncData
  F__law_given : Fun K "_law_given" "_law_given" s__law_given f__law_given fd__law_given
  m__law_given : mg "_law_given" = some (.ref f__law_given)
  b__law_given : Binds K fd__law_given ["ground", "bases"] []
  f__law_link : Addr
  fd__law_link : FuncData
  F__law_link : Fun K "_law_link" "_law_link" s__law_link f__law_link fd__law_link
  m__law_link : mg "_law_link" = some (.ref f__law_link)
  b__law_link : Binds K fd__law_link ["ranks", "mask"] []
  f__law_part_masks : Addr
  fd__law_part_masks : FuncData
  F__law_part_masks : Fun K "_law_part_masks" "_law_part_masks" s__law_part_masks f__law_part_masks fd__law_part_masks
  m__law_part_masks : mg "_law_part_masks" = some (.ref f__law_part_masks)
  b__law_part_masks : Binds K fd__law_part_masks ["ranks"] []
  f__law_split_masks : Addr
  fd__law_split_masks : FuncData
  F__law_split_masks : Fun K "_law_split_masks" "_law_split_masks" s__law_split_masks f__law_split_masks fd__law_split_masks
  m__law_split_masks : mg "_law_split_masks" = some (.ref f__law_split_masks)
  b__law_split_masks : Binds K fd__law_split_masks ["many", "ranks"] []
  f__law_good_masks : Addr
  fd__law_good_masks : FuncData
  F__law_good_masks : Fun K "_law_good_masks" "_law_good_masks" s__law_good_masks f__law_good_masks fd__law_good_masks
  m__law_good_masks : mg "_law_good_masks" = some (.ref f__law_good_masks)
  b__law_good_masks : Binds K fd__law_good_masks ["many", "ranks"] []
  f__law_whole_bases : Addr
  fd__law_whole_bases : FuncData
  F__law_whole_bases : Fun K "_law_whole_bases" "_law_whole_bases" s__law_whole_bases f__law_whole_bases fd__law_whole_bases
  m__law_whole_bases : mg "_law_whole_bases" = some (.ref f__law_whole_bases)
  b__law_whole_bases : Binds K fd__law_whole_bases ["source", "many"] []
  f__law_sorted_sets : Addr
  fd__law_sorted_sets : FuncData
  F__law_sorted_sets : Fun K "_law_sorted_sets" "_law_sorted_sets" s__law_sorted_sets f__law_sorted_sets fd__law_sorted_sets
  m__law_sorted_sets : mg "_law_sorted_sets" = some (.ref f__law_sorted_sets)
  b__law_sorted_sets : Binds K fd__law_sorted_sets ["ground", "masks"] []
  f_law : Addr
  fd_law : FuncData
  F_law : Fun K "law" "law" s_law f_law fd_law
  m_law : mg "law" = some (.ref f_law)
  b_law : Binds K fd_law ["script"] []
  C : Addr
  cl : Cls K C
  m_Matroid : mg "Matroid" = some (.ref C)
  mkC : Mk K C f_Matroid___init__
  ic : C8.InsC K C
  ne_C : PySem.W.findIn K (.ref C) "__ne__" = some (some (.builtin "object.__ne__"))
  na_ground : NoAttr K C "ground"
  na_bases : NoAttr K C "bases"
  na__ranks : NoAttr K C "_ranks"
  na__circuits : NoAttr K C "_circuits"
  na__flats : NoAttr K C "_flats"
  pa_mask_ranks : Addr
  pr_mask_ranks : PropOf K C "mask_ranks" pa_mask_ranks f_Matroid_mask_ranks
  me_dual : Meth K C "dual" f_Matroid_dual
end K9


set_option Elab.async false
set_option linter.all false
set_option maxRecDepth 100000
namespace K9
open PySem PySem.Spec PyProof.Rows L2 PySem.W MB
section
variable {P : Program} {w : World} {K : PySem.W.Frag} {mg : Str → Option Value} {base : Heap}
/-! ### masks: the mirror -/
def R_set_of (ds : List PyData) (d : PyData) : Prop := ∃ (m : Nat) (g : List Int), ds = [dNat m, dSet g] ∧ g.length ≤ 10 ∧ d = dSet (setOf m g)
theorem ok_set_of (T : Tx K mg) : FnOk P w K mg base CX0 1 T.f_set_of T.fd_set_of ["mask", "ground"] (spD K R_set_of) := by
  refine okD T.F_set_of sc_set_of (fun ds d ⟨m, g, e, _⟩ => by rw [e]; rfl) fun cdv A outer s H E O vs ds d hr o hv r => ?_
  obtain ⟨m, g, rfl, hg, rfl⟩ := r
  obtain ⟨v1, v2, rfl, h1, h2⟩ := dp2 hv
  refine ⟨_, (pss_one (ps_ret (pe_callTy (kc_tuple K) (by rfl) T.n_tuple boot_tuple (pa_cons (pe_lc (own := [("at", 2), ("one", 3)]) (g := (gTup K 2 (gCons (gName 2) (gCons (gName 3) gNil)))) rfl sc_set_of.nd (kp_enumT K (by rfl) T.n_enumerate (pa_cons (pv 1) pa_nil)) (blkOk_by (N := ["mask", "ground", "at", "one"]) (sc := defScope s_set_of) (by decide +kernel)) (fun _ _ _ _ _ => (kg_tup K (pgs_cons (pg_name (i := 2) sc_set_of.nd rfl (by first | exact .inl rfl | exact .inr rfl)) (pgs_cons (pg_name (i := 3) sc_set_of.nd rfl (by first | exact .inl rfl | exact .inr rfl)) pgs_nil)))) (fun _ _ _ _ _ => (pts_one (pt_tru K (pe_op op_and (pe_op op_shr (pv 0) (pv 2)) pe_int)))) (fun _ _ _ _ _ => (pv 3))) pa_nil)))), fun D q => ?_⟩
  refine ret_ed (G := hid O H) ?_ o (.refl _) q
  refine ed_tupleL (Ed.of ?_ (ed_lc (fun x : Int × Nat => m.testBit x.2) (fun x => .int x.1) (by rw [List.length_zipIdx]; omega) (iw_enumT (ea_one (ed_var rfl h2))) ?_ ?_))
  · unfold setOf
    rw [List.map_map]
    rfl
  · rintro x σ4 H4 ⟨v, w, rfl, _, _⟩
    rfl
  · rintro x hx σ2 H2 s2 ⟨v, w, rfl, d1, d2⟩
    refine ⟨Eb.of (BT.bit_tru m x.2) (eb_tru (ed_I0 (ed_I (by show (0 : Int) ≤ _; omega) (ed_var rfl (h1.mono s2)) (ed_var rfl d1)) ed_int)), fun _ => ed_var rfl d2⟩
theorem nats_ints (l : List Nat) : l.map dNat = (l.map fun k : Nat => (k : Int)).map .int := by rw [List.map_map]; rfl
theorem sum_cast : ∀ l : List Nat, (l.map fun k : Nat => (k : Int)).sum = ((l.sum : Nat) : Int)
  | [] => rfl
  | x :: r => by rw [List.map_cons, List.sum_cons, List.sum_cons, sum_cast r]; omega
theorem pow_cast (k : Nat) : (1 : Int) * 2 ^ ((k : Int).toNat) = ((2 ^ k : Nat) : Int) := by
  have := BT.shl_nat 1 k
  rw [Nat.one_mul] at this
  exact this
theorem cpow (k : Nat) (h : k ≤ 1000) : CPow 1 (k : Int) := ⟨by omega, by omega, by decide⟩
/-- 1 << at -/
theorem ed_bit {σ : L2.St} {H : Hp} {tb : TE} {k : Nat} (h : k ≤ 1000) (hb : Ed tb σ H (dNat k)) : Ed (tOp (rI CPow fun i j => .int (i * 2 ^ j.toNat)) (tC (.int 1)) tb) σ H (dNat (2 ^ k)) :=
  Ed.of (congrArg PyData.int (pow_cast k)) (ed_I (cpow k h) ed_int hb)
/-- mask >> at & 1 -/
theorem eb_bit {σ : L2.St} {H : Hp} {ta tb : TE} {m k : Nat} (ha : Ed ta σ H (dNat m)) (hb : Ed tb σ H (dNat k)) : Eb (tTru K (tOp (rI0 fun i j => .int (Builtin.bitAnd i j)) (tOp (rI (fun _ j => 0 ≤ j) fun i j => .int (i / 2 ^ j.toNat)) ta tb) (tC (.int 1)))) σ H (m.testBit k) :=
  Eb.of (BT.bit_tru m k) (eb_tru (ed_I0 (ed_I (by show (0 : Int) ≤ _; omega) ha hb) ed_int))
theorem ed_xor {σ : L2.St} {H : Hp} {ta tb : TE} {m k : Nat} (ha : Ed ta σ H (dNat m)) (hb : Ed tb σ H (dNat k)) : Ed (tOp (rI0 fun i j => .int (Builtin.bitXor i j)) ta tb) σ H (dNat (m ^^^ k)) :=
  Ed.of (congrArg PyData.int (BT.xor_nat m k)) (ed_I0 ha hb)
theorem ed_orN {σ : L2.St} {H : Hp} {ta tb : TE} {m k : Nat} (ha : Ed ta σ H (dNat m)) (hb : Ed tb σ H (dNat k)) : Ed (tOp (rI0 fun i j => .int (Builtin.bitOr i j)) ta tb) σ H (dNat (m ||| k)) :=
  Ed.of (congrArg PyData.int (BT.or_nat m k)) (ed_I0 ha hb)
theorem ed_andN {σ : L2.St} {H : Hp} {ta tb : TE} {m k : Nat} (ha : Ed ta σ H (dNat m)) (hb : Ed tb σ H (dNat k)) : Ed (tOp (rI0 fun i j => .int (Builtin.bitAnd i j)) ta tb) σ H (dNat (m &&& k)) :=
  Ed.of (congrArg PyData.int (BT.and_nat m k)) (ed_I0 ha hb)

def R_places_in (ds : List PyData) (d : PyData) : Prop := ∃ m n : Nat, ds = [dNat m, dNat n] ∧ n ≤ 10 ∧ d = dNats (placesIn m n)
theorem ok_places_in (T : Tx K mg) : FnOk P w K mg base CX0 1 T.f_places_in T.fd_places_in ["mask", "many"] (spD K R_places_in) := by
  refine okD T.F_places_in sc_places_in (fun ds d ⟨m, n, e, _⟩ => by rw [e]; rfl) fun cdv A outer s H E O vs ds d hr o hv r => ?_
  obtain ⟨m, n, rfl, hn, rfl⟩ := r
  obtain ⟨v1, v2, rfl, h1, h2⟩ := dp2 hv
  refine ⟨_, (pss_one (ps_ret (pe_lc (own := [("at", 2)]) (g := (gName 2)) rfl sc_places_in.nd (pi_range1 (by rfl) T.n_range (pa_cons (pv 1) pa_nil)) (blkOk_by (N := ["mask", "many", "at"]) (sc := defScope s_places_in) (by decide +kernel)) (fun _ _ _ _ _ => (pg_name (i := 2) sc_places_in.nd rfl (by first | exact .inl rfl | exact .inr rfl))) (fun _ _ _ _ _ => (pts_one (pt_tru K (pe_op op_and (pe_op op_shr (pv 0) (pv 2)) pe_int)))) (fun _ _ _ _ _ => (pv 2))))), fun D q => ?_⟩
  refine ret_ed (G := hid O H) ?_ o (.refl _) q
  refine ed_lc (fun k : Nat => m.testBit k) dNat (by rw [List.length_range]; omega) (iw_range1 (by omega) (ea_one (ed_var rfl h2))) (fun x σ4 H4 ⟨v, e, _⟩ => by subst e; rfl) ?_
  rintro k hk σ2 H2 s2 ⟨v, rfl, d1⟩
  exact ⟨eb_bit (ed_var rfl (h1.mono s2)) (ed_var rfl d1), fun _ => ed_var rfl d1⟩
def R_places_outside (ds : List PyData) (d : PyData) : Prop := ∃ m n : Nat, ds = [dNat m, dNat n] ∧ n ≤ 10 ∧ d = dNats (placesOut m n)
theorem ok_places_outside (T : Tx K mg) : FnOk P w K mg base CX0 1 T.f_places_outside T.fd_places_outside ["mask", "many"] (spD K R_places_outside) := by
  refine okD T.F_places_outside sc_places_outside (fun ds d ⟨m, n, e, _⟩ => by rw [e]; rfl) fun cdv A outer s H E O vs ds d hr o hv r => ?_
  obtain ⟨m, n, rfl, hn, rfl⟩ := r
  obtain ⟨v1, v2, rfl, h1, h2⟩ := dp2 hv
  refine ⟨_, (pss_one (ps_ret (pe_lc (own := [("at", 2)]) (g := (gName 2)) rfl sc_places_outside.nd (pi_range1 (by rfl) T.n_range (pa_cons (pv 1) pa_nil)) (blkOk_by (N := ["mask", "many", "at"]) (sc := defScope s_places_outside) (by decide +kernel)) (fun _ _ _ _ _ => (pg_name (i := 2) sc_places_outside.nd rfl (by first | exact .inl rfl | exact .inr rfl))) (fun _ _ _ _ _ => (pts_one (pt_not (pt_tru K (pe_op op_and (pe_op op_shr (pv 0) (pv 2)) pe_int))))) (fun _ _ _ _ _ => (pv 2))))), fun D q => ?_⟩
  refine ret_ed (G := hid O H) ?_ o (.refl _) q
  refine ed_lc (fun k : Nat => !m.testBit k) dNat (by rw [List.length_range]; omega) (iw_range1 (by omega) (ea_one (ed_var rfl h2))) (fun x σ4 H4 ⟨v, e, _⟩ => by subst e; rfl) ?_
  rintro k hk σ2 H2 s2 ⟨v, rfl, d1⟩
  exact ⟨eb_not (eb_bit (ed_var rfl (h1.mono s2)) (ed_var rfl d1)), fun _ => ed_var rfl d1⟩
def R_mask_of (ds : List PyData) (d : PyData) : Prop := ∃ l g : List Int, ds = [dSet l, dSet g] ∧ g.length ≤ 10 ∧ d = dNat (mskOf l g)
theorem ok_mask_of (T : Tx K mg) : FnOk P w K mg base CX0 1 T.f_mask_of T.fd_mask_of ["members", "ground"] (spD K R_mask_of) := by
  refine okD T.F_mask_of sc_mask_of (fun ds d ⟨m, n, e, _⟩ => by rw [e]; rfl) fun cdv A outer s H E O vs ds d hr o hv r => ?_
  obtain ⟨l, g, rfl, hg, rfl⟩ := r
  obtain ⟨v1, v2, rfl, h1, h2⟩ := dp2 hv
  refine ⟨_, (pss_one (ps_ret (pe_callB (kc_sum K) (by rfl) T.n_sum boot_sum (pa_cons (pe_lc (own := [("at", 2), ("one", 3)]) (g := (gTup K 2 (gCons (gName 2) (gCons (gName 3) gNil)))) rfl sc_mask_of.nd (kp_enumT K (by rfl) T.n_enumerate (pa_cons (pv 1) pa_nil)) (blkOk_by (N := ["members", "ground", "at", "one"]) (sc := defScope s_mask_of) (by decide +kernel)) (fun _ _ _ _ _ => (kg_tup K (pgs_cons (pg_name (i := 2) sc_mask_of.nd rfl (by first | exact .inl rfl | exact .inr rfl)) (pgs_cons (pg_name (i := 3) sc_mask_of.nd rfl (by first | exact .inl rfl | exact .inr rfl)) pgs_nil)))) (fun _ _ _ _ _ => (pts_one (pt_cmpR (ko_in K) (pv 3) (pv 0) rfl))) (fun _ _ _ _ _ => (pe_op op_shl pe_int (pv 2)))) pa_nil)))), fun D q => ?_⟩
  refine ret_ed (G := hid O H) ?_ o (.refl _) q
  unfold mskOf
  rw [dNat, ← sum_cast]
  refine ed_sum (Ed.of ?_ (ed_lc (fun x : Int × Nat => decide (x.1 ∈ l)) (fun x => dNat (2 ^ x.2)) (by rw [List.length_zipIdx]; omega) (iw_enumT (ea_one (ed_var rfl h2))) (fun x σ4 H4 ⟨v, w, e, _⟩ => by subst e; rfl) ?_))
  · rw [List.map_map, List.map_map]
    rfl
  · rintro x hx σ2 H2 s2 ⟨v, w, rfl, d1, d2⟩
    have hx2 : x.2 ≤ 1000 := by
      have := (List.mem_zipIdx hx).2.1
      omega
    exact ⟨eb_test (ed_inI (neg := false) (ed_var rfl d2) (.inl (ed_var rfl (h1.mono s2)))), fun _ => ed_bit hx2 (ed_var rfl d1)⟩
theorem filt_true {α : Type} (l : List α) : l.filter (fun _ => true) = l := List.filter_eq_self.mpr fun _ _ => rfl
/-! ### sorted sets -/
theorem sets_alike (ls : List (List Int)) : AllAlike (ls.map dSet) := AllAlike.of fun a b => by
  show alike (.tuple (a.map .int)) (.tuple (b.map .int)) = true
  simp only [alike]
  exact alike_ints a b
theorem sets_tup (ls : List (List Int)) : ∀ d, d ∈ ls.map dSet → ∃ ys, d = .tuple ys := fun d hd => by
  obtain ⟨a, _, rfl⟩ := List.mem_map.mp hd
  exact ⟨_, rfl⟩
theorem sets_depth (ls : List (List Int)) : ∀ d, d ∈ ls.map dSet → d.depth ≤ 60 := fun d hd => by
  obtain ⟨a, _, rfl⟩ := List.mem_map.mp hd
  show PyData.depth (.tuple (a.map .int)) ≤ 60
  rw [PyData.depth, depth_ints]
  decide
theorem sort_sets (ls : List (List Int)) : (ls.map dSet).mergeSort (dataLe false id) = (sortS ls).map dSet :=
  (List.map_mergeSort (f := dSet) (r := leS) (s := dataLe false id) fun a _ b _ => rfl).symm
theorem ed_sorted {σ : L2.St} {H : Hp} {te : TE} {ls : List (List Int)} (h : Ed te σ H (dSetL ls)) : Ed (tCB (rSortedTu K) (tCons te tNil)) σ H (dSetL (sortS ls)) :=
  Ed.of (congrArg PyData.list (sort_sets ls)) (ed_sortedTu (sets_alike ls) (sets_tup ls) (sets_depth ls) h)

def R_sets_of (ds : List PyData) (d : PyData) : Prop := ∃ (ms : List Nat) (g : List Int), ds = [dNats ms, dSet g] ∧ g.length ≤ 10 ∧ ms.length ≤ 5000 ∧ d = dSets (sortS (ms.map (setOf · g)))
theorem ok_sets_of (T : Tx K mg) : FnOk P w K mg base CX0 2 T.f_sets_of T.fd_sets_of ["masks", "ground"] (spD K R_sets_of) := by
  refine okD T.F_sets_of sc_sets_of (fun ds d ⟨m, n, e, _⟩ => by rw [e]; rfl) fun cdv A outer s H E O vs ds d hr o hv r => ?_
  obtain ⟨ms, g, rfl, hg, hm, rfl⟩ := r
  obtain ⟨v1, v2, rfl, h1, h2⟩ := dp2 hv
  refine ⟨_, (pss_one (ps_ret (pe_callTy (kc_tuple K) (by rfl) T.n_tuple boot_tuple (pa_cons (pe_callB (kc_sortedTu K (hu64 hr)) (by rfl) T.n_sorted boot_sorted (pa_cons (pe_lc (own := [("mask", 2)]) (g := (gName 2)) (tt := tYes) rfl sc_sets_of.nd (kp_list K (pv 0)) (blkOk_by (N := ["masks", "ground", "mask"]) (sc := defScope s_sets_of) (by decide +kernel)) (fun _ _ _ _ _ => (pg_name (i := 2) sc_sets_of.nd rfl (by first | exact .inl rfl | exact .inr rfl))) (fun _ _ _ _ _ => pts_nil) (fun _ _ _ _ _ => (pe_call (ok_set_of T) (hr.mono (by decide)) (by rfl) T.m_set_of T.F_set_of.kp T.b_set_of .nil pass0 (pa_cons (pv 2) (pa_cons (pv 1) pa_nil))))) pa_nil)) pa_nil)))), fun D q => ?_⟩
  refine ret_ed (G := hid O H) ?_ o (.refl _) q
  refine ed_tupleL (ed_sorted (Ed.of ?_ (ed_lc (fun _ => true) (fun m : Nat => dSet (setOf m g)) (by omega) (iw_list (ed_var rfl h1)) (fun x σ4 H4 ⟨v, e, _⟩ => by subst e; rfl) ?_)))
  · rw [filt_true, dSetL, List.map_map]
    rfl
  · rintro m hx σ2 H2 s2 ⟨v, rfl, d1⟩
    exact ⟨eb_yes, fun _ => ed_call ⟨m, g, rfl, hg, rfl⟩ (ea_cons (ed_var rfl d1) (ea_one (ed_var rfl (h2.mono s2))))⟩
theorem getD_at {l : List Nat} {i : Nat} (h : i < l.length) : (l.map dNat)[i]? = some (dNat (l.getD i 0)) := by
  rw [List.getElem?_map, List.getElem?_eq_getElem h, List.getD_eq_getElem?_getD, List.getElem?_eq_getElem h]
  rfl
def R_is_circuit_mask (ds : List PyData) (d : PyData) : Prop := ∃ (m n : Nat) (rk : List Nat), ds = [dNat m, dNatT rk, dNat n] ∧ n ≤ 10 ∧ m < 2 ^ n ∧ rk.length = 2 ^ n ∧ d = .bool (isCirc rk n m)
theorem ok_is_circuit_mask (T : Tx K mg) : FnOk P w K mg base CX0 2 T.f_is_circuit_mask T.fd_is_circuit_mask ["mask", "ranks", "many"] (spD K R_is_circuit_mask) := by
  refine okD T.F_is_circuit_mask sc_is_circuit_mask (fun ds d ⟨m, n, _, e, _⟩ => by rw [e]; rfl) fun cdv A outer s H E O vs ds d hr o hv r => ?_
  obtain ⟨m, n, rk, rfl, hn, hm, hrk, rfl⟩ := r
  obtain ⟨v1, v2, v3, rfl, h1, h2, h3⟩ := dp3 hv
  refine ⟨_, (pss_cons (ps_set (i := 3) sc_is_circuit_mask.nd rfl (by first | exact .inl rfl | exact .inr rfl) (pe_call (ok_places_in T) (hr.mono (by decide)) (by rfl) T.m_places_in T.F_places_in.kp T.b_places_in .nil pass0 (pa_cons (pv 0) (pa_cons (pv 2) pa_nil))))
      (pss_cons (ps_set (i := 4) sc_is_circuit_mask.nd rfl (by first | exact .inl rfl | exact .inr rfl) (pe_op op_sub (pe_callB (kc_len K) (by rfl) T.n_len PySem.boot_len (pa_cons (pv 3) pa_nil)) pe_int))
      (pss_one (ps_ret (pe_and (pe_cmpR op_eq (pe_ix (ki_tup K) (pv 1) (pv 0) (fun _ _ => rfl)) (pv 4) (nomark _)) (pe_one (pe_callB (kc_all K) (by rfl) T.n_all boot_all (pa_cons (pe_lc (own := [("at", 5)]) (g := (gName 5)) (tt := tYes) rfl sc_is_circuit_mask.nd (kp_list K (pv 3)) (blkOk_by (N := ["mask", "ranks", "many", "places", "fewer", "at"]) (sc := defScope s_is_circuit_mask) (by decide +kernel)) (fun _ _ _ _ _ => (pg_name (i := 5) sc_is_circuit_mask.nd rfl (by first | exact .inl rfl | exact .inr rfl))) (fun _ _ _ _ _ => pts_nil) (fun _ _ _ _ _ => (pe_cmpR op_eq (pe_ix (ki_tup K) (pv 1) (pe_op op_xor (pv 0) (pe_op op_shl pe_int (pv 5))) (fun _ _ => rfl)) (pv 4) (nomark _)))) pa_nil)))))))), fun D q => ?_⟩
  refine asg_ed (G := hid O H) (ed_call ⟨m, n, rfl, hn, rfl⟩ (ea_cons (ed_var rfl h1) (ea_one (ed_var rfl h3)))) o (.refl _) fun p H2 s2 hp => ?_
  have h1 := h1.mono (hid_same s2)
  have h2 := h2.mono (hid_same s2)
  have o2 := o.mono s2
  refine asg_ed (G := hid O H2) (ed_I0 (ed_len (kd := false) (ed_var rfl hp)) ed_int) o2 (.refl _) fun f H3 s3 hf => ?_
  have h1 := h1.mono (hid_same s3)
  have h2 := h2.mono (hid_same s3)
  have hp := hp.mono (hid_same s3)
  rw [List.length_map] at hf
  dsimp only
  refine ret_ed (G := hid O H3) ?_ (o2.mono s3) (.refl _) fun v H' s4 => q v H' (s2.trans (s3.trans s4))
  refine ed_and (ed_eqI (ed_ixT (getD_at (by omega)) (ed_var rfl h2) (ed_var rfl h1)) (ed_var rfl hf)) fun _ => ed_all (Ed.of ?_ (ed_lc (fun _ => true) (fun k : Nat => .bool (decide (((rk.getD (m ^^^ 2 ^ k) 0 : Nat) : Int) = ((placesIn m n).length : Int) - 1))) ?_ (iw_list (ed_var rfl hp)) (fun x σ4 H4 ⟨v, e, _⟩ => by subst e; rfl) ?_))
  · rw [filt_true, List.map_map]
    rfl
  · exact Nat.le_trans (List.length_filter_le _ _) (by rw [List.length_range]; omega)
  · rintro k hk σ2 H4 s4 ⟨v, rfl, d1⟩
    have hk := places_lt hk
    exact ⟨eb_yes, fun _ => ed_eqI (ed_ixT (getD_at (by rw [hrk]; exact xor_lt hm hk.1)) (ed_var rfl (h2.mono s4)) (ed_xor (ed_var rfl (h1.mono s4)) (ed_bit (by omega) (ed_var rfl d1)))) (ed_var rfl (hf.mono s4))⟩
def R_circuit_masks (ds : List PyData) (d : PyData) : Prop := ∃ (n : Nat) (rk : List Nat), ds = [dNatT rk, dNat n] ∧ n ≤ 10 ∧ rk.length = 2 ^ n ∧ d = dNats ((List.range (2 ^ n)).filter (isCirc rk n))
theorem ok_circuit_masks (T : Tx K mg) : FnOk P w K mg base CX0 3 T.f_circuit_masks T.fd_circuit_masks ["ranks", "many"] (spD K R_circuit_masks) := by
  refine okD T.F_circuit_masks sc_circuit_masks (fun ds d ⟨m, n, e, _⟩ => by rw [e]; rfl) fun cdv A outer s H E O vs ds d hr o hv r => ?_
  obtain ⟨n, rk, rfl, hn, hrk, rfl⟩ := r
  obtain ⟨v1, v2, rfl, h1, h2⟩ := dp2 hv
  have hp := pow10 hn
  refine ⟨_, (pss_one (ps_ret (pe_lc (own := [("mask", 2)]) (g := (gName 2)) rfl sc_circuit_masks.nd (pi_range1 (by rfl) T.n_range (pa_cons (pe_op op_shl pe_int (pv 1)) pa_nil)) (blkOk_by (N := ["ranks", "many", "mask"]) (sc := defScope s_circuit_masks) (by decide +kernel)) (fun _ _ _ _ _ => (pg_name (i := 2) sc_circuit_masks.nd rfl (by first | exact .inl rfl | exact .inr rfl))) (fun _ _ _ _ _ => (pts_one (pt_val (pe_call (ok_is_circuit_mask T) (hr.mono (by decide)) (by rfl) T.m_is_circuit_mask T.F_is_circuit_mask.kp T.b_is_circuit_mask .nil pass0 (pa_cons (pv 2) (pa_cons (pv 0) (pa_cons (pv 1) pa_nil))))))) (fun _ _ _ _ _ => (pv 2))))), fun D q => ?_⟩
  refine ret_ed (G := hid O H) ?_ o (.refl _) q
  refine ed_lc (isCirc rk n) dNat (by rw [List.length_range]; omega) (iw_range1 (n := 2 ^ n) (by omega) (ea_one (ed_bit (by omega) (ed_var rfl h2)))) (fun x σ4 H4 ⟨v, e, _⟩ => by subst e; rfl) ?_
  rintro m hx σ2 H2 s2 ⟨v, rfl, d1⟩
  rw [List.mem_range] at hx
  exact ⟨eb_B (ed_call ⟨m, n, rk, rfl, hn, hx, hrk, rfl⟩ (ea_cons (ed_var rfl d1) (ea_cons (ed_var rfl (h1.mono s2)) (ea_one (ed_var rfl (h2.mono s2)))))), fun _ => ed_var rfl d1⟩
end
end K9

set_option Elab.async false
set_option linter.all false
set_option maxRecDepth 100000
namespace K9
open PySem PySem.Spec PyProof.Rows L2 PySem.W MB
section
variable {P : Program} {w : World} {K : PySem.W.Frag} {mg : Str → Option Value} {base : Heap}
/-- the flags by place -/
abbrev bt (n : Nat) (f : Nat → Bool) : List V := tab (2 ^ n) fun k => .bl (f k)
abbrev dBools (n : Nat) (f : Nat → Bool) : PyData := .list ((List.range n).map fun k => .bool (f k))
theorem dp_bools {G : Hp} (n : Nat) (f : Nat → Bool) : DqAll G (tab n fun k => .bl (f k)) ((List.range n).map fun k => .bool (f k)) := by
  unfold tab
  induction List.range n with
  | nil => exact .nil
  | cons k r ih => exact .cons (.bl _) ih
theorem tab_or {n j : Nat} {f : Nat → Bool} : (tab n fun k => if k = j then V.bl true else V.bl (f k)) = tab n fun k => V.bl (decide (k = j) || f k) :=
  tab_congr fun k _ => by
    by_cases e : k = j
    · rw [if_pos e]; simp [e]
    · rw [if_neg e]; simp [e]
/-- reversed(range(n)) -/
theorem iw_rev {σ : L2.St} {H : Hp} {i n : Nat} {ta : TE} (hn : n < 1000000) (h : Ed ta σ H (dNat n)) : Iw (iRevR (tRg1 ta)) (gName i) σ H (List.range n) (B1 i fun k => dNat (n - 1 - k)) := fun O H0 o s R q =>
  h O H0 o s _ fun v H1 s1 hv => by
    rw [hv.int_inv]
    have en : ((n : Int) - 0).toNat = n := by omega
    refine ⟨n, rfl, by omega, by omega, by omega, by omega, q _ H1 s1 (fun i x H2 hx s2 => ?_) fun H2 s2 => by show _ ≤ _; rw [en, List.length_range]; exact Nat.le_refl _⟩
    obtain ⟨hi, rfl⟩ := List.getElem?_eq_some_iff.mp hx
    rw [List.length_range] at hi
    refine ⟨by show i < _; rw [en]; exact hi, fun v H3 ⟨e3, hv⟩ O' σ' Q o' s' k => ?_⟩
    subst e3
    subst hv
    refine k _ _ (.refl _) ⟨_, rfl, ?_⟩
    rw [List.getElem_range]
    have : (0 : Int) + ((((n : Int) - 0).toNat : Nat) : Int) - 1 + (i : Nat) * (-1) = ((n - 1 - i : Nat) : Int) := by rw [en]; omega
    rw [this]
    exact .int _

def R_flags_below (ds : List PyData) (d : PyData) : Prop := ∃ (ms : List Nat) (n : Nat), ds = [dNats ms, dNat n] ∧ n ≤ 10 ∧ (∀ m, m ∈ ms → m < 2 ^ n) ∧ d = dBools (2 ^ n) (belowAny ms)
theorem ok_flags_below (T : Tx K mg) : FnOk P w K mg base CX0 1 T.f_flags_below T.fd_flags_below ["masks", "many"] (spD K R_flags_below) := by
  refine okD T.F_flags_below sc_flags_below (fun ds d ⟨m, n, e, _⟩ => by rw [e]; rfl) fun cdv A outer s H E O vs ds d hr o hv r => ?_
  obtain ⟨ms, n, rfl, hn, hms, rfl⟩ := r
  obtain ⟨v1, v2, rfl, h1, h2⟩ := dp2 hv
  have hp := pow10 hn
  refine ⟨_, (pss_cons (ps_set (i := 2) sc_flags_below.nd rfl (by first | exact .inl rfl | exact .inr rfl) (pe_op op_rep (pe_lst (pa_cons pe_bl pa_nil)) (pe_op op_shl pe_int (pv 1))))
      (pss_cons (ps_for PassesOwn.never rfl (kp_list K (pv 0)) (pg_name (i := 3) sc_flags_below.nd rfl (by first | exact .inl rfl | exact .inr rfl))
      (pss_one (ps_asg pe_bl (pg_sub (pv 2) (pv 3) set_list))))
      (pss_cons (ps_for PassesOwn.never rfl (pi_revR (by rfl) T.n_reversed (prg_1 (by rfl) T.n_range (pe_op op_shl pe_int (pv 1)))) (pg_name (i := 3) sc_flags_below.nd rfl (by first | exact .inl rfl | exact .inr rfl))
      (pss_one (ps_if (pt_val (pe_ix (ki_list K) (pv 2) (pv 3) (fun _ _ => rfl))) (pss_one (ps_for PassesOwn.never rfl (pi_range1 (by rfl) T.n_range (pa_cons (pv 1) pa_nil)) (pg_name (i := 4) sc_flags_below.nd rfl (by first | exact .inl rfl | exact .inr rfl))
      (pss_one (ps_asg pe_bl (pg_sub (pv 2) (pe_op op_and (pv 3) (pe_un un_inv (pe_op op_shl pe_int (pv 4)))) set_list))))) pss_nil)))
      (pss_one (ps_ret (pv 2)))))), fun D q => ?_⟩
  -- flags = [False] * (1 << many)
  refine rep_tab (G := hid O H) (n := 2 ^ n) (ed_bit (by omega) (ed_var rfl h2)) (by omega) o (.refl _) fun p H1 np s1 hp1 => ?_
  have o1 : Hid (plus O p) H1 := (o.mono s1).plus hp1
  have nOp : ¬ O p := o.new np
  have g1 : Le (hid O H) (hid (plus O p) H1) := hid_add (hid_same s1) (by rw [hid_out nOp]; exact np)
  have h1' := h1.mono g1
  have h2' := h2.mono g1
  -- for mask in masks
  refine for_iw (xs := ms) (G := hid (plus O p) H1) (O := plus O p) (iw_list (ed_var rfl h1')) o1 (.refl _) fun H2 s2 => ?_
  refine ⟨fun i σ H3 => ∃ y f, σ = [some v1, some v2, some (.ref p), y, none] ∧ Le H H3 ∧ Le (hid (plus O p) H2) (hid (plus O p) H3) ∧ H3 p = some (.lst (bt n f)) ∧ (∀ k, f k = true → belowAny ms k = true) ∧ ∀ m, m ∈ ms.take i → f m = true,
    ⟨none, fun _ => false, rfl, s1.trans s2, .refl _, s2.lst hp1, fun k h => (nomatch h), fun m h => (nomatch h)⟩, fun i σ H3 _ h3 => by obtain ⟨_, _, _, _, h, _⟩ := h3; exact h, fun i m σ H3 hx h3 => ?_, fun σ H3 h3 => ?_⟩
  · obtain ⟨y, f, rfl, s3, g3, hp3, hs, h0⟩ := h3
    have o3 : Hid (plus O p) H3 := (o.mono s3).plus hp3
    refine ⟨plus O p, o3, g3, fun σ4 H4 s4 hB => ?_⟩
    obtain ⟨v, rfl, dv⟩ := hB
    have hmem : m ∈ ms := List.mem_of_getElem? hx
    refine set_tab (G := hid (plus O p) H4) (i1 := 2) rfl (ed_var rfl dv) (o3.mono s4) (.refl _) (s4.lst hp3) (hms m hmem) fun H5 s5 => ?_
    refine ⟨some v, fun k => decide (k = m) || f k, rfl, ?_, ?_, by rw [upd_same, tab_or], fun k hk => ?_, fun k hk => ?_⟩
    · exact (s3.trans (s4.trans s5)).updN np (nt_lst (s5.lst (s4.lst hp3)))
    · rw [hid_upd _ (nt_lst (s5.lst (s4.lst hp3))) rfl]
      exact g3.trans (hid_same (s4.trans s5))
    · rcases Bool.or_eq_true _ _ |>.mp hk with e | e
      · rw [of_decide_eq_true e]
        exact below_iff.mpr ⟨m, hmem, sub_refl m⟩
      · exact hs k e
    · rw [List.take_add_one, hx] at hk
      rcases List.mem_append.mp hk with e | e
      · simp [h0 k e]
      · have : k = m := by simpa using e
        simp [this]
  · obtain ⟨y, f, rfl, s3, g3, hp3, hs, h0⟩ := h3
    rw [List.take_length] at h0
    have o3 : Hid (plus O p) H3 := (o.mono s3).plus hp3
    have h2'' := h2'.mono ((hid_same s2).trans g3)
    -- for mask in reversed(range(1 << many))
    refine for_iw (xs := List.range (2 ^ n)) (G := hid (plus O p) H3) (O := plus O p) (iw_rev (by omega) (ed_bit (by omega) (ed_var rfl h2''))) o3 (.refl _) fun H4 s4 => ?_
    refine ⟨fun i σ H5 => ∃ y z f, σ = [some v1, some v2, some (.ref p), y, z] ∧ Le H H5 ∧ Le (hid (plus O p) H4) (hid (plus O p) H5) ∧ H5 p = some (.lst (bt n f)) ∧ (∀ k, f k = true → belowAny ms k = true) ∧ (∀ m, m ∈ ms → f m = true) ∧
        (∀ x, x < 2 ^ n → 2 ^ n - i ≤ x → f x = true → ∀ k, k < n → f (clr x k) = true),
      ⟨y, none, f, rfl, s3.trans s4, .refl _, s4.lst hp3, hs, h0, fun x a b => by omega⟩, fun i σ H3 _ h3 => by obtain ⟨_, _, _, _, _, h, _⟩ := h3; exact h, fun i t σ H5 hx h5 => ?_, fun σ H5 h5 => ?_⟩
    · obtain ⟨y, z, f, rfl, s5, g5, hp5, hs, h0, hc⟩ := h5
      have o5 : Hid (plus O p) H5 := (o.mono s5).plus hp5
      refine ⟨plus O p, o5, g5, fun σ6 H6 s6 hB => ?_⟩
      obtain ⟨v, rfl, dv⟩ := hB
      obtain ⟨hi, rfl⟩ := List.getElem?_eq_some_iff.mp hx
      rw [List.length_range] at hi
      rw [List.getElem_range] at dv
      replace dv : Dq (hid (plus O p) H6) v (dNat (2 ^ n - 1 - i)) := dv
      generalize hm : 2 ^ n - 1 - i = m at dv
      have hmlt : m < 2 ^ n := by omega
      have o6 := o5.mono s6
      -- if flags[mask]
      refine ⟨.ref p, rfl, v, rfl, p, bt n f, (m : Int), .bl (f m), rfl, dv.int_inv, .inl (.inl (s6.lst hp5)), atI_nat (tab_at _ hmlt), f m, rfl, ?_⟩
      have h2h : Dq (hid (plus O p) H6) v2 (dNat n) := h2''.mono ((hid_same s4).trans (g5.trans (hid_same s6)))
      refine ite2 (fun hf => ?_) fun hf => ?_
      · -- for at in range(many)
        refine for_iw (xs := List.range n) (G := hid (plus O p) H6) (O := plus O p) (iw_range1 (by omega) (ea_one (ed_var rfl h2h))) o6 (.refl _) fun H7 s7 => ?_
        refine ⟨fun j σ H8 => ∃ z g, σ = [some v1, some v2, some (.ref p), some v, z] ∧ Le H H8 ∧ Le (hid (plus O p) H7) (hid (plus O p) H8) ∧ H8 p = some (.lst (bt n g)) ∧ ∀ x, g x = true ↔ (f x = true ∨ ∃ k, k < j ∧ x = clr m k),
          ⟨z, f, rfl, s5.trans (s6.trans s7), .refl _, s7.lst (s6.lst hp5), fun x => ⟨.inl, fun h => h.elim id fun ⟨k, a, _⟩ => absurd a (Nat.not_lt_zero k)⟩⟩, fun i σ H3 _ h3 => by obtain ⟨_, _, _, _, h, _⟩ := h3; exact h, fun j k σ H8 hx8 h8 => ?_, fun σ H8 h8 => ?_⟩
        · obtain ⟨z, g, rfl, s8, g8, hp8, hg⟩ := h8
          have o8 : Hid (plus O p) H8 := (o.mono s8).plus hp8
          refine ⟨plus O p, o8, g8, fun σ9 H9 s9 hB => ?_⟩
          obtain ⟨u, rfl, du⟩ := hB
          obtain ⟨hj, rfl⟩ := List.getElem?_eq_some_iff.mp hx8
          rw [List.length_range] at hj
          rw [List.getElem_range] at du
          have dv9 : Dq (hid (plus O p) H9) v (dNat m) := dv.mono ((hid_same s7).trans (g8.trans (hid_same s9)))
          refine set_tab (G := hid (plus O p) H9) (i1 := 2) (j := clr m j) rfl (Ed.of (congrArg PyData.int (and_not m j)) (ed_I0 (ed_var rfl dv9) (ed_un (ed_bit (by omega) (ed_var rfl du))))) (o8.mono s9) (.refl _) (s9.lst hp8) (Nat.lt_of_le_of_lt (clr_le _ _) hmlt) fun Ha sa => ?_
          refine ⟨some u, fun k => decide (k = clr m j) || g k, rfl, ?_, ?_, by rw [upd_same, tab_or], fun x => ?_⟩
          · exact (s8.trans (s9.trans sa)).updN np (nt_lst (sa.lst (s9.lst hp8)))
          · rw [hid_upd _ (nt_lst (sa.lst (s9.lst hp8))) rfl]
            exact g8.trans (hid_same (s9.trans sa))
          · rw [Bool.or_eq_true, decide_eq_true_eq, hg]
            constructor
            · rintro (e | e | ⟨k, a, b⟩)
              · exact .inr ⟨j, Nat.lt_succ_self j, e⟩
              · exact .inl e
              · exact .inr ⟨k, Nat.lt_succ_of_lt a, b⟩
            · rintro (e | ⟨k, a, b⟩)
              · exact .inr (.inl e)
              · rcases Nat.lt_succ_iff_lt_or_eq.mp a with a | a
                · exact .inr (.inr ⟨k, a, b⟩)
                · exact .inl (by rw [b, a])
        · obtain ⟨z, g, rfl, s8, g8, hp8, hg⟩ := h8
          rw [List.length_range] at hg
          refine ⟨some v, z, g, rfl, s8, g5.trans ((hid_same (s6.trans s7)).trans g8), hp8, fun x hx => ?_, fun m' hm' => (hg m').mpr (.inl (h0 m' hm')), fun x hx1 hx2 hx3 k hk => ?_⟩
          · rcases (hg x).mp hx with e | ⟨k, a, b⟩
            · exact hs x e
            · obtain ⟨m', hm', e⟩ := below_iff.mp (hs m hf)
              exact below_iff.mpr ⟨m', hm', by rw [b]; exact sub_trans (clr_sub m k) e⟩
          · by_cases e : x = m
            · rw [e]
              exact (hg _).mpr (.inr ⟨k, hk, rfl⟩)
            · have hxm : m < x := by omega
              have hfx : f x = true := by
                rcases (hg x).mp hx3 with e | ⟨k', a, b⟩
                · exact e
                · have := clr_le m k'
                  omega
              exact (hg _).mpr (.inl (hc x hx1 (by omega) hfx k hk))
      · refine ⟨some v, z, f, rfl, s5.trans s6, g5.trans (hid_same s6), s6.lst hp5, hs, h0, fun x hx1 hx2 hx3 k hk => ?_⟩
        by_cases e : x = m
        · rw [e] at hx3
          exact absurd hx3 hf
        · exact hc x hx1 (by omega) hx3 k hk
    · obtain ⟨y, z, f, rfl, s5, g5, hp5, hs, h0, hc⟩ := h5
      rw [List.length_range] at hc
      have hall := below_done hms hs h0 fun x hx hfx k hk => hc x hx (by omega) hfx k hk
      -- return flags
      refine ⟨.ref p, rfl, q _ H5 s5 (.lst (.inl (.inl (by rw [hid_out nOp]; exact hp5))) ?_)⟩
      have e : bt n f = tab (2 ^ n) fun k => .bl (belowAny ms k) := tab_congr fun k hk => by rw [hall k]
      rw [e]
      exact dp_bools _ _
end
end K9

set_option Elab.async false
set_option linter.all false
set_option maxRecDepth 100000
namespace MB
/-- the exchange of bases, by masks -/
def ExM (ms : List Nat) : Prop := ∀ a, a ∈ ms → ∀ b, b ∈ ms → ∀ k, a.testBit k = true → b.testBit k = false → ∃ j, b.testBit j = true ∧ a.testBit j = false ∧ ((a ^^^ 2 ^ k) ||| 2 ^ j) ∈ ms
end MB
namespace K9
open PySem PySem.Spec PyProof.Rows L2 PySem.W MB
theorem setOf_len (m : Nat) (g : List Int) : (setOf m g).length = cnt g.length m := by
  have e : (g.zipIdx.map (·.2)).filter (fun k => m.testBit k) = (g.zipIdx.filter fun x => m.testBit x.2).map (·.2) := by
    rw [List.filter_map]
    rfl
  have r : g.zipIdx.map (·.2) = List.range g.length := by
    rw [List.range_eq_range']
    exact List.zipIdx_map_snd 0 g
  unfold setOf MB.cnt placesIn
  rw [List.length_map, ← r, e, List.length_map]
theorem cnt_msk0 {l g : List Int} (h : l.Sublist g) (nd : g.Nodup) : MB.cnt g.length (mskOf l g) = l.length := by
  rw [← setOf_len, set_msk h nd]
theorem split_len (p q : Nat → Bool) : ∀ l : List Nat, (l.filter p).length = (l.filter fun k => p k && q k).length + (l.filter fun k => p k && !q k).length
  | [] => rfl
  | x :: l => by
    have := split_len p q l
    cases hp : p x <;> cases hq : q x <;> simp [List.filter_cons, hp, hq] <;> omega
theorem len_mono (p q : Nat → Bool) (h : ∀ k, p k = true → q k = true) : ∀ l : List Nat, (l.filter p).length ≤ (l.filter q).length
  | [] => Nat.le_refl _
  | x :: l => by
    have := len_mono p q h l
    cases hp : p x <;> cases hq : q x <;> simp [List.filter_cons, hp, hq]
    · omega
    · omega
    · have := h x hp; rw [hq] at this; cases this
    · omega
theorem cnt_and (n a b : Nat) : cnt n (a &&& b) = ((List.range n).filter fun k => a.testBit k && b.testBit k).length := by
  unfold MB.cnt placesIn
  congr 1
  exact List.filter_congr fun k _ => Nat.testBit_and a b k
theorem cnt_le (n a : Nat) : cnt n a ≤ n := by
  unfold MB.cnt placesIn
  exact Nat.le_trans (List.length_filter_le _ _) (by rw [List.length_range]; exact Nat.le_refl _)
/-- a base over J with as much of L as b -/
theorem aug {n : Nat} {ms : List Nat} (ex : ExM ms) (sz : ∀ a, a ∈ ms → ∀ b, b ∈ ms → cnt n a = cnt n b) (lt : ∀ a, a ∈ ms → a < 2 ^ n) {J L b : Nat} (hJ : sub J L) (hb : b ∈ ms) :
    ∀ (d c : Nat), c ∈ ms → sub J c → n ≤ cnt n (c &&& b) + d → ∃ e, e ∈ ms ∧ sub J e ∧ cnt n (L &&& b) ≤ cnt n (L &&& e)
  | d, c, hc, hj, hd => by
    by_cases h : cnt n (L &&& b) ≤ cnt n (L &&& c)
    · exact ⟨c, hc, hj, h⟩
    · -- a place of c outside of L and b
      have : ∃ k, c.testBit k = true ∧ L.testBit k = false ∧ b.testBit k = false := by
        refine Classical.byContradiction fun no => h ?_
        have all : ∀ k, (c.testBit k && !L.testBit k) = true → (b.testBit k && !L.testBit k) = true := fun k hk => by
          rw [Bool.and_eq_true, Bool.not_eq_true'] at hk ⊢
          refine ⟨?_, hk.2⟩
          cases e : b.testBit k with
          | true => rfl
          | false => exact absurd ⟨k, hk.1, hk.2, e⟩ no
        have h1 := split_len (c.testBit ·) (L.testBit ·) (List.range n)
        have h2 := split_len (b.testBit ·) (L.testBit ·) (List.range n)
        have h3 := len_mono _ _ all (List.range n)
        have h4 : ((List.range n).filter (c.testBit ·)).length = ((List.range n).filter (b.testBit ·)).length := sz c hc b hb
        have e1 := cnt_and n c L
        have e2 := cnt_and n b L
        rw [Nat.and_comm L b, Nat.and_comm L c, e1, e2]
        omega
      obtain ⟨k, hk, hkL, hkb⟩ := this
      obtain ⟨j, hj1, hj2, hm⟩ := ex c hc b hb k hk hkb
      have bit : ∀ i, ((c ^^^ 2 ^ k) ||| 2 ^ j).testBit i = ((c.testBit i && !decide (k = i)) || decide (j = i)) := fun i => by
        rw [xor_clr hk, Nat.testBit_or, clr_bit, bit_pow]
      have hj' : sub J ((c ^^^ 2 ^ k) ||| 2 ^ j) := sub_iff.mpr fun i hi => by
        have h1 := sub_iff.mp hj i hi
        have h2 := sub_iff.mp hJ i hi
        have : k ≠ i := fun e => by subst e; rw [h2] at hkL; cases hkL
        rw [bit, h1]
        simp [this]
      have grow : MB.cnt n (c &&& b) + 1 ≤ MB.cnt n (((c ^^^ 2 ^ k) ||| 2 ^ j) &&& b) := by
        have hjn : j < n := lt_bit (lt b hb) hj1
        have hjt : (((c ^^^ 2 ^ k) ||| 2 ^ j) &&& b).testBit j = true := by
          rw [Nat.testBit_and, bit, hj1]
          simp
        have h1 := cnt_clr hjn hjt
        have h2 : sub (c &&& b) (clr (((c ^^^ 2 ^ k) ||| 2 ^ j) &&& b) j) := sub_iff.mpr fun i hi => by
          rw [Nat.testBit_and, Bool.and_eq_true] at hi
          have n1 : k ≠ i := fun e => by subst e; rw [hi.2] at hkb; cases hkb
          have n2 : j ≠ i := fun e => by subst e; rw [hi.1] at hj2; cases hj2
          rw [clr_bit, Nat.testBit_and, bit, hi.1, hi.2]
          simp [n1, n2]
        have := cnt_mono (n := n) h2
        omega
      match d with
      | 0 =>
        have := cnt_le n (((c ^^^ 2 ^ k) ||| 2 ^ j) &&& b)
        omega
      | d + 1 => exact aug ex sz lt hJ hb d _ hm hj' (by omega)
end K9

set_option Elab.async false
set_option linter.all false
set_option maxRecDepth 100000
namespace K9
open PySem PySem.Spec PyProof.Rows L2 PySem.W MB
section
variable {P : Program} {w : World} {K : PySem.W.Frag} {mg : Str → Option Value} {base : Heap}
theorem tab_nats (n : Nat) (f : Nat → Nat) {G : Hp} : DqAll G (tab n fun k => .int (f k : Int)) (((List.range n).map f).map dNat) := by
  unfold tab
  induction List.range n with
  | nil => exact .nil
  | cons k r ih => exact .cons (.int _) ih
theorem nats_dp (gs : List Nat) {G : Hp} : DqAll G (gs.map fun k : Nat => V.int (k : Int)) (gs.map dNat) := by
  induction gs with
  | nil => exact .nil
  | cons k r ih => exact .cons (.int _) ih
/-- bases as masks, all of one size, with exchange -/
structure BM (n : Nat) (ms : List Nat) : Prop where
  lt : ∀ m, m ∈ ms → m < 2 ^ n
  ne : ms ≠ []
  sz : ∀ a, a ∈ ms → ∀ b, b ∈ ms → MB.cnt n a = MB.cnt n b
  ex : ExM ms
/-- a greatest independent mask within a mask -/
structure Gr (n : Nat) (ms : List Nat) (m g : Nat) : Prop where
  s : sub g m
  b : belowAny ms g = true
  c : MB.cnt n g = rankOf n ms m
theorem or_bit (m k i : Nat) : (m ||| 2 ^ k).testBit i = (m.testBit i || decide (k = i)) := by rw [Nat.testBit_or, bit_pow]
theorem cnt_or {n m k : Nat} (hk : k < n) (hm : m.testBit k = false) : MB.cnt n (m ||| 2 ^ k) = MB.cnt n m + 1 := by
  have h : (m ||| 2 ^ k).testBit k = true := by rw [or_bit]; simp
  have e : clr (m ||| 2 ^ k) k = m := Nat.eq_of_testBit_eq fun i => by
    rw [clr_bit, or_bit]
    by_cases z : k = i
    · subst z; simp [hm]
    · simp [z]
  have := cnt_clr hk h
  rw [e] at this
  omega
theorem bit_hi {m k i : Nat} (h : m < 2 ^ k) (hi : k ≤ i) : m.testBit i = false := Nat.testBit_lt_two_pow (Nat.lt_of_lt_of_le h (Nat.pow_le_pow_right (by decide) hi))
theorem gr_zero {n : Nat} {ms : List Nat} (B : BM n ms) : Gr n ms 0 0 := by
  refine ⟨sub_refl 0, ?_, by rw [rank_zero]; unfold MB.cnt placesIn; simp⟩
  obtain ⟨b, hb⟩ := List.exists_mem_of_ne_nil _ B.ne
  exact below_iff.mpr ⟨b, hb, sub_iff.mpr fun i hi => by simp at hi⟩
theorem gr_step {n : Nat} {ms : List Nat} (B : BM n ms) {m k g : Nat} (hmk : m.testBit k = false) (hk : k < n) (h : Gr n ms m g) :
    (belowAny ms (g ||| 2 ^ k) = true → rankOf n ms (m ||| 2 ^ k) = rankOf n ms m + 1 ∧ Gr n ms (m ||| 2 ^ k) (g ||| 2 ^ k)) ∧ (belowAny ms (g ||| 2 ^ k) = false → rankOf n ms (m ||| 2 ^ k) = rankOf n ms m ∧ Gr n ms (m ||| 2 ^ k) g) := by
  have hgk : g.testBit k = false := by
    cases e : g.testBit k with
    | false => rfl
    | true => rw [sub_iff.mp h.s k e] at hmk; cases hmk
  have hs : sub (g ||| 2 ^ k) (m ||| 2 ^ k) := sub_iff.mpr fun i hi => by
    rw [or_bit, Bool.or_eq_true] at hi ⊢
    exact hi.imp (sub_iff.mp h.s i) id
  have hs' : sub m (m ||| 2 ^ k) := sub_iff.mpr fun i hi => by rw [or_bit, hi]; rfl
  have up : rankOf n ms (m ||| 2 ^ k) ≤ rankOf n ms m + 1 := rank_le fun b hb => by
    have h1 := rank_ge (n := n) (m := m) hb
    have h2 : MB.cnt n ((m ||| 2 ^ k) &&& b) ≤ MB.cnt n ((m &&& b) ||| 2 ^ k) := cnt_mono (sub_iff.mpr fun i hi => by
      rw [Nat.testBit_and, or_bit, Bool.and_eq_true, Bool.or_eq_true] at hi
      rw [or_bit, Nat.testBit_and, Bool.or_eq_true, Bool.and_eq_true]
      exact hi.1.imp (fun z => ⟨z, hi.2⟩) id)
    have h3 : (m &&& b).testBit k = false := by rw [Nat.testBit_and, hmk]; rfl
    rw [cnt_or hk h3] at h2
    omega
  have dn : rankOf n ms m ≤ rankOf n ms (m ||| 2 ^ k) := rank_mono hs'
  refine ⟨fun hb => ?_, fun hb => ?_⟩
  · have e1 : MB.cnt n (g ||| 2 ^ k) = rankOf n ms m + 1 := by rw [cnt_or hk hgk, h.c]
    have e2 : rankOf n ms (g ||| 2 ^ k) = MB.cnt n (g ||| 2 ^ k) := rank_below hb
    have e3 : rankOf n ms (g ||| 2 ^ k) ≤ rankOf n ms (m ||| 2 ^ k) := rank_mono hs
    exact ⟨by omega, hs, hb, by omega⟩
  · have e : rankOf n ms (m ||| 2 ^ k) = rankOf n ms m := by
      refine Nat.le_antisymm ?_ dn
      refine rank_le fun b hbm => ?_
      obtain ⟨c, hc, hgc⟩ := below_iff.mp h.b
      obtain ⟨e, he, hge, hle⟩ := aug B.ex B.sz B.lt (J := g) (L := m ||| 2 ^ k) (sub_trans h.s hs') hbm n c hc hgc (by omega)
      refine Nat.le_trans hle ?_
      have hek : e.testBit k = false := by
        cases z : e.testBit k with
        | false => rfl
        | true =>
          rw [below_iff.mpr ⟨e, he, sub_iff.mpr fun i hi => by
            rw [or_bit, Bool.or_eq_true] at hi
            rcases hi with hi | hi
            · exact sub_iff.mp hge i hi
            · rw [← of_decide_eq_true hi]; exact z⟩] at hb
          cases hb
      have : (m ||| 2 ^ k) &&& e = m &&& e := Nat.eq_of_testBit_eq fun i => by
        rw [Nat.testBit_and, Nat.testBit_and, or_bit]
        by_cases z : k = i
        · subst z; simp [hek]
        · simp [z]
      rw [this]
      exact rank_ge he
    exact ⟨e, sub_trans h.s hs', h.b, by rw [e]; exact h.c⟩
theorem or_add {m k : Nat} (hm : m < 2 ^ k) : 2 ^ k + m = m ||| 2 ^ k := by
  have h1 : (m ||| 2 ^ k) = 2 ^ k + m := by
    rw [Nat.or_comm]
    exact (Nat.two_pow_add_eq_or_of_lt hm 1 |> fun h => by simpa using h.symm)
  exact h1.symm
def R_ranks_by_bases (ds : List PyData) (d : PyData) : Prop := ∃ (ms : List Nat) (n : Nat), ds = [dNats ms, dNat n] ∧ n ≤ 10 ∧ BM n ms ∧ d = dNats ((List.range (2 ^ n)).map (rankOf n ms))
theorem ok_ranks_by_bases (T : Tx K mg) : FnOk P w K mg base CX0 2 T.f_ranks_by_bases T.fd_ranks_by_bases ["masks", "many"] (spD K R_ranks_by_bases) := by
  refine okD T.F_ranks_by_bases sc_ranks_by_bases (fun ds d ⟨m, n, e, _⟩ => by rw [e]; rfl) fun cdv A outer s H E O vs ds d hr o hv r => ?_
  obtain ⟨ms, n, rfl, hn, B, rfl⟩ := r
  obtain ⟨v1, v2, rfl, h1, h2⟩ := dp2 hv
  have hp := pow10 hn
  refine ⟨_, (pss_cons (ps_set (i := 2) sc_ranks_by_bases.nd rfl (by first | exact .inl rfl | exact .inr rfl) (pe_call (ok_flags_below T) (hr.mono (by decide)) (by rfl) T.m_flags_below T.F_flags_below.kp T.b_flags_below .nil pass0 (pa_cons (pv 0) (pa_cons (pv 1) pa_nil))))
      (pss_cons (ps_set (i := 3) sc_ranks_by_bases.nd rfl (by first | exact .inl rfl | exact .inr rfl) (pe_lst (pa_cons pe_int pa_nil)))
      (pss_cons (ps_set (i := 4) sc_ranks_by_bases.nd rfl (by first | exact .inl rfl | exact .inr rfl) (pe_lst (pa_cons pe_int pa_nil)))
      (pss_cons (ps_for PassesOwn.never rfl (pi_range1 (by rfl) T.n_range (pa_cons (pv 1) pa_nil)) (pg_name (i := 5) sc_ranks_by_bases.nd rfl (by first | exact .inl rfl | exact .inr rfl))
      (pss_one (ps_for PassesOwn.never rfl (pi_range1 (by rfl) T.n_range (pa_cons (pe_op op_shl pe_int (pv 5)) pa_nil)) (pg_name (i := 6) sc_ranks_by_bases.nd rfl (by first | exact .inl rfl | exact .inr rfl))
      (pss_cons (ps_set (i := 7) sc_ranks_by_bases.nd rfl (by first | exact .inl rfl | exact .inr rfl) (pe_op op_or (pe_ix (ki_list K) (pv 4) (pv 6) (fun _ _ => rfl)) (pe_op op_shl pe_int (pv 5))))
      (pss_cons (ps_set (i := 8) sc_ranks_by_bases.nd rfl (by first | exact .inl rfl | exact .inr rfl) (pe_ix (ki_list K) (pv 2) (pv 7) (fun _ _ => rfl)))
      (pss_cons (ps_expr (pe_bm PySem.F.plainAttrs_list PySem.F.slot_list_append PySem.F.type_list_append mt_append (pv 3) (pa_cons (pe_ifExp (pt_val (pv 8)) (pe_op op_add (pe_ix (ki_list K) (pv 3) (pv 6) (fun _ _ => rfl)) pe_int) (pe_ix (ki_list K) (pv 3) (pv 6) (fun _ _ => rfl))) pa_nil)))
      (pss_one (ps_expr (pe_bm PySem.F.plainAttrs_list PySem.F.slot_list_append PySem.F.type_list_append mt_append (pv 4) (pa_cons (pe_ifExp (pt_val (pv 8)) (pv 7) (pe_ix (ki_list K) (pv 4) (pv 6) (fun _ _ => rfl))) pa_nil))))))))))
      (pss_one (ps_ret (pv 3))))))), fun D q => ?_⟩
  refine asg_ed (G := hid O H) (ed_call ⟨ms, n, rfl, hn, B.lt, rfl⟩ (ea_cons (ed_var rfl h1) (ea_one (ed_var rfl h2)))) o (.refl _) fun fl H1 s1 hfl => ?_
  obtain rfl := h2.int_inv
  -- ranks = [0], greatest = [0]
  refine ⟨by show 1 ≤ sizeLine; decide, fun p np => ?_⟩
  refine ⟨by show 1 ≤ sizeLine; decide, fun p2 np2 => ?_⟩
  have sa := same_new (o := .lst [.int 0]) np
  have sb := same_new (o := .lst [.int 0]) np2
  have ne : p2 ≠ p := fun z => by rw [z, upd_same] at np2; cases np2
  have np2' : H1 p2 = none := Le.free sa np2
  have nOp : ¬ O p := o.new (Le.free s1 np)
  have nOp2 : ¬ O p2 := o.new (Le.free s1 np2')
  generalize hH2 : upd (upd H1 p (.lst [.int 0])) p2 (.lst [.int 0]) = H2 at sb
  have s2 : Le H1 H2 := sa.trans sb
  have hp2 : H2 p = some (.lst (tab 1 fun k => .int (rankOf n ms k : Int))) := by
    rw [← hH2, upd_ne ne.symm, upd_same]
    show _ = some (HO.lst [V.int (rankOf n ms 0 : Int)])
    rw [rank_zero]
    rfl
  have hq2 : H2 p2 = some (.lst ([0].map fun k : Nat => V.int (k : Int))) := by rw [← hH2, upd_same]; rfl
  generalize hOO : plus (plus O p) p2 = OO
  have o2 : Hid OO H2 := hOO ▸ ((o.mono (s1.trans s2)).plus hp2).plus hq2
  let In : Nat → Hp → Hp → Prop := fun L J H4 => Le H1 H4 ∧ Le (hid OO J) (hid OO H4) ∧ H4 p = some (.lst (tab L fun k => .int (rankOf n ms k : Int))) ∧ ∃ gs : List Nat, H4 p2 = some (.lst (gs.map fun k : Nat => V.int (k : Int))) ∧ gs.length = L ∧ ∀ (k : Nat) (h : k < gs.length), Gr n ms k gs[k]
  have start : ∀ H3, Le H2 H3 → In 1 H3 H3 := fun H3 s3 => ⟨s2.trans s3, .refl _, s3.lst hp2, [0], s3.lst hq2, rfl, fun k h => by
    have : k = 0 := by simpa using h
    subst this
    exact gr_zero B⟩
  have hidOO : ∀ {L : Nat} {J H4 : Hp}, In L J H4 → Hid OO H4 := fun {L J H4} h => by
    obtain ⟨s4, _, hp4, gs, hq4, _⟩ := h
    rw [← hOO]
    exact ((o.mono (s1.trans s4)).plus hp4).plus hq4
  refine for_iw (xs := List.range n) (G := hid OO H2) (O := OO) (iw_range1 (by omega) (ea_one (ed_var rfl (.int _)))) o2 (.refl _) fun H3 s3 => ?_
  refine ⟨fun i σ H4 => (∃ a b c d, σ = [some v1, some (.int (n : Int)), some fl, some (.ref p), some (.ref p2), a, b, c, d]) ∧ In (2 ^ i) H3 H4, ⟨⟨none, none, none, none, rfl⟩, start H3 s3⟩, fun i σ H4 _ h => h.2.2.1, fun i k σ H4 hx h4 => ?_, fun σ H4 h4 => ?_⟩
  · obtain ⟨⟨a, b, c, d, rfl⟩, I4⟩ := h4
    obtain ⟨hi, rfl⟩ := List.getElem?_eq_some_iff.mp hx
    rw [List.length_range] at hi
    refine ⟨OO, hidOO I4, I4.2.1, fun σ5 H5 s5 hB => ?_⟩
    obtain ⟨v, rfl, dv⟩ := hB
    rw [List.getElem_range] at dv
    obtain rfl := dv.int_inv
    have hpi : 2 ^ i ≤ 1024 := Nat.le_trans (Nat.pow_le_pow_right (by decide) (Nat.le_of_lt hi)) hp
    have I5 : In (2 ^ i) H3 H5 := by
      obtain ⟨s4, g4, hp4, gs, hq4, hl, hg⟩ := I4
      exact ⟨s4.trans s5, g4.trans (hid_same s5), s5.lst hp4, gs, s5.lst hq4, hl, hg⟩
    refine for_iw (xs := List.range (2 ^ i)) (G := hid OO H5) (O := OO) (iw_range1 (by omega) (ea_one (ed_bit (k := i) (by omega) (ed_var rfl (.int _))))) (hidOO I5) (.refl _) fun H6 s6 => ?_
    have I6 : In (2 ^ i) H3 H6 := by
      obtain ⟨s4, g4, hp4, gs, hq4, hl, hg⟩ := I5
      exact ⟨s4.trans s6, g4.trans (hid_same s6), s6.lst hp4, gs, s6.lst hq4, hl, hg⟩
    refine ⟨fun j σ H7 => (∃ b c d, σ = [some v1, some (.int (n : Int)), some fl, some (.ref p), some (.ref p2), some (.int (i : Int)), b, c, d]) ∧ In (2 ^ i + j) H3 H7 ∧ Le (hid OO H6) (hid OO H7), ⟨⟨b, c, d, rfl⟩, I6, .refl _⟩, fun j σ H7 _ h => h.2.2, fun j x σ H7 hx h7 => ?_, fun σ H7 h7 => ?_⟩
    · obtain ⟨⟨b, c, d, rfl⟩, I7, t7⟩ := h7
      obtain ⟨hj, rfl⟩ := List.getElem?_eq_some_iff.mp hx
      rw [List.length_range] at hj
      refine ⟨OO, hidOO I7, t7, fun σ8 H8 s8 hB => ?_⟩
      obtain ⟨v, rfl, dv⟩ := hB
      rw [List.getElem_range] at dv
      obtain rfl := dv.int_inv
      obtain ⟨s7, g7, hp7, gs, hq7, hl, hg⟩ := I7
      have s17 : Le H1 H8 := s7.trans s8
      have hjl : j < gs.length := by omega
      have G0 := hg j hjl
      have hgj : gs[j] < 2 ^ i := Nat.lt_of_le_of_lt (sub_le G0.s) hj
      have hw : gs[j] ||| 2 ^ i < 2 ^ n := Nat.or_lt_two_pow (Nat.lt_trans hgj (Nat.pow_lt_pow_right (by decide) hi)) (Nat.pow_lt_pow_right (by decide) hi)
      obtain ⟨st1, st2⟩ := gr_step B (bit_hi hj (Nat.le_refl _)) hi G0
      rw [← or_add hj] at st1 st2
      have o8 : Hid O H8 := o.mono (s1.trans s17)
      have gd : ∀ {H9 : Hp}, Le H8 H9 → Dq (hid O H9) (.ref p2) (dNats gs) := fun s9 => .lst (.inl (.inl (by rw [hid_out nOp2]; exact s9.lst (s8.lst hq7)))) (nats_dp _)
      have rd : ∀ {H9 : Hp}, Le H8 H9 → Dq (hid O H9) (.ref p) (dNats ((List.range (2 ^ i + j)).map (rankOf n ms))) := fun s9 => .lst (.inl (.inl (by rw [hid_out nOp]; exact s9.lst (s8.lst hp7)))) (tab_nats _ _)
      have gat : (gs.map dNat)[j]? = some (dNat gs[j]) := by rw [List.getElem?_map, List.getElem?_eq_getElem hjl]; rfl
      have rat : (((List.range (2 ^ i + j)).map (rankOf n ms)).map dNat)[j]? = some (dNat (rankOf n ms j)) := by
        rw [List.getElem?_map, List.getElem?_map, List.getElem?_range (by omega)]; rfl
      refine asg_ed (G := hid O H8) (ed_orN (ed_ixL gat (ed_var rfl (gd (.refl _))) (ed_var rfl (.int _))) (ed_bit (k := i) (by omega) (ed_var rfl (.int _)))) o8 (.refl _) fun wv H9 s9 hwv => ?_
      obtain rfl := hwv.int_inv
      have hb : ((List.range (2 ^ n)).map fun k => PyData.bool (belowAny ms k))[gs[j] ||| 2 ^ i]? = some (.bool (belowAny ms (gs[j] ||| 2 ^ i))) := by
        rw [List.getElem?_map, List.getElem?_range hw]
        rfl
      refine asg_ed (G := hid O H9) (ed_ixL hb (ed_var rfl (hfl.mono (hid_same (s17.trans s9)))) (ed_var rfl (.int _))) (o8.mono s9) (.refl _) fun rv H10 s10 hrv => ?_
      obtain rfl := hrv.bl_inv
      have s810 := s9.trans s10
      refine app_run (G := hid O H10) (O := O) (i1 := 3) (d := dNat (rankOf n ms (2 ^ i + j))) rfl (ed_if (c := belowAny ms (gs[j] ||| 2 ^ i)) (eb_B (ed_var rfl (.bl _))) (fun e => Ed.of (by rw [(st1 e).1]; rfl) (ed_I0 (ed_ixL rat (ed_var rfl (rd s810)) (ed_var rfl (.int _))) ed_int)) fun e => Ed.of (by rw [(st2 e).1]) (ed_ixL rat (ed_var rfl (rd s810)) (ed_var rfl (.int _)))) (o8.mono s810) (.refl _) (s810.lst (s8.lst hp7)) (by rw [tab_len]; omega) fun y H11 s11 hy => ?_
      obtain rfl := hy.int_inv
      have s811 := s810.trans s11
      have hq12 : (upd H11 p (.lst (tab (2 ^ i + j) (fun k => .int (rankOf n ms k : Int)) ++ [.int (rankOf n ms (2 ^ i + j) : Int)]))) p2 = some (.lst (gs.map fun k : Nat => V.int (k : Int))) := by
        rw [upd_ne ne]; exact s811.lst (s8.lst hq7)
      have hp11 := s811.lst (s8.lst hp7)
      have o12 : Hid O (upd H11 p (.lst (tab (2 ^ i + j) (fun k => .int (rankOf n ms k : Int)) ++ [.int (rankOf n ms (2 ^ i + j) : Int)]))) := ((o8.mono s811)).upd
      have gd12 : Dq (hid O (upd H11 p (.lst (tab (2 ^ i + j) (fun k => .int (rankOf n ms k : Int)) ++ [.int (rankOf n ms (2 ^ i + j) : Int)])))) (.ref p2) (dNats gs) := .lst (.inl (.inl (by rw [hid_out nOp2]; exact hq12))) (nats_dp _)
      obtain ⟨g', hg', eg'⟩ : ∃ g', Gr n ms (2 ^ i + j) g' ∧ g' = if belowAny ms (gs[j] ||| 2 ^ i) = true then gs[j] ||| 2 ^ i else gs[j] := by
        cases e : belowAny ms (gs[j] ||| 2 ^ i) with
        | true => exact ⟨_, (st1 e).2, by simp⟩
        | false => exact ⟨_, (st2 e).2, by simp⟩
      refine app_run (G := hid O _) (O := O) (i1 := 4) (d := dNat g') rfl (ed_if (c := belowAny ms (gs[j] ||| 2 ^ i)) (eb_B (ed_var rfl (.bl _))) (fun e => Ed.of (by rw [eg', if_pos e]) (ed_var rfl (.int _))) fun e => Ed.of (by rw [eg', if_neg (by rw [e]; decide)]) (ed_ixL gat (ed_var rfl gd12) (ed_var rfl (.int _)))) o12 (.refl _) hq12 (by rw [List.length_map]; omega) fun y2 H13 s13 hy2 => ?_
      obtain rfl := hy2.int_inv
      have hp13 := s13.lst (upd_same (H := H11) (a := p) (o := .lst (tab (2 ^ i + j) (fun k => .int (rankOf n ms k : Int)) ++ [.int (rankOf n ms (2 ^ i + j) : Int)])))
      have hq13 := s13.lst hq12
      -- what is kept
      have sU : Le H1 (upd H11 p (.lst (tab (2 ^ i + j) (fun k => .int (rankOf n ms k : Int)) ++ [.int (rankOf n ms (2 ^ i + j) : Int)]))) := (s17.trans s811).updN np (nt_lst hp11)
      have hidU : ∀ J : Hp, Le (hid OO J) (hid OO H11) → Le (hid OO J) (hid OO (upd H11 p (.lst (tab (2 ^ i + j) (fun k => .int (rankOf n ms k : Int)) ++ [.int (rankOf n ms (2 ^ i + j) : Int)])))) := fun J h => by
        have e : OO = plus (plus O p2) p := by
          rw [← hOO]; funext b
          exact propext ⟨fun z => by rcases z with (z | z) | z; exact .inl (.inl z); exact .inr z; exact .inl (.inr z), fun z => by rcases z with (z | z) | z; exact .inl (.inl z); exact .inr z; exact .inl (.inr z)⟩
        rw [e] at h ⊢
        rw [hid_upd _ (nt_lst hp11) rfl]
        exact h
      have hidV : ∀ J : Hp, Le (hid OO J) (hid OO H13) → Le (hid OO J) (hid OO (upd H13 p2 (.lst ((gs.map fun k : Nat => V.int (k : Int)) ++ [.int (g' : Int)])))) := fun J h => by
        rw [← hOO] at h ⊢
        rw [hid_upd _ (nt_lst hq13) rfl]
        exact h
      refine ⟨⟨_, _, _, rfl⟩, ⟨(sU.trans s13).updN np2' (nt_lst hq13), hidV _ ((hidU _ (g7.trans (hid_same (s8.trans s811)))).trans (hid_same s13)), ?_, gs ++ [g'], ?_, ?_, fun k hk => ?_⟩, hidV _ ((hidU _ (t7.trans (hid_same (s8.trans s811)))).trans (hid_same s13))⟩
      · rw [upd_ne ne.symm, hp13]
        exact congrArg some (congrArg HO.lst (tab_snoc (2 ^ i + j) fun k => .int (rankOf n ms k : Int)))
      · rw [upd_same, List.map_append]
        rfl
      · rw [List.length_append, List.length_singleton]; omega
      · rw [List.length_append, List.length_singleton] at hk
        by_cases z : k < gs.length
        · rw [List.getElem_append_left z]; exact hg k z
        · have : k = 2 ^ i + j := by omega
          subst this
          rw [List.getElem_append_right (by omega)]
          simpa using hg'
    · obtain ⟨⟨b, c, d, rfl⟩, I7, t7⟩ := h7
      rw [List.length_range, show 2 ^ i + 2 ^ i = 2 ^ (i + 1) by rw [Nat.pow_succ]; omega] at I7
      exact ⟨⟨_, _, _, _, rfl⟩, I7⟩
  · obtain ⟨⟨a, b, c, d, rfl⟩, s4, g4, hp4, _⟩ := h4
    rw [List.length_range] at hp4
    exact ⟨.ref p, rfl, q _ H4 (s1.trans s4) (.lst (.inl (.inl (by rw [hid_out nOp]; exact hp4))) (tab_nats _ _))⟩
end
end K9

set_option Elab.async false
set_option linter.all false
set_option maxRecDepth 100000
namespace MB
theorem or_sub (m k : Nat) : sub m (m ||| k) := sub_iff.mpr fun i hi => by rw [Nat.testBit_or, hi]; rfl
end MB
namespace K9
open PySem PySem.Spec PyProof.Rows L2 PySem.W MB
section
variable {P : Program} {w : World} {K : PySem.W.Frag} {mg : Str → Option Value} {base : Heap}
def R_flags_above (ds : List PyData) (d : PyData) : Prop := ∃ (ms : List Nat) (n : Nat), ds = [dNats ms, dNat n] ∧ n ≤ 10 ∧ (∀ m, m ∈ ms → m < 2 ^ n) ∧ d = dBools (2 ^ n) (aboveAny ms)
theorem ok_flags_above (T : Tx K mg) : FnOk P w K mg base CX0 1 T.f_flags_above T.fd_flags_above ["masks", "many"] (spD K R_flags_above) := by
  refine okD T.F_flags_above sc_flags_above (fun ds d ⟨m, n, e, _⟩ => by rw [e]; rfl) fun cdv A outer s H E O vs ds d hr o hv r => ?_
  obtain ⟨ms, n, rfl, hn, hms, rfl⟩ := r
  obtain ⟨v1, v2, rfl, h1, h2⟩ := dp2 hv
  have hp := pow10 hn
  refine ⟨_, (pss_cons (ps_set (i := 2) sc_flags_above.nd rfl (by first | exact .inl rfl | exact .inr rfl) (pe_op op_rep (pe_lst (pa_cons pe_bl pa_nil)) (pe_op op_shl pe_int (pv 1))))
      (pss_cons (ps_for PassesOwn.never rfl (kp_list K (pv 0)) (pg_name (i := 3) sc_flags_above.nd rfl (by first | exact .inl rfl | exact .inr rfl))
      (pss_one (ps_asg pe_bl (pg_sub (pv 2) (pv 3) set_list))))
      (pss_cons (ps_for PassesOwn.never rfl (pi_range1 (by rfl) T.n_range (pa_cons (pe_op op_shl pe_int (pv 1)) pa_nil)) (pg_name (i := 3) sc_flags_above.nd rfl (by first | exact .inl rfl | exact .inr rfl))
      (pss_one (ps_if (pt_val (pe_ix (ki_list K) (pv 2) (pv 3) (fun _ _ => rfl))) (pss_one (ps_for PassesOwn.never rfl (pi_range1 (by rfl) T.n_range (pa_cons (pv 1) pa_nil)) (pg_name (i := 4) sc_flags_above.nd rfl (by first | exact .inl rfl | exact .inr rfl))
      (pss_one (ps_asg pe_bl (pg_sub (pv 2) (pe_op op_or (pv 3) (pe_op op_shl pe_int (pv 4))) set_list))))) pss_nil)))
      (pss_one (ps_ret (pv 2)))))), fun D q => ?_⟩
  -- flags = [False] * (1 << many)
  refine rep_tab (G := hid O H) (n := 2 ^ n) (ed_bit (by omega) (ed_var rfl h2)) (by omega) o (.refl _) fun p H1 np s1 hp1 => ?_
  have o1 : Hid (plus O p) H1 := (o.mono s1).plus hp1
  have nOp : ¬ O p := o.new np
  have g1 : Le (hid O H) (hid (plus O p) H1) := hid_add (hid_same s1) (by rw [hid_out nOp]; exact np)
  have h1' := h1.mono g1
  have h2' := h2.mono g1
  -- for mask in masks
  refine for_iw (xs := ms) (G := hid (plus O p) H1) (O := plus O p) (iw_list (ed_var rfl h1')) o1 (.refl _) fun H2 s2 => ?_
  refine ⟨fun i σ H3 => ∃ y f, σ = [some v1, some v2, some (.ref p), y, none] ∧ Le H H3 ∧ Le (hid (plus O p) H2) (hid (plus O p) H3) ∧ H3 p = some (.lst (bt n f)) ∧ (∀ k, f k = true → aboveAny ms k = true) ∧ ∀ m, m ∈ ms.take i → f m = true,
    ⟨none, fun _ => false, rfl, s1.trans s2, .refl _, s2.lst hp1, fun k h => (nomatch h), fun m h => (nomatch h)⟩, fun i σ H3 _ h3 => by obtain ⟨_, _, _, _, h, _⟩ := h3; exact h, fun i m σ H3 hx h3 => ?_, fun σ H3 h3 => ?_⟩
  · obtain ⟨y, f, rfl, s3, g3, hp3, hs, h0⟩ := h3
    have o3 : Hid (plus O p) H3 := (o.mono s3).plus hp3
    refine ⟨plus O p, o3, g3, fun σ4 H4 s4 hB => ?_⟩
    obtain ⟨v, rfl, dv⟩ := hB
    have hmem : m ∈ ms := List.mem_of_getElem? hx
    refine set_tab (G := hid (plus O p) H4) (i1 := 2) rfl (ed_var rfl dv) (o3.mono s4) (.refl _) (s4.lst hp3) (hms m hmem) fun H5 s5 => ?_
    refine ⟨some v, fun k => decide (k = m) || f k, rfl, ?_, ?_, by rw [upd_same, tab_or], fun k hk => ?_, fun k hk => ?_⟩
    · exact (s3.trans (s4.trans s5)).updN np (nt_lst (s5.lst (s4.lst hp3)))
    · rw [hid_upd _ (nt_lst (s5.lst (s4.lst hp3))) rfl]
      exact g3.trans (hid_same (s4.trans s5))
    · rcases Bool.or_eq_true _ _ |>.mp hk with e | e
      · rw [of_decide_eq_true e]
        exact above_iff.mpr ⟨m, hmem, sub_refl m⟩
      · exact hs k e
    · rw [List.take_add_one, hx] at hk
      rcases List.mem_append.mp hk with e | e
      · simp [h0 k e]
      · have : k = m := by simpa using e
        simp [this]
  · obtain ⟨y, f, rfl, s3, g3, hp3, hs, h0⟩ := h3
    rw [List.take_length] at h0
    have o3 : Hid (plus O p) H3 := (o.mono s3).plus hp3
    have h2'' := h2'.mono ((hid_same s2).trans g3)
    -- for mask in range(1 << many)
    refine for_iw (xs := List.range (2 ^ n)) (G := hid (plus O p) H3) (O := plus O p) (iw_range1 (n := 2 ^ n) (by omega) (ea_one (ed_bit (by omega) (ed_var rfl h2'')))) o3 (.refl _) fun H4 s4 => ?_
    refine ⟨fun i σ H5 => ∃ y z f, σ = [some v1, some v2, some (.ref p), y, z] ∧ Le H H5 ∧ Le (hid (plus O p) H4) (hid (plus O p) H5) ∧ H5 p = some (.lst (bt n f)) ∧ (∀ k, f k = true → aboveAny ms k = true) ∧ (∀ m, m ∈ ms → f m = true) ∧
        (∀ x, x < 2 ^ n → x < i → f x = true → ∀ k, k < n → f (x ||| 2 ^ k) = true),
      ⟨y, none, f, rfl, s3.trans s4, .refl _, s4.lst hp3, hs, h0, fun x a b => by omega⟩, fun i σ H3 _ h3 => by obtain ⟨_, _, _, _, _, h, _⟩ := h3; exact h, fun i t σ H5 hx h5 => ?_, fun σ H5 h5 => ?_⟩
    · obtain ⟨y, z, f, rfl, s5, g5, hp5, hs, h0, hc⟩ := h5
      have o5 : Hid (plus O p) H5 := (o.mono s5).plus hp5
      refine ⟨plus O p, o5, g5, fun σ6 H6 s6 hB => ?_⟩
      obtain ⟨v, rfl, dv⟩ := hB
      obtain ⟨hi, rfl⟩ := List.getElem?_eq_some_iff.mp hx
      rw [List.length_range] at hi
      rw [List.getElem_range] at dv
      replace dv : Dq (hid (plus O p) H6) v (dNat i) := dv
      generalize hm : i = m at dv
      have hmlt : m < 2 ^ n := by omega
      have o6 := o5.mono s6
      -- if flags[mask]
      refine ⟨.ref p, rfl, v, rfl, p, bt n f, (m : Int), .bl (f m), rfl, dv.int_inv, .inl (.inl (s6.lst hp5)), atI_nat (tab_at _ hmlt), f m, rfl, ?_⟩
      have h2h : Dq (hid (plus O p) H6) v2 (dNat n) := h2''.mono ((hid_same s4).trans (g5.trans (hid_same s6)))
      refine ite2 (fun hf => ?_) fun hf => ?_
      · -- for at in range(many)
        refine for_iw (xs := List.range n) (G := hid (plus O p) H6) (O := plus O p) (iw_range1 (by omega) (ea_one (ed_var rfl h2h))) o6 (.refl _) fun H7 s7 => ?_
        refine ⟨fun j σ H8 => ∃ z g, σ = [some v1, some v2, some (.ref p), some v, z] ∧ Le H H8 ∧ Le (hid (plus O p) H7) (hid (plus O p) H8) ∧ H8 p = some (.lst (bt n g)) ∧ ∀ x, g x = true ↔ (f x = true ∨ ∃ k, k < j ∧ x = m ||| 2 ^ k),
          ⟨z, f, rfl, s5.trans (s6.trans s7), .refl _, s7.lst (s6.lst hp5), fun x => ⟨.inl, fun h => h.elim id fun ⟨k, a, _⟩ => absurd a (Nat.not_lt_zero k)⟩⟩, fun i σ H3 _ h3 => by obtain ⟨_, _, _, _, h, _⟩ := h3; exact h, fun j k σ H8 hx8 h8 => ?_, fun σ H8 h8 => ?_⟩
        · obtain ⟨z, g, rfl, s8, g8, hp8, hg⟩ := h8
          have o8 : Hid (plus O p) H8 := (o.mono s8).plus hp8
          refine ⟨plus O p, o8, g8, fun σ9 H9 s9 hB => ?_⟩
          obtain ⟨u, rfl, du⟩ := hB
          obtain ⟨hj, rfl⟩ := List.getElem?_eq_some_iff.mp hx8
          rw [List.length_range] at hj
          rw [List.getElem_range] at du
          have dv9 : Dq (hid (plus O p) H9) v (dNat m) := dv.mono ((hid_same s7).trans (g8.trans (hid_same s9)))
          refine set_tab (G := hid (plus O p) H9) (i1 := 2) (j := m ||| 2 ^ j) rfl (ed_orN (ed_var rfl dv9) (ed_bit (by omega) (ed_var rfl du))) (o8.mono s9) (.refl _) (s9.lst hp8) (Nat.or_lt_two_pow hmlt (Nat.pow_lt_pow_right (by decide) hj)) fun Ha sa => ?_
          refine ⟨some u, fun k => decide (k = m ||| 2 ^ j) || g k, rfl, ?_, ?_, by rw [upd_same, tab_or], fun x => ?_⟩
          · exact (s8.trans (s9.trans sa)).updN np (nt_lst (sa.lst (s9.lst hp8)))
          · rw [hid_upd _ (nt_lst (sa.lst (s9.lst hp8))) rfl]
            exact g8.trans (hid_same (s9.trans sa))
          · rw [Bool.or_eq_true, decide_eq_true_eq, hg]
            constructor
            · rintro (e | e | ⟨k, a, b⟩)
              · exact .inr ⟨j, Nat.lt_succ_self j, e⟩
              · exact .inl e
              · exact .inr ⟨k, Nat.lt_succ_of_lt a, b⟩
            · rintro (e | ⟨k, a, b⟩)
              · exact .inr (.inl e)
              · rcases Nat.lt_succ_iff_lt_or_eq.mp a with a | a
                · exact .inr (.inr ⟨k, a, b⟩)
                · exact .inl (by rw [b, a])
        · obtain ⟨z, g, rfl, s8, g8, hp8, hg⟩ := h8
          rw [List.length_range] at hg
          refine ⟨some v, z, g, rfl, s8, g5.trans ((hid_same (s6.trans s7)).trans g8), hp8, fun x hx => ?_, fun m' hm' => (hg m').mpr (.inl (h0 m' hm')), fun x hx1 hx2 hx3 k hk => ?_⟩
          · rcases (hg x).mp hx with e | ⟨k, a, b⟩
            · exact hs x e
            · obtain ⟨m', hm', e⟩ := above_iff.mp (hs m hf)
              exact above_iff.mpr ⟨m', hm', by rw [b]; exact sub_trans e (or_sub m _)⟩
          · by_cases e : x = m
            · rw [e]
              exact (hg _).mpr (.inr ⟨k, hk, rfl⟩)
            · have hxm : x < m := by omega
              have hfx : f x = true := by
                rcases (hg x).mp hx3 with e | ⟨k', a, b⟩
                · exact e
                · have := sub_le (or_sub m (2 ^ k'))
                  omega
              exact (hg _).mpr (.inl (hc x hx1 (by omega) hfx k hk))
      · refine ⟨some v, z, f, rfl, s5.trans s6, g5.trans (hid_same s6), s6.lst hp5, hs, h0, fun x hx1 hx2 hx3 k hk => ?_⟩
        by_cases e : x = m
        · rw [e] at hx3
          exact absurd hx3 hf
        · exact hc x hx1 (by omega) hx3 k hk
    · obtain ⟨y, z, f, rfl, s5, g5, hp5, hs, h0, hc⟩ := h5
      rw [List.length_range] at hc
      have hall := above_done (n := n) hs h0 fun x hx hfx k hk => hc x hx (by omega) hfx k hk
      -- return flags
      refine ⟨.ref p, rfl, q _ H5 s5 (.lst (.inl (.inl (by rw [hid_out nOp]; exact hp5))) ?_)⟩
      have e : bt n f = tab (2 ^ n) fun k => .bl (aboveAny ms k) := tab_congr fun k hk => by rw [hall k hk]
      rw [e]
      exact dp_bools _ _
end
end K9

set_option Elab.async false
set_option linter.all false
set_option maxRecDepth 100000
namespace MB
/-- a place with all that may take its stead -/
def barr (ms : List Nat) (n m k : Nat) : Nat := (((placesOut m n).filter fun j => decide (((m ^^^ 2 ^ k) ||| 2 ^ j) ∈ ms)).map fun j => 2 ^ j).sum ||| 2 ^ k
theorem out_nd (m n : Nat) : (placesOut m n).Nodup := List.filter_sublist.nodup List.nodup_range
theorem barr_bit {ms : List Nat} {n m k i : Nat} : (barr ms n m k).testBit i = true ↔ i = k ∨ (i < n ∧ m.testBit i = false ∧ ((m ^^^ 2 ^ k) ||| 2 ^ i) ∈ ms) := by
  unfold barr
  rw [Nat.testBit_or, sum_pow_bit _ (List.filter_sublist.nodup (out_nd m n)), bit_pow, Bool.or_eq_true, decide_eq_true_eq, decide_eq_true_eq, List.mem_filter]
  unfold placesOut
  rw [List.mem_filter, List.mem_range, decide_eq_true_eq]
  constructor
  · rintro (⟨⟨h1, h2⟩, h3⟩ | h)
    · exact .inr ⟨h1, by simpa using h2, h3⟩
    · exact .inl h.symm
  · rintro (h | ⟨h1, h2, h3⟩)
    · exact .inr h.symm
    · exact .inl ⟨⟨h1, by simp [h2]⟩, h3⟩
theorem barr_lt {ms : List Nat} {n m k : Nat} (hk : k < n) : barr ms n m k < 2 ^ n :=
  Nat.lt_pow_two_of_testBit _ fun i hi => by
    cases e : (barr ms n m k).testBit i with
    | false => rfl
    | true =>
      rcases barr_bit.mp e with h | ⟨h, _⟩ <;> omega
/-- no base is beside a barrier -/
theorem barr_free {ms : List Nat} {n m k : Nat} (hex : ExM ms) (hms : ∀ m, m ∈ ms → m < 2 ^ n) (hm : m ∈ ms) (hk : k ∈ placesIn m n) : aboveAny ms ((2 ^ n - 1) ^^^ barr ms n m k) = false := by
  cases e : aboveAny ms ((2 ^ n - 1) ^^^ barr ms n m k) with
  | false => rfl
  | true =>
    obtain ⟨b, hb, hs⟩ := above_iff.mp e
    have hno : ∀ i, b.testBit i = true → (barr ms n m k).testBit i = false := fun i hi => by
      have := sub_iff.mp hs i hi
      rw [Nat.testBit_xor, Nat.testBit_two_pow_sub_one, decide_eq_true (lt_bit (hms b hb) hi)] at this
      simpa using this
    have hbk : b.testBit k = false := by
      cases e2 : b.testBit k with
      | false => rfl
      | true =>
        have := hno k e2
        rw [barr_bit.mpr (.inl rfl)] at this
        cases this
    obtain ⟨j, h1, h2, h3⟩ := hex m hm b hb k (places_lt hk).2 hbk
    have := hno j h1
    rw [barr_bit.mpr (.inr ⟨lt_bit (hms b hb) h1, h2, h3⟩)] at this
    cases this
end MB
namespace K9
open PySem PySem.Spec PyProof.Rows L2 PySem.W MB
section
variable {P : Program} {w : World} {K : PySem.W.Frag} {mg : Str → Option Value} {base : Heap}
theorem zip_keys (g : List Int) : g.zipIdx.map (fun x => x.1) = g := List.zipIdx_map_fst ..
theorem one_mem {g : List Int} {x : Int} (h : x ∈ g) : x ∈ (g.zipIdx.map fun x => (x.1, dNat (2 ^ x.2))).map (·.1) := by
  rw [List.map_map]
  show x ∈ g.zipIdx.map fun x => x.1
  rw [zip_keys]
  exact h
def R_masks_of (ds : List PyData) (d : PyData) : Prop := ∃ (ss : List (List Int)) (g : List Int), ds = [dSets ss, dSet g] ∧ g.length ≤ 10 ∧ g.Nodup ∧ ss.length ≤ 5000 ∧ (∀ l, l ∈ ss → l.Sublist g) ∧ d = dNats (ss.map (mskOf · g))
theorem ok_masks_of (T : Tx K mg) : FnOk P w K mg base CX0 1 T.f_masks_of T.fd_masks_of ["sets", "ground"] (spD K R_masks_of) := by
  refine okD T.F_masks_of sc_masks_of (fun ds d ⟨m, n, e, _⟩ => by rw [e]; rfl) fun cdv A outer s H E O vs ds d hr o hv r => ?_
  obtain ⟨ss, g, rfl, hg, nd, hl, hss, rfl⟩ := r
  obtain ⟨v1, v2, rfl, h1, h2⟩ := dp2 hv
  have hu := hu_of hr
  refine ⟨_, (pss_cons (ps_set (i := 2) sc_masks_of.nd rfl (by first | exact .inl rfl | exact .inr rfl) (pe_dc (own := [("at", 3), ("one", 4)]) (g := (gTup K 2 (gCons (gName 3) (gCons (gName 4) gNil)))) rfl sc_masks_of.nd (kp_enumT K (by rfl) T.n_enumerate (pa_cons (pv 1) pa_nil)) (blkOk_by (N := ["sets", "ground", "bits", "at", "one", "members"]) (sc := defScope s_masks_of) (by decide +kernel)) (fun _ _ _ _ _ => (kg_tup K (pgs_cons (pg_name (i := 3) sc_masks_of.nd rfl (by first | exact .inl rfl | exact .inr rfl)) (pgs_cons (pg_name (i := 4) sc_masks_of.nd rfl (by first | exact .inl rfl | exact .inr rfl)) pgs_nil)))) (fun _ _ _ _ _ => pts_nil) (fun _ _ _ _ _ => (pv 4)) (fun _ _ _ _ _ => (pe_op op_shl pe_int (pv 3)))))
      (pss_one (ps_ret (pe_lc (own := [("members", 5)]) (g := (gName 5)) (tt := tYes) rfl sc_masks_of.nd (kp_tup K (pv 0)) (blkOk_by (N := ["sets", "ground", "bits", "at", "one", "members"]) (sc := defScope s_masks_of) (by decide +kernel)) (fun _ _ _ _ _ => (pg_name (i := 5) sc_masks_of.nd rfl (by first | exact .inl rfl | exact .inr rfl))) (fun _ _ _ _ _ => pts_nil) (fun _ _ _ _ _ => (pe_callB (kc_sum K) (by rfl) T.n_sum boot_sum (pa_cons (pe_lc (own := [("one", 4)]) (g := (gName 4)) (tt := tYes) rfl sc_masks_of.nd (kp_tup K (pv 5)) (blkOk_by (by kernel_rfl)) (fun _ _ _ _ _ => (pg_name (i := 4) sc_masks_of.nd rfl (by first | exact .inl rfl | exact .inr rfl))) (fun _ _ _ _ _ => pts_nil) (fun _ _ _ _ _ => (pe_dget hu (pv 2) (pv 4) (fun _ _ => rfl)))) pa_nil))))))), fun D q => ?_⟩
  refine asg_edk (G := hid O H) (kvs := g.zipIdx.map fun x => (x.1, dNat (2 ^ x.2))) (edk_dc (fun x : Int × Nat => x.1) (fun x => dNat (2 ^ x.2)) (by rw [List.length_zipIdx]; omega) (by rw [zip_keys]; exact nd) (iw_enumT (ea_one (ed_var rfl h2))) (fun x σ4 H4 ⟨v, w, e, _⟩ => by subst e; rfl) (by
      rintro x hx σ2 H2 s2 ⟨v, w, rfl, d1, d2⟩
      have hx2 := (List.mem_zipIdx hx).2.1
      exact ⟨ed_var rfl d2, ed_bit (by omega) (ed_var rfl d1)⟩)) o (.refl _) fun b H1 s1 hb => ?_
  dsimp only
  refine ret_ed (G := hid O H1) ?_ (o.mono s1) (.refl _) fun v H' s' => q v H' (s1.trans s')
  refine Ed.of ?_ (ed_lc (fun _ => true) (fun l : List Int => dNat (mskOf l g)) (by omega) (iw_tup (ed_var rfl (h1.mono (hid_same s1)))) (fun x σ4 H4 ⟨v, e, _⟩ => by subst e; rfl) ?_)
  · rw [filt_true, dNats, List.map_map]
    rfl
  · rintro l hl σ2 H2 s2 ⟨u, rfl, du⟩
    refine ⟨eb_yes, fun _ => ?_⟩
    have hsub := hss l hl
    rw [dNat, ← msk_sum hsub nd, ← sum_cast, List.map_map]
    refine ed_sum (Ed.of ?_ (ed_lc (fun _ => true) (fun x : Int => dNat (2 ^ g.idxOf x)) ?_ (iw_tup (ed_var rfl du)) (fun x σ4 H4 ⟨v, e, _⟩ => by subst e; rfl) ?_))
    · rw [filt_true, List.map_map]
      rfl
    · have := hsub.length_le
      omega
    · rintro x hx σ3 H3 s3 ⟨y, rfl, dy⟩
      have hxg := hsub.subset hx
      refine ⟨eb_yes, fun _ => ed_dget (one_mem hxg) (fun d' hd' => ?_) (edk_var rfl (hb.mono (s2.trans s3))) (ed_var rfl dy)⟩
      obtain ⟨⟨x', j⟩, h1, h2⟩ := List.mem_map.mp hd'
      cases h2
      have e := List.mem_zipIdx_iff_getElem?.mp h1
      have hi := List.idxOf_lt_length_of_mem hxg
      have e2 : g[g.idxOf x']? = some x' := by rw [List.getElem?_eq_getElem hi, List.getElem_idxOf]
      rw [nd_at nd e e2]
end
end K9

set_option Elab.async false
set_option linter.all false
set_option maxRecDepth 100000
namespace K9
open PySem PySem.Spec PyProof.Rows L2 PySem.W MB
section
variable {P : Program} {w : World} {K : PySem.W.Frag} {mg : Str → Option Value} {base : Heap}
theorem or_lt {m n k : Nat} (hm : m < 2 ^ n) (hk : k < n) : m ||| 2 ^ k < 2 ^ n := Nat.or_lt_two_pow hm (Nat.pow_lt_pow_right (by decide) hk)
def R_closure_mask (ds : List PyData) (d : PyData) : Prop := ∃ (m n : Nat) (rk : List Nat), ds = [dNat m, dNatT rk, dNat n] ∧ n ≤ 10 ∧ m < 2 ^ n ∧ rk.length = 2 ^ n ∧ d = dNat (closM rk n m)
theorem ok_closure_mask (T : Tx K mg) : FnOk P w K mg base CX0 2 T.f_closure_mask T.fd_closure_mask ["mask", "ranks", "many"] (spD K R_closure_mask) := by
  refine okD T.F_closure_mask sc_closure_mask (fun ds d ⟨m, n, _, e, _⟩ => by rw [e]; rfl) fun cdv A outer s H E O vs ds d hr o hv r => ?_
  obtain ⟨m, n, rk, rfl, hn, hm, hrk, rfl⟩ := r
  obtain ⟨v1, v2, v3, rfl, h1, h2, h3⟩ := dp3 hv
  refine ⟨_, (pss_one (ps_ret (pe_callB (kc_sum K) (by rfl) T.n_sum boot_sum (pa_cons (pe_lc (own := [("at", 3)]) (g := (gName 3)) rfl sc_closure_mask.nd (pi_range1 (by rfl) T.n_range (pa_cons (pv 2) pa_nil)) (blkOk_by (N := ["mask", "ranks", "many", "at"]) (sc := defScope s_closure_mask) (by decide +kernel)) (fun _ _ _ _ _ => (pg_name (i := 3) sc_closure_mask.nd rfl (by first | exact .inl rfl | exact .inr rfl))) (fun _ _ _ _ _ => (pts_one (pt_cmpR op_eq (pe_ix (ki_tup K) (pv 1) (pe_op op_or (pv 0) (pe_op op_shl pe_int (pv 3))) (fun _ _ => rfl)) (pe_ix (ki_tup K) (pv 1) (pv 0) (fun _ _ => rfl)) (nomark _)))) (fun _ _ _ _ _ => (pe_op op_shl pe_int (pv 3)))) pa_nil)))), fun D q => ?_⟩
  refine ret_ed (G := hid O H) ?_ o (.refl _) q
  unfold closM
  rw [dNat, ← sum_cast]
  refine ed_sum (Ed.of ?_ (ed_lc (fun k : Nat => decide (rk.getD (m ||| 2 ^ k) 0 = rk.getD m 0)) (fun k => dNat (2 ^ k)) (by rw [List.length_range]; omega) (iw_range1 (by omega) (ea_one (ed_var rfl h3))) (fun x σ4 H4 ⟨v, e, _⟩ => by subst e; rfl) ?_))
  · rw [List.map_map, List.map_map]
    rfl
  · rintro k hk σ2 H2 s2 ⟨v, rfl, d1⟩
    have hk := List.mem_range.mp hk
    refine ⟨Eb.of ?_ (eb_test (ed_eqI (i := ((rk.getD (m ||| 2 ^ k) 0 : Nat) : Int)) (j := ((rk.getD m 0 : Nat) : Int)) (ed_ixT (getD_at (by rw [hrk]; exact or_lt hm hk)) (ed_var rfl (h2.mono s2)) (ed_orN (ed_var rfl (h1.mono s2)) (ed_bit (by omega) (ed_var rfl d1)))) (ed_ixT (getD_at (by omega)) (ed_var rfl (h2.mono s2)) (ed_var rfl (h1.mono s2))))), fun _ => ed_bit (by omega) (ed_var rfl d1)⟩
    exact decide_eq_decide.mpr Int.ofNat_inj
def R_flat_masks (ds : List PyData) (d : PyData) : Prop := ∃ (n : Nat) (rk : List Nat), ds = [dNatT rk, dNat n] ∧ n ≤ 10 ∧ rk.length = 2 ^ n ∧ d = dNats ((List.range (2 ^ n)).filter (isFlat rk n))
theorem ok_flat_masks (T : Tx K mg) : FnOk P w K mg base CX0 3 T.f_flat_masks T.fd_flat_masks ["ranks", "many"] (spD K R_flat_masks) := by
  refine okD T.F_flat_masks sc_flat_masks (fun ds d ⟨m, n, e, _⟩ => by rw [e]; rfl) fun cdv A outer s H E O vs ds d hr o hv r => ?_
  obtain ⟨n, rk, rfl, hn, hrk, rfl⟩ := r
  obtain ⟨v1, v2, rfl, h1, h2⟩ := dp2 hv
  have hp := pow10 hn
  refine ⟨_, (pss_one (ps_ret (pe_lc (own := [("mask", 2)]) (g := (gName 2)) rfl sc_flat_masks.nd (pi_range1 (by rfl) T.n_range (pa_cons (pe_op op_shl pe_int (pv 1)) pa_nil)) (blkOk_by (N := ["ranks", "many", "mask"]) (sc := defScope s_flat_masks) (by decide +kernel)) (fun _ _ _ _ _ => (pg_name (i := 2) sc_flat_masks.nd rfl (by first | exact .inl rfl | exact .inr rfl))) (fun _ _ _ _ _ => (pts_one (pt_cmpR op_eq (pe_call (ok_closure_mask T) (hr.mono (by decide)) (by rfl) T.m_closure_mask T.F_closure_mask.kp T.b_closure_mask .nil pass0 (pa_cons (pv 2) (pa_cons (pv 0) (pa_cons (pv 1) pa_nil)))) (pv 2) (nomark _)))) (fun _ _ _ _ _ => (pv 2))))), fun D q => ?_⟩
  refine ret_ed (G := hid O H) ?_ o (.refl _) q
  refine ed_lc (isFlat rk n) dNat (by rw [List.length_range]; omega) (iw_range1 (n := 2 ^ n) (by omega) (ea_one (ed_bit (by omega) (ed_var rfl h2)))) (fun x σ4 H4 ⟨v, e, _⟩ => by subst e; rfl) ?_
  rintro m hx σ2 H2 s2 ⟨v, rfl, d1⟩
  rw [List.mem_range] at hx
  refine ⟨Eb.of ?_ (eb_test (ed_eqI (i := ((closM rk n m : Nat) : Int)) (j := (m : Int)) (ed_call ⟨m, n, rk, rfl, hn, hx, hrk, rfl⟩ (ea_cons (ed_var rfl d1) (ea_cons (ed_var rfl (h1.mono s2)) (ea_one (ed_var rfl (h2.mono s2)))))) (ed_var rfl d1))), fun _ => ed_var rfl d1⟩
  unfold isFlat
  exact decide_eq_decide.mpr Int.ofNat_inj
end
end K9

set_option Elab.async false
set_option linter.all false
set_option maxRecDepth 100000
namespace K9
open PySem PySem.Spec PyProof.Rows L2 PySem.W MB
section
variable {P : Program} {w : World} {K : PySem.W.Frag} {mg : Str → Option Value} {base : Heap}
/-- a dict that has just these masks as keys -/
abbrev dcM (ms : List Nat) : List (Int × PyData) := ms.map fun m : Nat => ((m : Int), PyData.bool true)
theorem mem_dcM {ms : List Nat} {k : Nat} : (k : Int) ∈ (dcM ms).map (·.1) ↔ k ∈ ms := by
  rw [List.map_map, List.mem_map]
  constructor
  · rintro ⟨m, h, e⟩
    have : m = k := Int.ofNat.inj e
    exact this ▸ h
  · exact fun h => ⟨k, h, rfl⟩
/-- pairs of numbers -/
abbrev dPairs (l : List (Nat × Nat)) : PyData := .list (l.map fun x => .tuple [dNat x.1, dNat x.2])
def sp_barriers (K : PySem.W.Frag) : Sp := fun vs H Q _ => ∃ (O : Addr → Prop) (m n : Nat) (ms : List Nat) (v1 v2 v3 : V), vs = [v1, v2, v3] ∧ Hid O H ∧ n ≤ 10 ∧ Dq (hid O H) v1 (dNat m) ∧ DpI (hid O H) v2 (dcM ms) ∧ Dq (hid O H) v3 (dNat n) ∧
  ∀ v H', Le H H' → Dq (hid O H') v (dPairs ((placesIn m n).map fun k => (k, barr ms n m k))) → Q v H'
theorem ok__barriers (T : Tx K mg) : FnOk P w K mg base CX0 2 T.f__barriers T.fd__barriers ["mask", "known", "many"] (sp_barriers K) := by
  refine T.F__barriers.ok sc__barriers (fun vs H Q E h => ?_) (fun cdv A outer s H vs Q E hr h => ?_)
  · obtain ⟨O, m, n, ms, v1, v2, v3, rfl, _⟩ := h
    rfl
  obtain ⟨O, m, n, ms, v1, v2, v3, rfl, o, hn, h1, h2, h3, q⟩ := h
  have hu := hu_of hr
  refine ⟨_, (pss_cons (ps_set (i := 3) sc__barriers.nd rfl (by first | exact .inl rfl | exact .inr rfl) (pe_call (ok_places_outside T) (hr.mono (by decide)) (by rfl) T.m_places_outside T.F_places_outside.kp T.b_places_outside .nil pass0 (pa_cons (pv 0) (pa_cons (pv 2) pa_nil))))
      (pss_cons (ps_set (i := 4) sc__barriers.nd rfl (by first | exact .inl rfl | exact .inr rfl) (pe_lst pa_nil))
      (pss_cons (ps_for PassesOwn.never rfl (kp_list K (pe_call (ok_places_in T) (hr.mono (by decide)) (by rfl) T.m_places_in T.F_places_in.kp T.b_places_in .nil pass0 (pa_cons (pv 0) (pa_cons (pv 2) pa_nil)))) (pg_name (i := 5) sc__barriers.nd rfl (by first | exact .inl rfl | exact .inr rfl))
      (pss_cons (ps_set (i := 6) sc__barriers.nd rfl (by first | exact .inl rfl | exact .inr rfl) (pe_op op_xor (pv 0) (pe_op op_shl pe_int (pv 5))))
      (pss_cons (ps_set (i := 7) sc__barriers.nd rfl (by first | exact .inl rfl | exact .inr rfl) (pe_callB (kc_sum K) (by rfl) T.n_sum boot_sum (pa_cons (pe_lc (own := [("new", 8)]) (g := (gName 8)) rfl sc__barriers.nd (kp_list K (pv 3)) (blkOk_by (N := ["mask", "known", "many", "outside", "barriers", "at", "rest", "stead", "new"]) (sc := defScope s__barriers) (by decide +kernel)) (fun _ _ _ _ _ => (pg_name (i := 8) sc__barriers.nd rfl (by first | exact .inl rfl | exact .inr rfl))) (fun _ _ _ _ _ => (pts_one (pt_cmp (pc_din hu (pe_op op_or (pv 6) (pe_op op_shl pe_int (pv 8))) (pv 1))))) (fun _ _ _ _ _ => (pe_op op_shl pe_int (pv 8)))) pa_nil)))
      (pss_one (ps_expr (pe_bm PySem.F.plainAttrs_list PySem.F.slot_list_append PySem.F.type_list_append mt_append (pv 4) (pa_cons (pe_tup (pa_cons (pv 5) (pa_cons (pe_op op_or (pv 7) (pe_op op_shl pe_int (pv 5))) pa_nil))) pa_nil)))))))
      (pss_one (ps_ret (pv 4)))))), ?_⟩
  refine asg_ed (G := hid O H) (ed_call ⟨m, n, rfl, hn, rfl⟩ (ea_cons (ed_var rfl h1) (ea_one (ed_var rfl h3)))) o (.refl _) fun out H1 s1 hout => ?_
  -- barriers = []
  refine ⟨by show 0 ≤ sizeLine; decide, fun p np => ?_⟩
  have s2 := same_new (o := .lst []) np
  have np0 : H p = none := Le.free s1 np
  have nOp : ¬ O p := o.new np0
  generalize hH2 : upd H1 p (.lst []) = H2 at s2
  have hp2 : H2 p = some (.lst []) := by rw [← hH2, upd_same]
  have o2 : Hid (plus O p) H2 := (o.mono (s1.trans s2)).plus hp2
  have g2 : Le (hid O H1) (hid (plus O p) H2) := hid_add (hid_same s2) (by rw [hid_out nOp]; exact np)
  have g0 := (hid_same (O := O) s1).trans g2
  have h1' := h1.mono g0
  have h3' := h3.mono g0
  refine for_iw (xs := placesIn m n) (G := hid (plus O p) H2) (O := plus O p) (iw_list (φ := dNat) (ed_call ⟨m, n, rfl, hn, rfl⟩ (ea_cons (ed_var rfl h1') (ea_one (ed_var rfl h3'))))) o2 (.refl _) fun H3 s3 => ?_
  refine ⟨fun i σ H4 => ∃ x y z acc, σ = [some v1, some v2, some v3, some out, some (.ref p), x, y, z, none] ∧ Le H1 H4 ∧ Le (hid (plus O p) H3) (hid (plus O p) H4) ∧ H4 p = some (.lst acc) ∧ DqAll (hid (plus O p) H4) acc ((((placesIn m n).take i).map fun k => (k, barr ms n m k)).map fun x => .tuple [dNat x.1, dNat x.2]),
    ⟨none, none, none, [], rfl, s2.trans s3, .refl _, s3.lst hp2, .nil⟩, fun i σ H4 _ h4 => by obtain ⟨_, _, _, _, _, _, h, _⟩ := h4; exact h, fun i k σ H4 hx h4 => ?_, fun σ H4 h4 => ?_⟩
  · obtain ⟨x, y, z, acc, rfl, s4, g4, hp4, hacc⟩ := h4
    have o4 : Hid (plus O p) H4 := (o.mono (s1.trans s4)).plus hp4
    refine ⟨plus O p, o4, g4, fun σ5 H5 s5 hB => ?_⟩
    obtain ⟨v, rfl, dv⟩ := hB
    have hk := places_lt (List.mem_of_getElem? hx)
    have g5 : Le (hid (plus O p) H2) (hid (plus O p) H5) := (hid_same s3).trans (g4.trans (hid_same s5))
    have o5 := o4.mono s5
    -- rest = mask ^ 1 << at
    refine asg_ed (G := hid (plus O p) H5) (ed_xor (ed_var rfl (h1'.mono g5)) (ed_bit (by omega) (ed_var rfl dv))) o5 (.refl _) fun rest H6 s6 hrest => ?_
    have g6 := g5.trans (hid_same s6)
    -- stead = sum(..)
    refine asg_ed (G := hid (plus O p) H6) (ed_sum (ns := ((placesOut m n).filter fun j => decide (((m ^^^ 2 ^ k) ||| 2 ^ j) ∈ ms)).map fun j => ((2 ^ j : Nat) : Int)) (Ed.of (by rw [List.map_map]; rfl) (ed_lc (fun j => decide (((m ^^^ 2 ^ k) ||| 2 ^ j) ∈ ms)) (fun j => dNat (2 ^ j)) ?_ (iw_list (ed_var rfl (hout.mono (g2.trans g6)))) (fun x σ4 H4 ⟨v, e, _⟩ => by subst e; rfl) ?_))) (o5.mono s6) (.refl _) fun st H7 s7 hst => ?_
    · exact Nat.le_trans (List.length_filter_le _ _) (by rw [List.length_range]; omega)
    · rintro j hj σ2 Ha sa ⟨u, rfl, du⟩
      have hj' : j < n := by
        unfold placesOut at hj
        exact List.mem_range.mp (List.mem_filter.mp hj).1
      refine ⟨Eb.of ?_ (eb_B (ed_din (ed_orN (ed_var rfl (hrest.mono sa)) (ed_bit (by omega) (ed_var rfl du))) (edk_var rfl (h2.mono (g0.trans (g6.trans sa)))))), fun _ => ed_bit (by omega) (ed_var rfl du)⟩
      exact decide_eq_decide.mpr mem_dcM
    · have hst' : Dq (hid (plus O p) H7) st (dNat (((placesOut m n).filter fun j => decide (((m ^^^ 2 ^ k) ||| 2 ^ j) ∈ ms)).map fun j => 2 ^ j).sum) := by
        have e := sum_cast (((placesOut m n).filter fun j => decide (((m ^^^ 2 ^ k) ||| 2 ^ j) ∈ ms)).map fun j => 2 ^ j)
        rw [List.map_map] at e
        rw [dNat, ← e]
        exact hst
      have g7 := hid_same (O := plus O p) (s6.trans s7)
      -- barriers.append((at, stead | 1 << at))
      refine app_run (G := hid (plus O p) H7) (i1 := 4) rfl (ed_tup (by simp) (ea_cons (ed_var rfl (dv.mono g7)) (ea_one (ed_orN (ed_var rfl hst') (ed_bit (by omega) (ed_var rfl (dv.mono g7))))))) (o5.mono (s6.trans s7)) (.refl _) (s7.lst (s6.lst (s5.lst hp4))) ?_ fun y' H8 s8 hy => ?_
      · rw [dpAll_len hacc, List.length_map, List.length_map, List.length_take]
        have : (placesIn m n).length ≤ n := Nat.le_trans (List.length_filter_le _ _) (by rw [List.length_range]; exact Nat.le_refl _)
        have := Nat.min_le_right i (placesIn m n).length
        omega
      · have s58 := s5.trans (s6.trans (s7.trans s8))
        refine ⟨some v, some rest, some st, acc ++ [y'], rfl, ?_, ?_, upd_same, ?_⟩
        · exact (s4.trans s58).updN np (nt_lst (s58.lst hp4))
        · rw [hid_upd _ (nt_lst (s58.lst hp4)) rfl]
          exact g4.trans (hid_same s58)
        · rw [hid_upd _ (nt_lst (s58.lst hp4)) rfl, List.take_add_one, hx, List.map_append, List.map_append]
          exact (hacc.mono (hid_same s58)).append (.cons hy .nil)
  · obtain ⟨x, y, z, acc, rfl, s4, g4, hp4, hacc⟩ := h4
    rw [List.take_length] at hacc
    exact ⟨.ref p, rfl, q _ H4 (s1.trans s4) (.lst (.inl (.inl (by rw [hid_out nOp]; exact hp4))) (hacc.mono (hid_plus _ _ _)))⟩
/-! ### faults of bases: there is none -/
/-- what a table of bases is that has no fault -/
structure IsBases (g : List Int) (bs : List (List Int)) : Prop where
  ne : bs ≠ []
  few : bs.length ≤ 5000
  sub : ∀ b, b ∈ bs → b.Sublist g
  size : ∀ b, b ∈ bs → ∀ c, c ∈ bs → b.length = c.length
  nd : bs.Nodup
  ex : ExM (bs.map (mskOf · g))
theorem msk_inj {l l' g : List Int} (h : l.Sublist g) (h' : l'.Sublist g) (nd : g.Nodup) (e : mskOf l g = mskOf l' g) : l = l' := by
  rw [← set_msk h nd, ← set_msk h' nd, e]
theorem msks_nd {g : List Int} {bs : List (List Int)} (nd : g.Nodup) (hs : ∀ b, b ∈ bs → b.Sublist g) (h : bs.Nodup) : (bs.map (mskOf · g)).Nodup := by
  show List.Pairwise (· ≠ ·) (bs.map (mskOf · g))
  rw [List.pairwise_map]
  exact List.Pairwise.imp_of_mem (fun {a b} ha hb (hab : a ≠ b) e => hab (msk_inj (hs a ha) (hs b hb) nd e)) h
def R_exchange_fault (ds : List PyData) (d : PyData) : Prop := ∃ (g : List Int) (bs : List (List Int)), ds = [dSet g, dSets bs] ∧ g.length ≤ 10 ∧ g.Nodup ∧ IsBases g bs ∧ d = .none
theorem nat_ints_nd {ms : List Nat} (h : ms.Nodup) : (ms.map fun m : Nat => (m : Int)).Nodup := by
  show List.Pairwise (· ≠ ·) (ms.map fun m : Nat => (m : Int))
  rw [List.pairwise_map]
  exact h.imp fun hab e => hab (Int.ofNat.inj e)
theorem ok__exchange_fault (T : Tx K mg) : FnOk P w K mg base CX0 3 T.f__exchange_fault T.fd__exchange_fault ["ground", "bases"] (spD K R_exchange_fault) := by
  refine okD T.F__exchange_fault sc__exchange_fault (fun ds d ⟨m, n, e, _⟩ => by rw [e]; rfl) fun cdv A outer s H E O vs ds d hr o hv r => ?_
  obtain ⟨g, bs, rfl, hg, nd, B, rfl⟩ := r
  obtain ⟨v1, v2, rfl, h1, h2⟩ := dp2 hv
  have hu := hu_of hr
  have hp := pow10 hg
  generalize hms : bs.map (mskOf · g) = ms
  have hlt : ∀ m, m ∈ ms → m < 2 ^ g.length := fun m hm => by
    rw [← hms] at hm
    obtain ⟨b, _, rfl⟩ := List.mem_map.mp hm
    exact msk_lt b g
  have hex : ExM ms := hms ▸ B.ex
  have hmnd : ms.Nodup := hms ▸ msks_nd nd B.sub B.nd
  have hml : ms.length = bs.length := by rw [← hms, List.length_map]
  refine ⟨_, (pss_cons (ps_set (i := 2) sc__exchange_fault.nd rfl (by first | exact .inl rfl | exact .inr rfl) (pe_callB (kc_len K) (by rfl) T.n_len PySem.boot_len (pa_cons (pv 0) pa_nil)))
      (pss_cons (ps_set (i := 3) sc__exchange_fault.nd rfl (by first | exact .inl rfl | exact .inr rfl) (pe_op op_sub (pe_op op_shl pe_int (pv 2)) pe_int))
      (pss_cons (ps_set (i := 4) sc__exchange_fault.nd rfl (by first | exact .inl rfl | exact .inr rfl) (pe_call (ok_masks_of T) (hr.mono (by decide)) (by rfl) T.m_masks_of T.F_masks_of.kp T.b_masks_of .nil pass0 (pa_cons (pv 1) (pa_cons (pv 0) pa_nil))))
      (pss_cons (ps_setDc (i := 5) (own := [("mask", 8)]) (g := (gName 8)) (tt := tYes) rfl sc__exchange_fault.nd rfl rfl (sw_trueD rfl rfl rfl (by decide +kernel)) (kp_list K (pv 4)) (blkOk_by (N := ["ground", "bases", "many", "full", "masks", "known", "has_base", "base", "mask", "barriers", "stuck", "other", "at", "barrier"]) (sc := defScope s__exchange_fault) (by decide +kernel)) (fun _ _ _ _ _ => (pg_name (i := 8) sc__exchange_fault.nd rfl (by first | exact .inl rfl | exact .inr rfl))) (fun _ _ _ _ _ => pts_nil) (fun _ _ _ _ _ => (pv 8)) (fun _ _ _ _ _ => pe_bl))
      (pss_cons (ps_set (i := 6) sc__exchange_fault.nd rfl (by first | exact .inl rfl | exact .inr rfl) (pe_call (ok_flags_above T) (hr.mono (by decide)) (by rfl) T.m_flags_above T.F_flags_above.kp T.b_flags_above .nil pass0 (pa_cons (pv 4) (pa_cons (pv 2) pa_nil))))
      (pss_cons (ps_for PassesOwn.never rfl (kp_zipM K true false (by rfl) T.n_zip (pa_cons (pv 1) (pa_cons (pv 4) pa_nil))) (kg_tup K (pgs_cons (pg_name (i := 7) sc__exchange_fault.nd rfl (by first | exact .inl rfl | exact .inr rfl)) (pgs_cons (pg_name (i := 8) sc__exchange_fault.nd rfl (by first | exact .inl rfl | exact .inr rfl)) pgs_nil)))
      (pss_cons (ps_set (i := 9) sc__exchange_fault.nd rfl (by first | exact .inl rfl | exact .inr rfl) (pe_call (ok__barriers T) (hr.mono (by decide)) (by rfl) T.m__barriers T.F__barriers.kp T.b__barriers .nil pass0 (pa_cons (pv 8) (pa_cons (pv 5) (pa_cons (pv 2) pa_nil)))))
      (pss_cons (ps_setLc (i := 10) (own := [("at", 12), ("barrier", 13)]) (g := (gTup K 2 (gCons (gName 12) (gCons (gName 13) gNil)))) rfl sc__exchange_fault.nd rfl rfl (sw_true rfl rfl rfl (by decide +kernel)) (kp_list K (pv 9)) (blkOk_by (N := ["ground", "bases", "many", "full", "masks", "known", "has_base", "base", "mask", "barriers", "stuck", "other", "at", "barrier"]) (sc := defScope s__exchange_fault) (by decide +kernel)) (fun _ _ _ _ _ => (kg_tup K (pgs_cons (pg_name (i := 12) sc__exchange_fault.nd rfl (by first | exact .inl rfl | exact .inr rfl)) (pgs_cons (pg_name (i := 13) sc__exchange_fault.nd rfl (by first | exact .inl rfl | exact .inr rfl)) pgs_nil)))) (fun _ _ _ _ _ => (pts_one (pt_val (pe_ix (ki_list K) (pv 6) (pe_op op_xor (pv 3) (pv 13)) (fun _ _ => rfl))))) (fun _ _ _ _ _ => (pe_tup (pa_cons (pv 12) (pa_cons (pv 13) pa_nil)))))
      (pss_one (ps_if (pt_tru K (pv 10)) pss_never pss_nil)))))
      (pss_one (ps_ret pe_non)))))))), fun D q => ?_⟩
  -- many = len(ground)
  refine asg_ed (G := hid O H) (ed_len (kd := true) (ed_var rfl h1)) o (.refl _) fun mn H1 s1 hmn => ?_
  rw [List.length_map] at hmn
  have o1 := o.mono s1
  -- full = (1 << many) - 1
  refine asg_ed (G := hid O H1) (d := dNat (2 ^ g.length - 1)) (Ed.of (by show PyData.int _ = PyData.int _; congr 1; have := Nat.two_pow_pos g.length; omega) (ed_I0 (ed_bit (by omega) (ed_var rfl hmn)) ed_int)) o1 (.refl _) fun fl H2 s2 hfl => ?_
  have o2 := o1.mono s2
  have s12 := s1.trans s2
  -- masks = masks_of(bases, ground)
  refine asg_ed (G := hid O H2) (ed_call ⟨bs, g, rfl, hg, nd, B.few, B.sub, rfl⟩ (ea_cons (ed_var rfl (h2.mono (hid_same s12))) (ea_one (ed_var rfl (h1.mono (hid_same s12)))))) o2 (.refl _) fun mk H3 s3 hmk => ?_
  rw [hms] at hmk
  have o3 := o2.mono s3
  -- known = {mask: True for mask in masks}
  refine asg_edk (G := hid O H3) (kvs := dcM ms) (edk_dc (fun m : Nat => (m : Int)) (fun _ => .bool true) (by rw [hml]; exact Nat.le_trans B.few (by decide)) (nat_ints_nd hmnd) (iw_list (ed_var rfl hmk)) (fun x σ4 H4 ⟨v, e, _⟩ => by subst e; rfl) (by
      rintro m hm σ2 Ha sa ⟨v, rfl, d1⟩
      exact ⟨ed_var rfl d1, ed_bl⟩)) o3 (.refl _) fun kn H4 s4 hkn => ?_
  have o4 := o3.mono s4
  -- has_base = flags_above(masks, many)
  refine asg_ed (G := hid O H4) (ed_call ⟨ms, g.length, rfl, hg, hlt, rfl⟩ (ea_cons (ed_var rfl (hmk.mono (hid_same s4))) (ea_one (ed_var rfl (hmn.mono (hid_same (s2.trans (s3.trans s4)))))))) o4 (.refl _) fun hb H5 s5 hhb => ?_
  have o5 := o4.mono s5
  have s05 : Le H H5 := s12.trans (s3.trans (s4.trans s5))
  have k2 := h2.mono (hid_same s05)
  have kmk := hmk.mono (hid_same (s4.trans s5))
  have kmn := hmn.mono (hid_same (s2.trans (s3.trans (s4.trans s5))))
  have kfl := hfl.mono (hid_same (s3.trans (s4.trans s5)))
  have kkn := hkn.mono (hid_same s5)
  -- for base, mask in zip(bases, masks)
  refine for_iw (xs := bs.zip ms) (G := hid O H5) (O := O) (iw_zip (k1 := true) (k2 := false) (φ := dSet) (ψ := dNat) (by rw [hml]) (ea_cons (ed_var rfl k2) (ea_one (ed_var rfl kmk)))) o5 (.refl _) fun H6 s6 => ?_
  refine ⟨fun i σ H7 => ∃ a b c d, σ = [some v1, some v2, some mn, some fl, some mk, some kn, some hb, a, b, c, d, none, none, none] ∧ Le H5 H7 ∧ Le H6 H7, ⟨none, none, none, none, rfl, s6, .refl _⟩, fun i σ H4 _ h4 => by obtain ⟨_, _, _, _, _, _, h⟩ := h4; exact hid_same h, fun i x σ H7 hx h7 => ?_, fun σ H7 h7 => ?_⟩
  · obtain ⟨a, b, c, d, rfl, s7, s67⟩ := h7
    have o7 := o5.mono s7
    refine ⟨O, o7, hid_same s67, fun σ8 H8 s8 hB => ?_⟩
    obtain ⟨bv, mv, rfl, hbv, hmv⟩ := hB
    have s58 := s7.trans s8
    have o8 := o7.mono s8
    have hmem : x.2 ∈ ms := (List.of_mem_zip (List.mem_of_getElem? hx)).2
    -- barriers = _barriers(mask, known, many)
    refine ⟨mv, rfl, kn, rfl, mn, rfl, O, x.2, g.length, ms, mv, kn, mn, rfl, o8, hg, hmv, kkn.mono (hid_same s58), kmn.mono (hid_same s58), fun bar H9 s9 hbar => ?_⟩
    have o9 := o8.mono s9
    have s59 := s58.trans s9
    -- stuck = []
    refine asg_ed (G := hid O H9) (d := .list []) (Ed.of ?_ (ed_lc (fun x : Nat × Nat => aboveAny ms ((2 ^ g.length - 1) ^^^ x.2)) (fun x => .tuple [dNat x.1, dNat x.2]) ?_ (iw_list2 (ed_var rfl hbar)) (fun x σ4 H4 ⟨v, w, e, _⟩ => by subst e; rfl) ?_)) o9 (.refl _) fun st Ha sa hst => ?_
    · have : ((placesIn x.2 g.length).map fun k => (k, barr ms g.length x.2 k)).filter (fun x : Nat × Nat => aboveAny ms ((2 ^ g.length - 1) ^^^ x.2)) = [] := by
        rw [List.filter_eq_nil_iff]
        intro y hy
        obtain ⟨k, hk, rfl⟩ := List.mem_map.mp hy
        simp [barr_free hex hlt hmem hk]
      rw [this]
      rfl
    · rw [List.length_map]
      exact Nat.le_trans (List.length_filter_le _ _) (by rw [List.length_range]; omega)
    · rintro y hy σ2 Hb sb ⟨u, z, rfl, d1, d2⟩
      obtain ⟨k, hk, rfl⟩ := List.mem_map.mp hy
      have hlt2 : (2 ^ g.length - 1) ^^^ barr ms g.length x.2 k < 2 ^ g.length := Nat.xor_lt_two_pow (Nat.sub_lt (Nat.two_pow_pos _) (by decide)) (barr_lt (places_lt hk).1)
      refine ⟨eb_B (ed_ixL ?_ (ed_var rfl (hhb.mono ((hid_same (s5 |> fun _ => s59)).trans sb))) (ed_xor (ed_var rfl (kfl.mono ((hid_same s59).trans sb))) (ed_var rfl d2))), fun _ => ed_tup (by simp) (ea_cons (ed_var rfl d1) (ea_one (ed_var rfl d2)))⟩
      rw [List.getElem?_map, List.getElem?_range hlt2]
      rfl
    · -- if stuck: no
      refine if_eb (G := hid O Ha) (eb_truS (kd := false) (ed_var rfl hst)) (o9.mono sa) (.refl _) (fun z => nomatch z) fun _ Hb sb => ?_
      exact ⟨some bv, some mv, some bar, some st, rfl, s59.trans (sa.trans sb), s67.trans (s8.trans (s9.trans (sa.trans sb)))⟩
  · obtain ⟨a, b, c, d, rfl, s7, s67⟩ := h7
    exact q _ H7 (s05.trans s7) .non
end
end K9

set_option Elab.async false
set_option linter.all false
set_option maxRecDepth 100000
namespace K9
open PySem PySem.Spec PyProof.Rows L2 PySem.W MB
section
variable {P : Program} {w : World} {K : PySem.W.Frag} {mg : Str → Option Value} {base : Heap}
theorem ok_fault_in_bases (T : Tx K mg) : FnOk P w K mg base CX0 4 T.f_fault_in_bases T.fd_fault_in_bases ["ground", "bases"] (spD K R_exchange_fault) := by
  refine okD T.F_fault_in_bases sc_fault_in_bases (fun ds d ⟨m, n, e, _⟩ => by rw [e]; rfl) fun cdv A outer s H E O vs ds d hr o hv r => ?_
  obtain ⟨g, bs, rfl, hg, nd, B, rfl⟩ := r
  obtain ⟨v1, v2, rfl, h1, h2⟩ := dp2 hv
  have hu := hu_of hr
  refine ⟨_, (pss_cons (ps_if (pt_not (pt_tru K (pv 1))) pss_never pss_nil)
      (pss_cons (ps_for PassesOwn.never rfl (kp_tup K (pv 1)) (pg_name (i := 2) sc_fault_in_bases.nd rfl (by first | exact .inl rfl | exact .inr rfl))
      (pss_one (ps_if (pt_cmpR op_ne (pe_callB (kc_len K) (by rfl) T.n_len PySem.boot_len (pa_cons (pv 2) pa_nil)) (pe_callB (kc_len K) (by rfl) T.n_len PySem.boot_len (pa_cons (pe_ix (ki_tup K) (pv 1) pe_int (fun _ _ => rfl)) pa_nil)) (nomark _)) pss_never pss_nil)))
      (pss_one (ps_ret (pe_call (ok__exchange_fault T) (hr.mono (by decide)) (by rfl) T.m__exchange_fault T.F__exchange_fault.kp T.b__exchange_fault .nil pass0 (pa_cons (pv 0) (pa_cons (pv 1) pa_nil))))))), fun D q => ?_⟩
  have hne : bs.length ≠ 0 := fun e => B.ne (List.length_eq_zero_iff.mp e)
  refine if_eb (b := false) (G := hid O H) (Eb.of (by simpa using B.ne) (eb_not (eb_truS (kd := true) (ed_var rfl h2)))) o (.refl _) (fun z => nomatch z) fun _ H1 s1 => ?_
  have o1 := o.mono s1
  refine for_iw (xs := bs) (G := hid O H1) (O := O) (iw_tup (φ := dSet) (ed_var rfl (h2.mono (hid_same s1)))) o1 (.refl _) fun H2 s2 => ?_
  refine ⟨fun i σ H3 => ∃ x, σ = [some v1, some v2, x] ∧ Le H1 H3 ∧ Le H2 H3, ⟨none, rfl, s2, .refl _⟩, fun i σ H4 _ h4 => by obtain ⟨_, _, _, h⟩ := h4; exact hid_same h, fun i b σ H3 hx h3 => ?_, fun σ H3 h3 => ?_⟩
  · obtain ⟨x, rfl, s3, s23⟩ := h3
    refine ⟨O, o1.mono s3, hid_same s23, fun σ4 H4 s4 hB => ?_⟩
    obtain ⟨bv, rfl, hbv⟩ := hB
    have hm : b ∈ bs := List.mem_of_getElem? hx
    obtain ⟨b0, tl, eb0⟩ : ∃ b0 tl, bs = b0 :: tl := by
      cases bs with
      | nil => exact absurd rfl B.ne
      | cons b0 tl => exact ⟨b0, tl, rfl⟩
    have hs := B.size b hm b0 (eb0 ▸ List.mem_cons_self)
    have h2' := h2.mono (hid_same (s1.trans (s3.trans s4)))
    have e0 : (bs.map dSet)[0]? = some (dSet b0) := by rw [eb0]; rfl
    refine if_eb (b := false) (G := hid O H4) (Eb.of (b := !decide ((((b.map PyData.int).length : Nat) : Int) = (((b0.map PyData.int).length : Nat) : Int))) (by simp [hs]) (eb_test (ed_neI (ed_len (kd := true) (ed_var rfl hbv)) (ed_len (ds := b0.map PyData.int) (kd := true) (ed_ixT (n := 0) e0 (ed_var rfl h2') ed_int))))) (o1.mono (s3.trans s4)) (.refl _) (fun z => nomatch z) fun _ H5 s5 => ?_
    exact ⟨some bv, rfl, s3.trans (s4.trans s5), s23.trans (s4.trans s5)⟩
  · obtain ⟨x, rfl, s3, s23⟩ := h3
    have s03 := s1.trans s3
    refine ret_ed (G := hid O H3) (ed_call ⟨g, bs, rfl, hg, nd, B, rfl⟩ (ea_cons (ed_var rfl (h1.mono (hid_same s03))) (ea_one (ed_var rfl (h2.mono (hid_same s03)))))) (o1.mono s3) (.refl _) fun v H4 s4 hv => q v H4 (s03.trans s4) hv
theorem ed_eqS {σ : L2.St} {H : Hp} {ta tb : TE} {x y : Str} (ha : Ed ta σ H (.str x)) (hb : Ed tb σ H (.str y)) : Ed (tOp rEq ta tb) σ H (.bool (decide (x = y))) :=
  ed_op ha hb fun O u v H1 _ _ hx hy Q q => by
    rw [hx.str_inv, hy.str_inv]
    refine ⟨rfl, ?_⟩
    have := q (.bl (decide (x = y))) H1 (.refl _) (.bl _)
    simpa using this
theorem ed_neS {σ : L2.St} {H : Hp} {ta tb : TE} {x y : Str} (ha : Ed ta σ H (.str x)) (hb : Ed tb σ H (.str y)) : Ed (tOp rNe ta tb) σ H (.bool (!decide (x = y))) :=
  ed_op ha hb fun O u v H1 _ _ hx hy Q q => by
    rw [hx.str_inv, hy.str_inv]
    refine ⟨rfl, ?_⟩
    have := q (.bl (!decide (x = y))) H1 (.refl _) (.bl _)
    simpa using this
def R_fault_in (ds : List PyData) (d : PyData) : Prop := ∃ (g : List Int) (bs : List (List Int)), ds = [.str "bases", dSet g, dSets bs] ∧ g.length ≤ 10 ∧ g.Nodup ∧ IsBases g bs ∧ d = .none
theorem ok_fault_in (T : Tx K mg) : FnOk P w K mg base CX0 5 T.f_fault_in T.fd_fault_in ["kind", "ground", "table"] (spD K R_fault_in) := by
  refine okD T.F_fault_in sc_fault_in (fun ds d ⟨m, n, e, _⟩ => by rw [e]; rfl) fun cdv A outer s H E O vs ds d hr o hv r => ?_
  obtain ⟨g, bs, rfl, hg, nd, B, rfl⟩ := r
  obtain ⟨v1, v2, v3, rfl, h1, h2, h3⟩ := dp3 hv
  have hu := hu_of hr
  refine ⟨_, (pss_cons (ps_if (pt_cmpR op_eq (pv 0) pe_str (nomark _)) (pss_one (ps_ret (pe_call (ok_fault_in_bases T) (hr.mono (by decide)) (by rfl) T.m_fault_in_bases T.F_fault_in_bases.kp T.b_fault_in_bases .nil pass0 (pa_cons (pv 1) (pa_cons (pv 2) pa_nil))))) pss_nil) pss_never), fun D q => ?_⟩
  refine if_eb (b := true) (G := hid O H) (Eb.of (by simp) (eb_test (ed_eqS (ed_var rfl h1) ed_str))) o (.refl _) (fun _ H1 s1 => ?_) (fun z => nomatch z)
  refine ret_ed (G := hid O H1) (ed_call ⟨g, bs, rfl, hg, nd, B, rfl⟩ (ea_cons (ed_var rfl (h2.mono (hid_same s1))) (ea_one (ed_var rfl (h3.mono (hid_same s1)))))) (o.mono s1) (.refl _) fun v H4 s4 hv => q v H4 (s1.trans s4) hv
end
end K9

set_option Elab.async false
set_option linter.all false
set_option maxRecDepth 100000
namespace K9
open PySem PySem.Spec PyProof.Rows L2 PySem.W MB
section
variable {P : Program} {w : World} {K : PySem.W.Frag} {mg : Str → Option Value} {base : Heap}
def isElD : PyData → Bool
  | .int i => decide (0 ≤ i) && decide (i ≤ 199)
  | _ => false
def R1 (f : PyData → Bool) (ds : List PyData) (d : PyData) : Prop := ∃ x, ds = [x] ∧ d = .bool (f x)
theorem ok_is_integer (T : Tx K mg) : FnOk P w K mg base CX0 1 T.f_is_integer T.fd_is_integer ["thing"] (spD K (R1 isIntD)) := by
  refine okD T.F_is_integer sc_is_integer (fun ds d ⟨m, e, _⟩ => by rw [e]; rfl) fun cdv A outer s H E O vs ds d hr o hv r => ?_
  obtain ⟨x, rfl, rfl⟩ := r
  obtain ⟨v1, rfl, h1⟩ := dp1 hv
  refine ⟨_, (pss_one (ps_ret (pe_and (pe_callB (kc_isi K) (by rfl) T.n_isinstance (by rfl) (pa_cons (pv 0) (pa_cons (pe_bltn (v := .ty "int") (by rfl) T.n_int (by rfl) rfl) pa_nil))) (pe_one (pe_not (pe_callB (kc_isi K) (by rfl) T.n_isinstance (by rfl) (pa_cons (pv 0) (pa_cons (pe_bltn (v := .ty "bool") (by rfl) T.n_bool (by rfl) rfl) pa_nil)))))))), fun D q => ?_⟩
  refine ret_ed (G := hid O H) (Ed.of ?_ (ed_and (ed_isi h1.kInt (ed_var rfl h1)) fun _ => ed_not (ed_isi h1.kBool (ed_var rfl h1)))) o (.refl _) q
  cases x <;> rfl
theorem ok_is_element (T : Tx K mg) : FnOk P w K mg base CX0 2 T.f_is_element T.fd_is_element ["thing"] (spD K (R1 isElD)) := by
  refine okD T.F_is_element sc_is_element (fun ds d ⟨m, e, _⟩ => by rw [e]; rfl) fun cdv A outer s H E O vs ds d hr o hv r => ?_
  obtain ⟨x, rfl, rfl⟩ := r
  obtain ⟨v1, rfl, h1⟩ := dp1 hv
  refine ⟨_, (pss_one (ps_ret (pe_and (pe_call (ok_is_integer T) (hr.mono (by decide)) (by rfl) T.m_is_integer T.F_is_integer.kp T.b_is_integer .nil pass0 (pa_cons (pv 0) pa_nil)) (pe_one (pe_chain op_le op_le pe_int (pv 0) (C8.pe_gc (by rfl) T.g_MAX_ELEMENT)))))), fun D q => ?_⟩
  refine ret_ed (G := hid O H) (Ed.of ?_ (ed_and (b := isElD x) (ed_call ⟨x, rfl, rfl⟩ (ea_one (ed_var rfl h1))) fun hx => ?_)) o (.refl _) q
  · cases x <;> rfl
  · cases x with
    | int i => exact ed_chainB ed_int (ed_var rfl h1) ed_int
    | _ => exact nomatch hx
abbrev ltI (a b : Int) : Bool := decide (a < b)
def R_is_ascending (ds : List PyData) (d : PyData) : Prop := (∃ l : List Int, ds = [dSet l] ∧ l.length ≤ 100000 ∧ d = .bool (ascB ltI l)) ∨ (∃ ls : List (List Int), ds = [dSets ls] ∧ ls.length ≤ 100000 ∧ d = .bool (ascB HT.lexLt ls))
theorem ok_is_ascending (T : Tx K mg) : FnOk P w K mg base CX0 1 T.f_is_ascending T.fd_is_ascending ["things"] (spD K R_is_ascending) := by
  refine okD T.F_is_ascending sc_is_ascending (fun ds d r => by rcases r with ⟨l, rfl, _⟩ | ⟨l, rfl, _⟩ <;> rfl) fun cdv A outer s H E O vs ds d hr o hv r => ?_
  have hu := hu_of hr
  obtain ⟨x, rfl⟩ : ∃ x, ds = [x] := by rcases r with ⟨l, rfl, _⟩ | ⟨l, rfl, _⟩ <;> exact ⟨_, rfl⟩
  obtain ⟨v1, rfl, h1⟩ := dp1 hv
  refine ⟨_, (pss_one (ps_ret (pe_callB (kc_all K) (by rfl) T.n_all boot_all (pa_cons (pe_lc (own := [("at", 1)]) (g := (gName 1)) (tt := tYes) rfl sc_is_ascending.nd (pi_range1 (by rfl) T.n_range (pa_cons (pe_op op_sub (pe_callB (kc_len K) (by rfl) T.n_len PySem.boot_len (pa_cons (pv 0) pa_nil)) pe_int) pa_nil)) (blkOk_by (N := ["things", "at"]) (sc := defScope s_is_ascending) (by decide +kernel)) (fun _ _ _ _ _ => (pg_name (i := 1) sc_is_ascending.nd rfl (by first | exact .inl rfl | exact .inr rfl))) (fun _ _ _ _ _ => pts_nil) (fun _ _ _ _ _ => (pe_cmpR (OpR.or op_lt (ko_ltT K (hu00 hr))) (pe_ix (ki_tup K) (pv 0) (pv 1) (fun _ _ => rfl)) (pe_ix (ki_tup K) (pv 0) (pe_op op_add (pv 1) pe_int) (fun _ _ => rfl)) (nomark _)))) pa_nil)))), fun D q => ?_⟩
  rcases r with ⟨l, e, hl, rfl⟩ | ⟨l, e, hl, rfl⟩
  · obtain rfl : x = dSet l := by simpa using e
    refine ret_ed (G := hid O H) (Ed.of ?_ (ed_all (bs := (List.range (l.length - 1)).map (fun k => ltI (l.getD k 0) (l.getD (k + 1) 0))) (Ed.of ?_ (ed_lc (fun _ => true) (fun k => .bool (ltI (l.getD k 0) (l.getD (k + 1) 0))) (xs := List.range (l.length - 1)) ?_ (iw_range1z (j := ((l.map PyData.int).length : Int) - 1) ?_ ?_ ?_ (ea_one (ed_I0 (ed_len (kd := true) (ed_var rfl h1)) ed_int))) (fun x σ4 H4 ⟨v, e, _⟩ => by subst e; rfl) ?_)))) o (.refl _) q
    · congr 1
      refine (ascB_by _ l _ fun k a b ha hb => ?_)
      simp [List.getD, ha, hb]
    · rw [List.map_map, List.filter_eq_self.mpr (fun _ _ => rfl)]; rfl
    · rw [List.length_range]; omega
    · rw [List.length_map]; omega
    · rw [List.length_map]; omega
    · omega
    · rintro k hk σ2 Ha sa ⟨u, rfl, du⟩
      have hk' := List.mem_range.mp hk
      refine ⟨eb_yes, fun _ => ?_⟩
      have e1 : (l.map PyData.int)[k]? = some (PyData.int (l.getD k 0)) := by
        rw [List.getElem?_map, List.getD_eq_getElem?_getD, List.getElem?_eq_getElem (by omega)]; rfl
      have e2 : (l.map PyData.int)[k + 1]? = some (PyData.int (l.getD (k + 1) 0)) := by
        rw [List.getElem?_map, List.getD_eq_getElem?_getD, List.getElem?_eq_getElem (by omega)]; rfl
      exact ed_ltI (ed_ixT e1 (ed_var rfl (h1.mono sa)) (ed_var rfl du)) (ed_ixT e2 (ed_var rfl (h1.mono sa)) (Ed.of (by congr 1) (ed_I0 (ed_var rfl du) ed_int)))
  · obtain rfl : x = dSets l := by simpa using e
    refine ret_ed (G := hid O H) (Ed.of ?_ (ed_all (bs := (List.range (l.length - 1)).map (fun k => HT.lexLt (l.getD k []) (l.getD (k + 1) []))) (Ed.of ?_ (ed_lc (fun _ => true) (fun k => .bool (HT.lexLt (l.getD k []) (l.getD (k + 1) []))) (xs := List.range (l.length - 1)) ?_ (iw_range1z (j := ((l.map dSet).length : Int) - 1) ?_ ?_ ?_ (ea_one (ed_I0 (ed_len (kd := true) (ed_var rfl h1)) ed_int))) (fun x σ4 H4 ⟨v, e, _⟩ => by subst e; rfl) ?_)))) o (.refl _) q
    · congr 1
      refine (ascB_by _ l _ fun k a b ha hb => ?_)
      simp [List.getD, ha, hb]
    · rw [List.map_map, List.filter_eq_self.mpr (fun _ _ => rfl)]; rfl
    · rw [List.length_range]; omega
    · rw [List.length_map]; omega
    · rw [List.length_map]; omega
    · omega
    · rintro k hk σ2 Ha sa ⟨u, rfl, du⟩
      have hk' := List.mem_range.mp hk
      refine ⟨eb_yes, fun _ => ?_⟩
      have e1 : (l.map dSet)[k]? = some (dSet (l.getD k [])) := by
        rw [List.getElem?_map, List.getD_eq_getElem?_getD, List.getElem?_eq_getElem (by omega)]; rfl
      have e2 : (l.map dSet)[k + 1]? = some (dSet (l.getD (k + 1) [])) := by
        rw [List.getElem?_map, List.getD_eq_getElem?_getD, List.getElem?_eq_getElem (by omega)]; rfl
      exact ed_ltT (ed_ixT e1 (ed_var rfl (h1.mono sa)) (ed_var rfl du)) (ed_ixT e2 (ed_var rfl (h1.mono sa)) (Ed.of (by congr 1) (ed_I0 (ed_var rfl du) ed_int)))
def intOf : PyData → Int
  | .int i => i
  | _ => 0
/-- the set that a value tells, if it tells one -/
def asSet : PyData → Option (List Int)
  | .tuple ds => if (ds.all isElD && ascB ltI (ds.map intOf)) = true then some (ds.map intOf) else none
  | _ => none
def withinD (g : List Int) (x : PyData) : Bool := match asSet x with
  | some l => l.all fun i => decide (i ∈ g)
  | none => false
def toSet (x : PyData) : List Int := (asSet x).getD []
def setsD (g : List Int) : PyData → Bool
  | .tuple ds => ds.all (withinD g) && ascB HT.lexLt (ds.map toSet)
  | _ => false
theorem els_ints : ∀ {ds : List PyData}, ds.all isElD = true → (ds.map intOf).map PyData.int = ds
  | [], _ => rfl
  | d :: ds, h => by
    rw [List.all_cons, Bool.and_eq_true] at h
    rw [List.map_cons, List.map_cons, els_ints h.2]
    cases d with
    | int i => rfl
    | _ => exact nomatch h.1
theorem asSet_tuple (ds : List PyData) : asSet (.tuple ds) = if (ds.all isElD && ascB ltI (ds.map intOf)) = true then some (ds.map intOf) else none := rfl
theorem asSet_is {x : PyData} {l : List Int} (h : asSet x = some l) : x = dSet l := by
  cases x with
  | tuple ds =>
    rw [asSet_tuple] at h
    cases hc : ds.all isElD && ascB ltI (ds.map intOf) with
    | true =>
      rw [hc] at h
      rw [Bool.and_eq_true] at hc
      cases h
      show _ = PyData.tuple _
      rw [els_ints hc.1]
    | false => rw [hc] at h; exact nomatch h
  | _ => exact nomatch h
theorem asSet_some (ds : List PyData) : (asSet (.tuple ds)).isSome = (ds.all isElD && ascB ltI (ds.map intOf)) := by
  rw [asSet_tuple]
  cases ds.all isElD && ascB ltI (ds.map intOf) <;> rfl
theorem within_is {g : List Int} {x : PyData} (h : withinD g x = true) : x = dSet (toSet x) := by
  unfold withinD at h
  unfold toSet
  cases e : asSet x with
  | some l => exact asSet_is e
  | none => rw [e] at h; exact nomatch h
theorem withins {g : List Int} : ∀ {ds : List PyData}, ds.all (withinD g) = true → (ds.map toSet).map dSet = ds
  | [], _ => rfl
  | d :: ds, h => by
    rw [List.all_cons, Bool.and_eq_true] at h
    rw [List.map_cons, List.map_cons, withins h.2, ← within_is h.1]
def small (x : PyData) : Prop := ∀ ys, x = .tuple ys → ys.length ≤ 100000
def R_is_set (ds : List PyData) (d : PyData) : Prop := ∃ x, ds = [x] ∧ small x ∧ d = .bool (asSet x).isSome
theorem ok_is_set (T : Tx K mg) : FnOk P w K mg base CX0 3 T.f_is_set T.fd_is_set ["thing"] (spD K R_is_set) := by
  refine okD T.F_is_set sc_is_set (fun ds d ⟨m, e, _⟩ => by rw [e]; rfl) fun cdv A outer s H E O vs ds d hr o hv r => ?_
  obtain ⟨x, rfl, hx, rfl⟩ := r
  obtain ⟨v1, rfl, h1⟩ := dp1 hv
  refine ⟨_, (pss_cons (ps_if (pt_not (pt_val (pe_callB (kc_isi K) (by rfl) T.n_isinstance (by rfl) (pa_cons (pv 0) (pa_cons (pe_bltn (v := .ty "tuple") (by rfl) T.n_tuple (by rfl) rfl) pa_nil))))) (pss_one (ps_ret pe_bl)) pss_nil)
      (pss_one (ps_ret (pe_and (pe_callB (kc_all K) (by rfl) T.n_all boot_all (pa_cons (pe_lc (own := [("one", 1)]) (g := (gName 1)) (tt := tYes) rfl sc_is_set.nd (kp_tup K (pv 0)) (blkOk_by (N := ["thing", "one"]) (sc := defScope s_is_set) (by decide +kernel)) (fun _ _ _ _ _ => (pg_name (i := 1) sc_is_set.nd rfl (by first | exact .inl rfl | exact .inr rfl))) (fun _ _ _ _ _ => pts_nil) (fun _ _ _ _ _ => (pe_call (ok_is_element T) (hr.mono (by decide)) (by rfl) T.m_is_element T.F_is_element.kp T.b_is_element .nil pass0 (pa_cons (pv 1) pa_nil)))) pa_nil)) (pe_one (pe_call (ok_is_ascending T) (hr.mono (by decide)) (by rfl) T.m_is_ascending T.F_is_ascending.kp T.b_is_ascending .nil pass0 (pa_cons (pv 0) pa_nil))))))), fun D q => ?_⟩
  refine if_eb (b := !isTupD x) (G := hid O H) (eb_not (eb_test (ed_isi h1.kTup (ed_var rfl h1)))) o (.refl _) (fun e H1 s1 => ?_) fun e H1 s1 => ?_
  · refine ret_ed (G := hid O H1) (Ed.of ?_ ed_bl) (o.mono s1) (.refl _) fun v H4 s4 hv => q v H4 (s1.trans s4) hv
    cases x with
    | tuple ds => exact nomatch e
    | _ => rfl
  · cases x with
    | tuple ds =>
      have h1' := h1.mono (hid_same s1)
      have hl := hx ds rfl
      refine ret_ed (G := hid O H1) (Ed.of ?_ (ed_and (a := ds.all isElD) (b := ascB ltI (ds.map intOf)) (Ed.of ?_ (ed_all (bs := ds.map isElD) (Ed.of ?_ (ed_lc (fun _ => true) (fun x => .bool (isElD x)) (xs := ds) hl (iw_tup (φ := id) (Ed.of (by rw [List.map_id]) (ed_var rfl h1'))) (fun x σ4 H4 ⟨v, e, _⟩ => by subst e; rfl) ?_)))) fun hall => ?_)) (o.mono s1) (.refl _) fun v H4 s4 hv => q v H4 (s1.trans s4) hv
      · rw [asSet_some]
      · rw [List.all_map]; rfl
      · rw [List.map_map, List.filter_eq_self.mpr (fun _ _ => rfl)]; rfl
      · rintro k hk σ2 Ha sa ⟨u, rfl, du⟩
        exact ⟨eb_yes, fun _ => ed_call ⟨k, rfl, rfl⟩ (ea_one (ed_var rfl du))⟩
      · refine ed_call (.inl ⟨ds.map intOf, ?_, by rw [List.length_map]; exact hl, rfl⟩) (ea_one (ed_var rfl h1'))
        show [PyData.tuple ds] = [PyData.tuple _]
        rw [els_ints hall]
    | _ => exact nomatch e
end
end K9

set_option Elab.async false
set_option linter.all false
set_option maxRecDepth 100000
namespace K9
open PySem PySem.Spec PyProof.Rows L2 PySem.W MB
section
variable {P : Program} {w : World} {K : PySem.W.Frag} {mg : Str → Option Value} {base : Heap}
def R_is_set_within (ds : List PyData) (d : PyData) : Prop := ∃ x g, ds = [x, dSet g] ∧ small x ∧ d = .bool (withinD g x)
theorem ok_is_set_within (T : Tx K mg) : FnOk P w K mg base CX0 4 T.f_is_set_within T.fd_is_set_within ["thing", "ground"] (spD K R_is_set_within) := by
  refine okD T.F_is_set_within sc_is_set_within (fun ds d ⟨m, n, e, _⟩ => by rw [e]; rfl) fun cdv A outer s H E O vs ds d hr o hv r => ?_
  obtain ⟨x, g, rfl, hx, rfl⟩ := r
  obtain ⟨v1, v2, rfl, h1, h2⟩ := dp2 hv
  refine ⟨_, (pss_one (ps_ret (pe_and (pe_call (ok_is_set T) (hr.mono (by decide)) (by rfl) T.m_is_set T.F_is_set.kp T.b_is_set .nil pass0 (pa_cons (pv 0) pa_nil)) (pe_one (pe_callB (kc_all K) (by rfl) T.n_all boot_all (pa_cons (pe_lc (own := [("one", 2)]) (g := (gName 2)) (tt := tYes) rfl sc_is_set_within.nd (kp_tup K (pv 0)) (blkOk_by (N := ["thing", "ground", "one"]) (sc := defScope s_is_set_within) (by decide +kernel)) (fun _ _ _ _ _ => (pg_name (i := 2) sc_is_set_within.nd rfl (by first | exact .inl rfl | exact .inr rfl))) (fun _ _ _ _ _ => pts_nil) (fun _ _ _ _ _ => (pe_cmpR (ko_in K) (pv 2) (pv 1) rfl))) pa_nil)))))), fun D q => ?_⟩
  refine ret_ed (G := hid O H) (Ed.of ?_ (ed_and (a := (asSet x).isSome) (b := (toSet x).all fun i => decide (i ∈ g)) (ed_call ⟨x, rfl, hx, rfl⟩ (ea_one (ed_var rfl h1))) fun hs => ?_)) o (.refl _) q
  · unfold withinD toSet
    cases asSet x <;> rfl
  · obtain ⟨l, hl⟩ := Option.isSome_iff_exists.mp hs
    have ex := asSet_is hl
    have et : toSet x = l := by unfold toSet; rw [hl]; rfl
    have hln : l.length ≤ 100000 := by have := hx _ ex; rwa [List.length_map] at this
    rw [et]
    rw [ex] at h1
    refine Ed.of ?_ (ed_all (bs := l.map fun i => decide (i ∈ g)) (Ed.of ?_ (ed_lc (fun _ => true) (fun i => .bool (decide (i ∈ g))) (xs := l) hln (iw_tup (φ := PyData.int) (ed_var rfl h1)) (fun x σ4 H4 ⟨v, e, _⟩ => by subst e; rfl) ?_)))
    · rw [List.all_map]; rfl
    · rw [List.map_map, List.filter_eq_self.mpr (fun _ _ => rfl)]; rfl
    · rintro k hk σ2 Ha sa ⟨u, rfl, du⟩
      exact ⟨eb_yes, fun _ => ed_inI (neg := false) (ed_var rfl du) (.inl (ed_var rfl (h2.mono sa)))⟩
def R_are_sets_within (ds : List PyData) (d : PyData) : Prop := ∃ x g, ds = [x, dSet g] ∧ small x ∧ (∀ ys, x = .tuple ys → ∀ y, y ∈ ys → small y) ∧ d = .bool (setsD g x)
theorem ok_are_sets_within (T : Tx K mg) : FnOk P w K mg base CX0 5 T.f_are_sets_within T.fd_are_sets_within ["thing", "ground"] (spD K R_are_sets_within) := by
  refine okD T.F_are_sets_within sc_are_sets_within (fun ds d ⟨m, n, e, _⟩ => by rw [e]; rfl) fun cdv A outer s H E O vs ds d hr o hv r => ?_
  obtain ⟨x, g, rfl, hx, hy, rfl⟩ := r
  obtain ⟨v1, v2, rfl, h1, h2⟩ := dp2 hv
  refine ⟨_, (pss_cons (ps_if (pt_not (pt_val (pe_callB (kc_isi K) (by rfl) T.n_isinstance (by rfl) (pa_cons (pv 0) (pa_cons (pe_bltn (v := .ty "tuple") (by rfl) T.n_tuple (by rfl) rfl) pa_nil))))) (pss_one (ps_ret pe_bl)) pss_nil)
      (pss_one (ps_ret (pe_and (pe_callB (kc_all K) (by rfl) T.n_all boot_all (pa_cons (pe_lc (own := [("one", 2)]) (g := (gName 2)) (tt := tYes) rfl sc_are_sets_within.nd (kp_tup K (pv 0)) (blkOk_by (N := ["thing", "ground", "one"]) (sc := defScope s_are_sets_within) (by decide +kernel)) (fun _ _ _ _ _ => (pg_name (i := 2) sc_are_sets_within.nd rfl (by first | exact .inl rfl | exact .inr rfl))) (fun _ _ _ _ _ => pts_nil) (fun _ _ _ _ _ => (pe_call (ok_is_set_within T) (hr.mono (by decide)) (by rfl) T.m_is_set_within T.F_is_set_within.kp T.b_is_set_within .nil pass0 (pa_cons (pv 2) (pa_cons (pv 1) pa_nil))))) pa_nil)) (pe_one (pe_call (ok_is_ascending T) (hr.mono (by decide)) (by rfl) T.m_is_ascending T.F_is_ascending.kp T.b_is_ascending .nil pass0 (pa_cons (pv 0) pa_nil))))))), fun D q => ?_⟩
  refine if_eb (b := !isTupD x) (G := hid O H) (eb_not (eb_test (ed_isi h1.kTup (ed_var rfl h1)))) o (.refl _) (fun e H1 s1 => ?_) fun e H1 s1 => ?_
  · refine ret_ed (G := hid O H1) (Ed.of ?_ ed_bl) (o.mono s1) (.refl _) fun v H4 s4 hv => q v H4 (s1.trans s4) hv
    cases x with
    | tuple ds => exact nomatch e
    | _ => rfl
  · cases x with
    | tuple ds =>
      have h1' := h1.mono (hid_same s1)
      have h2' := h2.mono (hid_same s1)
      have hl := hx ds rfl
      refine ret_ed (G := hid O H1) (Ed.of ?_ (ed_and (a := ds.all (withinD g)) (b := ascB HT.lexLt (ds.map toSet)) (Ed.of ?_ (ed_all (bs := ds.map (withinD g)) (Ed.of ?_ (ed_lc (fun _ => true) (fun x => .bool (withinD g x)) (xs := ds) hl (iw_tup (φ := id) (Ed.of (by rw [List.map_id]) (ed_var rfl h1'))) (fun x σ4 H4 ⟨v, e, _⟩ => by subst e; rfl) ?_)))) fun hall => ?_)) (o.mono s1) (.refl _) fun v H4 s4 hv => q v H4 (s1.trans s4) hv
      · rfl
      · rw [List.all_map]; rfl
      · rw [List.map_map, List.filter_eq_self.mpr (fun _ _ => rfl)]; rfl
      · rintro k hk σ2 Ha sa ⟨u, rfl, du⟩
        exact ⟨eb_yes, fun _ => ed_call ⟨k, g, rfl, hy ds rfl k hk, rfl⟩ (ea_cons (ed_var rfl du) (ea_one (ed_var rfl (h2'.mono sa))))⟩
      · refine ed_call (.inr ⟨ds.map toSet, ?_, by rw [List.length_map]; exact hl, rfl⟩) (ea_one (ed_var rfl h1'))
        show [PyData.tuple ds] = [PyData.tuple _]
        rw [withins hall]
    | _ => exact nomatch e
/-! ### checks that hold -/
def R_check_ground (ds : List PyData) (d : PyData) : Prop := ∃ g, ds = [dSet g] ∧ g.length ≤ 10 ∧ asSet (dSet g) = some g ∧ d = .none
theorem small_set {g : List Int} (h : g.length ≤ 100000) : small (dSet g) := fun ys e => by
  cases e
  rw [List.length_map]; exact h
theorem ok_check_ground (T : Tx K mg) : FnOk P w K mg base CX0 4 T.f_check_ground T.fd_check_ground ["ground"] (spD K R_check_ground) := by
  refine okDN T.F_check_ground sc_check_ground (fun ds d ⟨m, e, _, _, z⟩ => ⟨by rw [e]; rfl, z⟩) fun cdv A outer s H E O vs ds d hr o hv r => ?_
  obtain ⟨g, rfl, hg, hs, rfl⟩ := r
  obtain ⟨v1, rfl, h1⟩ := dp1 hv
  refine ⟨_, (pss_one (ps_if (PW.pt (pw_or (pt_not (pt_val (pe_call (ok_is_set T) (hr.mono (by decide)) (by rfl) T.m_is_set T.F_is_set.kp T.b_is_set .nil pass0 (pa_cons (pv 0) pa_nil)))) (pw_or1 (pt_cmpR op_gt (pe_callB (kc_len K) (by rfl) T.n_len PySem.boot_len (pa_cons (pv 0) pa_nil)) (C8.pe_gc (by rfl) T.g_MAX_GROUND) (nomark _))))) pss_never pss_nil)), fun D q => ?_⟩
  refine if_eb (b := false) (G := hid O H) (Eb.of ?_ (eb_or (a := false) (b := false) (Eb.of ?_ (eb_not (eb_B (ed_call ⟨dSet g, rfl, small_set (Nat.le_trans hg (by decide)), rfl⟩ (ea_one (ed_var rfl h1)))))) fun _ => Eb.of ?_ (eb_test (ed_B0 (ed_len (kd := true) (ed_var rfl h1)) ed_int)))) o (.refl _) (fun z => nomatch z) fun _ H1 s1 => q _ H1 s1
  · rfl
  · rw [hs]; rfl
  · rw [List.length_map]
    exact decide_eq_false (by omega)
def R_check_sets (ds : List PyData) (d : PyData) : Prop := ∃ bs g, ds = [dSets bs, dSet g] ∧ bs.length ≤ 100000 ∧ (∀ b, b ∈ bs → b.length ≤ 100000) ∧ setsD g (dSets bs) = true ∧ d = .none
theorem ok_check_sets (T : Tx K mg) : FnOk P w K mg base CX0 6 T.f_check_sets T.fd_check_sets ["things", "ground"] (spD K R_check_sets) := by
  refine okDN T.F_check_sets sc_check_sets (fun ds d ⟨m, n, e, _, _, _, z⟩ => ⟨by rw [e]; rfl, z⟩) fun cdv A outer s H E O vs ds d hr o hv r => ?_
  obtain ⟨bs, g, rfl, hb, hb2, hs, rfl⟩ := r
  obtain ⟨v1, v2, rfl, h1, h2⟩ := dp2 hv
  refine ⟨_, (pss_one (ps_if (pt_not (pt_val (pe_call (ok_are_sets_within T) (hr.mono (by decide)) (by rfl) T.m_are_sets_within T.F_are_sets_within.kp T.b_are_sets_within .nil pass0 (pa_cons (pv 0) (pa_cons (pv 1) pa_nil))))) pss_never pss_nil)), fun D q => ?_⟩
  refine if_eb (b := false) (G := hid O H) (Eb.of ?_ (eb_not (eb_B (ed_call ⟨dSets bs, g, rfl, fun ys e => ?_, fun ys e y hy => ?_, rfl⟩ (ea_cons (ed_var rfl h1) (ea_one (ed_var rfl h2))))))) o (.refl _) (fun z => nomatch z) fun _ H1 s1 => q _ H1 s1
  · rw [hs]; rfl
  · cases e; rw [List.length_map]; exact hb
  · cases e
    obtain ⟨b, hm, rfl⟩ := List.mem_map.mp hy
    exact small_set (hb2 b hm)
end
end K9

set_option Elab.async false
set_option linter.all false
set_option maxRecDepth 100000
namespace K9
open PySem PySem.Spec PyProof.Rows L2 PySem.W MB
section
variable {P : Program} {w : World} {K : PySem.W.Frag} {mg : Str → Option Value} {base : Heap}
/-- a ground and its bases as Matroid asks -/
structure IsMat (g : List Int) (bs : List (List Int)) : Prop where
  few : g.length ≤ 10
  asc : g.Pairwise (· < ·)
  els : ∀ x, x ∈ g → 0 ≤ x ∧ x ≤ 199
  B : IsBases g bs
  bsc : ascB HT.lexLt bs = true
theorem IsMat.nd {g : List Int} {bs : List (List Int)} (h : IsMat g bs) : g.Nodup := h.asc.imp fun {a b} hab => by omega
theorem ltI_tr (a b c : Int) (h : ltI a b = true) (h' : ltI b c = true) : ltI a c = true := by
  simp only [ltI, decide_eq_true_eq] at *; omega
theorem asSet_ok {l : List Int} (h : l.Pairwise (· < ·)) (hb : ∀ x, x ∈ l → 0 ≤ x ∧ x ≤ 199) : asSet (dSet l) = some l := by
  have e : (l.map PyData.int).map intOf = l := by
    rw [List.map_map]
    exact List.map_id'' (fun _ => rfl) l
  show asSet (.tuple (l.map .int)) = some l
  rw [asSet_tuple, e, if_pos]
  rw [Bool.and_eq_true]
  constructor
  · rw [List.all_map, List.all_eq_true]
    intro x hx
    have := hb x hx
    show (decide (0 ≤ x) && decide (x ≤ 199)) = true
    simp [this]
  · rw [ascB_iff ltI_tr]
    exact h.imp fun hab => by simpa [ltI] using hab
theorem within_ok {g l : List Int} (h : l.Pairwise (· < ·)) (hb : ∀ x, x ∈ l → 0 ≤ x ∧ x ≤ 199) (hg : ∀ x, x ∈ l → x ∈ g) : withinD g (dSet l) = true := by
  unfold withinD
  rw [asSet_ok h hb]
  simpa using hg
theorem IsMat.within {g l : List Int} {bs : List (List Int)} (h : IsMat g bs) (hl : l.Sublist g) : withinD g (dSet l) = true :=
  within_ok (h.asc.sublist hl) (fun x hx => h.els x (hl.subset hx)) fun x hx => hl.subset hx
theorem IsMat.sets {g : List Int} {bs : List (List Int)} (h : IsMat g bs) : setsD g (dSets bs) = true := by
  show (((bs.map dSet).all (withinD g)) && ascB HT.lexLt ((bs.map dSet).map toSet)) = true
  rw [Bool.and_eq_true]
  constructor
  · rw [List.all_map, List.all_eq_true]
    exact fun b hb => h.within (h.B.sub b hb)
  · have : (bs.map dSet).map toSet = bs := by
      rw [List.map_map]
      refine (List.map_congr_left fun b hb => ?_).trans (List.map_id _)
      show toSet (dSet b) = b
      unfold toSet
      rw [asSet_ok (h.asc.sublist (h.B.sub b hb)) fun x hx => h.els x ((h.B.sub b hb).subset hx)]
      rfl
    rw [this]
    exact h.bsc
theorem ok_init (T : Tx K mg) : FnOk P w K mg base CX0 7 T.f_Matroid___init__ T.fd_Matroid___init__ ["self", "ground", "bases"] (spMk T.C IsMat) := by
  refine T.F_Matroid___init__.ok sc_Matroid___init__ (fun vs H Q E h => ?_) (fun cdv A outer s H vs Q E hr h => ?_)
  · obtain ⟨O, p, dx, g, bs, v1, v2, rfl, _⟩ := h
    rfl
  obtain ⟨O, p, dx, g, bs, v1, v2, rfl, hp, nO, o, h1, h2, M, q⟩ := h
  have hu := hu_of hr
  have ic := T.na__circuits
  refine ⟨_, (pss_cons (ps_expr (pe_call (ok_check_ground T) (hr.mono (by decide)) (by rfl) T.m_check_ground T.F_check_ground.kp T.b_check_ground .nil pass0 (pa_cons (pv 1) pa_nil)))
      (pss_cons (ps_expr (pe_call (ok_check_sets T) (hr.mono (by decide)) (by rfl) T.m_check_sets T.F_check_sets.kp T.b_check_sets .nil pass0 (pa_cons (pv 2) (pa_cons (pv 1) pa_nil))))
      (pss_cons (ps_set (i := 3) sc_Matroid___init__.nd rfl (by first | exact .inl rfl | exact .inr rfl) (pe_call (ok_fault_in T) (hr.mono (by decide)) (by rfl) T.m_fault_in T.F_fault_in.kp T.b_fault_in .nil pass0 (pa_cons pe_str (pa_cons (pv 1) (pa_cons (pv 2) pa_nil)))))
      (pss_cons (ps_if (pt_cmpR op_notN (pv 3) pe_non (nomark _)) pss_never pss_nil)
      (pss_cons (ps_fld (pv 0) (pv 1) rfl)
      (pss_cons (ps_fld (pv 0) (pv 2) rfl)
      (pss_cons (ps_fld (pv 0) pe_non rfl)
      (pss_cons (ps_fld (pv 0) pe_non rfl)
      (pss_one (ps_fld (pv 0) pe_non rfl)))))))))), ?_⟩
  have o' : Hid (plus O p) H := o.plus hp
  refine drop_ed (G := hid (plus O p) H) (ed_call ⟨g, rfl, M.few, asSet_ok M.asc M.els, rfl⟩ (ea_one (ed_var rfl h1))) o' (.refl _) fun H1 s1 => ?_
  have hbl : ∀ b, b ∈ bs → b.length ≤ 100000 := fun b hb => Nat.le_trans (M.B.sub b hb).length_le (Nat.le_trans M.few (by decide))
  refine drop_ed (G := hid (plus O p) H1) (ed_call ⟨bs, g, rfl, Nat.le_trans M.B.few (by decide), hbl, M.sets, rfl⟩ (ea_cons (ed_var rfl (h2.mono (hid_same s1))) (ea_one (ed_var rfl (h1.mono (hid_same s1)))))) (o'.mono s1) (.refl _) fun H2 s2 => ?_
  have s12 := s1.trans s2
  refine asg_ed (G := hid (plus O p) H2) (ed_call ⟨g, bs, rfl, M.few, M.nd, M.B, rfl⟩ (ea_cons ed_str (ea_cons (ed_var rfl (h1.mono (hid_same s12))) (ea_one (ed_var rfl (h2.mono (hid_same s12))))))) (o'.mono s12) (.refl _) fun fv H3 s3 hfv => ?_
  have s13 := s12.trans s3
  refine if_eb (b := false) (G := hid (plus O p) H3) (Eb.of rfl (eb_test (ed_notN (ed_var rfl hfv) ed_non))) (o'.mono s13) (.refl _) (fun z => nomatch z) fun _ H4 s4 => ?_
  have s14 := s13.trans s4
  have o4 := o'.mono s14
  have z : ∀ {n : Nat}, n < 5 → n ≠ 5 := fun h => Nat.ne_of_lt h
  -- self.ground
  refine fld_put (O := O) (G := hid (plus O p) H4) (ed_var rfl (h1.mono (hid_same s14))) o4 (.refl _) rfl (s14.ins hp (by decide)) (by decide) T.cl T.na_ground (by decide) fun gv H5 o5 g5 hp5 hgv => ?_
  have g15 := (hid_same s14).trans (g5 O)
  rw [putF_new rfl] at hp5
  refine fld_put (O := O) (G := hid (plus O p) H5) (ed_var rfl (h2.mono g15)) o5 (.refl _) rfl hp5 (by show 1 ≠ 5; decide) T.cl T.na_bases (by show 1 < 1000; decide) fun bv H6 o6 g6 hp6 hbv => ?_
  have g16 := g15.trans (g6 O)
  rw [putF_new (by kernel_rfl)] at hp6
  refine fld_put (O := O) (G := hid (plus O p) H6) ed_non o6 (.refl _) rfl hp6 (by show 2 ≠ 5; decide) T.cl T.na__ranks (by show 2 < 1000; decide) fun rv H7 o7 g7 hp7 hrv => ?_
  rw [putF_new (by kernel_rfl)] at hp7
  refine fld_put (O := O) (G := hid (plus O p) H7) ed_non o7 (.refl _) rfl hp7 (by show 3 ≠ 5; decide) T.cl T.na__circuits (by show 3 < 1000; decide) fun cv H8 o8 g8 hp8 hcv => ?_
  rw [putF_new (by kernel_rfl)] at hp8
  refine fld_put (O := O) (G := hid (plus O p) H8) ed_non o8 (.refl _) rfl hp8 (by show 4 ≠ 5; decide) T.cl T.na__flats (by show 4 < 1000; decide) fun fv2 H9 o9 g9 hp9 hfv2 => ?_
  rw [putF_new (by kernel_rfl)] at hp9
  obtain rfl := hrv.non_inv
  obtain rfl := hcv.non_inv
  obtain rfl := hfv2.non_inv
  refine q H9 (fun O' => (hid_same s14).trans ((g5 O').trans ((g6 O').trans ((g7 O').trans ((g8 O').trans (g9 O')))))) ⟨dx, gv, bv, hp9⟩ ⟨dx, gv, bv, .non, .non, .non, hid_of hp9 (.inl nO), ?_⟩
  rw [tp_hid]
  exact ⟨(hgv.toTp (tupd_set _)).monoS ((g6 O).trans ((g7 O).trans ((g8 O).trans (g9 O)))).tp2, (hbv.toTp (tupd_sets _)).monoS ((g7 O).trans ((g8 O).trans (g9 O))).tp2, .inl .non, .inl .non, .inl .non⟩
/-- the masks of the bases -/
theorem IsMat.bm {g : List Int} {bs : List (List Int)} (M : IsMat g bs) : BM g.length (bs.map (mskOf · g)) := by
  refine ⟨fun m hm => ?_, fun z => M.B.ne (by simpa using z), fun a ha b hb => ?_, M.B.ex⟩
  · obtain ⟨b, _, rfl⟩ := List.mem_map.mp hm
    exact msk_lt b g
  · obtain ⟨x, hx, rfl⟩ := List.mem_map.mp ha
    obtain ⟨y, hy, rfl⟩ := List.mem_map.mp hb
    have e : ∀ z, z ∈ bs → MB.cnt g.length (mskOf z g) = z.length := fun z hz => cnt_msk0 (M.B.sub z hz) M.nd
    rw [e x hx, e y hy]
    exact M.B.size x hx y hy
end
end K9

set_option Elab.async false
set_option linter.all false
set_option maxRecDepth 100000
namespace K9
open PySem PySem.Spec PyProof.Rows L2 PySem.W MB
/-! ### the order -/
theorem ltInts : ∀ a b : List Int, PyProof.Rows.lexLt itemOrd (keyToksAll (a.map PyData.int)) (keyToksAll (b.map PyData.int)) = HT.lexLt a b
  | [], [] => rfl
  | [], y :: b => rfl
  | x :: a, [] => rfl
  | x :: a, y :: b => by
    have al : alike (.int x) (.int y) = true := by simp only [alike]
    have ev : PyData.eqv (.int x) (.int y) = decide (x = y) := by
      simp [PyData.eqv]
      try rfl
    rw [List.map_cons, List.map_cons, HT.lexLt_cons]
    by_cases e : x = y
    · rw [if_pos e, dataLt_all_yes al (by rw [ev]; simpa using e), ltInts a b]
    · rw [if_neg e, dataLt_all_no al (by rw [ev]; simpa using e), dataLt_int]
theorem leS_le (a b : List Int) : leS a b = !HT.lexLt b a := by
  unfold leS
  rw [dataLe_eq]
  show (!dataLt (.tuple (b.map .int)) (.tuple (a.map .int))) = _
  rw [dataLt_tuple, ltInts]
theorem lt_irr : ∀ a : List Int, HT.lexLt a a = false
  | [] => rfl
  | x :: a => by rw [HT.lexLt_cons, if_pos rfl, lt_irr a]
theorem lt_tr : ∀ a b c : List Int, HT.lexLt a b = true → HT.lexLt b c = true → HT.lexLt a c = true
  | [], [], _, h, _ => nomatch h
  | [], _ :: _, [], _, h => nomatch h
  | [], _ :: _, _ :: _, _, _ => rfl
  | _ :: _, [], _, h, _ => nomatch h
  | _ :: _, _ :: _, [], _, h => nomatch h
  | x :: a, y :: b, z :: c, h, h' => by
    rw [HT.lexLt_cons] at h h' ⊢
    by_cases e : x = y
    · subst e
      rw [if_pos rfl] at h
      by_cases f : x = z
      · subst f
        rw [if_pos rfl] at h' ⊢
        exact lt_tr a b c h h'
      · rw [if_neg f] at h' ⊢
        exact h'
    · rw [if_neg e, decide_eq_true_eq] at h
      by_cases f : y = z
      · subst f
        rw [if_neg e, decide_eq_true_eq]
        exact h
      · rw [if_neg f, decide_eq_true_eq] at h'
        rw [if_neg (by omega), decide_eq_true_eq]
        omega
theorem lt_tot : ∀ a b : List Int, HT.lexLt a b = false → HT.lexLt b a = false → a = b
  | [], [], _, _ => rfl
  | [], _ :: _, h, _ => nomatch h
  | _ :: _, [], _, h => nomatch h
  | x :: a, y :: b, h, h' => by
    rw [HT.lexLt_cons] at h h'
    by_cases e : x = y
    · subst e
      rw [if_pos rfl] at h h'
      rw [lt_tot a b h h']
    · rw [if_neg e, decide_eq_false_iff_not] at h
      rw [if_neg fun z => e z.symm, decide_eq_false_iff_not] at h'
      omega
theorem leS_tr (a b c : List Int) (h : leS a b = true) (h' : leS b c = true) : leS a c = true := by
  rw [leS_le] at *
  simp only [Bool.not_eq_true'] at *
  cases e : HT.lexLt c a with
  | false => rfl
  | true =>
    by_cases f : HT.lexLt b c = true
    · have := lt_tr _ _ _ f e
      rw [this] at h; cases h
    · have f' : HT.lexLt b c = false := by simpa using f
      have := lt_tot _ _ h' f'
      subst this
      rw [e] at h; cases h
theorem leS_tot (a b : List Int) : (leS a b || leS b a) = true := by
  rw [leS_le, leS_le]
  cases e : HT.lexLt b a with
  | false => rfl
  | true =>
    cases f : HT.lexLt a b with
    | false => rfl
    | true =>
      have := lt_tr _ _ _ e f
      rw [lt_irr] at this
      cases this
theorem leS_anti (a b : List Int) (h : leS a b = true) (h' : leS b a = true) : a = b := by
  rw [leS_le] at h h'
  exact lt_tot _ _ (by simpa using h') (by simpa using h)
/-- a sorted list is told by what is in it -/
theorem sortS_eq {l l' : List (List Int)} (h : l.Perm l') : sortS l = sortS l' := by
  unfold sortS
  refine List.Perm.eq_of_pairwise (le := fun a b => leS a b = true) (fun a b _ _ => leS_anti a b) (List.pairwise_mergeSort leS_tr leS_tot _) (List.pairwise_mergeSort leS_tr leS_tot _) ?_
  exact ((List.mergeSort_perm l leS).trans h).trans (List.mergeSort_perm l' leS).symm
theorem sort_filter (l : List (List Int)) (p : List Int → Bool) : (sortS l).filter p = sortS (l.filter p) := by
  refine List.Perm.eq_of_pairwise (le := fun a b => leS a b = true) (fun a b _ _ => leS_anti a b) ?_ (List.pairwise_mergeSort leS_tr leS_tot _) ?_
  · exact (List.pairwise_mergeSort leS_tr leS_tot l).filter p
  · exact ((List.mergeSort_perm l leS).filter p).trans (List.mergeSort_perm _ leS).symm
theorem sortS_asc {l : List (List Int)} (nd : l.Nodup) : (sortS l).Pairwise fun a b => HT.lexLt a b = true := by
  have h1 : (sortS l).Pairwise fun a b => leS a b = true := List.pairwise_mergeSort leS_tr leS_tot _
  have h2 : (sortS l).Pairwise (· ≠ ·) := (List.mergeSort_perm l leS).nodup_iff.mpr nd
  refine (h1.and h2).imp fun {a b} h => ?_
  cases e : HT.lexLt a b with
  | true => rfl
  | false =>
    have := h.1
    rw [leS_le, Bool.not_eq_true'] at this
    exact absurd (lt_tot _ _ e this) h.2
end K9

set_option Elab.async false
set_option linter.all false
set_option maxRecDepth 100000
namespace K9
open PySem PySem.Spec PyProof.Rows L2 PySem.W MB
section
variable {P : Program} {w : World} {K : PySem.W.Frag} {mg : Str → Option Value} {base : Heap}
abbrev rkOf (g : List Int) (bs : List (List Int)) (l : List Int) : Nat := rankOf g.length (bs.map (mskOf · g)) (mskOf l g)
theorem rks_at {g : List Int} {bs : List (List Int)} (l : List Int) : ((rksOf g bs).map dNat)[mskOf l g]? = some (dNat (rkOf g bs l)) := by
  have := msk_lt l g
  simp only [rksOf, List.map_map]
  rw [List.getElem?_map, List.getElem?_range this]
  rfl
theorem rks_len (g : List Int) (bs : List (List Int)) : (rksOf g bs).length = 2 ^ g.length := by
  unfold rksOf
  rw [List.length_map, List.length_range]
def R_mask_ranks (xs : List Vl) (x : Vl) : Prop := ∃ g bs, xs = [.m g bs] ∧ IsMat g bs ∧ x = .d (dNatT (rksOf g bs))
theorem ok_mask_ranks (T : Tx K mg) : FnOk P w K mg base CX0 3 T.f_Matroid_mask_ranks T.fd_Matroid_mask_ranks ["self"] (spX T.C R_mask_ranks) := by
  refine okX T.F_Matroid_mask_ranks sc_Matroid_mask_ranks (fun ds d ⟨g, bs, e, _⟩ => by rw [e]; rfl) fun cdv A outer s H E O vs ds d hr o hv r => ?_
  obtain ⟨g, bs, rfl, M, rfl⟩ := r
  obtain ⟨v0, rfl, m0⟩ := vr1 hv
  obtain ⟨p, rfl, m⟩ := m0.mt
  have hu := hu_of hr
  refine ⟨_, (pss_cons (ps_if (pt_cmpR op_isN (kf_fld K (pv 0)) pe_non (nomark _)) (pss_one (ps_fld (pv 0) (pe_callTy (kc_tuple K) (by rfl) T.n_tuple boot_tuple (pa_cons (pe_call (ok_ranks_by_bases T) (hr.mono (by decide)) (by rfl) T.m_ranks_by_bases T.F_ranks_by_bases.kp T.b_ranks_by_bases .nil pass0 (pa_cons (pe_call (ok_masks_of T) (hr.mono (by decide)) (by rfl) T.m_masks_of T.F_masks_of.kp T.b_masks_of .nil pass0 (pa_cons (kf_fld K (pv 0)) (pa_cons (kf_fld K (pv 0)) pa_nil))) (pa_cons (pe_callB (kc_len K) (by rfl) T.n_len PySem.boot_len (pa_cons (kf_fld K (pv 0)) pa_nil)) pa_nil))) pa_nil)) rfl)) pss_nil)
      (pss_one (ps_ret (kf_fld K (pv 0))))), fun D q => ?_⟩
  obtain ⟨dx, w1, w2, w3, w4, w5, hp, rw⟩ := id m
  have hpH := (hid_some hp).1
  have hml : (bs.map (mskOf · g)).length = bs.length := List.length_map _
  refine ifN_run (i := 0) (v := w3) rfl hpH T.cl T.na__ranks (by kernel_rfl) (fun e => ?_) fun e => ?_
  · refine put_run (O := O) (G := hid O H) (d := dNatT (rksOf g bs)) (fun v _ => v) (fun _ x => x) (fun _ x => x) (ed_tupleL (ed_call ⟨bs.map (mskOf · g), g.length, rfl, M.few, M.bm, rfl⟩ (ea_cons (ed_call ⟨bs, g, rfl, M.few, M.nd, M.B.few, M.B.sub, rfl⟩ (ea_cons (ed_bases T.cl T.na_bases (eo_var rfl m)) (ea_one (ed_ground T.cl T.na_ground (eo_var rfl m))))) (ea_one (Ed.of (by rw [List.length_map]) (ed_len (kd := true) (ed_ground T.cl T.na_ground (eo_var rfl m)))))))) o (.refl _) rfl m T.cl T.na__ranks (tupd_nats _) (fun _ _ _ _ _ _ => by kernel_rfl) (fun G v v1 v2 v3 v4 v5 hv r => ⟨r.d1, r.d2, .inr hv, r.d4, r.d5⟩) fun v x1 x2 x3 x4 x5 dx2 H2 s2 hp2 r2 hv2 => ?_
    exact ⟨.ref p, rfl, p, T.C, dx2, _, v, rfl, hp2, T.cl, T.na__ranks, by kernel_rfl, q v H2 s2 (.d hv2)⟩
  · refine ⟨.ref p, rfl, p, T.C, dx, _, w3, rfl, hpH, T.cl, T.na__ranks, by kernel_rfl, q w3 H (.refl _) (.d ?_)⟩
    rcases rw.d3 with z | z
    · exact absurd z.non_inv e
    · rw [tp_hid] at z
      exact z.untp
/-- the ranks of a matroid, asked for by name -/
theorem ed_mranks {σ : L2.St} {G : Hp} {to : TE} {C : Addr} {E : XK} {g : List Int} {bs : List (List Int)} (M : IsMat g bs) (h : Eo C to σ G g bs) : Ed (tProp C (spX C R_mask_ranks) [] E to) σ G (dNatT (rksOf g bs)) := (ev_prop h ⟨g, bs, rfl, M, rfl⟩).ed
end
end K9

set_option Elab.async false
set_option linter.all false
set_option maxRecDepth 100000
namespace K9
open PySem PySem.Spec PyProof.Rows L2 PySem.W MB
section
variable {P : Program} {w : World} {K : PySem.W.Frag} {mg : Str → Option Value} {base : Heap}
abbrev restOf (l c : List Int) : List Int := l.filter fun x => decide (x ∉ c)
def R_rest_of (ds : List PyData) (d : PyData) : Prop := ∃ l c, ds = [dSet l, dSet c] ∧ l.length ≤ 100000 ∧ d = dSet (restOf l c)
theorem ok_rest_of (T : Tx K mg) : FnOk P w K mg base CX0 1 T.f_rest_of T.fd_rest_of ["members", "gone"] (spD K R_rest_of) := by
  refine okD T.F_rest_of sc_rest_of (fun ds d ⟨m, n, e, _⟩ => by rw [e]; rfl) fun cdv A outer s H E O vs ds d hr o hv r => ?_
  obtain ⟨l, c, rfl, hl, rfl⟩ := r
  obtain ⟨v1, v2, rfl, h1, h2⟩ := dp2 hv
  refine ⟨_, (pss_one (ps_ret (pe_callTy (kc_tuple K) (by rfl) T.n_tuple boot_tuple (pa_cons (pe_lc (own := [("one", 2)]) (g := (gName 2)) rfl sc_rest_of.nd (kp_tup K (pv 0)) (blkOk_by (N := ["members", "gone", "one"]) (sc := defScope s_rest_of) (by decide +kernel)) (fun _ _ _ _ _ => (pg_name (i := 2) sc_rest_of.nd rfl (by first | exact .inl rfl | exact .inr rfl))) (fun _ _ _ _ _ => (pts_one (pt_cmpR (ko_notIn K) (pv 2) (pv 1) rfl))) (fun _ _ _ _ _ => (pv 2))) pa_nil)))), fun D q => ?_⟩
  refine ret_ed (G := hid O H) (ed_tupleL (ed_lc (fun x => decide (x ∉ c)) PyData.int (xs := l) hl (iw_tup (φ := PyData.int) (ed_var rfl h1)) (fun x σ4 H4 ⟨v, e, _⟩ => by subst e; rfl) ?_)) o (.refl _) q
  rintro x hx σ2 H2 s2 ⟨v, rfl, d1⟩
  exact ⟨Eb.of (by simp) (eb_test (ed_inI (neg := true) (ed_var rfl d1) (.inl (ed_var rfl (h2.mono s2))))), fun _ => ed_var rfl d1⟩
end
end K9

set_option Elab.async false
set_option linter.all false
set_option maxRecDepth 100000
namespace K9
open PySem PySem.Spec PyProof.Rows L2 PySem.W MB
section
variable {P : Program} {w : World} {K : PySem.W.Frag} {mg : Str → Option Value} {base : Heap}
/-! ### sure_matroid -/
def R_sure (xs : List Vl) (x : Vl) : Prop := ∃ g bl, xs = [.d (dSet g), .d (dSetL bl)] ∧ IsMat g (sortS bl) ∧ x = .m g (sortS bl)
theorem isMat_nil : IsMat [] [[]] := by
  refine ⟨by decide, .nil, fun x h => (nomatch h), ⟨by simp, by decide, fun b hb => ?_, fun b hb c hc => ?_, by simp, fun a ha b hb k h1 h2 => ?_⟩, rfl⟩
  · rw [List.mem_singleton.mp hb]; exact List.Sublist.refl _
  · rw [List.mem_singleton.mp hb, List.mem_singleton.mp hc]
  · rw [List.map_cons, List.map_nil, List.mem_singleton] at ha
    subst ha
    simp [mskOf] at h1
theorem ok_sure_matroid (T : Tx K mg) : FnOk P w K mg base CX0 9 T.f_sure_matroid T.fd_sure_matroid ["ground", "bases"] (spX T.C R_sure) := by
  refine okX T.F_sure_matroid sc_sure_matroid (fun ds d ⟨g, bs, e, _⟩ => by rw [e]; rfl) fun cdv A outer s H E O vs ds d hr o hv r => ?_
  obtain ⟨g, bl, rfl, M, rfl⟩ := r
  obtain ⟨v0, v1, rfl, h0, h1⟩ := vr2 hv
  have h0 := h0.dp
  have h1 := h1.dp
  have hu := hu_of hr
  refine ⟨_, (pss_cons (ps_set (i := 2) sc_sure_matroid.nd rfl (by first | exact .inl rfl | exact .inr rfl) (pe_make T.mkC (ok_init T) (hr.mono (by decide)) (by rfl) T.m_Matroid T.b_Matroid___init__ .nil pass0 (pa_cons (pe_tup pa_nil) (pa_cons (pe_tup (pa_cons (pe_tup pa_nil) pa_nil)) pa_nil))))
      (pss_cons (ps_fld (pv 2) (pv 0) rfl)
      (pss_cons (ps_fld (pv 2) (pe_callTy (kc_tuple K) (by rfl) T.n_tuple boot_tuple (pa_cons (pe_callB (kc_sortedTu K (hu64 hr)) (by rfl) T.n_sorted boot_sorted (pa_cons (pv 1) pa_nil)) pa_nil)) rfl)
      (pss_one (ps_ret (pv 2)))))), fun D q => ?_⟩
  refine asg_mk (G := hid O H) (g := []) (bs := [[]]) (ea_cons (ed_tup (by decide) ea_nil) (ea_one (ed_tup (by decide) (ea_one (ed_tup (by decide) ea_nil))))) isMat_nil o (.refl _) fun p H1 s1 np hp m => ?_
  obtain ⟨dx, w1, w2, hp⟩ := hp
  -- made.ground = ground
  refine ⟨v0, rfl, .ref p, rfl, p, T.C, dx, _, rfl, hp, T.cl, T.na_ground, (by show 5 < 1000; decide), ?_⟩
  have e1 : putF "ground" v0 (flds5 w1 w2 .non .non .non) = flds5 v0 w2 .non .non .non := by kernel_rfl
  rw [e1]
  have s2 : Le H (upd H1 p (.ins T.C dx (flds5 v0 w2 .non .non .non))) := s1.updN np (nt_ins hp)
  have hp2 : (upd H1 p (.ins T.C dx (flds5 v0 w2 .non .non .non))) p = some (.ins T.C dx (flds5 v0 w2 .non .non .non)) := upd_same
  generalize upd H1 p (.ins T.C dx (flds5 v0 w2 .non .non .non)) = H2 at s2 hp2
  -- made.bases = tuple(sorted(bases))
  have h1' := h1.mono (hid_same (O := O) s2)
  obtain ⟨a, ys, rfl, hs, hd⟩ := h1'.lst_inv
  refine ⟨.ref a, rfl, a, ys, bl.map dSet, hid O H2, rfl, (hid_sub O H2).seq hs, fun v d h => (h.mono (hid_sub O H2)).up, hd, sets_alike bl, sets_tup bl, sets_depth bl, fun zs l hz nl => ?_⟩
  rw [sort_sets] at hz
  refine ⟨l, zs, rfl, .inl ⟨.inl (.inl upd_same), fun t nt => ?_⟩⟩
  have npl : p ≠ l := ne_of_none hp2 nl
  have npt : p ≠ t := ne_of_none (show upd H2 l (.lst zs) p = some _ by rw [upd_ne npl]; exact hp2) nt
  have s3 : Le H2 (upd (upd H2 l (.lst zs)) t (.tup zs)) := (same_new nl).trans (same_new nt)
  have hp4 : (upd (upd H2 l (.lst zs)) t (.tup zs)) p = some (.ins T.C dx (flds5 v0 w2 .non .non .non)) := by rw [upd_ne npt, upd_ne npl]; exact hp2
  have ht4 : (upd (upd H2 l (.lst zs)) t (.tup zs)) t = some (.tup zs) := upd_same
  generalize upd (upd H2 l (.lst zs)) t (.tup zs) = H4 at s3 hp4 ht4
  refine ⟨.ref p, rfl, p, T.C, dx, _, rfl, hp4, T.cl, T.na_bases, (by show 5 < 1000; decide), ?_⟩
  have e2 : putF "bases" (.ref t) (flds5 v0 w2 .non .non .non) = flds5 v0 (.ref t) .non .non .non := by kernel_rfl
  rw [e2]
  have s5 : Le H (upd H4 p (.ins T.C dx (flds5 v0 (.ref t) .non .non .non))) := (s2.trans s3).updN np (nt_ins hp4)
  have nO : ¬ O p := o.new np
  refine ⟨.ref p, rfl, q _ _ s5 (.m ⟨dx, v0, .ref t, .non, .non, .non, hid_of upd_same (.inl nO), ?_⟩)⟩
  rw [tp_hid, tp_upd (nt_ins hp4) rfl]
  have hz4 := hz.mono (hid_same (O := O) s3)
  have d2 : Dq (tp H4) (.ref t) (dSets (sortS bl)) := .tup (tp_of ht4 rfl) (by
    have := hz4.tpd (fun d hd => by obtain ⟨x, _, rfl⟩ := List.mem_map.mp hd; exact tupd_set x)
    rwa [tp_hid] at this)
  exact ⟨(h0.mono (hid_same (O := O) (s2.trans s3))).toTp (tupd_set _), d2, .inl .non, .inl .non, .inl .non⟩
end
end K9

set_option Elab.async false
set_option linter.all false
set_option maxRecDepth 100000
namespace K9
open PySem PySem.Spec PyProof.Rows L2 PySem.W MB
section
variable {P : Program} {w : World} {K : PySem.W.Frag} {mg : Str → Option Value} {base : Heap}
def dualB (g : List Int) (bs : List (List Int)) : List (List Int) := sortS (bs.map fun b => restOf g b)
def R_dual (xs : List Vl) (x : Vl) : Prop := ∃ g bs, xs = [.m g bs] ∧ IsMat g bs ∧ IsMat g (dualB g bs) ∧ x = .m g (dualB g bs)
theorem ok_dual (T : Tx K mg) : FnOk P w K mg base CX0 10 T.f_Matroid_dual T.fd_Matroid_dual ["self"] (spX T.C R_dual) := by
  refine okX T.F_Matroid_dual sc_Matroid_dual (fun ds d ⟨g, bs, e, _⟩ => by rw [e]; rfl) fun cdv A outer s H E O vs ds d hr o hv r => ?_
  obtain ⟨g, bs, rfl, M, M', rfl⟩ := r
  obtain ⟨v0, rfl, m0⟩ := vr1 hv
  obtain ⟨p, rfl, m⟩ := m0.mt
  have hu := hu_of hr
  refine ⟨_, (pss_one (ps_ret (pe_call (ok_sure_matroid T) (hr.mono (by decide)) (by rfl) T.m_sure_matroid T.F_sure_matroid.kp T.b_sure_matroid .nil pass0 (pa_cons (kf_fld K (pv 0)) (pa_cons (pe_lc (own := [("base", 1)]) (g := (gName 1)) (tt := tYes) rfl sc_Matroid_dual.nd (kp_tup K (kf_fld K (pv 0))) (blkOk_by (N := ["self", "base"]) (sc := defScope s_Matroid_dual) (by decide +kernel)) (fun _ _ _ _ _ => (pg_name (i := 1) sc_Matroid_dual.nd rfl (by first | exact .inl rfl | exact .inr rfl))) (fun _ _ _ _ _ => pts_nil) (fun _ _ _ _ _ => (pe_call (ok_rest_of T) (hr.mono (by decide)) (by rfl) T.m_rest_of T.F_rest_of.kp T.b_rest_of .nil pass0 (pa_cons (kf_fld K (pv 0)) (pa_cons (pv 1) pa_nil))))) pa_nil))))), fun D q => ?_⟩
  refine (ev_call (G := hid O H) ⟨g, bs.map fun b => restOf g b, rfl, M', rfl⟩ (ex_cons (ed_ground T.cl T.na_ground (eo_var rfl m)).ev (ex_cons (Ed.of ?_ (ed_lc (fun _ => true) (fun b => dSet (restOf g b)) (xs := bs) (Nat.le_trans M.B.few (by decide)) (iw_tup (φ := dSet) (ed_bases T.cl T.na_bases (eo_var rfl m))) (fun x σ4 H4 ⟨v, e, _⟩ => by subst e; rfl) ?_)).ev ex_nil))) O H o (.refl _) _ fun v H' s' hv => q v H' s' hv
  · rw [filt_true]
    show PyData.list _ = PyData.list _
    rw [List.map_map]
    rfl
  · rintro b hb σ2 H2 s2 ⟨v, rfl, d1⟩
    exact ⟨eb_yes, fun _ => ed_call ⟨g, b, rfl, Nat.le_trans M.few (by decide), rfl⟩ (ea_cons (ed_ground T.cl T.na_ground (eo_var rfl (m.mono s2))) (ea_one (ed_var rfl d1)))⟩
end
end K9

set_option Elab.async false
set_option linter.all false
set_option maxRecDepth 100000
namespace K9
open PySem PySem.Spec PyProof.Rows L2 PySem.W MB
theorem eqvInts : ∀ a b : List Int, PyData.eqvAll (a.map .int) (b.map .int) = decide (a = b)
  | [], [] => by simp [PyData.eqvAll]
  | [], _ :: _ => by simp [PyData.eqvAll]
  | _ :: _, [] => by simp [PyData.eqvAll]
  | x :: a, y :: b => by
    rw [List.map_cons, List.map_cons, PyData.eqvAll, eqvInts a b]
    have : PyData.eqv (.int x) (.int y) = decide (x = y) := by
      simp [PyData.eqv]
      try rfl
    rw [this, Bool.eq_iff_iff]
    simp
theorem eqvSet (a b : List Int) : PyData.eqv (dSet a) (dSet b) = decide (a = b) := by
  show PyData.eqv (.tuple _) (.tuple _) = _
  rw [PyData.eqv, eqvInts]
theorem eqvSetsL : ∀ a b : List (List Int), PyData.eqvAll (a.map dSet) (b.map dSet) = decide (a = b)
  | [], [] => by simp [PyData.eqvAll]
  | [], _ :: _ => by simp [PyData.eqvAll]
  | _ :: _, [] => by simp [PyData.eqvAll]
  | x :: a, y :: b => by
    rw [List.map_cons, List.map_cons, PyData.eqvAll, eqvSetsL a b, eqvSet, Bool.eq_iff_iff]
    simp
theorem eqvSets (a b : List (List Int)) : PyData.eqv (dSets a) (dSets b) = decide (a = b) := by
  show PyData.eqv (.tuple _) (.tuple _) = _
  rw [PyData.eqv, eqvSetsL]
theorem canInts : ∀ ns : List Int, PyData.canLayAll0 (ns.map PyData.int) = true
  | [] => rfl
  | n :: r => by rw [List.map_cons, PyData.canLayAll0, canInts r]; rfl
theorem canSets : ∀ ls : List (List Int), PyData.canLayAll0 (ls.map dSet) = true
  | [] => rfl
  | n :: r => by
    rw [List.map_cons, PyData.canLayAll0, canSets r]
    show (PyData.canLay0 (.tuple _) && true) = true
    rw [PyData.canLay0, canInts]
    rfl
theorem depthInts : ∀ ns : List Int, PyData.depthAll (ns.map PyData.int) ≤ 1
  | [] => by simp [PyData.depthAll]
  | n :: r => by
    have := depthInts r
    simp only [List.map_cons, PyData.depthAll, PyData.depth]
    omega
theorem depthSets : ∀ ls : List (List Int), PyData.depthAll (ls.map dSet) ≤ 2
  | [] => by simp [PyData.depthAll]
  | n :: r => by
    have h1 := depthSets r
    have h2 := depthInts n
    simp only [List.map_cons, PyData.depthAll]
    have : PyData.depth (dSet n) ≤ 2 := by
      show PyData.depth (.tuple _) ≤ 2
      rw [PyData.depth]
      omega
    omega
theorem shapedSet (l : List Int) : SeqAt.shaped (dSet l) = true := by
  show SeqAt.shaped (.tuple (l.map .int)) = true
  unfold SeqAt.shaped
  rw [PyData.canLay0, canInts, PyData.depth]
  have := depthInts l
  simp only [Bool.true_and, decide_eq_true_eq]
  omega
theorem shapedSetsT (l : List (List Int)) : SeqAt.shaped (dSets l) = true := by
  show SeqAt.shaped (.tuple (l.map dSet)) = true
  unfold SeqAt.shaped
  rw [PyData.canLay0, canSets, PyData.depth]
  have := depthSets l
  simp only [Bool.true_and, decide_eq_true_eq]
  omega
end K9

set_option Elab.async false
set_option linter.all false
set_option maxRecDepth 100000
/-! sorted(xs): xs a list or a tuple, of ints or of tuples that are alike -/
namespace PySem.W
open PySem PySem.Spec PySem.Calls PyProof.Rows PyProof.Rows.Boot
section
variable {prog : Program} {w : World} {A : Around} {E : Value → Shared → Prop} {s : Shared}
theorem my_collect_tuple {l : Addr} {vs : List Value} {Q : List Value → Shared → Prop} (hl : s.heap.IsTuple l vs.toArray)
    (h : Q vs { s with heap := (s.heap.push (seqObj "list" #[] 0)).update s.heap.objs.size (Obj.mapSeq (· ++ vs.toArray)) }) (hsz : vs.length ≤ sizeLine) :
    wpAny (model prog w) A (collect (.ref l)) Q E s := by
  obtain ⟨o, ho, hc, n, hd⟩ := id hl
  unfold collect
  refine wpAny_bind (wpAny_runValue (codeAny_builtin entry_proto_collect' ?_))
  show wpAny _ _ (do again (.builtin "list.__iadd__" ⟨[← newList [], .ref l], []⟩)) _ _ s
  refine wpAny_bind (wpAny_newList (wpAny_pure ⟨Code.quiet_builtin _ (by decide +kernel), codeAny_builtin entry_list_iadd' ?_⟩))
  show wpAny _ _ (Builtin.List.listExtendWith (.ref s.heap.objs.size) (.ref l) (.ref s.heap.objs.size)) _ _ { s with heap := s.heap.push (seqObj "list" #[] 0) }
  unfold Builtin.List.listExtendWith
  have ho' : (s.heap.push (seqObj "list" #[] 0)).get? l = some o := Heap.get?_push_of_some _ ho
  refine wpAny_bind (wpAny_typeOf (T := "tuple") ⟨o, ho', hc⟩ ?_)
  rw [if_pos (by first | decide | rfl | simp)]
  refine wpAny_bind (listItems_at ho' hd ?_)
  refine wpAny_bind (listItems_at (xs := #[]) (n := 0) (Heap.get?_push_size _ rfl) rfl ?_)
  rw [if_neg (by simp)]
  refine wpAny_bind (listUpdate_at (xs := #[]) (n := 0) (Heap.get?_push_size _ rfl) rfl ?_ (Nat.zero_le _) (by show (#[] ++ vs.toArray).size ≤ sizeLine + 1; simp only [Array.size_append, List.size_toArray, List.length_nil]; omega))
  refine wpAny_pure ?_
  show wpAny (model prog w) A (do
      let o ← load s.heap.objs.size
      match o.data with
      | .seq xs _ => pure xs.toList
      | _ => unsupported "internal:collect") Q E { s with heap := (s.heap.push (seqObj "list" #[] 0)).update s.heap.objs.size (Obj.mapSeq (· ++ vs.toArray)) }
  refine wpAny_bind (wpAny_load (get?_update_seq (Heap.get?_push_size _ rfl) _) ?_)
  show wpAny _ _ (pure ((#[] : Array Value) ++ vs.toArray).toList) Q E _
  rw [show ((#[] : Array Value) ++ vs.toArray).toList = vs by simp]
  exact wpAny_pure h
theorem my_sorted_of_sort {l : Addr} {vs : List Value} {kw : List (Str × Value)} {Q : Value → Shared → Prop} (hl : s.heap.IsTuple l vs.toArray) (hL : vs.length ≤ sizeLine) (ha1 : argsOk "sorted" ⟨[.ref l], kw⟩) (ha2 : ∀ x, argsOk "list.sort" ⟨[.ref x], kw⟩)
    (body : ∀ E' : Value → Shared → Prop, wpAny (model prog w) A.in1.in1 (Builtin.«list.sort» ⟨[.ref (s.heap.objs.size + 1)], kw⟩) (fun f s' => f = .done (.ret .none) ∧ Q (.ref (s.heap.objs.size + 1)) s') E' { s with heap := copyHeap s.heap vs }) :
    wpAny (model prog w) A (call (.builtin "sorted") [.ref l] kw) Q E s := by
  refine call_function_entry_kw kind_sorted plain_sorted entry_sorted ha1 ?_
  unfold Builtin.«sorted»
  refine wpAny_bind (m := checkCount "sorted" 1 1 _) (wpAny_pure ?_)
  refine wpAny_bind (my_collect_tuple hl ?_ hL)
  refine wpAny_bind (wpAny_newList ?_ hL)
  have hsz : ((s.heap.push (seqObj "list" #[] 0)).update s.heap.objs.size (Obj.mapSeq (· ++ vs.toArray))).objs.size = s.heap.objs.size + 1 := by
    rw [Heap.size_update, size_push']
  show wpAny _ _ _ _ _ { s with heap := copyHeap s.heap vs }
  rw [hsz]
  refine wpAny_bind (wpAny_holding (wpAny_call_entry_kw slot_list_sort ⟨_, copyHeap_at s.heap vs, rfl⟩ entry_list_sort ?body (ha2 _)))
  case body =>
    show wpAny (model prog w) A.in1.in1 (Builtin.«list.sort» ⟨[.ref (s.heap.objs.size + 1)], kw⟩) _ _ _
    refine wpAny_mono (body _) (fun f s' hf => ?_) fun _ _ e => e
    obtain ⟨rfl, hq⟩ := hf
    exact ⟨_, rfl, wpAny_pure ⟨_, rfl, hq⟩⟩
variable {ds : List PyData} {R : Value → PyData → Prop} {vs : List Value}
theorem my_sorted_seq {kd : Bool} {l : Addr} {Q : Value → Shared → Prop} (hl : if kd = true then s.heap.IsTuple l vs.toArray else s.heap.IsList l vs.toArray) (e : EachIs R vs ds) (er : EachIs (fun v b => ∃ as, Reads s.heap v b as) vs ds) (hal : AllAlike ds) (ht : (∀ d, d ∈ ds → ∃ xs, d = .tuple xs) ∨ ∀ d, d ∈ ds → d ≠ .none ∧ ∀ xs, d ≠ .tuple xs) (hL : ds.length ≤ sizeLine)
    (hu : ∀ b, b ∈ ds → A.units + 2 + b.depth < cLine) (h : ∀ out, out.length = ds.length → EachIs R out (ds.mergeSort (dataLe false id)) → Q (.ref (s.heap.objs.size + 1)) { s with heap := sortedAll s.heap vs (List.toArray out) }) :
    wpAny (model prog w) A (call (.builtin "sorted") [.ref l]) Q E s := by
  have er' : EachIs (fun v b => ∃ as, Reads (sortingHeap (copyHeap s.heap vs) (s.heap.objs.size + 1) vs) v (id b) as) vs ds := er.mono fun _ _ ⟨as, r⟩ => ⟨as, PyProof.Rows.Reads.keeps (fun _ _ => sorting_copy_old) r⟩
  have hid : ds.map id = ds := List.map_id ds
  have S : SortsAt prog w A.in1.in1 { s with heap := sortingHeap (copyHeap s.heap vs) (s.heap.objs.size + 1) vs } (dataKind (sortingHeap (copyHeap s.heap vs) (s.heap.objs.size + 1) vs) ds) vs := by
    rcases ht with ht | hn
    · exact SortsAt.tups (s := { s with heap := sortingHeap (copyHeap s.heap vs) (s.heap.objs.size + 1) vs }) er' hal ht hu
    · exact SortsAt.data (s := { s with heap := sortingHeap (copyHeap s.heap vs) (s.heap.objs.size + 1) vs }) er' hal (.inr hn) hu
  have fin := h (sortVals (dataKind (sortingHeap (copyHeap s.heap vs) (s.heap.objs.size + 1) vs) ds) false vs vs) (by rw [sortVals_length false rfl]; exact e.length) (by
    have := sortVals_data (R := R) false e er' (by rw [hid]; exact hal)
    rw [hid] at this
    exact this)
  have hL' : vs.length ≤ sizeLine := by rw [e.length]; exact hL
  cases kd with
  | true => exact my_sorted_of_sort hl hL' (args_sorted1 _) (fun _ => args_list_sort _) fun _ => list_sort_vals (s := { s with heap := copyHeap s.heap vs }) (copyHeap_at s.heap vs) S hL' ⟨rfl, fin⟩
  | false => exact sorted_vals hl S hL' fin
end
end PySem.W
namespace L2
open PySem PySem.Spec PyProof.Rows PySem.W
section
variable {X : Cx}
/-- sorted(xs), xs a list or a tuple of alike things, ints or tuples -/
def rSortedQ (K : PySem.W.Frag) (kd : Bool) : List V → Hp → VK → Prop := fun vs H Q => ∃ (a : Addr) (xs : List V) (ds : List PyData) (G : Hp), vs = [V.ref a] ∧ (if kd = true then SqT K H a xs else SqL K H a xs) ∧ (∀ v d, Dq G v d → Dp K H v d) ∧ DqAll G xs ds ∧ AllAlike ds ∧ ((∀ d, d ∈ ds → ∃ ys, d = .tuple ys) ∨ ∀ d, d ∈ ds → d ≠ .none ∧ ∀ xs, d ≠ .tuple xs) ∧ (∀ d, d ∈ ds → d.depth ≤ 60) ∧
  ∀ (ys : List V) (p : Addr), DqAll G ys (ds.mergeSort (dataLe false id)) → H p = none → Q (.ref p) (upd H p (.lst ys))
theorem cr_sortedQ (K : PySem.W.Frag) (kd : Bool) (hu : X.A.units + 64 < cLine) (hK : X.K = K := by exact rfl) : CallR X (.builtin "sorted") (rSortedQ K kd) := by
  subst hK
  intro pins s σ H vs us Q I r h
  obtain ⟨a, xs, ds, G, rfl, hs, hG, hd, hal, ht, hdp, q⟩ := h
  have each : ∀ {xs : List V} {ds : List PyData} {its : List Value}, DqAll G xs ds → Vals xs its → EachIs (fun u d => ∃ x, RelV x u ∧ Dq G x d) its ds := by
    intro xs ds its hd
    induction hd using DqAll.rec (motive_1 := fun _ _ _ => True) generalizing its with
    | nil => intro rv; cases rv; exact .nil
    | cons h t _ ih => intro rv; cases rv with | cons r1 r2 => exact .cons ⟨_, r1, h⟩ (ih r2)
    | _ => trivial
  have back : ∀ {out : List Value} {ds : List PyData}, EachIs (fun u d => ∃ x, RelV x u ∧ Dq G x d) out ds → ∃ ys, Vals ys out ∧ DqAll G ys ds := by
    intro out ds e
    induction e with
    | nil => exact ⟨[], .nil, .nil⟩
    | cons h t ih =>
      obtain ⟨x, r1, r2⟩ := h
      obtain ⟨ys, h1, h2⟩ := ih
      exact ⟨x :: ys, .cons r1 h1, .cons r2 h2⟩
  rw [Vals.ref1 r]
  have hlen : xs.length = ds.length := dpAll_len hd
  obtain ⟨its, rv, hl, hz⟩ : ∃ its, Vals xs its ∧ (if kd = true then s.heap.IsTuple a its.toArray else s.heap.IsList a its.toArray) ∧ xs.length ≤ sizeLine := by
    cases kd with
    | true =>
      obtain ⟨its, rv, hl, hz⟩ := I.tuple hs
      obtain ⟨o, h1, h2, n, h3⟩ := hl
      exact ⟨its, rv, ⟨o, h1, h2, n, h3⟩, hz⟩
    | false =>
      obtain ⟨its, rv, hl, hz⟩ := I.list hs
      exact ⟨its, rv, hl.isList, hz⟩
  have e1 := each hd rv
  refine my_sorted_seq hl e1 (e1.mono fun u d ⟨x, r1, r2⟩ => Dp.reads I d x u (hG x d r2) r1) hal ht (by rw [← hlen]; exact hz) (fun d hdm => by have := hdp d hdm; omega) fun out ho eo => ?_
  obtain ⟨ys, h1, h2⟩ := back eo
  obtain ⟨ep, he'⟩ := PyProof.Rows.sortedAll_at s.heap its out.toArray
  have hsz : ys.length ≤ sizeLine := by rw [h1.length, ho, ← hlen]; exact hz
  exact ⟨.ref _, upd H (s.heap.objs.size + 1) (.lst ys), I.laid (t' := s.toks) (fun _ _ => PyProof.Rows.sortedAll_old) (Nat.le_succ _) ⟨hsz, out, ep, h1, by simpa using he'⟩, rfl, q _ _ h2 (I.hok.fresh (Nat.le_succ _))⟩
end
section
variable {K : PySem.W.Frag} {σ : L2.St} {H : Hp} {te : TE} {ds : List PyData}
theorem ed_sortedQ {kd : Bool} (hal : AllAlike ds) (ht : (∀ d, d ∈ ds → ∃ ys, d = .tuple ys) ∨ ∀ d, d ∈ ds → d ≠ .none ∧ ∀ xs, d ≠ .tuple xs) (hdp : ∀ d, d ∈ ds → d.depth ≤ 60) (h : Ed te σ H (if kd = true then .tuple ds else .list ds)) : Ed (tCB (rSortedQ K kd) (tCons te tNil)) σ H (.list (ds.mergeSort (dataLe false id))) :=
  ed_cb (ea_one h) fun O vs H1 o s hv Q q => by
    cases hv with
    | cons h0 t =>
      cases t
      cases kd with
      | true =>
        obtain ⟨p, ys, rfl, hs, hd⟩ := h0.tup_inv
        exact ⟨p, ys, ds, hid O H1, rfl, (hid_sub O H1).seqT hs, fun v d h => (h.mono (hid_sub O H1)).up, hd, hal, ht, hdp, fun zs l hz nl => q _ _ (same_new nl) (dp_newL o nl hz)⟩
      | false =>
        obtain ⟨p, ys, rfl, hs, hd⟩ := h0.lst_inv
        exact ⟨p, ys, ds, hid O H1, rfl, (hid_sub O H1).seq hs, fun v d h => (h.mono (hid_sub O H1)).up, hd, hal, ht, hdp, fun zs l hz nl => q _ _ (same_new nl) (dp_newL o nl hz)⟩
end
end L2

set_option Elab.async false
set_option linter.all false
set_option maxRecDepth 100000
/-! dicts from tuples of ints to data; dict(pairs); max of a tuple of data -/
namespace L2
open PySem PySem.Spec PyProof.Rows PySem.W
theorem inl_inj : ∀ {a b : List Int}, a.map (Sum.inl : Int → Key) = b.map Sum.inl → a = b
  | [], [], _ => rfl
  | [], _ :: _, h => by cases h
  | _ :: _, [], h => by cases h
  | x :: a, y :: b, h => by
    simp only [List.map_cons, List.cons.injEq, Sum.inl.injEq] at h
    rw [h.1, inl_inj h.2]
theorem inl_kV (l : List Int) : (l.map (Sum.inl : Int → Key)).map kV = l.map V.int := by
  rw [List.map_map]; rfl
section
variable {α : Type} {K : PySem.W.Frag} {σ : L2.St} {H H' : Hp} {td ty tk tv : TE} {xs : List α}
inductive KtAll (H : Hp) : List (List Key × V) → List (List Int × PyData) → Prop
  | nil : KtAll H [] []
  | cons {k : List Int} {v : V} {d : PyData} {ks : List (List Key × V)} {kvs : List (List Int × PyData)} : Dq H v d → KtAll H ks kvs → KtAll H ((k.map Sum.inl, v) :: ks) ((k, d) :: kvs)
theorem KtAll.mono (s : Le H H') {ks : List (List Key × V)} {kvs : List (List Int × PyData)} (h : KtAll H ks kvs) : KtAll H' ks kvs := by
  induction h with
  | nil => exact .nil
  | cons d _ ih => exact .cons (d.mono s) ih
theorem KtAll.len {ks : List (List Key × V)} {kvs : List (List Int × PyData)} (h : KtAll H ks kvs) : ks.length = kvs.length := by
  induction h with
  | nil => rfl
  | cons _ _ ih => rw [List.length_cons, List.length_cons, ih]
theorem KtAll.snoc {ks : List (List Key × V)} {kvs : List (List Int × PyData)} {k : List Int} {v : V} {d : PyData} (h : KtAll H ks kvs) (hd : Dq H v d) : KtAll H (ks ++ [(k.map Sum.inl, v)]) (kvs ++ [(k, d)]) := by
  induction h with
  | nil => exact .cons hd .nil
  | cons d _ ih => exact .cons d ih
theorem KtAll.look {ks : List (List Key × V)} {kvs : List (List Int × PyData)} (h : KtAll H ks kvs) (k : List Int) : (valV ks (k.map Sum.inl) = none ∧ k ∉ kvs.map (·.1)) ∨ ∃ v d, valV ks (k.map Sum.inl) = some v ∧ Dq H v d ∧ (k, d) ∈ kvs := by
  induction h with
  | nil => exact .inl ⟨rfl, by simp⟩
  | @cons j v d ks kvs hd _ ih =>
    by_cases e : j = k
    · subst e
      exact .inr ⟨v, d, valV_pos rfl, hd, List.mem_cons_self ..⟩
    · have ne : ¬ (j.map (Sum.inl : Int → Key)) = k.map Sum.inl := fun z => e (inl_inj z)
      rw [valV_neg ne]
      rcases ih with ⟨h1, h2⟩ | ⟨v', d', h1, h2, h3⟩
      · refine .inl ⟨h1, ?_⟩
        rw [List.map_cons, List.mem_cons]
        exact fun z => z.elim (fun z => e z.symm) h2
      · exact .inr ⟨v', d', h1, h2, List.mem_cons_of_mem _ h3⟩
/-- the value is a dict of these -/
def DpT (H : Hp) (v : V) (kvs : List (List Int × PyData)) : Prop := ∃ a ks, v = .ref a ∧ H a = some (.dT ks) ∧ KtAll H ks kvs
theorem DpT.mono {v : V} {kvs : List (List Int × PyData)} (s : Le H H') (h : DpT H v kvs) : DpT H' v kvs := by
  obtain ⟨a, ks, e, h1, h2⟩ := h
  exact ⟨a, ks, e, s.dT h1, h2.mono s⟩
def EdT (te : TE) (σ : L2.St) (H : Hp) (kvs : List (List Int × PyData)) : Prop := ∀ (O : Addr → Prop) (H1 : Hp), Hid O H1 → Le H (hid O H1) → ∀ Q : VK, (∀ v H2, Le H1 H2 → DpT (hid O H2) v kvs → Q v H2) → te σ H1 Q
theorem edt_var {i : Nat} {v : V} {kvs : List (List Int × PyData)} (h : σ[i]? = some (some v)) (hd : DpT H v kvs) : EdT (tVar i) σ H kvs := fun O H1 _ s Q q => ⟨v, h, q v H1 (.refl H1) (hd.mono s)⟩
theorem EdT.mono {te : TE} {kvs : List (List Int × PyData)} (s : Le H H') (h : EdT te σ H kvs) : EdT te σ H' kvs := fun O H1 o e Q q => h O H1 o (s.trans e) Q q
theorem nt_dT {H : Hp} {p : Addr} {xs : List (List Key × V)} (h : H p = some (.dT xs)) : isTupO (H p) = false := by rw [h]; rfl
/-- a key that is data stands there as such -/
theorem Dq.key {G : Hp} {v : V} {k : List Int} (h : Dq G v (dSet k)) : ∃ b, v = .ref b ∧ G b = some (.tup ((k.map (Sum.inl : Int → Key)).map kV)) := by
  obtain ⟨a, xs, rfl, h1, h2⟩ := h.tup_raw
  rw [h2.ints_inv] at h1
  exact ⟨a, rfl, by rw [inl_kV]; exact h1⟩
/-- d[k] -/
theorem ed_dgetT {kvs : List (List Int × PyData)} {k : List Int} {d : PyData} (hk : k ∈ kvs.map (·.1)) (hu : ∀ d', (k, d') ∈ kvs → d' = d) (hd : EdT td σ H kvs) (hy : Ed ty σ H (dSet k)) : Ed (tDGet td ty) σ H d := fun O H1 o s Q q =>
  hd O H1 o s _ fun v H2 s2 hv => hy O H2 (o.mono s2) (s.trans (hid_same s2)) _ fun y H3 s3 hy3 => by
    obtain ⟨a, ks, rfl, h1, h2⟩ := hv.mono (hid_same s3)
    obtain ⟨b, rfl, hb⟩ := hy3.key
    rcases h2.look k with ⟨_, z⟩ | ⟨u, d', e, du, m⟩
    · exact absurd hk z
    · have ed := hu d' m
      subst ed
      refine ⟨a, u, rfl, ?_, q u H3 (s2.trans s3) du⟩
      have := DGet.t (k := k.map Sum.inl) ((hid_sub _ _).dT h1) ((hid_sub _ _).tup hb)
      rw [e] at this
      exact this
/-- k in d -/
theorem ed_dinT {kvs : List (List Int × PyData)} {k : List Int} (hy : Ed ty σ H (dSet k)) (hd : EdT td σ H kvs) : Ed (tDIn ty td) σ H (.bool (decide (k ∈ kvs.map (·.1)))) := fun O H1 o s Q q =>
  hy O H1 o s _ fun y H2 s2 hy2 => hd O H2 (o.mono s2) (s.trans (hid_same s2)) _ fun v H3 s3 hv => by
    obtain ⟨a, ks, rfl, h1, h2⟩ := hv
    obtain ⟨b, rfl, hb⟩ := (hy2.mono (hid_same s3)).key
    have g := DGet.t (k := k.map Sum.inl) ((hid_sub _ _).dT h1) ((hid_sub _ _).tup hb)
    refine ⟨a, _, rfl, g, ?_⟩
    rcases h2.look k with ⟨e, z⟩ | ⟨u, d', e, du, m⟩
    · rw [e]
      have := q (.bl (decide (k ∈ kvs.map (·.1)))) H3 (s2.trans s3) (.bl _)
      simpa [z] using this
    · rw [e]
      have z : k ∈ kvs.map (·.1) := List.mem_map.mpr ⟨_, m, rfl⟩
      have := q (.bl (decide (k ∈ kvs.map (·.1)))) H3 (s2.trans s3) (.bl _)
      simpa [z] using this
/-- d[k] = v, the dict hidden -/
theorem dputT_run {D : Ends} {G : Hp} {O : Addr → Prop} {d : PyData} {k : List Int} {i1 p : Nat} {ks : List (List Key × V)} (hp : σ[i1]? = some (some (.ref p))) (hv : Ed tv σ G d) (hk : Ed ty σ G (dSet k)) (o : Hid O H) (s : Le G (hid O H)) (hH : H p = some (.dT ks)) (hl : ks.length < 100000)
    (kk : ∀ y H2, Le H H2 → Dq (hid O H2) y d → D.nx σ (upd H2 p (.dT (putK ks (k.map Sum.inl) y)))) : sDPut (tVar i1) ty tv D σ H :=
  hv O H o s _ fun y H2 s2 hy => ⟨.ref p, hp, hk O H2 (o.mono s2) (s.trans (hid_same s2)) _ fun u H3 s3 hu => by
    obtain ⟨b, rfl, hb⟩ := hu.key
    exact ⟨p, _, rfl, DPut.t ((s2.trans s3).dT hH) ((hid_sub _ _).tup hb) (Nat.lt_of_lt_of_le hl (by decide)), kk y H3 (s2.trans s3) (hy.mono (hid_same s3))⟩⟩
end
end L2
namespace PySem.W
open PySem PySem.Spec PyProof.Rows
theorem atKey_none {K : Type} [DecidableEq K] {xs : List (K × Addr × Value)} {k : K} (h : k ∉ xs.map (·.1)) : atKey xs k = none := by
  unfold atKey
  rw [Option.map_eq_none_iff, List.find?_eq_none]
  intro x hx z
  exact h (List.mem_map.mpr ⟨x, hx, of_decide_eq_true z⟩)
theorem storedAll_new {K : Type} [DecidableEq K] : ∀ (ps acc : List (K × Addr × Value)), ((acc ++ ps).map (·.1)).Nodup → storedAllH acc ps = acc ++ ps
  | [], acc, _ => by simp [storedAllH]
  | p :: ps, acc, h => by
    have e : storedH acc p.1 p.2.1 p.2.2 = acc ++ [p] := by
      rw [storedH_new (atKey_none fun z => ?_)]
      rw [List.map_append, List.nodup_append] at h
      exact h.2.2 _ z _ (by rw [List.map_cons]; exact List.mem_cons_self ..) rfl
    have := storedAll_new ps (acc ++ [p]) (by rw [List.append_assoc]; exact h)
    unfold storedAllH at this ⊢
    rw [List.foldl_cons, e, this, List.append_assoc]
    rfl
/-- max of a tuple of alike data: the item, and where it stands -/
theorem max_tuple_at {prog : Program} {w : World} {A : Around} {E : Value → Shared → Prop} {s : Shared} {l : Addr} {vs : Array Value} {x : PyData} {xs : List PyData} {as : List Addr} {Q : Value → Shared → Prop} (hh : A.handled = none) (hl : s.heap.IsTuple l vs) (hr : ReadsAll s.heap vs.toList (x :: xs) as) (ha : AlikeAll (x :: xs)) (hu : A.units + 1 + PyData.depthAll (x :: xs) < cLine)
    (h : ∀ (i : Nat) v h' tk, vs[i]? = some v → (x :: xs).getD i .none = maxD x xs → (∀ b o, s.heap.get? b = some o → h'.get? b = some o) → Q v { s with heap := h', toks := tk }) :
    wpAny (model prog w) A (call (.builtin "max") [.ref l]) Q E s := by
  have hn : vs.size = xs.length + 1 := readsAll_len hr
  refine call_max_walkH (iter_tupleW (A := A.in1) hh hl fun s₂ e W st hfp hw hk => ?_)
  refine ⟨_, _, _, _, _, _, _, s.heap, _, rfl, W, st, hfp, by omega, hw, hk, cmpIn_gt (A := A.in1) hr ha (by show A.units + 1 + _ < _; exact hu), fun v s' hP m => ?_⟩
  obtain ⟨h', tk, rfl, hk'⟩ := moved_old e rfl m
  have e1 : vs.size - 1 = xs.length := by omega
  have e2 := (argBest_fold (fun a b => dataLt b a) PyData.none x xs xs.length (Nat.le_refl _)).2
  rw [List.take_length] at e2
  rw [e1] at hP
  exact h _ v h' tk hP e2 hk'
end PySem.W
namespace L2
open PySem PySem.Spec PyProof.Rows PySem.W
section
variable {X : Cx}
/-- max(t), t a tuple of alike data -/
def rMaxT (K : PySem.W.Frag) : List V → Hp → VK → Prop := fun vs H Q => ∃ (a : Addr) (xs : List V) (d : PyData) (ds : List PyData) (R : V → PyData → Prop), vs = [V.ref a] ∧ SqT K H a xs ∧ DpAll K H xs (d :: ds) ∧ AlikeAll (d :: ds) ∧ PyData.depthAll (d :: ds) ≤ 60 ∧
  ∀ i v, xs[i]? = some v → (d :: ds).getD i .none = maxD d ds → Q v H
theorem DpAll.readsA {pins : List (Addr × Obj)} {σ : L2.St} {H : Hp} {s : Shared} (I : Inv X pins σ H s) : ∀ {vs : List V} {ds : List PyData} {us : List Value}, DpAll X.K H vs ds → Vals vs us → ∃ as, ReadsAll s.heap us ds as
  | _, _, _, .nil, r => by cases r; exact ⟨_, .nil⟩
  | _, _, _, .cons h t, r => by
    cases r with
    | cons r1 r2 =>
      obtain ⟨as, e1⟩ := Dp.reads I _ _ _ h r1
      obtain ⟨bs, e2⟩ := DpAll.readsA I t r2
      exact ⟨_, .cons e1 e2⟩
theorem cr_maxT (K : PySem.W.Frag) (hc : X.calm = true) (hu : X.A.units + 64 < cLine) (hK : X.K = K := by exact rfl) : CallR X (.builtin "max") (rMaxT K) := by
  subst hK
  intro pins s σ H vs us Q I r h
  obtain ⟨a, xs, d, ds, R, rfl, hs, hd, hal, hdp, q⟩ := h
  rw [Vals.ref1 r]
  obtain ⟨its, rv, hl, hz⟩ := I.tuple hs
  obtain ⟨o, h1, h2, n, h3⟩ := hl
  obtain ⟨as, hr⟩ := DpAll.readsA I hd rv
  refine max_tuple_at (I.ok.hd hc) (vs := its.toArray) ⟨o, h1, h2, n, h3⟩ (by simpa using hr) hal (by omega) fun i v h' tk e1 e2 k => ?_
  have e1 : its[i]? = some v := by simpa using e1
  have hi : i < xs.length := by
    have := (List.getElem?_eq_some_iff.mp e1).1
    rw [rv.length]; exact this
  have rx : RelV xs[i] v := by
    have key : ∀ {xs : List V} {us : List Value} {i : Nat} (h : i < xs.length) {v : Value}, Vals xs us → us[i]? = some v → RelV xs[i] v := by
      intro xs us i h v r
      induction r generalizing i with
      | nil => exact absurd h (by simp)
      | cons r1 r2 ih =>
        cases i with
        | zero => intro e; cases e; exact r1
        | succ i => intro e; exact ih (by simpa using h) e
    exact key hi rv e1
  exact ⟨xs[i], H, I.kept (t' := tk) k, rx, q i xs[i] (List.getElem?_eq_getElem hi) e2⟩
/-- dict(xs), xs a list of pairs of a tuple of ints and a value, no key twice -/
def rDictT (K : PySem.W.Frag) : List V → Hp → VK → Prop := fun vs H Q => ∃ (a : Addr) (ps : List Addr) (kvs : List (List Key × V)), vs = [V.ref a] ∧ SqL K H a (ps.map V.ref) ∧ Paired (fun p kv => ∃ b, SqT K H p [.ref b, kv.2] ∧ H b = some (.tup (kv.1.map kV))) ps kvs ∧ (kvs.map (·.1)).Nodup ∧
  ∀ p, H p = none → Q (.ref p) (upd H p (.dT kvs))
theorem pairsT_of {pins : List (Addr × Obj)} {σ : St} {H : Hp} {s : Shared} (I : Inv X pins σ H s) : ∀ {ps : List Addr} {kvs : List (List Key × V)}, Paired (fun p kv => ∃ b, SqT X.K H p [.ref b, kv.2] ∧ H b = some (.tup (kv.1.map kV))) ps kvs →
    ∃ prs : List (List Key × Addr × Value), Paired (fun (p : List Key × V) (q : List Key × Addr × Value) => p.1 = q.1 ∧ H q.2.1 = some (.tup (p.1.map kV)) ∧ RelV p.2 q.2.2) kvs prs ∧ prs.length = ps.length ∧ ∀ (j : Nat) (q : List Key × Addr × Value), prs[j]? = some q → ∃ (b : Addr), ps[j]? = some b ∧ IsTup s.heap b #[.ref q.2.1, q.2.2] ∧ H q.2.1 = some (.tup (q.1.map kV))
  | _, _, .nil => ⟨[], .nil, rfl, fun j q e => by simp at e⟩
  | _, _, .cons (a := p) (b := kv) h t => by
    obtain ⟨prs, r, hl, hp⟩ := pairsT_of I t
    obtain ⟨b, h, hb⟩ := h
    obtain ⟨its, rv, ht, _⟩ := I.tuple h
    obtain ⟨u, y, ei, ru, ry⟩ := vals2 rv
    subst ei
    cases (show u = Value.ref b from ru)
    refine ⟨(kv.1, b, y) :: prs, .cons ⟨rfl, hb, ry⟩ r, by rw [List.length_cons, List.length_cons, hl], fun j q e => ?_⟩
    cases j with
    | zero =>
      have e' : (kv.1, b, y) = q := Option.some.inj e
      subst e'
      exact ⟨p, rfl, ht, hb⟩
    | succ j =>
      obtain ⟨b', e1, e2, e3⟩ := hp j q (by simpa using e)
      exact ⟨b', by simpa using e1, e2, e3⟩
theorem cr_dictT (K : PySem.W.Frag) (hcalm : X.calm = true) (hu : X.A.units + 64 < cLine) (hK : X.K = K := by exact rfl) : CallR X (.type "dict") (rDictT K) := by
  subst hK
  intro pins s σ H xs us Q I r q
  obtain ⟨a, ps, kvs, ex, hq, hp, hnd, q⟩ := q
  subst ex
  obtain ⟨u, eu, rx⟩ := vals1 r
  subst eu
  cases rx
  obtain ⟨its, rv, pl, hz⟩ := I.list hq
  have ei := refs_at rv
  subst ei
  rw [List.length_map] at hz
  obtain ⟨prs, rel, hl, hpr⟩ := pairsT_of I hp
  obtain ⟨o, n, ho, hc, hd, hdat⟩ := pl
  have hkeys : prs.map (·.1) = kvs.map (·.1) := by
    clear hpr hl hp hnd q
    induction rel with
    | nil => rfl
    | cons h _ ih => rw [List.map_cons, List.map_cons, ih, h.1]
  have hpl : (prs.map fun x => (Value.ref x.2.1, x.2.2)).length = prs.length := List.length_map _
  have PA := PairArg.list (prog := X.prog) (w := X.w) a (ps.map Value.ref).toArray (fun j => ps.getD j 0) (prs.map fun x => (Value.ref x.2.1, x.2.2))
  refine call_dict_pairsH (knd := tupleKind (mixKind X.prog X.w)) (ps := prs) PA (I.ok.hd hcalm) ?room ⟨⟨o, n, ho, hc, hd, hdat⟩, ?items⟩ ⟨hpl.symm, fun i key v e => ?_⟩ (fun h' hk x hx => ?_) (by rw [hpl, hl]; exact hz) fun h' tk hd' k => ?_
  case room => show X.A.in1.in1.units < cLine; show X.A.units + 2 < cLine; omega
  case items =>
    refine ⟨by rw [hpl]; simp [hl], fun j k v e => ?_⟩
    rw [List.getElem?_map] at e
    obtain ⟨x, hx, e⟩ := Option.map_eq_some_iff.mp e
    obtain ⟨b, e1, e2, e3⟩ := hpr j x hx
    cases e
    refine ⟨?_, .inl ?_⟩
    · simp [List.getD, e1]
    · obtain ⟨o, h1, h2, n, h3⟩ := e2
      show s.heap.IsTuple (ps.getD j 0) _
      rw [show ps.getD j 0 = b by simp [List.getD, e1]]
      exact ⟨o, h1, h2, n, h3⟩
  · rw [PairRel, List.getElem?_map] at e
    obtain ⟨x, hx, e⟩ := Option.map_eq_some_iff.mp e
    cases e
    exact ⟨x.1, x.2.1, hx, rfl⟩
  · obtain ⟨j, hj, ej⟩ := List.getElem_of_mem hx
    obtain ⟨b, e1, e2, e3⟩ := hpr j x (by rw [← ej]; exact List.getElem?_eq_getElem hj)
    have := key_of I.hok e3
    obtain ⟨ob, items, m, g1, g2, g3, g4⟩ := this
    exact ⟨ob, items, m, hk _ _ (Nat.ne_of_lt (Heap.lt_size g1)) (by simp) g1, g2, g3, g4⟩
  · rw [storedAll_new prs [] (by rw [List.nil_append, hkeys]; exact hnd), List.nil_append] at hd'
    have hm : (s.heap.objs.size == sysModules) = false := beq_eq_false_iff_ne.mpr (Nat.ne_of_gt I.big)
    have hlen : kvs.length ≤ sizeLine := by rw [Paired.length rel, hl]; exact hz
    obtain ⟨q', es, ep, hq', h2, h3, h4, _, h5⟩ := hd'
    have k' : ∀ b o, s.heap.get? b = some o → h'.get? b = some o := fun b o e => k b o (by simp) e
    have nH : H s.heap.objs.size = none := I.hok.fresh (Nat.le_refl _)
    exact ⟨.ref s.heap.objs.size, upd H s.heap.objs.size (.dT kvs), I.laid (t' := tk) k' (Nat.le_refl _) (show ObjOk X.prog X.w _ _ _ (.dT kvs) from ⟨hlen, hm, prs, Paired.mapP rel fun p q z => ⟨z.1, by rw [upd_ne (ne_of_none z.2.1 nH)]; exact z.2.1, z.2.2⟩, q', es, ep, hq', h2, h3, h4, h5⟩), rfl, q _ nH⟩
end
end L2

set_option Elab.async false
set_option linter.all false
set_option maxRecDepth 100000
set_option maxHeartbeats 2000000
/-! d.values() of a dict whose keys are tuples -/
namespace L2
open PySem PySem.Spec PyProof.Rows PySem.W
section
variable {X : Cx} {pins : List (Addr × Obj)} {σ : St} {H : Hp} {s : Shared} {d : Addr} {o : Obj}
theorem Inv.frzTV {kvs : List (List Key × V)} (I : Inv X pins σ H s) (h : H d = some (.frz o (.dT kvs))) :
    (d == sysModules) = false ∧ s.heap.get? d = some o ∧ o.ExactDict ∧ ∃ (es : Array DictEntry) (ep : Nat), o.data = .dict es ep ∧ es.size = kvs.length ∧
      ∀ (i : Nat) (k : List Key) (v : V), kvs[i]? = some (k, v) → ∃ (en : DictEntry), es[i]? = some en ∧ RelV v en.val := by
  obtain ⟨hd, z, hs, xs, pr, o', es, ep, ho, hx, hdt, he, _⟩ := I.hok d _ h
  rw [hd] at ho
  cases ho
  refine ⟨hs, hd, hx, es, ep, hdt, ?_, fun i k v e => ?_⟩
  · have l1 : es.size = xs.length := size_of_entries he
    have l2 : kvs.length = xs.length := Paired.length pr
    omega
  · obtain ⟨b, hb, e1, e2, e3⟩ := paired_get pr e
    have q := entry_at he i
    rw [hb] at q
    exact ⟨_, q, e3⟩
end
/-- the values of a locked dict of tuple keys -/
def Itdt (d : Addr) (o : Obj) (kvs : List (List Key × V)) : It :=
  ⟨fun i H => H d = some (.frz o (.dT kvs)) ∧ i < kvs.length, fun i H x H' => H' = H ∧ ∃ k, kvs[i]? = some (k, x), fun i H => H d = some (.frz o (.dT kvs)) ∧ kvs.length ≤ i⟩
theorem walk_valuesT {d : Addr} {o : Obj} {kvs : List (List Key × V)} : Walk (Itdt d o kvs) kvs.length (fun H => H d = some (.frz o (.dT kvs))) (fun i H x H' => H' = H ∧ ∃ k, kvs[i]? = some (k, x)) :=
  ⟨fun _ _ hi q => ⟨q, hi⟩, fun _ q => ⟨q, Nat.le_refl _⟩, fun _ _ _ _ _ _ y => y⟩
section
variable {P : Program} {w : World} {K : PySem.W.Frag} {tg : Expr} {d : Addr} {o : Obj} {es : Array DictEntry} {ep : Nat}
theorem turn_valsT {kvs : List (List Key × V)} (it : Addr) (hod : o.data = .dict es ep) : Turn P w K tg (Itdt d o kvs) [it] it (fun i h => h.IsValIter it d i kvs.length ep) where
  mem := by simp
  obj := fun i h st b hb => by
    have e : b = it := by simpa using hb
    subst e
    obtain ⟨oi, e, c, dd⟩ := st
    exact ⟨oi, e, fun v z => by rw [dd] at z; cases z⟩
  keep := fun i h h' st k => st.at fun oi e => k it (by simp) oi e
  item := by
    intro X hP hw hK hc i pins s σ H E I hf st hg
    subst hP hw hK
    obtain ⟨hd, hi⟩ := hg
    obtain ⟨f0, f1, f2, f3, f4, f5⟩ := hf it (by simp)
    obtain ⟨hs, hgd, hx, es', ep', hdt, hsz, ent⟩ := I.frzTV hd
    obtain ⟨rfl, rfl⟩ := dict_ep hod hdt
    obtain ⟨⟨k, v⟩, hkv⟩ : ∃ p, kvs[i]? = some p := ⟨kvs[i], List.getElem?_eq_getElem hi⟩
    obtain ⟨en, hen, hval⟩ := ent i k v hkv
    rw [← hsz] at st
    obtain ⟨hlt, heq⟩ := Array.getElem?_eq_some_iff.mp hen
    refine wpAny_pyNext_values_item_raw st ⟨o, hgd, hx, hdt⟩ hlt fun h' st' sb => ?_
    have I1 : Inv X pins σ H { s with heap := h' } := I.turned (t' := s.toks) (fun b ob hb e => (sb.2 b hb).trans e) f0 f1 f3 f4 f5
    obtain ⟨oi, e, c, dd⟩ := id st'
    refine ⟨es'[i].val, rfl, go_of (s := { s with heap := h' }) e c dd (by decide) ⟨v, H, I1, by rw [heq]; exact hval, ⟨rfl, k, hkv⟩, ?_, fun b hb => (hf b hb).1⟩⟩
    show h'.IsValIter it d (i + 1) kvs.length _
    rw [← hsz]
    exact st'
  done := by
    intro X hP hw hK hc i pins s σ H E I hf st hg
    subst hP hw hK
    obtain ⟨hd, hi⟩ := hg
    obtain ⟨f0, f1, f2, f3, f4, f5⟩ := hf it (by simp)
    obtain ⟨hs, hgd, hx, es', ep', hdt, hsz, ent⟩ := I.frzTV hd
    obtain ⟨rfl, rfl⟩ := dict_ep hod hdt
    rw [← hsz] at st hi
    exact wpAny_pyNext_values_end_raw (I.ok.hd hc) st ⟨o, hgd, hx, hdt⟩ hi fun h' eb => ⟨rfl, I.turned (t' := s.toks) (fun b ob hb e => eb b ob hb e) f0 f1 f3 f4 f5⟩
  self := fun A i s Q E st h => wpAny_pyIter_valiter st h
end
def iValsT (td : TE) : TI := fun σ H R => td σ H fun x H1 => ∃ d o kvs, x = .ref d ∧ H1 d = some (.frz o (.dT kvs)) ∧ R (Itdt d o kvs) H1
theorem pi_valuesT {X : Cx} {tg e : Expr} {td : TE} {apos cpos : Pos} (he : PE X e td) (hbase : attributeBase e "values" X.env (eval e X.env) = eval e X.env := by rfl) (hline : (apos.endLine == cpos.line) = true := by rfl) : PI X tg (.Call (.Attribute e "values" apos) [] [] cpos) (iValsT td) := by
  refine ⟨fun pins s σ H R I h => ?_⟩
  refine wpAny_Call_method (T := "dict") (id := "dict.values") hbase rfl hline F.plainAttrs_dict F.slot_dict_values F.type_dict_values (thn (he.run pins s σ H _ I h) fun u s1 ⟨x, H1, I1, rx, d, o, kvs, ex, hd, q⟩ => ?_)
  subst ex
  obtain rfl : u = Value.ref d := rx
  obtain ⟨hs, hgd, hx, es, ep, hdt, hsz, ent⟩ := I1.frzTV hd
  have raw : s1.heap.DictRaw d es ep := ⟨o, hgd, hx, hdt⟩
  refine ⟨raw.typeIs, fun a e => by cases e; exact ⟨o, hgd, hx.2.1⟩, ?_⟩
  have I2 : Inv X pins σ H1 { s1 with heap := s1.heap.push { cls := .type "dict_values", data := .fields #[.ref d] } } := I1.kept (t' := s1.toks) fun b ob q => Heap.get?_push_of_some _ q
  have fin : wpAny (model X.prog X.w) X.A (pyIter (.ref s1.heap.objs.size)) (PIE X pins σ tg R) X.xe { s1 with heap := s1.heap.push { cls := .type "dict_values", data := .fields #[.ref d] } } := by
    refine wpAny_pyIter_values_raw (d := d) ⟨_, Heap.get?_push_size _ rfl, rfl, rfl⟩ (raw.at fun ob q => Heap.get?_push_of_some _ q) (pi_one (tk := s1.toks) I2 _ (turn_valsT _ hdt) ⟨_, Heap.get?_push_size _ rfl, rfl, ?_⟩ q)
    rw [hsz] <;> rfl
  show wpAny _ _ (callWith cpos (.builtin "dict.values") [.ref d] [] []) _ X.xe s1
  exact method_meetsIn F.slot_dict_values F.entry_dict_values rfl (PySem.evalArgs_none ⟨rfl, raw.typeIs, F.args_dict_values_1 _, _, meets_dict_values_raw d hs, ⟨_, _, raw⟩, fin⟩)
end L2

set_option Elab.async false
set_option linter.all false
set_option maxRecDepth 100000
/-! x, y = a, b, the pair made -/
namespace L2
open PySem PySem.Spec PyProof.Rows PySem.W
section
variable {K : PySem.W.Frag} {σ : L2.St} {H : Hp}
theorem pair_raw {a : Addr} {xs : List V} (h : H a = some (.tup xs)) : SqT K H a xs := .inl (.inl h)
theorem pairA_seq {A B : TE} {i j : Nat} {rest : TS} {D : Ends} (h : A σ H (fun x H1 => B σ H1 (fun y H2 => [x, y].length ≤ sizeLine ∧ ∀ p, H2 p = none → gTup K 2 (gCons (gName i) (gCons (gName j) gNil)) (.ref p) σ (upd H2 p (.tup [x, y])) (fun σ' H' => rest D σ' H')))) :
    tSeq (tAsg (tTup (tCons A (tCons B tNil))) (gTup K 2 (gCons (gName i) (gCons (gName j) gNil)))) rest D σ H := h
theorem pairA_fin {i j : Nat} {x y : V} {R : L2.St → Hp → Prop} (k : ∀ H', Le H H' → R ((σ.set i (some x)).set j (some y)) H') : [x, y].length ≤ sizeLine ∧ ∀ p, H p = none → gTup K 2 (gCons (gName i) (gCons (gName j) gNil)) (.ref p) σ (upd H p (.tup [x, y])) R :=
  ⟨by show 2 ≤ sizeLine; decide, fun p np => ⟨p, [x, y], rfl, pair_raw upd_same, rfl, x, [y], rfl, y, [], rfl, rfl, k _ (same_new np)⟩⟩
theorem pairA_finS {i j : Nat} {x y : V} {R : L2.St → Hp → Prop} (k : ∀ p, H p = none → R ((σ.set i (some x)).set j (some y)) (upd H p (.tup [x, y]))) : [x, y].length ≤ sizeLine ∧ ∀ p, H p = none → gTup K 2 (gCons (gName i) (gCons (gName j) gNil)) (.ref p) σ (upd H p (.tup [x, y])) R :=
  ⟨by show 2 ≤ sizeLine; decide, fun p np => ⟨p, [x, y], rfl, pair_raw upd_same, rfl, x, [y], rfl, y, [], rfl, rfl, k p np⟩⟩
end
end L2

set_option Elab.async false
set_option linter.all false
set_option maxRecDepth 100000
set_option maxHeartbeats 2000000
/-! tables of sets: a dict with tuples of ints for keys that is walked, while it is locked or not -/
namespace L2
open PySem PySem.Spec PyProof.Rows PySem.W
/-! ### data does not tell of a dict -/
mutual
theorem Dq.but {G K1 : Hp} {a : Addr} (hn : ∀ xs, ¬ SqL [] G a xs) (ht : ∀ xs, G a ≠ some (.tup xs)) (hk : ∀ b, b ≠ a → K1 b = G b) : ∀ {v : V} {d : PyData}, Dq G v d → Dq K1 v d
  | _, _, .non => .non
  | _, _, .bl b => .bl b
  | _, _, .int i => .int i
  | _, _, .str x => .str x
  | _, _, .lst (a := b) (xs := xs) h t => .lst (by
      have ne : b ≠ a := fun e => hn xs (e ▸ h)
      rcases h with h | ⟨_, _, _, h, _⟩
      · exact .inl (by unfold Rd at *; rwa [hk b ne])
      · cases h) (DqAll.but hn ht hk t)
  | _, _, .tup (a := b) (xs := xs) h t => .tup (by rw [hk b fun e => ht xs (e ▸ h)]; exact h) (DqAll.but hn ht hk t)
theorem DqAll.but {G K1 : Hp} {a : Addr} (hn : ∀ xs, ¬ SqL [] G a xs) (ht : ∀ xs, G a ≠ some (.tup xs)) (hk : ∀ b, b ≠ a → K1 b = G b) : ∀ {vs : List V} {ds : List PyData}, DqAll G vs ds → DqAll K1 vs ds
  | _, _, .nil => .nil
  | _, _, .cons h t => .cons (Dq.but hn ht hk h) (DqAll.but hn ht hk t)
end
theorem nosq_dT {G : Hp} {a : Addr} {ks : List (List Key × V)} (h : G a = some (.dT ks)) (xs : List V) : ¬ SqL [] G a xs := by
  rintro ((h' | ⟨_, h'⟩) | ⟨_, _, _, h', _⟩)
  · rw [h] at h'; cases h'
  · rw [h] at h'; cases h'
  · cases h'
theorem nosq_frz {G : Hp} {a : Addr} {od : Obj} {ks : List (List Key × V)} (h : G a = some (.frz od (.dT ks))) (xs : List V) : ¬ SqL [] G a xs := by
  rintro ((h' | ⟨_, h'⟩) | ⟨_, _, _, h', _⟩)
  · rw [h] at h'; cases h'
  · rw [h] at h'; cases h'
  · cases h'
section
variable {G H H' : Hp} {a : Addr} {ks : List (List Key × V)} {kvs : List (List Int × PyData)} {od : Obj} {v : V} {d : PyData}
/-- the heap with the table locked -/
abbrev lockT (G : Hp) (a : Addr) (od : Obj) (ks : List (List Key × V)) : Hp := upd G a (.frz od (.dT ks))
theorem Dq.lock (h : G a = some (.dT ks)) (hd : Dq G v d) : Dq (lockT G a od ks) v d := hd.but (nosq_dT h) (fun xs z => by rw [h] at z; cases z) fun b ne => upd_ne ne
theorem KtAll.but {K1 : Hp} (hn : ∀ xs, ¬ SqL [] G a xs) (ht : ∀ xs, G a ≠ some (.tup xs)) (hk : ∀ b, b ≠ a → K1 b = G b) (h : KtAll G ks kvs) : KtAll K1 ks kvs := by
  induction h with
  | nil => exact .nil
  | cons d _ ih => exact .cons (d.but hn ht hk) ih
theorem KtAll.lock {a' : Addr} {ks' : List (List Key × V)} (h : G a' = some (.dT ks')) (k : KtAll G ks kvs) : KtAll (lockT G a' od ks') ks kvs := k.but (nosq_dT h) (fun xs z => by rw [h] at z; cases z) fun b ne => upd_ne ne
theorem le_upd2 {G1 : Hp} {o : HO} (h : isTupO (G a) = false) (h1 : isTupO (G1 a) = false) (t : isTupO (some o) = false) (ni : ∀ C dx fs, o ≠ .ins C dx fs) (s : Le G G1) : Le (upd G a o) (upd G1 a o) := by
  refine ⟨fun b o' e n => ?_, fun p C dx v1 v2 v3 v4 v5 e => ?_⟩
  · by_cases z : b = a
    · subst z
      rw [upd_same] at e ⊢
      exact e
    · rw [upd_ne z] at e ⊢
      exact s.s b o' e n
  · have z : p ≠ a := fun z => by
      subst z
      rw [upd_same] at e
      cases e
      exact ni _ _ _ rfl
    rw [upd_ne z] at e ⊢
    obtain ⟨w3, w4, w5, e', r⟩ := s.m p C dx v1 v2 v3 v4 v5 e
    exact ⟨w3, w4, w5, e', fun g bs q => by rw [tp_upd h1 t]; rw [tp_upd h t] at q; exact r g bs q⟩
theorem hid_upd_out {O : Addr → Prop} {o : HO} (h : ¬ O a) : hid O (upd H a o) = upd (hid O H) a o := by
  funext b
  by_cases e : b = a
  · subst e
    rw [hid_out h, upd_same, upd_same]
  · rw [upd_ne e]
    unfold hid
    rw [upd_ne e]
theorem le_unlock {o : HO} (h : H a = some (.dT ks)) (s : Le (upd H a o) H') (t : isTupO (some o) = false) (ni : ∀ C dx fs, o ≠ .ins C dx fs) (t' : isTupO (H' a) = false) : Le H (upd H' a (.dT ks)) := by
  have e : upd (upd H a o) a (.dT ks) = H := by
    funext b
    by_cases z : b = a
    · subst z; rw [upd_same, h]
    · rw [upd_ne z, upd_ne z]
  have := le_upd2 (a := a) (o := .dT ks) (by rw [upd_same]; exact t) t' rfl (fun _ _ _ z => nomatch z) s
  rwa [e] at this
/-- an expression that walks a table: all stands as before behind it -/
theorem ed_lock {te : TE} {σ : L2.St} (ha : G a = some (.dT ks)) (h : ∀ od, Ed te σ (lockT G a od ks) d) : Ed (tLockE te) σ G d := fun O H1 o s Q q => by
  have h1 := s.s a _ ha (fun ⟨_, _, _, _, _, _, _, e⟩ => nomatch e)
  have nO : ¬ O a := fun z => by
    rw [hid_in z (by rw [(hid_some h1).1]; rfl)] at h1
    cases h1
  have e1 := (hid_some h1).1
  refine ⟨a, .dT ks, e1, trivial, fun od => h od O (upd H1 a (.frz od (.dT ks))) (fun b hb => ?_) ?_ _ fun v H2 s2 hv => ?_⟩
  · rw [upd_ne (fun z : b = a => nO (by rw [← z]; exact hb))]
    exact o b hb
  · rw [hid_upd_out nO]
    exact le_upd2 (by rw [ha]; rfl) (by rw [h1]; rfl) rfl (fun _ _ _ z => nomatch z) s
  · have e2 : H2 a = some (.frz od (.dT ks)) := s2.s a _ upd_same (fun ⟨_, _, _, _, _, _, _, e⟩ => nomatch e)
    refine ⟨e2, q v _ (le_unlock e1 s2 rfl (fun _ _ _ z => nomatch z) (by rw [e2]; rfl)) ?_⟩
    rw [hid_upd_out nO]
    have e3 : hid O H2 a = some (.frz od (.dT ks)) := by rw [hid_out nO]; exact e2
    exact hv.but (nosq_frz e3) (fun xs z => by rw [e3] at z; cases z) fun b ne => upd_ne ne
/-- the keys of a locked table -/
theorem KtAll.key_at {i : Nat} {k : List Int} (h : KtAll G ks kvs) (e : (kvs.map (·.1))[i]? = some k) : ∃ u d, ks[i]? = some (k.map Sum.inl, u) ∧ kvs[i]? = some (k, d) ∧ Dq G u d := by
  induction h generalizing i with
  | nil => cases e
  | @cons j v d ks kvs hd _ ih =>
    cases i with
    | zero =>
      cases e
      exact ⟨v, d, rfl, rfl, hd⟩
    | succ i => exact ih e
theorem iw_keysT {i j : Nat} {σ : L2.St} (hv : σ[i]? = some (some (.ref a))) (hG : G a = some (.frz od (.dT ks))) (hk : KtAll G ks kvs) : Iw (iKeys (tVar i)) (gName j) σ G (kvs.map (·.1)) (B1 j dSet) := fun O H0 o s R q => by
  have at_ : ∀ {H2 : Hp}, Le (hid O H0) (hid O H2) → H2 a = some (.frz od (.dT ks)) := fun s2 => (hid_some ((s.trans s2).s a _ hG (fun ⟨_, _, _, _, _, _, _, e⟩ => nomatch e))).1
  refine ⟨.ref a, hv, a, od, rfl, .inr ⟨ks, at_ (.refl _), q (Itkt a od ks) H0 (.refl _) (fun n k H2 hx s2 => ?_) fun H2 s2 => ⟨at_ s2, ?_⟩⟩⟩
  · obtain ⟨u, d, e1, e2, _⟩ := hk.key_at hx
    refine ⟨⟨at_ s2, (List.getElem?_eq_some_iff.mp e1).1⟩, fun v H3 ⟨e3, k', u', p, e4, e5, e6⟩ O' σ' Q o' s' kk => ?_⟩
    subst e3
    rw [e1] at e4
    cases e4
    subst e5
    refine kk _ _ (.refl _) ⟨_, rfl, .tup (xs := k.map V.int) ?_ (DqAll.of_ints k)⟩
    rw [hid_tup (by rw [e6]; rfl), e6, inl_kV]
  · rw [hk.len, List.length_map]
    exact Nat.le_refl _
/-- the values of a locked table -/
theorem iw_valsT {i j : Nat} {σ : L2.St} (hv : σ[i]? = some (some (.ref a))) (hG : G a = some (.frz od (.dT ks))) (hk : KtAll G ks kvs) : Iw (iValsT (tVar i)) (gName j) σ G kvs (B1 j (·.2)) := fun O H0 o s R q => by
  have at_ : ∀ {H2 : Hp}, Le (hid O H0) (hid O H2) → H2 a = some (.frz od (.dT ks)) := fun s2 => (hid_some ((s.trans s2).s a _ hG (fun ⟨_, _, _, _, _, _, _, e⟩ => nomatch e))).1
  refine ⟨.ref a, hv, a, od, ks, rfl, at_ (.refl _), q (Itdt a od ks) H0 (.refl _) (fun n k H2 hx s2 => ?_) fun H2 s2 => ⟨at_ s2, ?_⟩⟩
  · obtain ⟨u, d, e1, e2, hd⟩ := hk.key_at (k := k.1) (by rw [List.getElem?_map, hx]; rfl)
    rw [hx] at e2
    have ek : k.2 = d := congrArg Prod.snd (Option.some.inj e2)
    refine ⟨⟨at_ s2, (List.getElem?_eq_some_iff.mp e1).1⟩, fun v H3 ⟨e3, k', e4⟩ O' σ' Q o' s' kk => ?_⟩
    subst e3
    rw [e1] at e4
    cases e4
    refine kk _ _ (.refl _) ⟨_, rfl, ?_⟩
    show Dq _ u k.2
    rw [ek]
    exact hd.mono (s.trans s')
  · rw [hk.len]
    exact Nat.le_refl _
/-- a table, locked or not -/
def DpR (H : Hp) (v : V) (kvs : List (List Int × PyData)) : Prop := ∃ a ks, v = .ref a ∧ Rd H a (.dT ks) ∧ KtAll H ks kvs
theorem DpT.r (h : DpT H v kvs) : DpR H v kvs := by
  obtain ⟨a, ks, e, h1, h2⟩ := h
  exact ⟨a, ks, e, .inl h1, h2⟩
theorem Le.rdT (s : Le H H') (h : Rd H a (.dT ks)) : Rd H' a (.dT ks) := by
  rcases h with h | ⟨o, h⟩
  · exact .inl (s.s a _ h (fun ⟨_, _, _, _, _, _, _, e⟩ => nomatch e))
  · exact .inr ⟨o, s.s a _ h (fun ⟨_, _, _, _, _, _, _, e⟩ => nomatch e)⟩
theorem rd_hid {O : Addr → Prop} {u : HO} (h : Rd (hid O H) a u) : Rd H a u := by
  rcases h with h | ⟨o, h⟩
  · exact .inl (hid_some h).1
  · exact .inr ⟨o, (hid_some h).1⟩
theorem DpR.mono (s : Le H H') (h : DpR H v kvs) : DpR H' v kvs := by
  obtain ⟨a, ks, e, h1, h2⟩ := h
  exact ⟨a, ks, e, s.rdT h1, h2.mono s⟩
/-- d[k], d locked or not -/
theorem ed_dgetR {i : Nat} {σ : L2.St} {ty : TE} {k : List Int} (hv : σ[i]? = some (some v)) (hd : DpR G v kvs) (hk : k ∈ kvs.map (·.1)) (hu : ∀ d', (k, d') ∈ kvs → d' = d) (hy : Ed ty σ G (dSet k)) : Ed (tDGet (tVar i) ty) σ G d := fun O H1 o s Q q =>
  ⟨v, hv, hy O H1 o s _ fun y H3 s3 hy3 => by
    obtain ⟨a, ks, rfl, h1, h2⟩ := (hd.mono s).mono (hid_same s3)
    obtain ⟨b, rfl, hb⟩ := hy3.key
    rcases h2.look k with ⟨_, z⟩ | ⟨u, d', e, du, m⟩
    · exact absurd hk z
    · have ed := hu d' m
      subst ed
      refine ⟨a, u, rfl, ?_, q u H3 s3 du⟩
      rw [← e]
      exact .inr ⟨_, _, b, rd_hid h1, rfl, (hid_sub _ _).tup hb, rfl⟩⟩
/-- len(d) -/
theorem ed_lenT {i : Nat} {σ : L2.St} (hv : σ[i]? = some (some v)) (hd : DpT G v kvs) : Ed (tCB rLenT (tCons (tVar i) tNil)) σ G (.int (kvs.length : Nat)) := fun O H1 o s Q q => by
  obtain ⟨a, ks, rfl, h1, h2⟩ := hd.mono s
  refine ⟨.ref a, hv, ?_⟩
  show ∃ (p : Addr) (kvs : List (List Key × V)), [V.ref a] = [.ref p] ∧ H1 p = some (.dT kvs) ∧ Q (.int ((kvs.length : Nat) : Int)) H1
  refine ⟨a, ks, rfl, (hid_some h1).1, ?_⟩
  rw [h2.len]
  exact q _ H1 (.refl _) (.int _)
end
end L2

set_option Elab.async false
set_option linter.all false
set_option maxRecDepth 100000
namespace K9
open PySem PySem.Spec PyProof.Rows L2 PySem.W MB
/-! ### a source of numbers: a list of three ints -/
theorem shapedInts (ns : List Int) : SeqAt.shaped (.list (ns.map PyData.int)) = true := by
  unfold SeqAt.shaped
  rw [PyData.canLay0, canInts, PyData.depth]
  have := depthInts ns
  simp only [Bool.true_and, decide_eq_true_eq]
  omega
theorem eqvNil' (ls : List PyData) : PyData.eqv (.list ls) (.list []) = ls.isEmpty := by
  cases ls with
  | nil => rfl
  | cons n r => simp [PyData.eqv, PyData.eqvAll]
theorem filt_t {α : Type} (l : List α) : l.filter (fun _ => true) = l := List.filter_eq_self.mpr fun _ _ => rfl
theorem asg1 {te : TE} {d : PyData} {σ : L2.St} {H G : Hp} {Q : VK} {O : Addr → Prop} (h : Ed te σ G d) (o : Hid O H) (s : Le G (hid O H)) (k : ∀ v H2, Le H H2 → Dq (hid O H2) v d → Q v H2) : te σ H Q := h _ _ o s _ k
def Src (H : Hp) (m : Addr) (N : Int) : Prop := ∃ c n l : Int, H m = some (.lst [.int c, .int n, .int l]) ∧ 0 ≤ n ∧ n ≤ N ∧ 0 ≤ l
abbrev XM (m : Addr) : Addr → Prop := fun b => b = m
abbrev KS (m : Addr) (H H' : Hp) : Prop := Le (hid (XM m) H) (hid (XM m) H')
section
variable {m p : Addr} {H H' H1 : Hp} {N : Int} {O : Addr → Prop}
theorem hid_hid (hO : O m) : hid O (hid (XM m) H) = hid O H := funext fun b => by
  cases t : isTupO (H b) with
  | true =>
    have e : hid (XM m) H b = H b := hid_tup t
    rw [hid_tup (O := O) (H := hid (XM m) H) (by rw [e]; exact t), e, hid_tup t]
  | false =>
    by_cases z : O b
    · rw [hid_in (O := O) (H := H) z t]
      by_cases q : b = m
      · rw [hid_in (O := O) (H := hid (XM m) H) z (by rw [hid_in (O := XM m) q t]; rfl)]
      · rw [hid_in (O := O) (H := hid (XM m) H) z (by rw [hid_out (O := XM m) q]; exact t)]
    · have q : ¬ XM m b := fun q => z (by rw [show b = m from q]; exact hO)
      rw [hid_out (O := O) (H := H) z, hid_out (O := O) (H := hid (XM m) H) z, hid_out q]
theorem KS.le (hO : O m) (k : KS m H H') : Le (hid O H) (hid O H') := by
  have := hid_same (O := O) k
  rwa [hid_hid hO, hid_hid hO] at this
theorem KS.of (s : Le H H') : KS m H H' := hid_same s
theorem KS.cell {b : Addr} {o : HO} (k : KS m H H') (h : H b = some o) (ne : b ≠ m) (n : ¬ IsM o) : H' b = some o := by
  have := k.s b o (by rw [hid_out (O := XM m) ne]; exact h) n
  exact (hid_some this).1
theorem KS.lst {b : Addr} {xs : List V} (k : KS m H H') (h : H b = some (.lst xs)) (ne : b ≠ m) : H' b = some (.lst xs) := k.cell h ne fun ⟨_, _, _, _, _, _, _, e⟩ => nomatch e
theorem KS.dK {b : Addr} {xs : List (Key × V)} (k : KS m H H') (h : H b = some (.dK xs)) (ne : b ≠ m) : H' b = some (.dK xs) := k.cell h ne fun ⟨_, _, _, _, _, _, _, e⟩ => nomatch e
theorem Src.at (h : Src H m N) : ∃ o, H m = some o := by
  obtain ⟨c, n, l, h, _⟩ := h
  exact ⟨_, h⟩
theorem Src.hid (h : Src H m N) : Hid (XM m) H := fun b hb => by
  rw [show b = m from hb]
  exact h.at
theorem Src.nt (h : Src H m N) : isTupO (H m) = false := by
  obtain ⟨c, n, l, h, _⟩ := h
  exact nt_lst h
theorem Src.mono (h : Src H m N) (s : Le H H') : Src H' m N := by
  obtain ⟨c, n, l, h, r⟩ := h
  exact ⟨c, n, l, s.lst h, r⟩
theorem Src.le {N' : Int} (h : Src H m N) (e : N ≤ N') : Src H m N' := by
  obtain ⟨c, n, l, h, h0, h1, h2⟩ := h
  exact ⟨c, n, l, h, h0, Int.le_trans h1 e, h2⟩
theorem Src.upd {o : HO} (h : Src H m N) (ne : p ≠ m) : Src (L2.upd H p o) m N := by
  obtain ⟨c, n, l, h, r⟩ := h
  exact ⟨c, n, l, by rw [upd_ne ne.symm]; exact h, r⟩
/-- the source itself changed -/
theorem KS.self {o : HO} (h : isTupO (H m) = false) (t : isTupO (some o) = false) : KS m H (L2.upd H m o) := by
  have e : hid (XM m) (L2.upd H m o) = hid (XM m) H := funext fun b => by
    by_cases z : b = m
    · subst z
      rw [hid_in (O := XM b) (H := L2.upd H b o) rfl (by rw [upd_same]; exact t), hid_in (O := XM b) (H := H) rfl h]
    · rw [hid_out (O := XM m) (H := L2.upd H m o) z, hid_out (O := XM m) (H := H) z, upd_ne z]
  show Le _ _
  rw [e]
  exact .refl _
/-- a cell of one's own changed -/
theorem KS.own {o : HO} (k : KS m H H') (np : H p = none) (t : isTupO (H' p) = false) (ne : p ≠ m) : KS m H (L2.upd H' p o) := by
  show Le _ (hid (XM m) (L2.upd H' p o))
  rw [hid_upd_out (show ¬ XM m p from ne)]
  exact Le.updN k (by rw [hid_out (O := XM m) ne]; exact np) (by rw [hid_out (O := XM m) ne]; exact t)
/-- what was known before one's own cell was made -/
theorem KS.plus (k : KS m H H') (np : H p = none) : Le (hid (XM m) H) (hid (L2.plus (XM m) p) H') := hid_add k (by
  cases e : hid (XM m) H p with
  | none => rfl
  | some o => rw [(hid_some e).1] at np; cases np)
theorem KS.back (k : Le (hid (L2.plus (XM m) p) H) (hid (L2.plus (XM m) p) H')) (h : Le (hid (XM m) H1) (hid (L2.plus (XM m) p) H)) : KS m H1 H' := h.trans (k.trans (hid_plus _ _ _))
theorem Src.ne (h : Src H m N) (np : H p = none) : p ≠ m := fun e => by
  subst e
  obtain ⟨o, e⟩ := h.at
  rw [np] at e
  cases e
end
section
variable {P : Program} {w : World} {K : PySem.W.Frag} {mg : Str → Option Value} {base : Heap}
theorem Le.seqK {a : Addr} {xs : List V} {H H' : Hp} (e : Le H H') (h : SqL K H a xs) : SqL K H' a xs := by
  rcases h with (h | ⟨o, h⟩) | h
  · exact .inl (.inl (e.lst h))
  · exact .inl (.inr ⟨o, e.frz h⟩)
  · exact .inr h
def spSource (K : PySem.W.Frag) : Sp := fun vs H Q _ => ∃ (a : Addr) (ns : List Int) (k : Int), vs = [.ref a, .int k] ∧ SqL K H a (ns.map V.int) ∧ ns.length ≤ 63 ∧ 0 ≤ k ∧ k ≤ 100 ∧ ∀ m H', H m = none → Le H H' → Src H' m (3 * k) → Q (.ref m) H'
theorem ok__law_source (T : Tx K mg) : FnOk P w K mg base CX0 1 T.f__law_source T.fd__law_source ["script", "k"] (spSource K) := by
  refine T.F__law_source.ok sc__law_source (fun vs H Q E h => ?_) (fun cdv A outer s H vs Q E hr h => ?_)
  · obtain ⟨a, ns, k, rfl, _⟩ := h
    rfl
  obtain ⟨a, ns, k, rfl, hS, hl, k0, k1, q⟩ := h
  have hn : Le H (hid N0 H) := by rw [show hid N0 H = H from hid_no H]; exact .refl H
  refine ⟨_, (pss_cons (ps_set (i := 2) sc__law_source.nd rfl (by first | exact .inl rfl | exact .inr rfl) (pe_ifExp (pt_cmpR (ko_neD K (hu64 hr)) (pv 0) (pe_lst pa_nil) (nomark _)) (pe_ix (ki_list K) (pv 0) (pe_op op_mod (pv 1) (pe_callB (kc_len K) (by rfl) T.n_len PySem.boot_len (pa_cons (pv 0) pa_nil))) (fun _ _ => rfl)) pe_int))
      (pss_one (ps_ret (pe_lst (pa_cons (pv 2) (pa_cons (pe_op op_mul pe_int (pv 1)) (pa_cons (pe_ifExp (pt_cmpR op_ge (pv 2) (pe_op op_pow pe_int pe_int) (nomark _)) (pe_op op_fdivW (pv 2) (pe_op op_pow pe_int pe_int)) pe_int) pa_nil))))))), ?_⟩
  -- cell
  have cell : ∃ c : Int, ∀ Q : VK, (∀ H2, Le H H2 → Q (.int c) H2) → (tIf (tTest (tOp (rNeD K) (tVar 0) (tLst tNil))) (tOp (rIxL K) (tVar 0) (tOp (rI (fun _ j => 0 < j) fun i j => V.int (i % j)) (tVar 1) (tCB (fun xs H Q => ∃ p ys, xs = [V.ref p] ∧ (SqL K H p ys ∨ SqT K H p ys) ∧ Q (V.int ys.length) H) (tCons (tVar 0) tNil)))) (tC (.int 1))) [some (.ref a), some (.int k), none] H Q := by
    have test : ∀ (Qb : Bool → Hp → Prop), (∀ H2, Le H H2 → Qb (!ns.isEmpty) H2) → tTest (tOp (rNeD K) (tVar 0) (tLst tNil)) [some (.ref a), some (.int k), none] H Qb := fun Qb qb => by
      refine ⟨.ref a, rfl, by show 0 ≤ sizeLine; decide, fun p np => ⟨.list (ns.map .int), .list [], .lst (Le.seqK (same_new np) hS) (DqAll.of_ints ns).up, (Dq.lst (.inl (.inl upd_same)) .nil).up, shapedInts ns, rfl, ?_⟩⟩
      refine ⟨!ns.isEmpty, by rw [eqvNil', List.isEmpty_map], qb _ (same_new np)⟩
    by_cases e : ns = []
    · refine ⟨1, fun Q q => test _ fun H2 s2 => ?_⟩
      subst e
      exact q H2 s2
    · have pos : 0 < ns.length := List.length_pos_iff.mpr e
      have j0 : 0 ≤ k % (ns.length : Int) := Int.emod_nonneg _ (by omega)
      have j1 : k % (ns.length : Int) < ns.length := Int.emod_lt_of_pos _ (by omega)
      obtain ⟨j, hj⟩ : ∃ j : Nat, k % (ns.length : Int) = (j : Int) := ⟨_, (Int.toNat_of_nonneg j0).symm⟩
      have hjl : j < ns.length := by omega
      have ne : (!ns.isEmpty) = true := by
        cases ns with
        | nil => exact absurd rfl e
        | cons => rfl
      refine ⟨ns[j], fun Q q => test _ fun H2 s2 => ?_⟩
      rw [ne]
      have hS2 := Le.seqK s2 hS
      refine ⟨.ref a, rfl, .int k, rfl, .ref a, rfl, a, _, rfl, .inl hS2, k, _, rfl, rfl, by rw [List.length_map]; omega, a, _, _, .int ns[j], rfl, rfl, hS2, ?_, q H2 s2⟩
      rw [List.length_map, hj]
      exact atI_nat (by rw [List.getElem?_map, List.getElem?_eq_getElem hjl]; rfl)
  obtain ⟨c, hc⟩ := cell
  refine hc _ fun H1 s1 => ?_
  have fin : ∀ (l : Int) (H2 : Hp), Le H H2 → 0 ≤ l → [V.int c, V.int (3 * k), V.int l].length ≤ sizeLine ∧ ∀ p, H2 p = none → Q (.ref p) (L2.upd H2 p (.lst [V.int c, V.int (3 * k), V.int l])) := fun l H2 s2 l0 => ⟨by show 3 ≤ sizeLine; decide, fun p np => q p _ (s2.free np) (s2.trans (same_new np)) ⟨c, 3 * k, l, upd_same, by omega, Int.le_refl _, l0⟩⟩
  refine ⟨.int c, rfl, .int k, rfl, 3, k, rfl, rfl, .inl ⟨by decide, by decide⟩, .int c, rfl, 10, 18, rfl, rfl, ⟨by decide, by decide, by decide⟩, c, _, rfl, rfl, _, rfl, ?_⟩
  refine ite2 (fun e => ?_) (fun e => ?_)
  · have e := of_decide_eq_true e
    refine ⟨.int c, rfl, 10, 18, rfl, rfl, ⟨by decide, by decide, by decide⟩, c, _, rfl, rfl, ⟨by decide, by decide +kernel⟩, ?_⟩
    exact fin _ H1 s1 (Int.ediv_nonneg (Int.le_trans (by decide) e) (by decide))
  · exact fin _ H1 s1 (Int.le_refl _)
def spNx : Sp := fun vs H Q _ => ∃ (m : Addr) (many N : Int), vs = [.ref m, .int many] ∧ Src H m N ∧ N < 1000000 ∧ 0 < many ∧ many < 1000000 ∧ ∀ (r : Int) (H' : Hp), 0 ≤ r → r < many → KS m H H' → Src H' m (N + 1) → Q (.int r) H'
theorem ok__law_next (T : Tx K mg) : FnOk P w K mg base CX0 1 T.f__law_next T.fd__law_next ["source", "many"] spNx := by
  refine T.F__law_next.ok sc__law_next (fun vs H Q E h => ?_) (fun cdv A outer s H vs Q E hr h => ?_)
  · obtain ⟨m, many, N, rfl, _⟩ := h
    rfl
  obtain ⟨m, many, N, rfl, ⟨c, n, l, hm, n0, n1, l0⟩, hN, m0, m1, q⟩ := h
  have hn : ∀ H : Hp, Le H (hid N0 H) := fun H => by rw [show hid N0 H = H from hid_no H]; exact .refl H
  have o0 : ∀ H : Hp, Hid N0 H := fun H b hb => hb.elim
  have src : ∀ {H : Hp} {c n l : Int}, H m = some (.lst [.int c, .int n, .int l]) → Dq H (.ref m) (.list [.int c, .int n, .int l]) := fun h => .lst (.inl (.inl h)) (.cons (.int _) (.cons (.int _) (.cons (.int _) .nil)))
  refine ⟨_, (pss_cons (ps_if (pt_cmpR op_gt (pe_ix (ki_list K) (pv 0) pe_int (fun _ _ => rfl)) pe_int (nomark _)) (pss_cons (ps_set (i := 2) sc__law_next.nd rfl (by first | exact .inl rfl | exact .inr rfl) (pe_op op_mod (pe_callTy call_int1 (by rfl) T.n_int boot_int (pa_cons (pe_ix (ki_list K) (pv 0) pe_int (fun _ _ => rfl)) pa_nil)) (pv 1)))
      (pss_cons (ps_asg (pe_op op_fdiv (pe_ix (ki_list K) (pv 0) pe_int (fun _ _ => rfl)) (pv 1)) (pg_sub (pv 0) pe_int set_list))
      (pss_one (ps_ret (pv 2))))) pss_nil)
      (pss_cons (ps_asg (pe_op op_add (pe_ix (ki_list K) (pv 0) pe_int (fun _ _ => rfl)) pe_int) (pg_sub (pv 0) pe_int set_list))
      (pss_cons (ps_set (i := 3) sc__law_next.nd rfl (by first | exact .inl rfl | exact .inr rfl) (pe_lst (pa_cons pe_int (pa_cons pe_int (pa_cons pe_int (pa_cons pe_int (pa_cons pe_int (pa_cons pe_int (pa_cons pe_int (pa_cons pe_int pa_nil))))))))))
      (pss_cons (ps_set (i := 4) sc__law_next.nd rfl (by first | exact .inl rfl | exact .inr rfl) (pe_ix (ki_list K) (pe_op (ko_catL K) (pv 3) (pe_lst (pa_cons pe_int (pa_cons pe_int (pa_cons pe_int pa_nil))))) (pe_op op_mod (pe_callTy call_int1 (by rfl) T.n_int boot_int (pa_cons (pe_ix (ki_list K) (pv 0) pe_int (fun _ _ => rfl)) pa_nil)) pe_int) (fun _ _ => rfl)))
      (pss_cons (ps_set (i := 5) sc__law_next.nd rfl (by first | exact .inl rfl | exact .inr rfl) (pe_op op_mod (pe_callTy call_int1 (by rfl) T.n_int boot_int (pa_cons (pe_op op_pow (pe_op op_add (pe_op op_add (pe_op op_mod (pe_callTy call_int1 (by rfl) T.n_int boot_int (pa_cons (pe_ix (ki_list K) (pv 0) pe_int (fun _ _ => rfl)) pa_nil)) (pv 4)) (pe_op op_mul pe_int (pe_ix (ki_list K) (pv 0) pe_int (fun _ _ => rfl)))) pe_int) pe_int) pa_nil)) (pv 4)))
      (pss_one (ps_ret (pe_op op_mod (pe_op op_fdiv (pv 5) pe_int) (pv 1))))))))), ?_⟩
  refine if_eb (b := decide (0 < l)) (G := H) (O := N0) (eb_test (ed_B0 (g := fun i j => decide (j < i)) (ed_ixL (n := 2) (ds := [.int c, .int n, .int l]) rfl (ed_var rfl (src hm)) ed_int) ed_int)) (o0 _) (hn _) (fun e H1 s1 => ?_) fun e H1 s1 => ?_
  · have hm1 := s1.lst hm
    refine ⟨.ref m, rfl, m, _, 2, .int l, rfl, rfl, .inl (.inl hm1), atI_nat (j := 2) rfl, .inl ⟨l, rfl, .int many, rfl, l, many, rfl, rfl, m0, ?_⟩⟩
    refine ⟨.ref m, rfl, m, _, 2, .int l, rfl, rfl, .inl (.inl hm1), atI_nat (j := 2) rfl, .int many, rfl, l, many, rfl, rfl, ⟨m0, by omega⟩, .ref m, rfl, m, _, 2, 2, rfl, rfl, hm1, by simp [ixN], ?_⟩
    exact ⟨.int (l % many), rfl, q _ _ (Int.emod_nonneg _ (by omega)) (Int.emod_lt_of_pos _ m0) ((KS.of s1).trans (KS.self (nt_lst hm1) rfl)) ⟨c, n, l / many, upd_same, n0, by omega, Int.ediv_nonneg l0 (by omega)⟩⟩
  · have hm1 := s1.lst hm
    refine ⟨.ref m, rfl, m, _, 1, .int n, rfl, rfl, .inl (.inl hm1), atI_nat (j := 1) rfl, n, 1, rfl, rfl, .ref m, rfl, m, _, 1, 1, rfl, rfl, hm1, by simp [ixN], ?_⟩
    have hm2 : L2.upd H1 m (.lst ([V.int c, V.int n, V.int l].set 1 (.int (n + 1)))) m = some (.lst [V.int c, V.int (n + 1), V.int l]) := upd_same
    have k2 : KS m H (L2.upd H1 m (.lst ([V.int c, V.int n, V.int l].set 1 (.int (n + 1))))) := (KS.of s1).trans (KS.self (nt_lst hm1) rfl)
    generalize L2.upd H1 m (.lst ([V.int c, V.int n, V.int l].set 1 (.int (n + 1)))) = H2 at hm2 k2
    -- primes, prime
    refine asg_ed (G := H2) (O := N0) (d := .list ([2147483647, 2147483629, 2147483587, 2147483579, 2147483563, 2147483549, 2147483543, 2147483497].map .int)) (ed_lst (by show 8 ≤ 1000; decide) (ea_cons ed_int (ea_cons ed_int (ea_cons ed_int (ea_cons ed_int (ea_cons ed_int (ea_cons ed_int (ea_cons ed_int (ea_one ed_int))))))))) (o0 _) (hn _) fun pv H3 s3 hpv => ?_
    have hm3 := s3.lst hm2
    have hpv : Dq H3 pv _ := hpv.mono (hid_sub _ _)
    have j0 : 0 ≤ (n + 1) % 11 := Int.emod_nonneg _ (by decide)
    have j1 : (n + 1) % 11 < 11 := Int.emod_lt_of_pos _ (by decide)
    obtain ⟨j, hj⟩ : ∃ j : Nat, (n + 1) % 11 = (j : Int) := ⟨_, (Int.toNat_of_nonneg j0).symm⟩
    obtain ⟨p, hp, p0, p1⟩ : ∃ p : Int, (([2147483647, 2147483629, 2147483587, 2147483579, 2147483563, 2147483549, 2147483543, 2147483497] : List Int).map PyData.int ++ [.int 2147483489, .int 2147483477, .int 2147483423])[j]? = some (.int p) ∧ 0 < p ∧ p < 2 ^ 31 := by
      have hj11 : j < 11 := by omega
      match j, hj11 with
      | 0, _ => exact ⟨_, rfl, by decide, by decide⟩
      | 1, _ => exact ⟨_, rfl, by decide, by decide⟩
      | 2, _ => exact ⟨_, rfl, by decide, by decide⟩
      | 3, _ => exact ⟨_, rfl, by decide, by decide⟩
      | 4, _ => exact ⟨_, rfl, by decide, by decide⟩
      | 5, _ => exact ⟨_, rfl, by decide, by decide⟩
      | 6, _ => exact ⟨_, rfl, by decide, by decide⟩
      | 7, _ => exact ⟨_, rfl, by decide, by decide⟩
      | 8, _ => exact ⟨_, rfl, by decide, by decide⟩
      | 9, _ => exact ⟨_, rfl, by decide, by decide⟩
      | 10, _ => exact ⟨_, rfl, by decide, by decide⟩
    have emod : ∀ {te tf : TE} {σ : L2.St} {G : Hp} {i j : Int}, 0 < j → Ed te σ G (.int i) → Ed tf σ G (.int j) → Ed (tOp (rI (fun _ j => 0 < j) fun i j => V.int (i % j)) te tf) σ G (.int (i % j)) := fun {te tf σ G i j} h0 h1 h2 => ed_op h1 h2 fun O x y H1 _ _ hx hy Q q => by
      rw [hx.int_inv, hy.int_inv]
      exact ⟨i, j, rfl, rfl, h0, q _ H1 (.refl _) (.int _)⟩
    have eint : ∀ {te : TE} {σ : L2.St} {G : Hp} {i : Int}, Ed te σ G (.int i) → Ed (tCB (fun xs H Q => (∃ i, xs = [V.int i] ∧ Q (V.int i) H) ∨ ∃ k, xs = [V.bl k] ∧ Q (V.int (if k = true then 1 else 0)) H) (tCons te tNil)) σ G (.int i) := fun {te σ G i} h => ed_cb (ea_one h) fun O vs H1 o s hv Q q => by
      cases hv with
      | cons h0 t =>
        cases t
        have e := h0.int_inv
        subst e
        exact .inl ⟨i, rfl, q _ H1 (.refl _) (.int _)⟩
    refine asg_ed (G := H3) (O := N0) (d := .int p) (ed_ixL (n := j) hp (ed_catL (by simp) (ed_var rfl hpv) (ed_lst (by show 3 ≤ 1000; decide) (ea_cons ed_int (ea_cons ed_int (ea_one ed_int))))) (Ed.of (by rw [hj]) (emod (by decide) (eint (ed_ixL (n := 1) (ds := [.int c, .int (n + 1), .int l]) rfl (ed_var rfl (src hm3)) ed_int)) ed_int))) (o0 _) (hn _) fun qv H4 s4 hqv => ?_
    have eq := hqv.int_inv
    subst eq
    have hm4 := s4.lst hm3
    -- mixed
    have c0 : 0 ≤ c % p := Int.emod_nonneg _ (by omega)
    have c1 : c % p < p := Int.emod_lt_of_pos _ p0
    refine ⟨.ref m, rfl, m, _, 0, .int c, rfl, rfl, .inl (.inl hm4), atI_nat (j := 0) rfl, .inl ⟨c, rfl, .int p, rfl, c, p, rfl, rfl, p0, .ref m, rfl, m, _, 1, .int (n + 1), rfl, rfl, .inl (.inl hm4), atI_nat (j := 1) rfl, 7919, n + 1, rfl, rfl, .inl ⟨by decide, by decide⟩, _, _, rfl, rfl, _, 1, rfl, rfl, _, 5, rfl, rfl, ⟨by decide, by decide, by omega⟩, .inl ⟨_, rfl, .int p, rfl, _, p, rfl, rfl, p0, ?_⟩⟩⟩
    refine ⟨.int _, rfl, _, 13, rfl, rfl, ⟨by decide, by decide⟩, .int many, rfl, _, many, rfl, rfl, m0, q _ _ (Int.emod_nonneg _ (by omega)) (Int.emod_lt_of_pos _ m0) (k2.trans (KS.of (s3.trans s4))) ⟨c, n + 1, l, hm4, by omega, by omega, l0⟩⟩
end
end K9

set_option Elab.async false
set_option linter.all false
set_option maxRecDepth 100000
/-! lists of values of any kind; indexes from behind -/
namespace L2
open PySem PySem.Spec PyProof.Rows PySem.W
section
variable {K : PySem.W.Frag} {C : Addr} {te ta tb : TE} {σ : L2.St} {G G' H : Hp} {xs ys : List Vl}
def Ew (C : Addr) (te : TE) (σ : L2.St) (G : Hp) (xs : List Vl) : Prop := ∀ (O : Addr → Prop) (H1 : Hp), Hid O H1 → Le G (hid O H1) → ∀ Q : VK, (∀ p vs H2, Le H1 H2 → SqL K0 (hid O H2) p vs → VrAll C (hid O H2) vs xs → Q (.ref p) H2) → te σ H1 Q
theorem Ew.mono (s : Le G G') (h : Ew C te σ G xs) : Ew C te σ G' xs := fun O H1 o e Q q => h O H1 o (s.trans e) Q q
theorem vr_of_dp : ∀ {vs : List V} {ds : List PyData}, DqAll G vs ds → VrAll C G vs (ds.map .d)
  | _, _, .nil => .nil
  | _, _, .cons h t => .cons (.d h) (vr_of_dp t)
theorem VrAll.append : ∀ {vs ws : List V} {xs ys : List Vl}, VrAll C G vs xs → VrAll C G ws ys → VrAll C G (vs ++ ws) (xs ++ ys)
  | _, _, _, _, .nil, h => h
  | _, _, _, _, .cons h t, k => .cons h (t.append k)
theorem VrAll.at' : ∀ {vs : List V} {xs : List Vl} {i : Nat}, VrAll C G vs xs → i < xs.length → ∃ v x, vs[i]? = some v ∧ xs[i]? = some x ∧ Vr C G v x
  | _, _, 0, .cons h _, _ => ⟨_, _, rfl, rfl, h⟩
  | _, _, i + 1, .cons _ t, hi => by
    obtain ⟨v, x, h1, h2, h3⟩ := t.at' (i := i) (by simpa using hi)
    exact ⟨v, x, h1, h2, h3⟩
theorem new_list {O : Addr → Prop} {H2 : Hp} {p : Addr} {vs : List V} (o : Hid O H2) (np : H2 p = none) : SqL K0 (hid O (upd H2 p (.lst vs))) p vs := .inl (.inl (by rw [hid_out (o.new np), upd_same]))
theorem ew_lst {a : TA} (hl : xs.length ≤ 1000) (h : Ex C a σ G xs) : Ew C (tLst a) σ G xs := fun O H1 o s Q q =>
  h O H1 o s _ fun vs H2 s2 hv => ⟨by rw [hv.len]; exact Nat.le_trans hl (by decide), fun p np => q p vs _ (s2.trans (same_new np)) (new_list (o.mono s2) np) (hv.mono (hid_same (same_new np)))⟩
theorem ew_ed {ds : List PyData} (h : Ed te σ G (.list ds)) : Ew C te σ G (ds.map .d) := fun O H1 o s Q q =>
  h O H1 o s _ fun v H2 s2 hv => by
    obtain ⟨a, vs, rfl, hs, hd⟩ := hv.lst_inv
    exact q a vs H2 s2 hs (vr_of_dp hd)
theorem ew_cat (hl : xs.length + ys.length ≤ 100000) (ha : Ew C ta σ G xs) (hb : Ew C tb σ G ys) : Ew C (tOp (rCatL K) ta tb) σ G (xs ++ ys) := fun O H1 o s Q q =>
  ha O H1 o s _ fun p vs H2 s2 hs hv => hb O H2 (o.mono s2) (s.trans (hid_same s2)) _ fun p' ws H3 s3 ht hw => by
    have hs3 : SqL K0 (hid O H3) p vs := (hid_same (O := O) s3).seq hs
    have hv3 := hv.mono (hid_same (O := O) s3)
    have o3 := (o.mono s2).mono s3
    refine ⟨p, p', vs, ws, rfl, rfl, (hid_sub O H3).seq hs3, (hid_sub O H3).seq ht, by rw [hv3.len, hw.len]; exact Nat.le_trans hl (by decide), fun l nl => ?_⟩
    exact q l _ _ (s2.trans (s3.trans (same_new nl))) (new_list o3 nl) ((hv3.append hw).mono (hid_same (same_new nl)))
theorem asg_ew {i : Nat} {D : Ends} {O : Addr → Prop} (h : Ew C te σ G xs) (o : Hid O H) (s : Le G (hid O H)) (k : ∀ p vs H2, Le H H2 → SqL K0 (hid O H2) p vs → VrAll C (hid O H2) vs xs → D.nx (σ.set i (some (.ref p))) H2) : tAsg te (gName i) D σ H :=
  h O H o s _ fun p vs H2 s2 hs hv => k p vs H2 s2 hs hv
theorem ev_dnew : Ev C tDNewK σ G (.k []) := fun O H1 o s Q q p np => q (.ref p) _ (same_new np) (.k (by rw [hid_out (o.new np), upd_same]))
/-- t[-1] -/
theorem ed_ixM1 {ds : List PyData} {d : PyData} (ha : Ed ta σ G (.tuple (ds ++ [d]))) (hb : Ed tb σ G (.int (-1))) : Ed (tOp (rIxT K) ta tb) σ G d :=
  ed_op ha hb fun O x y H1 _ _ hx hy Q q => by
    obtain ⟨a, xs, rfl, hs, hd⟩ := hx.tup_inv
    obtain ⟨v, hv, dv⟩ := hd.get' (i := ds.length) (d := d) (by simp)
    have hl := dpAll_len hd
    rw [List.length_append, List.length_singleton] at hl
    have e : xs = xs.take ds.length ++ [v] := by
      have h1 : xs.take (ds.length + 1) = xs := List.take_of_length_le (by omega)
      rw [List.take_add_one, hv] at h1
      exact h1.symm
    have hat : atI xs (-1) = some v := by
      rw [e]
      exact atI_last _ v
    exact ⟨a, xs, _, v, rfl, hy.int_inv, (hid_sub O H1).seqT hs, hat, q v H1 (.refl _) dv⟩
end
end L2

set_option Elab.async false
set_option linter.all false
set_option maxRecDepth 100000
/-! list comprehensions of values of any kind -/
namespace L2
open PySem PySem.Spec PyProof.Rows PySem.W
section
variable {α : Type} {K : PySem.W.Frag} {C : Addr} {σ : L2.St} {H G : Hp} {wi : TI} {g : TG} {xs : List α} {B : α → St → St → Hp → Prop}
theorem ew_lc {te : TE} {vs : List Nat} (f : α → Vl) (hlen : xs.length ≤ 100000) (hi : Iw wi g σ H xs B)
    (hw : ∀ x σ4 H4, B x (wipe σ vs) σ4 H4 → wipe σ4 vs = wipe σ vs)
    (hb : ∀ x, x ∈ xs → ∀ σ2 H2, Le H H2 → B x (wipe σ vs) σ2 H2 → Ev C te σ2 H2 (f x)) :
    Ew C (tLc wi g tYes te vs) σ H (xs.map f) := by
  intro O H0 o s Q q
  refine hi O H0 o s _ fun J H1 s1 turn stop => ?_
  intro D nD
  have o1 := o.mono s1
  have hOD : ¬ O D := o1.new nD
  have nDh : hid O H1 D = none := by rw [hid_out hOD]; exact nD
  have sD := same_new (o := .lst []) nD
  refine ⟨fun i m H2 => m = xs.length - i ∧ i ≤ xs.length ∧ Le H1 H2 ∧ ∃ acc, H2 D = some (.lst acc) ∧ VrAll C (hid (plus O D) H2) acc ((xs.take i).map f),
    ⟨_, rfl, Nat.zero_le _, sD, [], upd_same, .nil⟩, ?_⟩
  rintro i m H2 ⟨rfl, hil, s2, acc, hD, hacc⟩
  have o2 : Hid (plus O D) H2 := (o1.mono s2).plus hD
  have hlacc : acc.length ≤ xs.length := by
    rw [hacc.len, List.length_map, List.length_take]
    exact Nat.min_le_right _ _
  by_cases hlt : i < xs.length
  · have hx : xs[i]? = some xs[i] := List.getElem?_eq_getElem hlt
    obtain ⟨go, yl⟩ := turn i xs[i] H2 hx (hid_same s2)
    refine .inr ⟨go, fun H' => i + 1 ≤ xs.length ∧ Le H1 H' ∧ ∃ acc, H' D = some (.lst acc) ∧ VrAll C (hid (plus O D) H') acc ((xs.take (i + 1)).map f), fun H' ⟨a1, a2, a3⟩ => ⟨_, ?_, rfl, a1, a2, a3⟩, fun v H3 hy => ?_⟩
    · omega
    refine yl v H3 hy (plus O D) (wipe σ vs) _ o2 (hid_add (hid_same s2) nDh) fun σ4 H4 s4 hB => ⟨hw _ _ _ hB, ?_⟩
    have s14 : Le H1 H4 := s2.trans s4
    have o4 := o2.mono s4
    have sB : Le H (hid (plus O D) H4) := s.trans (hid_same s1) |>.trans (hid_add (hid_same s14) nDh)
    have he := hb xs[i] (List.getElem_mem hlt) σ4 _ sB hB
    have htake : xs.take (i + 1) = xs.take i ++ [xs[i]] := by rw [List.take_add_one, hx]; rfl
    have hD4 : H4 D = some (.lst acc) := s4.lst hD
    unfold tYes
    dsimp only
    rw [if_pos rfl]
    refine he (plus O D) H4 o4 (.refl _) _ fun y H6 s6 hy6 => ?_
    refine ⟨acc, s6.lst hD4, Nat.lt_of_le_of_lt (Nat.le_trans hlacc hlen) (by decide), hlt, (s14.trans s6).updN nD (nt_lst (s6.lst hD4)), acc ++ [y], upd_same, ?_⟩
    rw [hid_upd _ (nt_lst (s6.lst hD4)) rfl, htake, List.map_append]
    exact (hacc.mono (hid_same (s4.trans s6))).append (.cons hy6 .nil)
  · have e : i = xs.length := by omega
    subst e
    rw [List.take_length] at hacc
    refine .inl ⟨stop H2 (hid_same s2), q D acc _ (s1.trans s2) (.inl (.inl ?_)) (hacc.mono (hid_plus _ _ _))⟩
    rw [hid_out hOD]
    exact hD
/-- made[n], a matroid -/
theorem eo_ix {tb : TE} {i p n : Nat} {vs : List V} {ys : List Vl} {gr : List Int} {bs : List (List Int)} (hσ : σ[i]? = some (some (.ref p))) (h : SqL K0 G p vs) (hv : VrAll C G vs ys) (hn : ys[n]? = some (.m gr bs)) (hb : Ed tb σ G (.int (n : Int))) : Eo C (tOp (rIxL K) (tVar i) tb) σ G gr bs := fun O H1 o s Q q =>
  ⟨.ref p, hσ, hb O H1 o s _ fun y H2 s2 hy => by
    have g2 := s.trans (hid_same s2)
    obtain ⟨v, x, h1, h2, h3⟩ := (hv.mono g2).at' (i := n) (List.getElem?_eq_some_iff.mp hn).1
    rw [hn] at h2
    cases h2
    obtain ⟨p', rfl, m⟩ := h3.mt
    exact ⟨p, vs, _, .ref p', rfl, hy.int_inv, (hid_sub O H2).seq (g2.seq h), atI_nat h1, q p' H2 s2 m⟩⟩
end
end L2

set_option Elab.async false
set_option linter.all false
set_option maxRecDepth 100000
/-! comprehensions with two walks; such that change what is known; fresh lists -/
namespace L2
open PySem PySem.Spec PyProof.Rows PySem.W
section
variable {α β : Type} {K : PySem.W.Frag} {wi : TI} {g : TG} {σ : St} {H H' G : Hp} {xs : List α} {B : α → St → St → Hp → Prop}
theorem flat_take {γ : Type} (f : α → List γ) {i : Nat} {x : α} (h : xs[i]? = some x) : ((xs.take i).flatMap f).length + (f x).length ≤ (xs.flatMap f).length := by
  have e : xs = xs.take i ++ x :: xs.drop (i + 1) := by
    obtain ⟨hi, ex⟩ := List.getElem?_eq_some_iff.mp h
    rw [← ex, List.getElem_cons_drop, List.take_append_drop]
  have := congrArg (fun l => (l.flatMap f).length) e
  simp only [List.flatMap_append, List.flatMap_cons, List.length_append] at this
  omega
/-- [elt for .. in .. if .. for .. in .. if ..] -/
theorem ed_lc2 {tt tt1 : TT} {te : TE} {wi1 : TI} {g1 : TG} {vs vs1 : List Nat} (p : α → Bool) (ys : α → List β) (p1 : α → β → Bool) (f : α → β → PyData) (hlen : ((xs.filter p).flatMap fun x => (ys x).filter (p1 x)).length ≤ 100000) (hi : Iw wi g σ H xs B)
    (hw : ∀ x σ4 H4, B x (wipe σ vs) σ4 H4 → wipe σ4 vs = wipe σ vs)
    (hb : ∀ x, x ∈ xs → ∀ σ2 H2, Le H H2 → B x (wipe σ vs) σ2 H2 → Eb tt σ2 H2 (p x) ∧ (p x = true → ∀ H3, Le H2 H3 → ∃ B1 : β → St → St → Hp → Prop, Iw wi1 g1 σ2 H3 (ys x) B1 ∧ (∀ y σ4 H4, B1 y (wipe σ2 vs1) σ4 H4 → wipe σ4 vs1 = wipe σ2 vs1) ∧
      ∀ y, y ∈ ys x → ∀ σ4 H4, Le H3 H4 → B1 y (wipe σ2 vs1) σ4 H4 → Eb tt1 σ4 H4 (p1 x y) ∧ (p1 x y = true → Ed te σ4 H4 (f x y)))) :
    Ed (tLc2 wi g tt wi1 g1 tt1 te vs vs1) σ H (.list ((xs.filter p).flatMap fun x => ((ys x).filter (p1 x)).map (f x))) := by
  intro O H0 o s Q q
  let one : α → List PyData := fun x => if p x = true then ((ys x).filter (p1 x)).map (f x) else []
  have hone : ∀ l : List α, (l.filter p).flatMap (fun x => ((ys x).filter (p1 x)).map (f x)) = l.flatMap one := by
    intro l
    induction l with
    | nil => rfl
    | cons x r ih =>
      rw [List.flatMap_cons, ← ih]
      cases hp : p x with
      | true => rw [List.filter_cons_of_pos hp, List.flatMap_cons]; show _ = (if p x = true then _ else _) ++ _; rw [if_pos hp]
      | false => rw [List.filter_cons_of_neg (by simp [hp])]; show _ = (if p x = true then _ else _) ++ _; rw [if_neg (by simp [hp])]; rfl
  have hfull : (xs.flatMap one).length ≤ 100000 := by
    rw [← hone]
    refine Nat.le_trans (Nat.le_of_eq ?_) hlen
    rw [List.length_flatMap, List.length_flatMap]
    congr 1
    exact List.map_congr_left fun x _ => by rw [List.length_map]
  rw [hone] at q
  refine hi O H0 o s _ fun J H1 s1 turn stop => ?_
  intro D nD
  have o1 := o.mono s1
  have hOD : ¬ O D := o1.new nD
  have nDh : hid O H1 D = none := by rw [hid_out hOD]; exact nD
  have sD := same_new (o := .lst []) nD
  refine ⟨fun i m H2 => m = xs.length - i ∧ i ≤ xs.length ∧ Le H1 H2 ∧ ∃ acc, H2 D = some (.lst acc) ∧ DqAll (hid (plus O D) H2) acc ((xs.take i).flatMap one),
    ⟨_, rfl, Nat.zero_le _, sD, [], upd_same, .nil⟩, ?_⟩
  rintro i m H2 ⟨rfl, hil, s2, acc, hD, hacc⟩
  have o2 : Hid (plus O D) H2 := (o1.mono s2).plus hD
  by_cases hlt : i < xs.length
  · have hx : xs[i]? = some xs[i] := List.getElem?_eq_getElem hlt
    have bound := flat_take one hx
    have hlacc : acc.length = ((xs.take i).flatMap one).length := dpAll_len hacc
    obtain ⟨go, yl⟩ := turn i xs[i] H2 hx (hid_same s2)
    refine .inr ⟨go, fun H' => i + 1 ≤ xs.length ∧ Le H1 H' ∧ ∃ acc, H' D = some (.lst acc) ∧ DqAll (hid (plus O D) H') acc ((xs.take (i + 1)).flatMap one), fun H' ⟨a1, a2, a3⟩ => ⟨_, ?_, rfl, a1, a2, a3⟩, fun v H3 hy => ?_⟩
    · omega
    refine yl v H3 hy (plus O D) (wipe σ vs) _ o2 (hid_add (hid_same s2) nDh) fun σ4 H4 s4 hB => ⟨hw _ _ _ hB, ?_⟩
    have s14 : Le H1 H4 := s2.trans s4
    have o4 := o2.mono s4
    have sB : Le H (hid (plus O D) H4) := s.trans (hid_same s1) |>.trans (hid_add (hid_same s14) nDh)
    obtain ⟨ht, he⟩ := hb xs[i] (List.getElem_mem hlt) σ4 _ sB hB
    have htake : xs.take (i + 1) = xs.take i ++ [xs[i]] := by rw [List.take_add_one, hx]; rfl
    have hnext : (xs.take (i + 1)).flatMap one = (xs.take i).flatMap one ++ one xs[i] := by rw [htake, List.flatMap_append, List.flatMap_cons, List.flatMap_nil, List.append_nil]
    refine ht (plus O D) H4 o4 (.refl _) _ fun H5 s5 => ?_
    have hD5 : H5 D = some (.lst acc) := s5.lst (s4.lst hD)
    have s15 := s14.trans s5
    have o5 := o4.mono s5
    have hacc5 := hacc.mono (hid_same (s4.trans s5))
    cases hp : p xs[i] with
    | true =>
      have eone : one xs[i] = ((ys xs[i]).filter (p1 xs[i])).map (f xs[i]) := if_pos hp
      rw [if_pos rfl]
      obtain ⟨B1, hi1, hw1, hb1⟩ := he hp (hid (plus O D) H5) (hid_same s5)
      refine hi1 (plus O D) H5 o5 (.refl _) _ fun J1 H6 s6 turn1 stop1 => ?_
      have s16 := s15.trans s6
      refine ⟨fun j k H7 => k = (ys xs[i]).length - j ∧ j ≤ (ys xs[i]).length ∧ Le H1 H7 ∧ Le (hid (plus O D) H6) (hid (plus O D) H7) ∧ ∃ acc, H7 D = some (.lst acc) ∧ DqAll (hid (plus O D) H7) acc ((xs.take i).flatMap one ++ (((ys xs[i]).take j).filter (p1 xs[i])).map (f xs[i])),
        ⟨_, rfl, Nat.zero_le _, s16, .refl _, acc, s6.lst hD5, by rw [List.take_zero]; show DqAll _ _ (_ ++ []); rw [List.append_nil]; exact hacc5.mono (hid_same s6)⟩, ?_⟩
      rintro j k H7 ⟨rfl, hjl, s7, g7, acc7, hD7, hacc7⟩
      have o7 : Hid (plus O D) H7 := (o1.mono s7).plus hD7
      by_cases hj : j < (ys xs[i]).length
      · have hyj : (ys xs[i])[j]? = some (ys xs[i])[j] := List.getElem?_eq_getElem hj
        obtain ⟨go1, yl1⟩ := turn1 j _ H7 hyj g7
        refine .inr ⟨go1, fun H' => j + 1 ≤ (ys xs[i]).length ∧ Le H1 H' ∧ Le (hid (plus O D) H6) (hid (plus O D) H') ∧ ∃ acc, H' D = some (.lst acc) ∧ DqAll (hid (plus O D) H') acc ((xs.take i).flatMap one ++ (((ys xs[i]).take (j + 1)).filter (p1 xs[i])).map (f xs[i])), fun H' ⟨a1, a2, a3, a4⟩ => ⟨_, ?mm, rfl, a1, a2, a3, a4⟩, fun v H8 hy8 => ?bb⟩
        case mm => omega
        refine yl1 v H8 hy8 (plus O D) (wipe σ4 vs1) _ o7 g7 fun σ9 H9 s9 hB9 => ⟨hw1 _ _ _ hB9, ?_⟩
        obtain ⟨ht1, he1⟩ := hb1 _ (List.getElem_mem hj) σ9 _ ((hid_same s6).trans (g7.trans (hid_same s9))) hB9
        have o9 := o7.mono s9
        have hjt : (ys xs[i]).take (j + 1) = (ys xs[i]).take j ++ [(ys xs[i])[j]] := by rw [List.take_add_one, hyj]; rfl
        refine ht1 (plus O D) H9 o9 (.refl _) _ fun Ha sa => ?_
        have hDa : Ha D = some (.lst acc7) := sa.lst (s9.lst hD7)
        cases hp1 : p1 xs[i] (ys xs[i])[j] with
        | true =>
          rw [if_pos rfl]
          refine he1 hp1 (plus O D) Ha (o9.mono sa) (hid_same sa) _ fun y Hb sb hyb => ?_
          have lacc : acc7.length < sizeLine := by
            rw [dpAll_len hacc7, List.length_append, List.length_map]
            have l1 : (((ys xs[i]).take j).filter (p1 xs[i])).length ≤ (one xs[i]).length := by
              rw [eone, List.length_map]
              exact (List.Sublist.filter _ (List.take_sublist _ _)).length_le
            have : (100000 : Nat) < sizeLine := by decide
            omega
          have s7b := s9.trans (sa.trans sb)
          have up := hid_upd O (D := D) (H := Hb) (o := .lst (acc7 ++ [y])) (nt_lst (sb.lst hDa)) rfl
          refine ⟨acc7, sb.lst hDa, lacc, hj, (s7.trans s7b).updN nD (nt_lst (sb.lst hDa)), ?_, acc7 ++ [y], upd_same, ?_⟩
          · rw [up]
            exact g7.trans (hid_same s7b)
          · rw [up, hjt, List.filter_append, List.map_append, List.filter_cons, if_pos hp1, ← List.append_assoc]
            exact (hacc7.mono (hid_same s7b)).append (.cons hyb .nil)
        | false =>
          rw [if_neg (by simp)]
          refine ⟨hj, s7.trans (s9.trans sa), g7.trans (hid_same (s9.trans sa)), acc7, hDa, ?_⟩
          rw [hjt, List.filter_append, List.filter_cons, if_neg (by simp [hp1]), List.filter_nil, List.append_nil]
          exact hacc7.mono (hid_same (s9.trans sa))
      · have e : j = (ys xs[i]).length := by omega
        subst e
        rw [List.take_length] at hacc7
        refine .inl ⟨stop1 H7 g7, hlt, s7, acc7, hD7, ?_⟩
        rw [hnext, eone]
        exact hacc7
    | false =>
      have eone : one xs[i] = [] := if_neg (by simp [hp])
      rw [if_neg (by simp)]
      refine ⟨hlt, s15, acc, hD5, ?_⟩
      rw [hnext, eone, List.append_nil]
      exact hacc5
  · have e : i = xs.length := by omega
    subst e
    rw [List.take_length] at hacc
    refine .inl ⟨stop H2 (hid_same s2), q _ _ (s1.trans s2) (.lst (.inl (.inl ?_)) (hacc.mono (hid_plus _ _ _)))⟩
    rw [hid_out hOD]
    exact hD
/-- [elt for .. in .. if ..], what the turns do being told: Pv holds ahead of each turn, the list stands at D -/
theorem lcx_run {tt : TT} {te : TE} {vs : List Nat} {O : Addr → Prop} {Q : VK} (hi : Iw wi g σ G xs B) (o : Hid O H) (s : Le G (hid O H))
    (hw : ∀ x σ4 H4, B x (wipe σ vs) σ4 H4 → wipe σ4 vs = wipe σ vs)
    (hp : ∀ H1, Le H H1 → ∀ D, H1 D = none → ∃ Pv : Nat → Hp → Prop, Pv 0 (upd H1 D (.lst [])) ∧ (∀ i H2, i ≤ xs.length → Pv i H2 → Le (hid O H1) (hid O H2)) ∧
      (∀ i x H2, xs[i]? = some x → Pv i H2 → ∃ O' : Addr → Prop, Hid O' H2 ∧ Le (hid O H1) (hid O' H2) ∧
        ∀ σ4 H4, Le H2 H4 → B x (wipe σ vs) σ4 (hid O' H4) → tt σ4 H4 fun b H5 => if b = true then te σ4 H5 fun y H6 => ∃ acc, H6 D = some (.lst acc) ∧ acc.length < sizeLine ∧ Pv (i + 1) (upd H6 D (.lst (acc ++ [y]))) else Pv (i + 1) H5) ∧
      ∀ H2, Pv xs.length H2 → Q (.ref D) H2) : tLc wi g tt te vs σ H Q := by
  refine hi O H o s _ fun J H1 s1 turn stop => ?_
  intro D nD
  obtain ⟨Pv, h0, hk, hs, hd⟩ := hp H1 s1 D nD
  refine ⟨fun i m H2 => m = xs.length - i ∧ i ≤ xs.length ∧ Pv i H2, ⟨_, rfl, Nat.zero_le _, h0⟩, ?_⟩
  rintro i m H2 ⟨rfl, hil, p⟩
  have k := hk i H2 hil p
  by_cases hlt : i < xs.length
  · have hx : xs[i]? = some xs[i] := List.getElem?_eq_getElem hlt
    obtain ⟨go, yl⟩ := turn i xs[i] H2 hx k
    obtain ⟨O', o', s', body⟩ := hs i xs[i] H2 hx p
    exact .inr ⟨go, Pv (i + 1), fun H' p' => ⟨_, by omega, rfl, hlt, p'⟩, fun v H3 hy => yl v H3 hy O' (wipe σ vs) _ o' s' fun σ4 H4 s4 hB => ⟨hw _ _ _ hB, body σ4 H4 s4 hB⟩⟩
  · have e : i = xs.length := by omega
    subst e
    exact .inl ⟨stop H2 k, hd H2 p⟩
/-- a comprehension's list is new -/
theorem lc_new {tt : TT} {te : TE} {vs : List Nat} {O : Addr → Prop} {Q : VK} (p : α → Bool) (f : α → PyData) (hlen : xs.length ≤ 100000) (hi : Iw wi g σ G xs B) (o : Hid O H) (s : Le G (hid O H))
    (hw : ∀ x σ4 H4, B x (wipe σ vs) σ4 H4 → wipe σ4 vs = wipe σ vs)
    (hb : ∀ x, x ∈ xs → ∀ σ2 H2, Le G H2 → B x (wipe σ vs) σ2 H2 → Eb tt σ2 H2 (p x) ∧ (p x = true → Ed te σ2 H2 (f x)))
    (q : ∀ D acc H2, H D = none → Le H H2 → H2 D = some (.lst acc) → DqAll (hid (plus O D) H2) acc ((xs.filter p).map f) → Q (.ref D) H2) : tLc wi g tt te vs σ H Q := by
  refine hi O H o s _ fun J H1 s1 turn stop => ?_
  intro D nD
  have o1 := o.mono s1
  have hOD : ¬ O D := o1.new nD
  have nDh : hid O H1 D = none := by rw [hid_out hOD]; exact nD
  have sD := same_new (o := .lst []) nD
  refine ⟨fun i m H2 => m = xs.length - i ∧ i ≤ xs.length ∧ Le H1 H2 ∧ ∃ acc, H2 D = some (.lst acc) ∧ DqAll (hid (plus O D) H2) acc (((xs.take i).filter p).map f),
    ⟨_, rfl, Nat.zero_le _, sD, [], upd_same, .nil⟩, ?_⟩
  rintro i m H2 ⟨rfl, hil, s2, acc, hD, hacc⟩
  have o2 : Hid (plus O D) H2 := (o1.mono s2).plus hD
  have hlacc : acc.length ≤ xs.length := by
    rw [dpAll_len hacc, List.length_map]
    exact Nat.le_trans (List.length_filter_le _ _) (by rw [List.length_take]; exact Nat.min_le_right _ _)
  by_cases hlt : i < xs.length
  · have hx : xs[i]? = some xs[i] := List.getElem?_eq_getElem hlt
    obtain ⟨go, yl⟩ := turn i xs[i] H2 hx (hid_same s2)
    refine .inr ⟨go, fun H' => i + 1 ≤ xs.length ∧ Le H1 H' ∧ ∃ acc, H' D = some (.lst acc) ∧ DqAll (hid (plus O D) H') acc (((xs.take (i + 1)).filter p).map f), fun H' ⟨a1, a2, a3⟩ => ⟨_, ?_, rfl, a1, a2, a3⟩, fun v H3 hy => ?_⟩
    · omega
    refine yl v H3 hy (plus O D) (wipe σ vs) _ o2 (hid_add (hid_same s2) nDh) fun σ4 H4 s4 hB => ⟨hw _ _ _ hB, ?_⟩
    have s14 : Le H1 H4 := s2.trans s4
    have o4 := o2.mono s4
    have sB : Le G (hid (plus O D) H4) := s.trans (hid_same s1) |>.trans (hid_add (hid_same s14) nDh)
    obtain ⟨ht, he⟩ := hb xs[i] (List.getElem_mem hlt) σ4 _ sB hB
    have htake : xs.take (i + 1) = xs.take i ++ [xs[i]] := by rw [List.take_add_one, hx]; rfl
    refine ht (plus O D) H4 o4 (.refl _) _ fun H5 s5 => ?_
    have hD5 : H5 D = some (.lst acc) := s5.lst (s4.lst hD)
    cases hp : p xs[i] with
    | true =>
      rw [if_pos rfl]
      refine he hp (plus O D) H5 (o4.mono s5) (hid_same s5) _ fun y H6 s6 hy6 => ?_
      refine ⟨acc, s6.lst hD5, Nat.lt_of_le_of_lt (Nat.le_trans hlacc hlen) (by decide), hlt, (s14.trans (s5.trans s6)).updN nD (nt_lst (s6.lst hD5)), acc ++ [y], upd_same, ?_⟩
      rw [hid_upd _ (nt_lst (s6.lst hD5)) rfl, htake, List.filter_append, List.map_append, List.filter_cons, if_pos hp]
      exact (hacc.mono (hid_same (s4.trans (s5.trans s6)))).append (.cons hy6 .nil)
    | false =>
      rw [if_neg (by simp)]
      refine ⟨hlt, s14.trans s5, acc, hD5, ?_⟩
      rw [htake, List.filter_append, List.filter_cons, if_neg (by simp [hp]), List.filter_nil, List.append_nil]
      exact hacc.mono (hid_same (s4.trans s5))
  · have e : i = xs.length := by omega
    subst e
    rw [List.take_length] at hacc
    exact .inl ⟨stop H2 (hid_same s2), q D acc H2 (s1.free nD) (s1.trans s2) hD hacc⟩
/-- if .. : what holds behind it, either way -/
theorem if_post {tc : TT} {t u rest : TS} {D : Ends} {O : Addr → Prop} {b : Bool} (Post : St → Hp → Prop) (h : Eb tc σ G b) (o : Hid O H) (s : Le G (hid O H))
    (k1 : b = true → ∀ H2, Le H H2 → ∀ D' : Ends, (∀ σ' H', Post σ' H' → D'.nx σ' H') → t D' σ H2) (k2 : b = false → ∀ H2, Le H H2 → ∀ D' : Ends, (∀ σ' H', Post σ' H' → D'.nx σ' H') → u D' σ H2)
    (k : ∀ σ' H', Post σ' H' → rest D σ' H') : tSeq (tIfS tc t u) rest D σ H := by
  refine if_eb (D := { D with nx := fun σ' H' => rest D σ' H' }) h o s (fun e H2 s2 => k1 e H2 s2 _ k) (fun e H2 s2 => k2 e H2 s2 _ k)
end
/-- xs.pop(i) -/
theorem pop_run {σ : L2.St} {H : Hp} {l : Addr} {xs : List V} {i : Nat} {y : V} {Q : VK} (hl : H l = some (.lst xs)) (hy : xs[i]? = some y) (hn : xs.length < 1000000) (k : Q y (upd H l (.lst (xs.eraseIdx i)))) : rPopAt (.ref l) [.int (i : Int)] H Q := by
  have hi : i < xs.length := (List.getElem?_eq_some_iff.mp hy).1
  refine ⟨l, xs, (i : Int), i, y, rfl, rfl, hl, by omega, by omega, ?_, hy, k⟩
  show (if (0 ≤ (if (i : Int) < 0 then (i : Int) + xs.length else (i : Int)) && decide ((if (i : Int) < 0 then (i : Int) + xs.length else (i : Int)) < xs.length)) = true then some (if (i : Int) < 0 then (i : Int) + xs.length else (i : Int)).toNat else none) = some i
  have e : (if (i : Int) < 0 then (i : Int) + xs.length else (i : Int)) = (i : Int) := if_neg (by omega)
  rw [e, if_pos (by simp; omega)]
  rfl
end L2

set_option Elab.async false
set_option linter.all false
set_option maxRecDepth 100000
namespace K9
open PySem PySem.Spec PyProof.Rows L2 PySem.W MB
/-! ### counting places -/
theorem low_bit : ∀ m : Nat, 0 < m → ∃ b, m.testBit b = true ∧ m &&& (m - 1) = clr m b := by
  intro m
  induction m using Nat.strongRecOn with
  | _ m ih =>
    intro hm
    rcases Nat.mod_two_eq_zero_or_one m with e | e
    · obtain ⟨k, rfl⟩ : ∃ k, m = 2 * k := ⟨m / 2, by omega⟩
      obtain ⟨b, h1, h2⟩ := ih k (by omega) (by omega)
      refine ⟨b + 1, by rw [Nat.testBit_succ, Nat.mul_div_cancel_left k (by decide)]; exact h1, Nat.eq_of_testBit_eq fun i => ?_⟩
      rw [Nat.testBit_and, clr_bit]
      cases i with
      | zero => simp
      | succ i =>
        have e1 : (2 * k).testBit (i + 1) = k.testBit i := by rw [Nat.testBit_succ, Nat.mul_div_cancel_left k (by decide)]
        have e2 : (2 * k - 1).testBit (i + 1) = (k - 1).testBit i := by rw [Nat.testBit_succ]; congr 1; omega
        rw [e1, e2, ← Nat.testBit_and, h2, clr_bit]
        simp
    · refine ⟨0, by rw [Nat.testBit_zero]; simpa using e, Nat.eq_of_testBit_eq fun i => ?_⟩
      rw [Nat.testBit_and, clr_bit]
      cases i with
      | zero =>
        have : (m - 1) % 2 = 0 := by omega
        simp [Nat.testBit_zero, e, this]
      | succ i =>
        have e2 : (m - 1).testBit (i + 1) = m.testBit (i + 1) := by rw [Nat.testBit_succ, Nat.testBit_succ]; congr 1; omega
        rw [e2]
        simp
theorem cnt_low {n m : Nat} (hm : m < 2 ^ n) (h : 0 < m) : (m &&& (m - 1)) < 2 ^ n ∧ (m &&& (m - 1)) < m ∧ MB.cnt n (m &&& (m - 1)) + 1 = MB.cnt n m := by
  obtain ⟨b, h1, h2⟩ := low_bit m h
  rw [h2]
  have hl := clr_lt h1
  exact ⟨Nat.lt_trans hl hm, hl, cnt_clr (lt_bit hm h1) h1⟩
theorem cnt_nil (n : Nat) : cnt n 0 = 0 := by
  rw [cnt_eq, List.filter_eq_nil_iff.mpr]
  · rfl
  · intro k _
    rw [Nat.zero_testBit]
    exact Bool.false_ne_true
/-- all masks of a size -/
abbrev sized (n k : Nat) : List Nat := (List.range (2 ^ n)).filter fun m => decide (cnt n m = k)
theorem mem_sized {n k m : Nat} : m ∈ sized n k ↔ m < 2 ^ n ∧ cnt n m = k := by
  rw [List.mem_filter, List.mem_range, decide_eq_true_eq]
theorem sized_nd (n k : Nat) : (sized n k).Nodup := List.nodup_range.filter _
abbrev vNats (ms : List Nat) : List V := ms.map fun k : Nat => V.int (k : Int)
theorem dq_nats {H : Hp} (ms : List Nat) : DqAll H (vNats ms) (ms.map dNat) := by
  have := DqAll.of_ints (H := H) (ms.map fun k : Nat => (k : Int))
  rw [List.map_map, List.map_map] at this
  exact this
theorem nats_inv {H : Hp} {vs : List V} {ms : List Nat} (h : DqAll H vs (ms.map dNat)) : vs = vNats ms := by
  have e : ms.map dNat = (ms.map fun k : Nat => (k : Int)).map PyData.int := by rw [List.map_map]; rfl
  rw [e] at h
  have := h.ints_inv
  rw [List.map_map] at this
  exact this
theorem vNats_snoc (a : List Nat) (k : Nat) : vNats (a ++ [k]) = vNats a ++ [V.int (k : Int)] := List.map_append
theorem vNats_erase : ∀ (a : List Nat) (j : Nat), (vNats a).eraseIdx j = vNats (a.eraseIdx j)
  | [], _ => by simp
  | _ :: _, 0 => rfl
  | x :: a, j + 1 => by
    show V.int (x : Int) :: (vNats a).eraseIdx j = V.int (x : Int) :: vNats (a.eraseIdx j)
    rw [vNats_erase a j]
theorem perm_erase1 : ∀ {a : List Nat} {j : Nat} (h : j < a.length), (a[j] :: a.eraseIdx j).Perm a
  | [], _, h => by simp at h
  | x :: a, 0, _ => .refl _
  | x :: a, j + 1, h => by
    have hj : j < a.length := by simpa using h
    have ih := perm_erase1 (a := a) (j := j) hj
    show (a[j] :: x :: a.eraseIdx j).Perm (x :: a)
    exact (List.Perm.swap x _ _).trans (ih.cons x)
theorem dnats_ints (ms : List Nat) : dNats ms = .list ((ms.map fun k : Nat => (k : Int)).map .int) := by
  show PyData.list _ = PyData.list _
  rw [List.map_map]
  rfl
theorem shapedNats (ms : List Nat) : SeqAt.shaped (dNats ms) = true := by
  rw [dnats_ints]
  exact shapedInts _
theorem mem_nats {m : Nat} {ms : List Nat} : (m : Int) ∈ ms.map (fun k : Nat => (k : Int)) ↔ m ∈ ms := by
  rw [List.mem_map]
  exact ⟨fun ⟨k, h, e⟩ => by rw [← Int.ofNat_inj.mp e]; exact h, fun h => ⟨m, h, rfl⟩⟩
theorem ed_inN {K : PySem.W.Frag} {ta tb : TE} {σ : L2.St} {G : Hp} {m : Nat} {ms : List Nat} (ha : Ed ta σ G (dNat m)) (hb : Ed tb σ G (dNats ms)) : Ed (tOp (rIn K false) ta tb) σ G (.bool (decide (m ∈ ms))) :=
  Ed.of (congrArg PyData.bool (decide_eq_decide.mpr mem_nats)) (ed_inI (neg := false) ha (.inr (Ed.of (dnats_ints ms) hb)))
theorem ed_notInN {K : PySem.W.Frag} {ta tb : TE} {σ : L2.St} {G : Hp} {m : Nat} {ms : List Nat} (ha : Ed ta σ G (dNat m)) (hb : Ed tb σ G (dNats ms)) : Ed (tOp (rIn K true) ta tb) σ G (.bool (!decide (m ∈ ms))) :=
  Ed.of (congrArg PyData.bool (congrArg (!·) (decide_eq_decide.mpr mem_nats))) (ed_inI (neg := true) ha (.inr (Ed.of (dnats_ints ms) hb)))
section
variable {P : Program} {w : World} {K : PySem.W.Frag} {mg : Str → Option Value} {base : Heap}
def R_count (ds : List PyData) (d : PyData) : Prop := ∃ n m : Nat, ds = [dNat m] ∧ m < 2 ^ n ∧ d = dNat (cnt n m)
theorem ok__law_count (T : Tx K mg) : FnOk P w K mg base CX0 1 T.f__law_count T.fd__law_count ["mask"] (spD K R_count) := by
  refine okD T.F__law_count sc__law_count (fun ds d ⟨_, _, e, _⟩ => by rw [e]; rfl) fun cdv A outer s H E O vs ds d hr o hv r => ?_
  obtain ⟨n, m, rfl, hm, rfl⟩ := r
  obtain ⟨v1, rfl, h1⟩ := dp1 hv
  have e1 := h1.int_inv
  subst e1
  refine ⟨_, (pss_cons (ps_set (i := 1) sc__law_count.nd rfl (by first | exact .inl rfl | exact .inr rfl) pe_int)
      (pss_cons (ps_while PassesOwn.never (pt_cmpR op_gt (pv 0) pe_int (nomark _)) (pss_one (ps_par (i := 1) (j := 0) rfl sc__law_count.nd rfl rfl (by decide) rfl rfl (pa_cons (pe_op op_add (pv 1) pe_int) (pa_cons (pe_op op_and (pv 0) (pe_op op_sub (pv 0) pe_int)) pa_nil)) (by rfl))))
      (pss_one (ps_ret (pv 1))))), fun D q => ?_⟩
  have hn : ∀ H : Hp, Le H (hid N0 H) := fun H => by rw [show hid N0 H = H from hid_no H]; exact .refl H
  refine ⟨fun k σ H1 => ∃ f : Nat, σ = [some (.int (k : Nat)), some (.int (f : Nat))] ∧ k < 2 ^ n ∧ f + cnt n k = cnt n m ∧ Le H H1, ⟨m, 0, rfl, hm, by omega, .refl _⟩, ?_⟩
  rintro k σ H1 ⟨f, rfl, hk, hf, s1⟩
  refine ⟨.int (k : Nat), rfl, _, _, rfl, rfl, _, rfl, ?_⟩
  refine ite2 (fun e => ?_) (fun e => ?_)
  · have pos : 0 < k := by have := of_decide_eq_true e; omega
    obtain ⟨l1, l2, l3⟩ := cnt_low hk pos
    refine ⟨fun σ' H' => ∃ k', k' < k ∧ ∃ f : Nat, σ' = [some (.int (k' : Nat)), some (.int (f : Nat))] ∧ k' < 2 ^ n ∧ f + cnt n k' = cnt n m ∧ Le H H', fun σ' H' h => h, ?_⟩
    refine ⟨.int (f : Nat), rfl, _, _, rfl, rfl, .int (k : Nat), rfl, .int (k : Nat), rfl, _, _, rfl, rfl, _, _, rfl, rfl, _, _, rfl, ?_⟩
    refine ⟨k &&& (k - 1), l2, f + 1, ?_, l1, by omega, s1⟩
    show [some (V.int (Builtin.bitAnd (k : Int) ((k : Int) - 1))), some (V.int ((f : Int) + 1))] = _
    rw [show ((k : Int) - 1) = ((k - 1 : Nat) : Int) by omega, BT.and_nat]
    rfl
  · have z : k = 0 := by
      have : ¬ (0 : Int) < (k : Int) := fun h => e (decide_eq_true h)
      omega
    subst z
    rw [cnt_nil, Nat.add_zero] at hf
    subst hf
    exact ⟨.int ((cnt n m : Nat) : Int), rfl, q _ H1 s1 (.int _)⟩
def R_ranks (ds : List PyData) (d : PyData) : Prop := ∃ (n : Nat) (B : List Nat), ds = [dNat n, dNats B] ∧ n ≤ 10 ∧ B ≠ [] ∧ B.length ≤ 5000 ∧ (∀ b, b ∈ B → b < 2 ^ n) ∧ d = dNats ((List.range (2 ^ n)).map (rankOf n B))
theorem ok__law_ranks (T : Tx K mg) : FnOk P w K mg base CX0 2 T.f__law_ranks T.fd__law_ranks ["many", "bases"] (spD K R_ranks) := by
  refine okD T.F__law_ranks sc__law_ranks (fun ds d ⟨_, _, e, _⟩ => by rw [e]; rfl) fun cdv A outer s H E O vs ds d hr o hv r => ?_
  obtain ⟨n, B, rfl, hn, hne, hB, hlt, rfl⟩ := r
  obtain ⟨v1, v2, rfl, h1, h2⟩ := dp2 hv
  have hp := pow10 hn
  refine ⟨_, (pss_cons (ps_set (i := 2) sc__law_ranks.nd rfl (by first | exact .inl rfl | exact .inr rfl) (pe_lst pa_nil))
      (pss_cons (ps_for PassesOwn.never rfl (pi_range1 (by rfl) T.n_range (pa_cons (pe_op op_shl pe_int (pv 0)) pa_nil)) (pg_name (i := 3) sc__law_ranks.nd rfl (by first | exact .inl rfl | exact .inr rfl))
      (pss_one (ps_expr (pe_bm PySem.F.plainAttrs_list PySem.F.slot_list_append PySem.F.type_list_append mt_append (pv 2) (pa_cons (pe_callB (kc_max K) (by rfl) T.n_max boot_max (pa_cons (pe_lc (own := [("base", 4)]) (g := (gName 4)) (tt := tYes) rfl sc__law_ranks.nd (kp_list K (pv 1)) (blkOk_by (N := ["many", "bases", "found", "mask", "base"]) (sc := defScope s__law_ranks) (by decide +kernel)) (fun _ _ _ _ _ => (pg_name (i := 4) sc__law_ranks.nd rfl (by first | exact .inl rfl | exact .inr rfl))) (fun _ _ _ _ _ => pts_nil) (fun _ _ _ _ _ => (pe_call (ok__law_count T) (hr.mono (by decide)) (by rfl) T.m__law_count T.F__law_count.kp T.b__law_count .nil pass0 (pa_cons (pe_op op_and (pv 3) (pv 4)) pa_nil)))) pa_nil)) pa_nil)))))
      (pss_one (ps_ret (pv 2))))), fun D q => ?_⟩
  refine ⟨by show 0 ≤ sizeLine; decide, fun p np => ?_⟩
  have s1 := same_new (o := .lst []) np
  have nO : ¬ O p := o.new np
  have hp1 : upd H p (.lst []) p = some (.lst []) := upd_same
  have g1 : Le (hid O H) (hid (plus O p) (upd H p (.lst []))) := hid_add (hid_same s1) (by rw [hid_out nO]; exact np)
  generalize upd H p (.lst []) = H1 at s1 hp1 g1
  have o1 : Hid (plus O p) H1 := (o.mono s1).plus hp1
  have h2' := h2.mono g1
  refine for_iw (xs := List.range (2 ^ n)) (G := hid (plus O p) H1) (O := plus O p) (iw_range1 (by omega) (ea_one (ed_bit (by omega) (ed_var rfl (h1.mono g1))))) o1 (.refl _) fun H2 s2 => ?_
  refine ⟨fun i σ H3 => ∃ x, σ = [some v1, some v2, some (.ref p), x, none] ∧ Le H H3 ∧ Le (hid (plus O p) H2) (hid (plus O p) H3) ∧ H3 p = some (.lst (vNats (((List.range (2 ^ n)).take i).map (rankOf n B)))), ⟨none, rfl, s1.trans s2, .refl _, s2.lst hp1⟩, fun i σ H4 _ h4 => by obtain ⟨_, _, _, h, _⟩ := h4; exact h, fun i x σ H3 hx h3 => ?_, fun σ H3 h3 => ?_⟩
  · obtain ⟨x0, rfl, s3, g3, hp3⟩ := h3
    have o3 : Hid (plus O p) H3 := fun b hb => by
      rcases hb with hb | hb
      · exact (o.mono s3) b hb
      · subst hb; exact ⟨_, hp3⟩
    have hi : i < 2 ^ n := by have := (List.getElem?_eq_some_iff.mp hx).1; rwa [List.length_range] at this
    have ex : x = i := by rw [List.getElem?_range hi] at hx; exact (Option.some.inj hx).symm
    subst ex
    refine ⟨plus O p, o3, g3, fun σ4 H4 s4 hB4 => ?_⟩
    obtain ⟨xv, rfl, hxv⟩ := hB4
    have hp4 := s4.lst hp3
    have g4 : Le (hid (plus O p) H1) (hid (plus O p) H4) := (hid_same s2).trans (g3.trans (hid_same s4))
    obtain ⟨y, hy, e⟩ : ∃ b, b ∈ B ∧ rankOf n B x = cnt n (x &&& b) := by
      rcases rank_at n B x with z | z
      · obtain ⟨b, r, rfl⟩ := List.exists_cons_of_ne_nil hne
        refine ⟨b, List.mem_cons_self, ?_⟩
        have := rank_ge (n := n) (m := x) (List.mem_cons_self (a := b) (l := r))
        omega
      · exact z
    refine app_run (G := hid (plus O p) H4) (O := plus O p) (i1 := 2) (d := .int ((rankOf n B x : Nat) : Int)) rfl (ed_max (ns := B.map fun b => ((cnt n (x &&& b) : Nat) : Int)) (m := ((rankOf n B x : Nat) : Int)) (List.mem_map.mpr ⟨y, hy, by rw [e]⟩) (fun z hz => ?_) (Ed.of ?_ (ed_lc (fun _ => true) (fun b : Nat => dNat (cnt n (x &&& b))) (xs := B) (by omega) (iw_list (φ := dNat) (ed_var rfl (h2'.mono g4))) (fun x σ4 H4 ⟨v, e, _⟩ => by subst e; rfl) ?_))) (o3.mono s4) (.refl _) hp4 (by rw [List.length_map, List.length_map]; exact Nat.lt_of_le_of_lt (List.length_take_le' _ _) (by rw [List.length_range]; omega)) fun u H5 s5 hu => ?_
    · obtain ⟨b, hb, rfl⟩ := List.mem_map.mp hz
      exact Int.ofNat_le.mpr (rank_ge hb)
    · rw [filt_t, List.map_map]
      rfl
    · rintro b hb σ2 Ha sa ⟨u, rfl, du⟩
      exact ⟨eb_yes, fun _ => ed_call ⟨n, x &&& b, rfl, Nat.lt_of_le_of_lt Nat.and_le_right (hlt b hb), rfl⟩ (ea_one (ed_andN (ed_var rfl (hxv.mono sa)) (ed_var rfl du)))⟩
    · have eu := hu.int_inv
      subst eu
      have hp5 := s5.lst hp4
      refine ⟨_, rfl, (s3.trans (s4.trans s5)).updN np (nt_lst hp5), ?_, ?_⟩
      · rw [hid_upd O (nt_lst hp5) rfl]
        exact g3.trans (hid_same (s4.trans s5))
      · rw [upd_same, List.take_add_one, hx, List.map_append]
        exact congrArg (fun z => some (HO.lst z)) (vNats_snoc _ _).symm
  · obtain ⟨x0, rfl, s3, g3, hp3⟩ := h3
    rw [List.length_range] at hp3
    rw [List.take_of_length_le (by rw [List.length_range]; omega)] at hp3
    exact ⟨.ref p, rfl, q _ H3 s3 (.lst (.inl (.inl (by rw [hid_out nO]; exact hp3))) (dq_nats _))⟩
def R_sized (ds : List PyData) (d : PyData) : Prop := ∃ n k : Nat, ds = [dNat n, dNat k] ∧ n ≤ 10 ∧ d = dNats (sized n k)
theorem ok__law_sized (T : Tx K mg) : FnOk P w K mg base CX0 2 T.f__law_sized T.fd__law_sized ["many", "size"] (spD K R_sized) := by
  refine okD T.F__law_sized sc__law_sized (fun ds d ⟨_, _, e, _⟩ => by rw [e]; rfl) fun cdv A outer s H E O vs ds d hr o hv r => ?_
  obtain ⟨n, k, rfl, hn, rfl⟩ := r
  obtain ⟨v1, v2, rfl, h1, h2⟩ := dp2 hv
  have hp := pow10 hn
  refine ⟨_, (pss_one (ps_ret (pe_lc (own := [("mask", 2)]) (g := (gName 2)) rfl sc__law_sized.nd (pi_range1 (by rfl) T.n_range (pa_cons (pe_op op_shl pe_int (pv 0)) pa_nil)) (blkOk_by (N := ["many", "size", "mask"]) (sc := defScope s__law_sized) (by decide +kernel)) (fun _ _ _ _ _ => (pg_name (i := 2) sc__law_sized.nd rfl (by first | exact .inl rfl | exact .inr rfl))) (fun _ _ _ _ _ => (pts_one (pt_cmpR op_eq (pe_call (ok__law_count T) (hr.mono (by decide)) (by rfl) T.m__law_count T.F__law_count.kp T.b__law_count .nil pass0 (pa_cons (pv 2) pa_nil)) (pv 1) (nomark _)))) (fun _ _ _ _ _ => (pv 2))))), fun D q => ?_⟩
  refine ret_ed (G := hid O H) (ed_lc (fun m => decide (cnt n m = k)) dNat (xs := List.range (2 ^ n)) (by rw [List.length_range]; omega) (iw_range1 (by omega) (ea_one (ed_bit (by omega) (ed_var rfl h1)))) (fun x σ4 H4 ⟨v, e, _⟩ => by subst e; rfl) ?_) o (.refl _) q
  rintro m hm σ2 Ha sa ⟨u, rfl, du⟩
  exact ⟨Eb.of (decide_eq_decide.mpr Int.ofNat_inj) (eb_test (ed_eqI (ed_call (d := dNat (cnt n m)) ⟨n, m, rfl, List.mem_range.mp hm, rfl⟩ (ea_one (ed_var rfl du))) (ed_var rfl (h2.mono sa)))), fun _ => ed_var rfl du⟩
/-! ### drawn from a row -/
def spPick : Sp := fun vs H Q _ => ∃ (m : Addr) (N : Int) (ds : List PyData) (v2 : V), vs = [.ref m, v2] ∧ Src H m N ∧ N < 1000000 ∧ ds ≠ [] ∧ ds.length < 100000 ∧ Dq (hid (XM m) H) v2 (.list ds) ∧ ∀ v d H', d ∈ ds → KS m H H' → Src H' m (N + 1) → Dq (hid (XM m) H') v d → Q v H'
theorem ok__law_pick (T : Tx K mg) : FnOk P w K mg base CX0 2 T.f__law_pick T.fd__law_pick ["source", "items"] spPick := by
  refine T.F__law_pick.ok sc__law_pick (fun vs H Q E h => ?_) (fun cdv A outer s H vs Q E hr h => ?_)
  · obtain ⟨m, N, ds, v2, rfl, _⟩ := h
    rfl
  obtain ⟨m, N, ds, v2, rfl, hS, hN, hne, hl, h2, q⟩ := h
  refine ⟨_, (pss_one (ps_ret (pe_ix (ki_list K) (pv 1) (pe_call (ok__law_next T) (hr.mono (by decide)) (by rfl) T.m__law_next T.F__law_next.kp T.b__law_next .nil pass0 (pa_cons (pv 0) (pa_cons (pe_callB (kc_len K) (by rfl) T.n_len PySem.boot_len (pa_cons (pv 1) pa_nil)) pa_nil))) (fun _ _ => rfl)))), ?_⟩
  refine ⟨v2, rfl, .ref m, rfl, ?_⟩
  refine asg1 (G := hid (XM m) H) (O := XM m) (ed_len (kd := false) (ed_var rfl h2)) hS.hid (.refl _) fun v Hb sb hv => ?_
  have ev := hv.int_inv
  subst ev
  have pos : 0 < ds.length := List.length_pos_iff.mpr hne
  refine ⟨m, _, _, rfl, hS.mono sb, hN, by omega, by omega, fun j Hc j0 j1 kc Sc => ?_⟩
  obtain ⟨j, rfl⟩ : ∃ i : Nat, j = (i : Int) := ⟨j.toNat, by omega⟩
  have k0 : KS m H Hc := (KS.of sb).trans kc
  have h2c := h2.mono k0
  obtain ⟨a, ys, ea, hys, hdy⟩ := h2c.lst_inv
  have hj : j < ds.length := by omega
  obtain ⟨y, hy, dy⟩ := hdy.get' (List.getElem?_eq_getElem hj)
  exact ⟨a, ys, _, y, ea, rfl, (hid_sub _ _).seq hys, atI_nat hy, q y _ Hc (List.getElem_mem hj) k0 Sc dy⟩
def spTurn : Sp := fun vs H Q _ => ∃ (m : Addr) (N : Int) (ms : List Nat) (v2 : V), vs = [.ref m, v2] ∧ Src H m N ∧ N < 900000 ∧ ms.length ≤ 1100 ∧ Dq (hid (XM m) H) v2 (dNats ms) ∧ ∀ v ms' H', ms'.Perm ms → KS m H H' → Src H' m (N + ms.length) → Dq (hid (XM m) H') v (dNats ms') → Q v H'
theorem ok__law_turned (T : Tx K mg) : FnOk P w K mg base CX0 2 T.f__law_turned T.fd__law_turned ["source", "items"] spTurn := by
  refine T.F__law_turned.ok sc__law_turned (fun vs H Q E h => ?_) (fun cdv A outer s H vs Q E hr h => ?_)
  · obtain ⟨m, N, ms, v2, rfl, _⟩ := h
    rfl
  obtain ⟨m, N, ms, v2, rfl, hS, hN, hl, h2, q⟩ := h
  obtain ⟨a, ys, rfl, hys, hdy⟩ := h2.lst_inv
  have ey := nats_inv hdy
  subst ey
  refine ⟨_, (pss_cons (ps_par (i := 2) (j := 3) rfl sc__law_turned.nd rfl rfl (by decide) rfl rfl (pa_cons (pe_callTy (kc_list K) (by rfl) T.n_list boot_list (pa_cons (pv 1) pa_nil)) (pa_cons (pe_lst pa_nil) pa_nil)) (by rfl))
      (pss_cons (ps_while PassesOwn.never (pt_cmpR (ko_neD K (hu64 hr)) (pv 2) (pe_lst pa_nil) (nomark _)) (pss_one (ps_expr (pe_bm PySem.F.plainAttrs_list PySem.F.slot_list_append PySem.F.type_list_append mt_append (pv 3) (pa_cons (pe_bm PySem.F.plainAttrs_list PySem.F.slot_list_pop PySem.F.type_list_pop mt_popAt (pv 2) (pa_cons (pe_call (ok__law_next T) (hr.mono (by decide)) (by rfl) T.m__law_next T.F__law_next.kp T.b__law_next .nil pass0 (pa_cons (pv 0) (pa_cons (pe_callB (kc_len K) (by rfl) T.n_len PySem.boot_len (pa_cons (pv 2) pa_nil)) pa_nil))) pa_nil)) pa_nil)))))
      (pss_one (ps_ret (pv 3))))), ?_⟩
  refine ⟨.ref a, rfl, a, _, rfl, .inl ((hid_sub _ _).seq hys), fun pl npl => ⟨by show 0 ≤ sizeLine; decide, fun p np => ⟨_, _, rfl, ?_⟩⟩⟩
  have s1 := same_new (o := .lst (vNats ms)) npl
  have s2 := same_new (o := .lst []) np
  have s12 := s1.trans s2
  have npH : H p = none := s1.free np
  have ne : pl ≠ p := fun e => by subst e; rw [upd_same] at np; cases np
  have hl2 := s2.lst (upd_same (H := H) (a := pl) (o := .lst (vNats ms)))
  have hp2 : upd (upd H pl (.lst (vNats ms))) p (.lst []) p = some (.lst []) := upd_same
  have S2 := hS.mono s12
  have plm := hS.ne npl
  have pm := hS.ne npH
  have k2 : KS m H _ := KS.of s12
  generalize upd (upd H pl (.lst (vNats ms))) p (.lst []) = H2 at hl2 hp2 S2 k2
  dsimp only [tNext]
  refine ⟨fun k σ H3 => ∃ (rs fs : List Nat), k = rs.length ∧ σ = [some (.ref m), some (.ref a), some (.ref pl), some (.ref p)] ∧ KS m H H3 ∧ Src H3 m (N + fs.length) ∧ H3 pl = some (.lst (vNats rs)) ∧ H3 p = some (.lst (vNats fs)) ∧ (fs ++ rs).Perm ms,
    ⟨_, ms, [], rfl, rfl, k2, S2.le (by simp), hl2, hp2, .refl _⟩, ?_⟩
  rintro k σ H3 ⟨rs, fs, rfl, rfl, k3, S3, hl3, hp3, perm⟩
  have lens := perm.length_eq
  rw [List.length_append] at lens
  have vis : Dq (hid (XM m) H3) (.ref pl) (dNats rs) := .lst (.inl (.inl (by rw [hid_out (O := XM m) plm]; exact hl3))) (dq_nats _)
  have t0 : Eb (tTest (tOp (rNeD K) (tVar 2) (tLst tNil))) [some (.ref m), some (.ref a), some (.ref pl), some (.ref p)] (hid (XM m) H3) (!rs.isEmpty) := Eb.of (by rw [eqvNil', List.isEmpty_map]) (eb_test (ed_neD (shapedNats rs) rfl (ed_var rfl vis) (ed_lst (by decide) ea_nil)))
  refine t0 (XM m) H3 S3.hid (.refl _) _ fun H4 s4 => ?_
  have hl4 := s4.lst hl3
  have hp4 := s4.lst hp3
  have S4 := S3.mono s4
  have k4 : KS m H H4 := k3.trans (KS.of s4)
  refine ite2 (fun e => ?_) (fun e => ?_)
  rotate_left
  · have hrs : rs = [] := by
      cases rs with
      | nil => rfl
      | cons _ _ => exact absurd rfl e
    subst hrs
    rw [List.append_nil] at perm
    refine ⟨.ref p, rfl, q _ fs H4 perm k4 (S4.le (by rw [List.length_nil, Nat.add_zero] at lens; omega)) (.lst (.inl (.inl (by rw [hid_out (O := XM m) pm]; exact hp4))) (dq_nats _))⟩
  · have pos : 0 < rs.length := List.length_pos_iff.mpr fun z => by rw [z] at e; cases e
    refine ⟨fun σ' H' => ∃ k', k' < rs.length ∧ ∃ (rs fs : List Nat), k' = rs.length ∧ σ' = [some (.ref m), some (.ref a), some (.ref pl), some (.ref p)] ∧ KS m H H' ∧ Src H' m (N + fs.length) ∧ H' pl = some (.lst (vNats rs)) ∧ H' p = some (.lst (vNats fs)) ∧ (fs ++ rs).Perm ms, fun σ' H' h => h, ?_⟩
    refine ⟨.ref p, rfl, .inl ⟨rfl, _, .inl (.inl hp4)⟩, .ref pl, rfl, .inl ⟨rfl, _, .inl (.inl hl4)⟩, .ref m, rfl, ?_⟩
    refine asg1 (G := hid (XM m) H4) (O := XM m) (ed_len (kd := false) (ed_var rfl (vis.mono (hid_same s4)))) S4.hid (.refl _) fun v Hb sb hv => ?_
    have ev := hv.int_inv
    subst ev
    rw [List.length_map]
    refine ⟨m, _, _, rfl, S4.mono sb, by omega, by omega, by omega, fun j Hc j0 j1 kc Sc => ?_⟩
    obtain ⟨j, rfl⟩ : ∃ i : Nat, j = (i : Int) := ⟨j.toNat, by omega⟩
    have hlc := kc.lst (sb.lst hl4) plm
    have hpc := kc.lst (sb.lst hp4) pm
    have kc0 : KS m H Hc := k4.trans ((KS.of sb).trans kc)
    have hj : j < rs.length := by omega
    have hjv : (vNats rs)[j]? = some (V.int (rs[j] : Nat)) := by rw [List.getElem?_map, List.getElem?_eq_getElem hj]; rfl
    refine pop_run (σ := []) hlc hjv (by rw [List.length_map]; omega) ?_
    have kd : KS m H (upd Hc pl (.lst ((vNats rs).eraseIdx j))) := kc0.own npl (nt_lst hlc) plm
    have Sd := Sc.upd (o := .lst ((vNats rs).eraseIdx j)) plm
    have hld : upd Hc pl (.lst ((vNats rs).eraseIdx j)) pl = some (.lst ((vNats rs).eraseIdx j)) := upd_same
    have hpd : upd Hc pl (.lst ((vNats rs).eraseIdx j)) p = some (.lst (vNats fs)) := by rw [upd_ne ne.symm]; exact hpc
    generalize upd Hc pl (.lst ((vNats rs).eraseIdx j)) = Hd at kd Sd hld hpd
    refine ⟨p, _, _, rfl, rfl, hpd, by rw [List.length_map]; exact Nat.lt_of_lt_of_le (show fs.length < 2000 by omega) (by decide), ?_⟩
    refine ⟨(rs.eraseIdx j).length, by rw [List.length_eraseIdx_of_lt hj]; omega, rs.eraseIdx j, fs ++ [rs[j]], rfl, rfl, kd.own npH (nt_lst hpd) pm, (Sd.upd pm).le (by rw [List.length_append]; push_cast; simp; omega), by rw [upd_ne ne, hld, vNats_erase], by rw [upd_same, vNats_snoc], ?_⟩
    refine List.Perm.trans ?_ perm
    rw [List.append_assoc]
    exact List.Perm.append_left fs (perm_erase1 hj)
end
end K9

set_option Elab.async false
set_option linter.all false
set_option maxRecDepth 100000
/-! rank tables: what holds at single steps holds at all sets; their bases -/
namespace MB.RT
structure RankOk (n : Nat) (r : Nat → Int) : Prop where
  zero : r 0 = 0
  unit : ∀ m i, m < 2 ^ n → i < n → r (m ||| 2 ^ i) = r m ∨ r (m ||| 2 ^ i) = r m + 1
  loc : ∀ m i j, m < 2 ^ n → i < n → j < n → r (m ||| 2 ^ i) = r m → r (m ||| 2 ^ j) = r m → r (m ||| 2 ^ i ||| 2 ^ j) = r m
theorem or_swap (m a b : Nat) : m ||| a ||| b = m ||| b ||| a := by rw [Nat.or_assoc, Nat.or_comm a b, ← Nat.or_assoc]
theorem or_in {m i : Nat} (h : m.testBit i = true) : m ||| 2 ^ i = m := Nat.eq_of_testBit_eq fun k => by
  rw [Nat.testBit_or, bit_pow]
  by_cases e : i = k
  · subst e; rw [h]; rfl
  · simp [e]
theorem or_lt {n m i : Nat} (hm : m < 2 ^ n) (hi : i < n) : m ||| 2 ^ i < 2 ^ n := Nat.or_lt_two_pow hm (Nat.pow_lt_pow_right (by decide) hi)
theorem sub_or_l (m x : Nat) : sub m (m ||| x) := sub_iff.mpr fun i h => by rw [Nat.testBit_or, h]; rfl
theorem sub_or {a b c : Nat} (h : sub a c) (k : sub b c) : sub (a ||| b) c := sub_iff.mpr fun i hi => by
  rw [Nat.testBit_or, Bool.or_eq_true] at hi
  exact hi.elim (sub_iff.mp h i) (sub_iff.mp k i)
theorem sub_bit {i m : Nat} (h : m.testBit i = true) : sub (2 ^ i) m := sub_iff.mpr fun k hk => by
  rw [bit_pow, decide_eq_true_eq] at hk
  exact hk ▸ h
theorem or_sub {m x : Nat} (h : sub m x) : m ||| x = x := sub_antisymm (sub_or h (sub_refl x)) (sub_iff.mpr fun i hi => by rw [Nat.testBit_or, hi, Bool.or_true])
theorem or_mono {a b : Nat} (h : sub a b) (x : Nat) : sub (a ||| x) (b ||| x) := sub_or (sub_trans h (sub_or_l b x)) (by rw [Nat.or_comm]; exact sub_or_l x b)
theorem sub_zero (m : Nat) : sub 0 m := sub_iff.mpr fun i h => by rw [Nat.zero_testBit] at h; cases h
theorem cnt_set {n m k : Nat} (hk : k < n) (hm : m.testBit k = false) : cnt n (m ||| 2 ^ k) = cnt n m + 1 := by
  have hb : (m ||| 2 ^ k).testBit k = true := by rw [Nat.testBit_or, bit_pow]; simp
  have e : clr (m ||| 2 ^ k) k = m := Nat.eq_of_testBit_eq fun i => by
    rw [clr_bit, Nat.testBit_or, bit_pow]
    by_cases q : k = i
    · subst q; rw [hm]; simp
    · simp [q]
  have := cnt_clr hk hb
  rw [e] at this
  exact this.symm
theorem cnt_none (n : Nat) : cnt n 0 = 0 := by unfold cnt placesIn; simp
def indR (n : Nat) (r : Nat → Int) (m : Nat) : Prop := r m = (cnt n m : Int)
section
variable {n : Nat} {r : Nat → Int} (R : RankOk n r)
include R
theorem RankOk.next {m i j : Nat} (hm : m < 2 ^ n) (hi : i < n) (hj : j < n) (h : r (m ||| 2 ^ i) = r m) : r (m ||| 2 ^ j ||| 2 ^ i) = r (m ||| 2 ^ j) := by
  rcases R.unit m j hm hj with e | e
  · rw [or_swap, R.loc m i j hm hi hj h e, e]
  · have h1 := R.unit (m ||| 2 ^ j) i (or_lt hm hj) hi
    have h2 := R.unit (m ||| 2 ^ i) j (or_lt hm hi) hj
    rw [or_swap] at h2
    omega
/-- what adds nothing to a set adds nothing to a wider one -/
theorem RankOk.up {m M i : Nat} (hM : M < 2 ^ n) (hi : i < n) (s : sub m M) (h : r (m ||| 2 ^ i) = r m) : r (M ||| 2 ^ i) = r M :=
  closed_up (n := n) (f := fun x => r (x ||| 2 ^ i) = r x) (fun x hx q k hk => R.next hx hi hk q) _ m M hM rfl h s
theorem RankOk.mono {m M : Nat} (hM : M < 2 ^ n) (s : sub m M) : r m ≤ r M :=
  closed_up (n := n) (f := fun x => r m ≤ r x) (fun x hx q k hk => by rcases R.unit x k hx hk with e | e <;> omega) _ m M hM rfl (Int.le_refl _) s
theorem RankOk.slow {m M : Nat} (hM : M < 2 ^ n) (s : sub m M) : r M + (cnt n m : Int) ≤ r m + (cnt n M : Int) :=
  closed_up (n := n) (f := fun x => r x + (cnt n m : Int) ≤ r m + (cnt n x : Int)) (fun x hx q k hk => by
    cases e : x.testBit k with
    | true => rw [or_in e]; exact q
    | false =>
      have := cnt_set hk e
      have := R.unit x k hx hk
      omega) _ m M hM rfl (Int.le_refl _) s
theorem RankOk.small {m : Nat} (hm : m < 2 ^ n) : r m ≤ (cnt n m : Int) := by
  have := R.slow hm (sub_zero m)
  rw [R.zero, cnt_none n] at this
  simpa using this
theorem RankOk.nonneg {m : Nat} (hm : m < 2 ^ n) : 0 ≤ r m := by
  have := R.mono hm (sub_zero m)
  rwa [R.zero] at this
theorem RankOk.idle {m Y : Nat} (hm : m < 2 ^ n) (hY : Y < 2 ^ n) (h : ∀ j, Y.testBit j = true → r (m ||| 2 ^ j) = r m) : r (m ||| Y) = r m :=
  closed_up (n := n) (f := fun x => sub x Y → r (m ||| x) = r m) (fun x hx q k hk s => by
    have sx : sub x Y := sub_trans (sub_or_l x _) s
    have yk : Y.testBit k = true := sub_iff.mp s k (by rw [Nat.testBit_or, bit_pow]; simp)
    rw [← Nat.or_assoc, R.up (Nat.or_lt_two_pow hm hx) hk (sub_or_l m x) (h k yk), q sx]) _ 0 Y hY rfl (fun _ => by rw [Nat.or_zero]) (sub_zero Y) (sub_refl Y)
theorem RankOk.submod {a b : Nat} (ha : a < 2 ^ n) (hb : b < 2 ^ n) : r (a ||| b) + r (a &&& b) ≤ r a + r b := by
  have := closed_up (n := n) (f := fun x => r (a ||| x) + r (a &&& b) ≤ r a + r ((a &&& b) ||| x)) (fun x hx q k hk => by
    have c1 : (a &&& b) ||| x < 2 ^ n := Nat.or_lt_two_pow (Nat.and_lt_two_pow _ hb) hx
    have a1 : a ||| x < 2 ^ n := Nat.or_lt_two_pow ha hx
    rw [← Nat.or_assoc, ← Nat.or_assoc]
    have e1 := R.unit _ k c1 hk
    have e2 := R.unit _ k a1 hk
    by_cases e : r (a &&& b ||| x ||| 2 ^ k) = r (a &&& b ||| x)
    · have := R.up a1 hk (or_mono (and_sub_l a b) x) e
      omega
    · omega) _ 0 b hb rfl (by rw [Nat.or_zero, Nat.or_zero]; exact Int.le_refl _) (sub_zero b)
  rwa [or_sub (and_sub_r a b)] at this
theorem RankOk.ind_sub {s m : Nat} (hm : m < 2 ^ n) (h : sub s m) (I : indR n r m) : indR n r s := by
  have h1 := R.slow hm h
  have h2 := R.small (Nat.lt_of_le_of_lt (sub_le h) hm)
  unfold indR at *
  omega
/-- an independent set within Y grows to one of Y's rank -/
theorem RankOk.grow {s Y : Nat} (hY : Y < 2 ^ n) (h : sub s Y) (I : indR n r s) : ∃ t, sub s t ∧ sub t Y ∧ indR n r t ∧ r t = r Y :=
  closed_up (n := n) (f := fun x => ∃ t, sub s t ∧ sub t x ∧ indR n r t ∧ r t = r x) (fun x hx ⟨t, h1, h2, h3, h4⟩ k hk => by
    by_cases e : r (x ||| 2 ^ k) = r x
    · exact ⟨t, h1, sub_trans h2 (sub_or_l _ _), h3, by rw [e, h4]⟩
    · have ht : t < 2 ^ n := Nat.lt_of_le_of_lt (sub_le h2) hx
      have e2 : r (t ||| 2 ^ k) ≠ r t := fun z => e (R.up hx hk h2 z)
      have u1 := R.unit t k ht hk
      have u2 := R.unit x k hx hk
      have tk : t.testBit k = false := by
        cases z : t.testBit k with
        | false => rfl
        | true => exact absurd (by rw [or_in z]) e2
      have := cnt_set hk tk
      refine ⟨t ||| 2 ^ k, sub_trans h1 (sub_or_l _ _), or_mono h2 _, ?_, by omega⟩
      unfold indR at *
      omega) _ s Y hY rfl ⟨s, sub_refl s, sub_refl s, I, rfl⟩ h
theorem RankOk.ind_zero : indR n r 0 := by
  unfold indR
  rw [R.zero, cnt_none n]
  rfl
/-- a base: of full rank and independent -/
def baseR (n : Nat) (r : Nat → Int) (m : Nat) : Prop := m < 2 ^ n ∧ indR n r m ∧ r m = r (2 ^ n - 1)
omit R in
theorem sub_full {n m : Nat} (h : m < 2 ^ n) : sub m (2 ^ n - 1) := sub_iff.mpr fun i hi => by
  rw [Nat.testBit_two_pow_sub_one]
  exact decide_eq_true (lt_bit h hi)
omit R in
theorem full_lt (n : Nat) : 2 ^ n - 1 < 2 ^ n := by
  have := Nat.two_pow_pos n
  omega
theorem RankOk.base_over {s : Nat} (hs : s < 2 ^ n) (I : indR n r s) : ∃ b, baseR n r b ∧ sub s b := by
  obtain ⟨t, h1, h2, h3, h4⟩ := R.grow (full_lt n) (sub_full hs) I
  exact ⟨t, ⟨Nat.lt_of_le_of_lt (sub_le h2) (full_lt n), h3, h4⟩, h1⟩
theorem RankOk.exchange {a d i : Nat} (ha : baseR n r a) (hd : baseR n r d) (h1 : a.testBit i = true) (h2 : d.testBit i = false) : ∃ j, d.testBit j = true ∧ a.testBit j = false ∧ baseR n r ((a ^^^ 2 ^ i) ||| 2 ^ j) := by
  obtain ⟨a1, a2, a3⟩ := ha
  obtain ⟨d1, d2, d3⟩ := hd
  have hi : i < n := lt_bit a1 h1
  have ec : a ^^^ 2 ^ i = clr a i := xor_clr h1
  have cs := clr_sub a i
  have cl : clr a i < 2 ^ n := Nat.lt_of_le_of_lt (clr_le a i) a1
  have ci : (clr a i).testBit i = false := by rw [clr_bit]; simp
  have back : clr a i ||| 2 ^ i = a := Nat.eq_of_testBit_eq fun k => by
    rw [Nat.testBit_or, clr_bit, bit_pow]
    by_cases e : i = k
    · subst e; simp [h1]
    · simp [e]
  have cc := cnt_set hi ci
  rw [back] at cc
  have Ic := R.ind_sub a1 cs a2
  have rc : r (clr a i) + 1 = r a := by
    unfold indR at *
    omega
  have : ∃ j, d.testBit j = true ∧ r (clr a i ||| 2 ^ j) ≠ r (clr a i) := Classical.byContradiction fun q => by
    have := R.idle cl d1 fun j hj => Classical.byContradiction fun z => q ⟨j, hj, z⟩
    have m := R.mono (m := d) (M := clr a i ||| d) (Nat.or_lt_two_pow cl d1) (by rw [Nat.or_comm]; exact sub_or_l d _)
    omega
  obtain ⟨j, hj, ne⟩ := this
  have hjn := lt_bit d1 hj
  have cj : (clr a i).testBit j = false := by
    cases z : (clr a i).testBit j with
    | false => rfl
    | true => exact absurd (by rw [or_in z]) ne
  have ij : i ≠ j := fun e => by rw [e, hj] at h2; cases h2
  refine ⟨j, hj, ?_, ?_⟩
  · rw [clr_bit] at cj
    simpa [ij] using cj
  · rw [ec]
    have u := R.unit _ j cl hjn
    have cn := cnt_set hjn cj
    refine ⟨or_lt cl hjn, ?_, by omega⟩
    unfold indR at *
    omega
/-- the rank is what the bases tell -/
theorem RankOk.back {bs : List Nat} (hb : ∀ m, m ∈ bs ↔ baseR n r m) {m : Nat} (hm : m < 2 ^ n) : ((rankOf n bs m : Nat) : Int) = r m := by
  have le : ∀ b, b ∈ bs → cnt n (m &&& b) ≤ (r m).toNat := fun b hbm => by
    obtain ⟨b1, b2, b3⟩ := (hb b).mp hbm
    have I := R.ind_sub b1 (and_sub_r m b) b2
    have := R.mono hm (and_sub_l m b)
    unfold indR at I
    omega
  have nn := R.nonneg hm
  have h1 := rank_le le
  obtain ⟨s, _, s2, s3, s4⟩ := R.grow hm (sub_zero m) R.ind_zero
  obtain ⟨b, bb, sb⟩ := R.base_over (Nat.lt_of_le_of_lt (sub_le s2) hm) s3
  have h2 := rank_ge (n := n) (m := m) ((hb b).mpr bb)
  have h3 : cnt n s ≤ cnt n (m &&& b) := cnt_mono (sub_iff.mpr fun i hi => by rw [Nat.testBit_and, sub_iff.mp s2 i hi, sub_iff.mp sb i hi]; rfl)
  unfold indR at s3
  omega
end
/-- what holds at all pairs of sets holds at single steps -/
theorem rankOk_of {n : Nat} {r : Nat → Int} (h0 : r 0 = 0) (small : ∀ i, i < n → r (2 ^ i) ≤ 1) (mono : ∀ a b, a < 2 ^ n → b < 2 ^ n → r a ≤ r (a ||| b)) (sm : ∀ a b, a < 2 ^ n → b < 2 ^ n → r (a ||| b) + r (a &&& b) ≤ r a + r b) : RankOk n r := by
  have p2 : ∀ i, i < n → 2 ^ i < 2 ^ n := fun i hi => Nat.pow_lt_pow_right (by decide) hi
  refine ⟨h0, fun m i hm hi => ?_, fun m i j hm hi hj e1 e2 => ?_⟩
  · have h1 := mono m (2 ^ i) hm (p2 i hi)
    have h2 := sm m (2 ^ i) hm (p2 i hi)
    have h3 := small i hi
    cases e : m.testBit i with
    | true => rw [or_in e]; exact .inl rfl
    | false =>
      have z : m &&& 2 ^ i = 0 := Nat.eq_of_testBit_eq fun k => by
        rw [Nat.testBit_and, bit_pow, Nat.zero_testBit]
        by_cases q : i = k
        · subst q; rw [e]; rfl
        · simp [q]
      rw [z, h0] at h2
      omega
  · by_cases ij : i = j
    · subst ij
      rw [Nat.or_assoc, Nat.or_self, e1]
    · have h1 := sm (m ||| 2 ^ i) (m ||| 2 ^ j) (or_lt hm hi) (or_lt hm hj)
      have a1 : (m ||| 2 ^ i) ||| (m ||| 2 ^ j) = m ||| 2 ^ i ||| 2 ^ j := Nat.eq_of_testBit_eq fun k => by
        simp only [Nat.testBit_or]
        cases m.testBit k <;> cases (2 ^ i).testBit k <;> cases (2 ^ j).testBit k <;> rfl
      have a2 : (m ||| 2 ^ i) &&& (m ||| 2 ^ j) = m := Nat.eq_of_testBit_eq fun k => by
        simp only [Nat.testBit_or, Nat.testBit_and, bit_pow]
        by_cases q : i = k
        · subst q
          have : ¬ j = i := fun z => ij z.symm
          cases m.testBit i <;> simp [this]
        · cases m.testBit k <;> simp [q]
      rw [a1, a2] at h1
      have h2 := mono m (2 ^ i) hm (p2 i hi)
      have h3 := mono (m ||| 2 ^ i) (2 ^ j) (or_lt hm hi) (p2 j hj)
      omega
end MB.RT

set_option Elab.async false
set_option linter.all false
set_option maxRecDepth 100000
/-! families of places that make a matroid: what is free, columns of bits, edges without a ring, sets far from one another -/
namespace MB.XM
open MB
def Ex (ms : List Nat) : Prop := ∀ a, a ∈ ms → ∀ b, b ∈ ms → ∀ k, a.testBit k = true → b.testBit k = false → ∃ j, b.testBit j = true ∧ a.testBit j = false ∧ ((a ^^^ 2 ^ k) ||| 2 ^ j) ∈ ms
structure Ind (n : Nat) (I : Nat → Prop) : Prop where
  zero : I 0
  down : ∀ m k, m < 2 ^ n → m.testBit k = true → I m → I (clr m k)
  aug : ∀ a b, a < 2 ^ n → b < 2 ^ n → I a → I b → cnt n a < cnt n b → ∃ j, b.testBit j = true ∧ a.testBit j = false ∧ I (a ||| 2 ^ j)
theorem clr_le (m k : Nat) : clr m k ≤ m := by
  unfold clr
  split
  · rename_i h
    have : clr m k < m := clr_lt h
    rw [clr, if_pos h] at this
    omega
  · exact Nat.le_refl _
theorem Ind.ex {n k : Nat} {I : Nat → Prop} (h : Ind n I) {B : List Nat} (hB : ∀ m, m ∈ B ↔ m < 2 ^ n ∧ I m ∧ cnt n m = k) : Ex B := fun a ha b hb i hai hbi => by
  obtain ⟨a1, a2, a3⟩ := (hB a).mp ha
  obtain ⟨b1, b2, b3⟩ := (hB b).mp hb
  have hin := lt_bit a1 hai
  have c1 := cnt_clr hin hai
  have l1 : clr a i < 2 ^ n := Nat.lt_of_le_of_lt (clr_le a i) a1
  obtain ⟨j, hj, hja, hI⟩ := h.aug (clr a i) b l1 b1 (h.down a i a1 hai a2) b2 (by omega)
  have hij : i ≠ j := fun e => by subst e; rw [hj] at hbi; cases hbi
  have hja' : a.testBit j = false := by
    rw [clr_bit] at hja
    simpa [hij] using hja
  refine ⟨j, hj, hja', ?_⟩
  rw [xor_clr hai]
  have hjn := lt_bit b1 hj
  refine (hB _).mpr ⟨RT.or_lt l1 hjn, hI, ?_⟩
  rw [RT.cnt_set hjn hja]
  omega
/-! ### columns of bits -/
section
variable (col : Nat → Nat)
def X : Nat → Nat → Nat
  | 0, _ => 0
  | n + 1, s => X n s ^^^ (if s.testBit n then col n else 0)
theorem X_zero : ∀ n, X col n 0 = 0
  | 0 => rfl
  | n + 1 => by rw [X, X_zero n]; simp
theorem X_xor : ∀ n s t, X col n (s ^^^ t) = X col n s ^^^ X col n t
  | 0, _, _ => by simp [X]
  | n + 1, s, t => by
    rw [X, X, X, X_xor n s t, Nat.testBit_xor]
    cases s.testBit n <;> cases t.testBit n
    · simp
    · simp [Nat.xor_assoc]
    · simp only [Bool.xor_false, if_true, Bool.false_eq_true, if_false, Nat.xor_zero]
      rw [Nat.xor_assoc, Nat.xor_comm (X col n t), Nat.xor_assoc]
    · simp only [Bool.xor_self, Bool.false_eq_true, if_false, if_true, Nat.xor_zero]
      have : X col n s ^^^ col n ^^^ (X col n t ^^^ col n) = X col n s ^^^ X col n t ^^^ (col n ^^^ col n) := by
        rw [Nat.xor_assoc, ← Nat.xor_assoc (col n), Nat.xor_comm (col n) (X col n t), Nat.xor_assoc, ← Nat.xor_assoc]
      rw [this, Nat.xor_self, Nat.xor_zero]
theorem X_low : ∀ n s, s < 2 ^ n → ∀ k, X col (n + k) s = X col n s
  | n, s, h, 0 => rfl
  | n, s, h, k + 1 => by
    show X col (n + k) s ^^^ _ = _
    rw [X_low n s h k, if_neg, Nat.xor_zero]
    show ¬ s.testBit (n + k) = true
    rw [Nat.testBit_lt_two_pow (Nat.lt_of_lt_of_le h (Nat.pow_le_pow_right (by decide) (Nat.le_add_right n k)))]
    exact Bool.false_ne_true
theorem X_one {n j : Nat} (hj : j < n) : X col n (2 ^ j) = col j := by
  obtain ⟨k, rfl⟩ : ∃ k, n = j + 1 + k := ⟨n - (j + 1), by omega⟩
  rw [X_low col (j + 1) (2 ^ j) (Nat.pow_lt_pow_right (by decide) (Nat.lt_succ_self j)), X]
  have : X col j (2 ^ j) = 0 := by
    have gen : ∀ i, i ≤ j → X col i (2 ^ j) = 0 := fun i => by
      induction i with
      | zero => intro _; rfl
      | succ i ih =>
        intro hi
        rw [X, ih (by omega), bit_pow]
        have : ¬ j = i := by omega
        simp [this]
    exact gen j (Nat.le_refl j)
  rw [this, bit_pow]
  simp
def IndC (n m : Nat) : Prop := ∀ s, sub s m → s ≠ 0 → X col n s ≠ 0
/-- the masks within a mask -/
def subs (n m : Nat) : List Nat := (List.range (2 ^ n)).filter fun s => decide (sub s m)
theorem mem_subs {n m s : Nat} (hm : m < 2 ^ n) : s ∈ subs n m ↔ sub s m := by
  rw [subs, List.mem_filter, List.mem_range, decide_eq_true_eq]
  exact ⟨fun h => h.2, fun h => ⟨Nat.lt_of_le_of_lt (sub_le h) hm, h⟩⟩
theorem len_nd {α : Type} [DecidableEq α] : ∀ {l l' : List α}, l.Nodup → (∀ x, x ∈ l → x ∈ l') → l.length ≤ l'.length
  | [], _, _, _ => Nat.zero_le _
  | a :: l, l', nd, h => by
    rw [List.nodup_cons] at nd
    have ha := h a List.mem_cons_self
    have := len_nd (l' := l'.erase a) nd.2 fun x hx => (List.mem_erase_of_ne fun (e : x = a) => nd.1 (by rw [← e]; exact hx)).mpr (h x (List.mem_cons_of_mem _ hx))
    rw [List.length_erase_of_mem ha] at this
    have := List.length_pos_of_mem ha
    rw [List.length_cons]
    omega
theorem subs_nd (n m : Nat) : (subs n m).Nodup := List.nodup_range.filter _
theorem subs_len {n : Nat} : ∀ (c m : Nat), m < 2 ^ n → cnt n m = c → (subs n m).length = 2 ^ c
  | 0, m, hm, hc => by
    have z : m = 0 := Classical.byContradiction fun ne => by
      obtain ⟨i, hi⟩ := Nat.exists_testBit_of_ne_zero ne
      have := cnt_clr (lt_bit hm hi) hi
      omega
    subst z
    have e : ∀ x, x ∈ subs n 0 ↔ x ∈ [0] := fun x => by
      rw [mem_subs hm, List.mem_singleton]
      exact ⟨fun h => Nat.le_zero.mp (sub_le h), fun h => by rw [h]; exact sub_refl 0⟩
    have h1 := len_nd (subs_nd n 0) fun x hx => (e x).mp hx
    have h2 := len_nd (l := [0]) (l' := subs n 0) (by simp) fun x hx => (e x).mpr hx
    simp at h1 h2
    omega
  | c + 1, m, hm, hc => by
    have ne : m ≠ 0 := fun z => by subst z; rw [RT.cnt_none] at hc; cases hc
    obtain ⟨i, hi⟩ := Nat.exists_testBit_of_ne_zero ne
    have hin := lt_bit hm hi
    have c1 := cnt_clr hin hi
    have hl : clr m i < 2 ^ n := Nat.lt_of_le_of_lt (clr_le m i) hm
    have ih := subs_len c (clr m i) hl (by omega)
    have ci : ∀ s, sub s (clr m i) → s.testBit i = false := fun s hs => by
      cases e : s.testBit i with
      | false => rfl
      | true =>
        have := sub_iff.mp hs i e
        rw [clr_bit] at this
        simp at this
    have e : ∀ x, x ∈ subs n m ↔ x ∈ subs n (clr m i) ++ (subs n (clr m i)).map fun s => s ||| 2 ^ i := fun x => by
      rw [mem_subs hm, List.mem_append, mem_subs hl, List.mem_map]
      constructor
      · intro h
        cases q : x.testBit i with
        | false =>
          refine .inl (sub_iff.mpr fun k hk => ?_)
          rw [clr_bit, sub_iff.mp h k hk]
          have : i ≠ k := fun z => by subst z; rw [q] at hk; cases hk
          simp [this]
        | true =>
          refine .inr ⟨clr x i, (mem_subs hl).mpr (sub_iff.mpr fun k hk => ?_), Nat.eq_of_testBit_eq fun k => ?_⟩
          · rw [clr_bit, Bool.and_eq_true] at hk
            rw [clr_bit, sub_iff.mp h k hk.1, hk.2]
            rfl
          · rw [Nat.testBit_or, clr_bit, bit_pow]
            by_cases z : i = k
            · subst z; rw [q]; simp
            · simp [z]
      · rintro (h | ⟨s, hs, rfl⟩)
        · exact sub_trans h (clr_sub m i)
        · exact RT.sub_or (sub_trans ((mem_subs hl).mp hs) (clr_sub m i)) (RT.sub_bit hi)
    have nd : (subs n (clr m i) ++ (subs n (clr m i)).map fun s => s ||| 2 ^ i).Nodup := by
      rw [List.nodup_append]
      refine ⟨subs_nd _ _, ?_, fun a ha b hb z => ?_⟩
      · refine List.pairwise_map.mpr (List.Pairwise.imp_of_mem (fun {a b} ha hb hab z => hab ?_) (subs_nd n (clr m i)))
        have ha := ci a ((mem_subs hl).mp ha)
        have hb := ci b ((mem_subs hl).mp hb)
        refine Nat.eq_of_testBit_eq fun k => ?_
        by_cases q : i = k
        · subst q; rw [ha, hb]
        · have := congrArg (fun t => Nat.testBit t k) z
          simp only [Nat.testBit_or, bit_pow, q, decide_false, Bool.or_false] at this
          exact this
      · obtain ⟨s, hs, rfl⟩ := List.mem_map.mp hb
        have := ci a ((mem_subs hl).mp ha)
        rw [z, Nat.testBit_or, bit_pow] at this
        simp at this
    have h1 := len_nd (subs_nd n m) fun x hx => (e x).mp hx
    have h2 := len_nd nd fun x hx => (e x).mpr hx
    rw [List.length_append, List.length_map, ih] at h1 h2
    rw [Nat.pow_succ]
    omega
theorem xor_sub {a b m : Nat} (ha : sub a m) (hb : sub b m) : sub (a ^^^ b) m := sub_iff.mpr fun i hi => by
  rw [Nat.testBit_xor] at hi
  cases e : a.testBit i with
  | true => exact sub_iff.mp ha i e
  | false =>
    rw [e] at hi
    exact sub_iff.mp hb i (by simpa using hi)
theorem indC (n : Nat) : Ind n (IndC col n) where
  zero := fun s hs ne => absurd (Nat.le_zero.mp (sub_le hs)) ne
  down := fun m k _ _ h s hs ne => h s (sub_trans hs (clr_sub m k)) ne
  aug := fun a b ha hb Ia Ib lt => Classical.byContradiction fun no => by
    -- each column of b is one of those that a makes
    have span : ∀ t, sub t b → ∃ s, sub s a ∧ X col n s = X col n t := fun t => by
      induction t using Nat.strongRecOn with
      | _ t ih =>
        intro ht
        by_cases z : t = 0
        · subst z
          exact ⟨0, RT.sub_zero a, rfl⟩
        · obtain ⟨j, hj⟩ := Nat.exists_testBit_of_ne_zero z
          obtain ⟨s1, h1, e1⟩ := ih (clr t j) (clr_lt hj) (sub_trans (clr_sub t j) ht)
          have hbj := sub_iff.mp ht j hj
          have hjn := lt_bit hb hbj
          have one : ∃ s, sub s a ∧ X col n s = col j := by
            cases haj : a.testBit j with
            | true => exact ⟨2 ^ j, RT.sub_bit haj, X_one col hjn⟩
            | false =>
              refine Classical.byContradiction fun nospan => no ⟨j, hbj, haj, fun s hs ne h0 => ?_⟩
              cases q : s.testBit j with
              | false =>
                refine Ia s (sub_iff.mpr fun i hi => ?_) ne h0
                have := sub_iff.mp hs i hi
                rw [Nat.testBit_or, bit_pow] at this
                have : j ≠ i := fun w => by subst w; rw [q] at hi; cases hi
                simp_all
              | true =>
                refine nospan ⟨clr s j, sub_iff.mpr fun i hi => ?_, ?_⟩
                · rw [clr_bit, Bool.and_eq_true] at hi
                  have := sub_iff.mp hs i hi.1
                  rw [Nat.testBit_or, bit_pow] at this
                  have h2 : ¬ j = i := by simpa using hi.2
                  simpa [h2] using this
                · have e : clr s j = s ^^^ 2 ^ j := (xor_clr q).symm
                  rw [e, X_xor, h0, X_one col hjn, Nat.zero_xor]
          obtain ⟨s2, h2, e2⟩ := one
          refine ⟨s1 ^^^ s2, xor_sub h1 h2, ?_⟩
          rw [X_xor, e1, e2]
          have e : clr t j = t ^^^ 2 ^ j := (xor_clr hj).symm
          rw [e, X_xor, X_one col hjn, Nat.xor_assoc, Nat.xor_self, Nat.xor_zero]
    have nd : ((subs n b).map (X col n)).Nodup := by
      refine List.pairwise_map.mpr (List.Pairwise.imp_of_mem (fun {s t} hs ht hne z => ?_) (subs_nd n b))
      refine Ib (s ^^^ t) (xor_sub ((mem_subs hb).mp hs) ((mem_subs hb).mp ht)) (fun e => hne ?_) (by rw [X_xor, z, Nat.xor_self])
      have := congrArg (· ^^^ t) e
      simpa [Nat.xor_assoc] using this
    have h := len_nd (l' := (subs n a).map (X col n)) nd fun x hx => by
      obtain ⟨t, ht, rfl⟩ := List.mem_map.mp hx
      obtain ⟨s, hs, e⟩ := span t ((mem_subs hb).mp ht)
      exact List.mem_map.mpr ⟨s, (mem_subs ha).mpr hs, e⟩
    rw [List.length_map, List.length_map, subs_len _ b hb rfl, subs_len _ a ha rfl] at h
    have := Nat.pow_lt_pow_right (show 1 < 2 by decide) lt
    omega
/-- free: all with an element less are, and the sum is not 0 -/
theorem indC_step {n m : Nat} (hm : m < 2 ^ n) (ne : m ≠ 0) : IndC col n m ↔ (∀ k, m.testBit k = true → IndC col n (clr m k)) ∧ X col n m ≠ 0 := by
  constructor
  · exact fun h => ⟨fun k hk => (indC col n).down m k hm hk h, h m (sub_refl m) ne⟩
  · rintro ⟨h1, h2⟩ s hs hne
    by_cases e : s = m
    · subst e; exact h2
    · obtain ⟨k, hk, hsk⟩ : ∃ k, m.testBit k = true ∧ s.testBit k = false := Classical.byContradiction fun no => e (sub_antisymm hs (sub_iff.mpr fun i hi => by
        cases q : s.testBit i with
        | true => rfl
        | false => exact absurd ⟨i, hi, q⟩ no))
      refine h1 k hk s (sub_iff.mpr fun i hi => ?_) hne
      rw [clr_bit, sub_iff.mp hs i hi]
      have : k ≠ i := fun w => by subst w; rw [hsk] at hi; cases hi
      simp [this]
end
/-! ### edges without a ring -/
def mrg (f : Nat → Nat) (a b : Nat) : Nat → Nat := fun x => if f x = b then a else f x
def labOf : List (Nat × Nat) → Nat → Nat
  | [] => id
  | e :: es => mrg (labOf es) (labOf es e.1) (labOf es e.2)
def okOf : List (Nat × Nat) → Bool
  | [] => true
  | e :: es => okOf es && decide (labOf es e.1 ≠ labOf es e.2)
structure Lb (es : List (Nat × Nat)) (f : Nat → Nat) : Prop where
  eq : ∀ e, e ∈ es → f e.1 = f e.2
  least : ∀ g : Nat → Nat, (∀ e, e ∈ es → g e.1 = g e.2) → ∀ x y, f x = f y → g x = g y
theorem lab_lb : ∀ es, Lb es (labOf es)
  | [] => ⟨fun e he => absurd he List.not_mem_nil, fun g _ x y h => congrArg g h⟩
  | e :: es => by
    have ih := lab_lb es
    refine ⟨fun d hd => ?_, fun g hg x y h => ?_⟩
    · show mrg _ _ _ _ = mrg _ _ _ _
      unfold mrg
      rcases List.mem_cons.mp hd with rfl | hd
      · rw [if_pos rfl]
        split
        · rfl
        · rfl
      · rw [ih.eq d hd]
    · have hg' : ∀ d, d ∈ es → g d.1 = g d.2 := fun d hd => hg d (List.mem_cons_of_mem _ hd)
      have he := hg e List.mem_cons_self
      have l := ih.least g hg'
      have h : (if labOf es x = labOf es e.2 then labOf es e.1 else labOf es x) = if labOf es y = labOf es e.2 then labOf es e.1 else labOf es y := h
      by_cases hx : labOf es x = labOf es e.2 <;> by_cases hy : labOf es y = labOf es e.2
      · exact l x y (hx.trans hy.symm)
      · rw [if_pos hx, if_neg hy] at h
        exact (l x e.2 hx).trans (he.symm.trans (l e.1 y h))
      · rw [if_neg hx, if_pos hy] at h
        exact (l x e.1 h).trans (he.trans (l e.2 y hy.symm))
      · rw [if_neg hx, if_neg hy] at h
        exact l x y h
/-- how many classes -/
def reps (V : Nat) (f : Nat → Nat) : List Nat := (List.range V).filter fun x => (List.range x).all fun y => !decide (f y = f x)
theorem mem_reps {V : Nat} {f : Nat → Nat} {x : Nat} : x ∈ reps V f ↔ x < V ∧ ∀ y, y < x → f y ≠ f x := by
  unfold reps
  rw [List.mem_filter, List.mem_range, List.all_eq_true]
  simp
theorem reps_nd (V : Nat) (f : Nat → Nat) : (reps V f).Nodup := List.nodup_range.filter _
theorem reps_le {V : Nat} {f g : Nat → Nat} (h : ∀ x y, f x = f y → g x = g y) : (reps V g).length ≤ (reps V f).length :=
  len_nd (reps_nd V g) fun x hx => by
    obtain ⟨h1, h2⟩ := mem_reps.mp hx
    exact mem_reps.mpr ⟨h1, fun y hy e => h2 y hy (h y x e)⟩
theorem reps_eq {V : Nat} {es es' : List (Nat × Nat)} {f g : Nat → Nat} (hf : Lb es f) (hg : Lb es' g) (h : ∀ e, e ∈ es ↔ e ∈ es') : (reps V f).length = (reps V g).length :=
  Nat.le_antisymm (reps_le fun x y e => hg.least f (fun d hd => hf.eq d ((h d).mpr hd)) x y e) (reps_le fun x y e => hf.least g (fun d hd => hg.eq d ((h d).mp hd)) x y e)
theorem reps_id (V : Nat) : (reps V id).length = V := by
  have : reps V id = List.range V := List.filter_eq_self.mpr fun x _ => by
    rw [List.all_eq_true]
    intro y hy
    have := List.mem_range.mp hy
    simp
    omega
  rw [this, List.length_range]
theorem least_in {f : Nat → Nat} (c : Nat) : ∀ x, f x = c → ∃ p, f p = c ∧ p ≤ x ∧ ∀ y, y < p → f y ≠ c := fun x => by
  induction x using Nat.strongRecOn with
  | _ x ih =>
    intro hx
    by_cases h : ∃ y, y < x ∧ f y = c
    · obtain ⟨y, hy, e⟩ := h
      obtain ⟨p, p1, p2, p3⟩ := ih y hy e
      exact ⟨p, p1, by omega, p3⟩
    · exact ⟨x, hx, Nat.le_refl x, fun y hy e => h ⟨y, hy, e⟩⟩
theorem reps_mrg {V u v : Nat} {f : Nat → Nat} (hu : u < V) (hv : v < V) (ne : f u ≠ f v) : (reps V (mrg f (f u) (f v))).length + 1 = (reps V f).length := by
  obtain ⟨p, p1, p2, p3⟩ := least_in (f u) u rfl
  obtain ⟨q, q1, q2, q3⟩ := least_in (f v) v rfl
  have pq : p ≠ q := fun e => by subst e; exact ne (p1.symm.trans q1)
  have hM : max p q ∈ reps V f := by
    rcases Nat.lt_or_gt_of_ne pq with h | h
    · rw [Nat.max_eq_right (Nat.le_of_lt h)]
      exact mem_reps.mpr ⟨by omega, fun y hy => by rw [q1]; exact q3 y hy⟩
    · rw [Nat.max_eq_left (Nat.le_of_lt h)]
      exact mem_reps.mpr ⟨by omega, fun y hy => by rw [p1]; exact p3 y hy⟩
  have e : ∀ x, x ∈ reps V (mrg f (f u) (f v)) ↔ x ∈ (reps V f).erase (max p q) := fun x => by
    rw [List.Nodup.mem_erase_iff (reps_nd V f), mem_reps, mem_reps]
    unfold mrg
    constructor
    · rintro ⟨h1, h2⟩
      refine ⟨fun z => ?_, h1, fun y hy w => ?_⟩
      · -- the other least one is below
        rcases Nat.lt_or_gt_of_ne pq with h | h
        · rw [Nat.max_eq_right (Nat.le_of_lt h)] at z
          subst z
          refine h2 p h ?_
          rw [if_neg (by rw [p1]; exact ne), if_pos q1, p1]
        · rw [Nat.max_eq_left (Nat.le_of_lt h)] at z
          subst z
          refine h2 q h ?_
          rw [if_pos q1, if_neg (by rw [p1]; exact ne), p1]
      · refine h2 y hy ?_
        rw [w]
    · rintro ⟨h0, h1, h2⟩
      refine ⟨h1, fun y hy w => ?_⟩
      by_cases hx : f x = f v <;> by_cases hyv : f y = f v
      · exact h2 y hy (hyv.trans hx.symm)
      · rw [if_neg hyv, if_pos hx] at w
        -- x is q, y has the mark of u
        have xq : x = q := Nat.le_antisymm (Nat.not_lt.mp fun l => h2 q l (q1.trans hx.symm)) (Nat.not_lt.mp fun l => q3 x l hx)
        have py : p ≤ y := Nat.not_lt.mp fun l => p3 y l w
        exact h0 (by rw [Nat.max_eq_right (by omega)]; exact xq)
      · rw [if_pos hyv, if_neg hx] at w
        have xp : x = p := Nat.le_antisymm (Nat.not_lt.mp fun l => h2 p l (p1.trans w)) (Nat.not_lt.mp fun l => p3 x l w.symm)
        have qy : q ≤ y := Nat.not_lt.mp fun l => q3 y l hyv
        exact h0 (by rw [Nat.max_eq_left (by omega)]; exact xp)
      · rw [if_neg hyv, if_neg hx] at w
        exact h2 y hy w
  have nd : ((reps V f).erase (max p q)).Nodup := (reps_nd V f).sublist List.erase_sublist
  have h1 := len_nd (reps_nd V (mrg f (f u) (f v))) fun x hx => (e x).mp hx
  have h2 := len_nd nd fun x hx => (e x).mpr hx
  rw [List.length_erase_of_mem hM] at h1 h2
  have := List.length_pos_of_mem hM
  omega
theorem mrg_same {f : Nat → Nat} {a b : Nat} (h : a = b) : mrg f a b = f := funext fun x => by
  unfold mrg
  split
  · rename_i e
    rw [e, h]
  · rfl
def InV (V : Nat) (es : List (Nat × Nat)) : Prop := ∀ e, e ∈ es → e.1 < V ∧ e.2 < V
theorem reps_ge {V : Nat} : ∀ {es : List (Nat × Nat)}, InV V es → V ≤ (reps V (labOf es)).length + es.length ∧ ((reps V (labOf es)).length + es.length = V ↔ okOf es = true)
  | [], _ => ⟨by rw [show labOf [] = id from rfl, reps_id]; simp, by rw [show labOf [] = id from rfl, reps_id]; simp [okOf]⟩
  | e :: es, h => by
    obtain ⟨i1, i2⟩ := reps_ge (es := es) fun d hd => h d (List.mem_cons_of_mem _ hd)
    obtain ⟨h1, h2⟩ := h e List.mem_cons_self
    rw [List.length_cons, okOf, Bool.and_eq_true, decide_eq_true_eq]
    by_cases z : labOf es e.1 = labOf es e.2
    · rw [show labOf (e :: es) = labOf es from mrg_same z]
      exact ⟨by omega, fun w => by omega, fun w => absurd z w.2⟩
    · have := reps_mrg h1 h2 z
      rw [show (reps V (labOf (e :: es))).length = (reps V (mrg (labOf es) (labOf es e.1) (labOf es e.2))).length from rfl]
      exact ⟨by omega, fun w => ⟨i2.mp (by omega), z⟩, fun w => by have := i2.mpr w.1; omega⟩
theorem ok_perm {V : Nat} {es es' : List (Nat × Nat)} (p : es.Perm es') (h : InV V es) (k : okOf es = true) : okOf es' = true := by
  have h' : InV V es' := fun e he => h e (p.mem_iff.mpr he)
  have e := reps_eq (V := V) (lab_lb es) (lab_lb es') fun e => p.mem_iff
  have l := p.length_eq
  have := (reps_ge h).2.mpr k
  exact (reps_ge h').2.mp (by omega)
/-- a longer one has an edge to add -/
theorem ok_aug {V : Nat} {as bs : List (Nat × Nat)} (ha : InV V as) (hb : InV V bs) (oa : okOf as = true) (ob : okOf bs = true) (lt : as.length < bs.length) : ∃ e, e ∈ bs ∧ okOf (e :: as) = true :=
  Classical.byContradiction fun no => by
    have all : ∀ e, e ∈ bs → labOf as e.1 = labOf as e.2 := fun e he => Classical.byContradiction fun z => no ⟨e, he, by rw [okOf, oa, Bool.true_and]; exact decide_eq_true z⟩
    have := reps_le (V := V) fun x y e => (lab_lb bs).least (labOf as) all x y e
    have h1 := (reps_ge ha).2.mpr oa
    have h2 := (reps_ge hb).2.mpr ob
    omega
/-- the edges at the places of a mask -/
abbrev eds (E : Nat → Nat × Nat) (n m : Nat) : List (Nat × Nat) := (placesIn m n).map E
def IndG (E : Nat → Nat × Nat) (n m : Nat) : Prop := okOf (eds E n m) = true
theorem places_mem {n m k : Nat} (hm : m < 2 ^ n) : k ∈ placesIn m n ↔ m.testBit k = true := by
  unfold placesIn
  rw [List.mem_filter, List.mem_range]
  exact ⟨fun h => h.2, fun h => ⟨lt_bit hm h, h⟩⟩
theorem places_nd (n m : Nat) : (placesIn m n).Nodup := List.nodup_range.filter _
theorem places_or {n m j : Nat} (hm : m < 2 ^ n) (hj : j < n) (h : m.testBit j = false) : (j :: placesIn m n).Perm (placesIn (m ||| 2 ^ j) n) := by
  rw [List.perm_ext_iff_of_nodup (List.nodup_cons.mpr ⟨fun z => (by rw [places_mem hm, h] at z; cases z), places_nd n m⟩) (places_nd n _)]
  intro x
  rw [List.mem_cons, places_mem hm, places_mem (RT.or_lt hm hj), Nat.testBit_or, bit_pow, Bool.or_eq_true, decide_eq_true_eq]
  exact ⟨fun z => z.elim (fun z => .inr z.symm) .inl, fun z => z.elim .inr fun z => .inl z.symm⟩
theorem indG {V : Nat} {E : Nat → Nat × Nat} {n : Nat} (hE : ∀ k, k < n → (E k).1 < V ∧ (E k).2 < V) : Ind n (IndG E n) := by
  have inv : ∀ m, InV V (eds E n m) := fun m e he => by
    obtain ⟨k, hk, rfl⟩ := List.mem_map.mp he
    exact hE k (places_lt hk).1
  refine ⟨?_, fun m k hm hk h => ?_, fun a b ha hb Ia Ib lt => ?_⟩
  · unfold IndG eds
    rw [show placesIn 0 n = [] from List.filter_eq_nil_iff.mpr fun k _ => by rw [Nat.zero_testBit]; exact Bool.false_ne_true]
    rfl
  · have hl : clr m k < 2 ^ n := Nat.lt_of_le_of_lt (clr_le m k) hm
    have e : clr m k ||| 2 ^ k = m := Nat.eq_of_testBit_eq fun i => by
      rw [Nat.testBit_or, clr_bit, bit_pow]
      by_cases z : k = i
      · subst z; rw [hk]; simp
      · simp [z]
    have p := places_or hl (lt_bit hm hk) (by rw [clr_bit]; simp)
    rw [e] at p
    have := ok_perm (p.map E).symm (inv m) h
    rw [List.map_cons, okOf, Bool.and_eq_true] at this
    exact this.1
  · obtain ⟨e, he, h⟩ := ok_aug (inv a) (inv b) Ia Ib (by rw [List.length_map, List.length_map]; exact lt)
    obtain ⟨j, hj, rfl⟩ := List.mem_map.mp he
    obtain ⟨j1, j2⟩ := places_lt hj
    have haj : a.testBit j = false := by
      cases q : a.testBit j with
      | false => rfl
      | true =>
        rw [okOf, Bool.and_eq_true, decide_eq_true_eq] at h
        exact absurd ((lab_lb _).eq (E j) (List.mem_map.mpr ⟨j, (places_mem ha).mpr q, rfl⟩)) h.2
    refine ⟨j, j2, haj, ok_perm (V := V) ((places_or ha j1 haj).map E) (fun d hd => ?_) (by rw [List.map_cons]; exact h)⟩
    obtain ⟨k, hk, rfl⟩ := List.mem_map.mp hd
    rcases List.mem_cons.mp hk with rfl | hk
    · exact hE _ j1
    · exact hE k (places_lt hk).1
/-! ### sets far from one another -/
theorem cnt_same {n a b : Nat} (hb : b < 2 ^ n) (h : sub a b) (e : cnt n a = cnt n b) : a = b := by
  refine sub_antisymm h (sub_iff.mpr fun i hi => Classical.byContradiction fun na => ?_)
  have hin := lt_bit hb hi
  have h1 : sub a (clr b i) := sub_iff.mpr fun j hj => by
    rw [clr_bit, sub_iff.mp h j hj, Bool.true_and, Bool.not_eq_true', decide_eq_false_iff_not]
    intro z
    subst z
    exact na hj
  have := cnt_mono (n := n) h1
  have := cnt_clr hin hi
  omega
theorem far_ex {n k : Nat} {gone : List Nat} (far : ∀ a, a ∈ gone → ∀ b, b ∈ gone → a ≠ b → cnt n (a &&& b) + 2 ≤ k) {B : List Nat} (hB : ∀ m, m ∈ B ↔ m < 2 ^ n ∧ cnt n m = k ∧ m ∉ gone) : Ex B := fun a ha b hb i hai hbi => by
  obtain ⟨a1, a2, a3⟩ := (hB a).mp ha
  obtain ⟨b1, b2, b3⟩ := (hB b).mp hb
  have hin := lt_bit a1 hai
  have c1 := cnt_clr hin hai
  have l1 : clr a i < 2 ^ n := Nat.lt_of_le_of_lt (clr_le a i) a1
  rw [xor_clr hai]
  have bit : ∀ j x, (clr a i ||| 2 ^ j).testBit x = ((a.testBit x && !decide (i = x)) || decide (j = x)) := fun j x => by
    rw [Nat.testBit_or, clr_bit, bit_pow]
  have nb : ∀ j, b.testBit j = true → i ≠ j := fun j hj e => by subst e; rw [hj] at hbi; cases hbi
  have one : ∀ j, b.testBit j = true → a.testBit j = false → (clr a i ||| 2 ^ j) ∉ B → (clr a i ||| 2 ^ j) ∈ gone := fun j hj hja hno => Classical.byContradiction fun z => hno ((hB _).mpr ⟨RT.or_lt l1 (lt_bit b1 hj), by
    rw [RT.cnt_set (lt_bit b1 hj) (by rw [clr_bit, hja]; rfl)]
    omega, z⟩)
  obtain ⟨j1, hb1, ha1⟩ : ∃ j, b.testBit j = true ∧ a.testBit j = false := by
    refine Classical.byContradiction fun no => ?_
    have hs : sub b (clr a i) := sub_iff.mpr fun x hx => by
      cases hax : a.testBit x with
      | true => rw [clr_bit, hax]; simp [nb x hx]
      | false => exact absurd ⟨x, hx, hax⟩ no
    have h1 := cnt_mono (n := n) hs
    omega
  by_cases g1 : (clr a i ||| 2 ^ j1) ∈ B
  · exact ⟨j1, hb1, ha1, g1⟩
  · have m1 := one j1 hb1 ha1 g1
    obtain ⟨j2, hb2, ha2, hne⟩ : ∃ j, b.testBit j = true ∧ a.testBit j = false ∧ j ≠ j1 := by
      refine Classical.byContradiction fun no => ?_
      have hs : sub b (clr a i ||| 2 ^ j1) := sub_iff.mpr fun x hx => by
        rw [bit]
        cases hax : a.testBit x with
        | true => simp [nb x hx]
        | false =>
          have : x = j1 := Classical.byContradiction fun z => no ⟨x, hx, hax, z⟩
          simp [this]
      have := cnt_same (RT.or_lt l1 (lt_bit b1 hb1)) hs (by rw [RT.cnt_set (lt_bit b1 hb1) (by rw [clr_bit, ha1]; rfl)]; omega)
      rw [← this] at m1
      exact b3 m1
    refine ⟨j2, hb2, ha2, Classical.byContradiction fun g2 => ?_⟩
    have m2 := one j2 hb2 ha2 g2
    have ne : (clr a i ||| 2 ^ j1) ≠ (clr a i ||| 2 ^ j2) := fun z => by
      have := congrArg (fun t => Nat.testBit t j1) z
      simp only [bit, ha1, hne, decide_false, Bool.false_and, Bool.or_false, decide_true] at this
      simp at this
    have h := far _ m1 _ m2 ne
    have s12 : sub (clr a i) ((clr a i ||| 2 ^ j1) &&& (clr a i ||| 2 ^ j2)) := sub_iff.mpr fun x hx => by
      rw [Nat.testBit_and, Nat.testBit_or, Nat.testBit_or, hx]
      rfl
    have h1 := cnt_mono (n := n) s12
    omega
end MB.XM

set_option Elab.async false
set_option linter.all false
set_option maxRecDepth 100000
namespace K9
open PySem PySem.Spec PyProof.Rows L2 PySem.W MB
/-- masks that are the bases of a matroid -/
structure MatM (n : Nat) (B : List Nat) : Prop where
  ne : B ≠ []
  nd : B.Nodup
  lt : ∀ b, b ∈ B → b < 2 ^ n
  size : ∃ k, ∀ b, b ∈ B → MB.cnt n b = k
  ex : XM.Ex B
theorem sized_ne {n k : Nat} (h : k ≤ n) : sized n k ≠ [] := by
  have : ∀ k, k ≤ n → ∃ m, m < 2 ^ k ∧ MB.cnt n m = k := fun k => by
    induction k with
    | zero => exact fun _ => ⟨0, by decide, RT.cnt_none n⟩
    | succ k ih =>
      intro hk
      obtain ⟨m, h1, h2⟩ := ih (by omega)
      refine ⟨m ||| 2 ^ k, Nat.or_lt_two_pow (Nat.lt_of_lt_of_le h1 (Nat.pow_le_pow_right (by decide) (by omega))) (Nat.pow_lt_pow_right (by decide) (by omega)), ?_⟩
      rw [RT.cnt_set (by omega) (Nat.testBit_lt_two_pow h1), h2]
  obtain ⟨m, h1, h2⟩ := this k h
  exact List.ne_nil_of_mem (mem_sized.mpr ⟨Nat.lt_of_lt_of_le h1 (Nat.pow_le_pow_right (by decide) h), h2⟩)
theorem cut_take (xs : List V) (j : Nat) : cutV xs none (some (j : Int)) = xs.take j := by
  unfold cutV
  rw [HT.sIx_nat, HT.sIx_none]
  show ((xs.drop 0).take (min j xs.length - 0)) = _
  rw [List.drop_zero, Nat.sub_zero]
  by_cases h : j ≤ xs.length
  · rw [Nat.min_eq_left h]
  · rw [Nat.min_eq_right (by omega), List.take_length, List.take_of_length_le (by omega)]
theorem mat_size {n k : Nat} {B gone : List Nat} (hB : ∀ m, m ∈ B ↔ m < 2 ^ n ∧ MB.cnt n m = k ∧ m ∉ gone) (ne : B ≠ []) (nd : B.Nodup) (far : ∀ a, a ∈ gone → ∀ b, b ∈ gone → a ≠ b → MB.cnt n (a &&& b) + 2 ≤ k) : MatM n B :=
  ⟨ne, nd, fun b hb => ((hB b).mp hb).1, ⟨k, fun b hb => ((hB b).mp hb).2.1⟩, XM.far_ex far hB⟩
theorem mat_sized {n k : Nat} (h : k ≤ n) : MatM n (sized n k) := mat_size (gone := []) (k := k) (fun m => by rw [mem_sized]; simp) (sized_ne h) (sized_nd n k) fun a ha => absurd ha List.not_mem_nil
theorem MatM.perm {n : Nat} {B B' : List Nat} (h : MatM n B) (p : B'.Perm B) : MatM n B' where
  ne := fun e => h.ne (by rw [e] at p; exact p.symm.eq_nil)
  nd := p.nodup_iff.mpr h.nd
  lt := fun b hb => h.lt b (p.mem_iff.mp hb)
  size := by
    obtain ⟨k, hk⟩ := h.size
    exact ⟨k, fun b hb => hk b (p.mem_iff.mp hb)⟩
  ex := fun a ha b hb i h1 h2 => by
    obtain ⟨j, j1, j2, j3⟩ := h.ex a (p.mem_iff.mp ha) b (p.mem_iff.mp hb) i h1 h2
    exact ⟨j, j1, j2, p.mem_iff.mpr j3⟩
theorem MatM.len {n : Nat} {B : List Nat} (h : MatM n B) : B.length ≤ 2 ^ n := by
  have := XM.len_nd (l' := List.range (2 ^ n)) h.nd fun b hb => List.mem_range.mpr (h.lt b hb)
  rwa [List.length_range] at this
section
variable {K : PySem.W.Frag} {σ : L2.St} {H G : Hp}
/-- a loop over what is made with draws -/
theorem for_draw {te : TE} {g : TG} {tb : TS} {D : Ends} (h : te σ H (fun v H1 => tFor (iList K (fun _ H Q => Q v H)) g tb D σ H1)) : tFor (iList K te) g tb D σ H := h
theorem ed_val {v : V} {d : PyData} (h : Dq G v d) : Ed (fun _ H Q => Q v H) σ G d := fun O H1 _ s Q q => q v H1 (.refl _) (h.mono s)
end
section
variable {P : Program} {w : World} {K : PySem.W.Frag} {mg : Str → Option Value} {base : Heap}
def spDrw (lo : Nat) (top c : Int) : Sp := fun vs H Q _ => ∃ (m : Addr) (n : Nat) (N : Int), vs = [.ref m, .int n] ∧ lo ≤ n ∧ n ≤ 10 ∧ Src H m N ∧ N < top ∧ ∀ v B H', KS m H H' → Src H' m (N + c) → MatM n B → Dq (hid (XM m) H') v (dNats B) → Q v H'
theorem ok__law_sparse (T : Tx K mg) : FnOk P w K mg base CX0 3 T.f__law_sparse T.fd__law_sparse ["source", "many"] (spDrw 2 800000 1500) := by
  refine T.F__law_sparse.ok sc__law_sparse (fun vs H Q E h => ?_) (fun cdv A outer s H vs Q E hr h => ?_)
  · obtain ⟨m, n, N, rfl, _⟩ := h
    rfl
  obtain ⟨m, n, N, rfl, n2, n10, hS, hN, q⟩ := h
  have hp := pow10 n10
  refine ⟨_, (pss_cons (ps_set (i := 2) sc__law_sparse.nd rfl (by first | exact .inl rfl | exact .inr rfl) (pe_op op_add pe_int (pe_call (ok__law_next T) (hr.mono (by decide)) (by rfl) T.m__law_next T.F__law_next.kp T.b__law_next .nil pass0 (pa_cons (pv 0) (pa_cons (pe_op op_sub (pv 1) pe_int) pa_nil)))))
      (pss_cons (ps_asg (pe_tup (pa_cons (pe_call (ok__law_turned T) (hr.mono (by decide)) (by rfl) T.m__law_turned T.F__law_turned.kp T.b__law_turned .nil pass0 (pa_cons (pv 0) (pa_cons (pe_call (ok__law_sized T) (hr.mono (by decide)) (by rfl) T.m__law_sized T.F__law_sized.kp T.b__law_sized .nil pass0 (pa_cons (pv 1) (pa_cons (pv 2) pa_nil))) pa_nil))) (pa_cons (pe_lst pa_nil) pa_nil))) (kg_tup K (pgs_cons (pg_name (i := 3) sc__law_sparse.nd rfl (by first | exact .inl rfl | exact .inr rfl)) (pgs_cons (pg_name (i := 4) sc__law_sparse.nd rfl (by first | exact .inl rfl | exact .inr rfl)) pgs_nil))))
      (pss_cons (ps_for PassesOwn.never rfl (kp_list K (pe_slice (kl_list K) (pv 3) po_none (po_some (pe_call (ok__law_next T) (hr.mono (by decide)) (by rfl) T.m__law_next T.F__law_next.kp T.b__law_next .nil pass0 (pa_cons (pv 0) (pa_cons pe_int pa_nil)))))) (pg_name (i := 5) sc__law_sparse.nd rfl (by first | exact .inl rfl | exact .inr rfl))
      (pss_one (ps_if (pt_cmpR (ko_eqD K (hu64 hr)) (pe_lc (own := [("mate", 7)]) (g := (gName 7)) rfl sc__law_sparse.nd (kp_list K (pv 4)) (blkOk_by (N := ["source", "many", "size", "rest", "gone", "mask", "found", "mate"]) (sc := defScope s__law_sparse) (by decide +kernel)) (fun _ _ _ _ _ => (pg_name (i := 7) sc__law_sparse.nd rfl (by first | exact .inl rfl | exact .inr rfl))) (fun _ _ _ _ _ => (pts_one (pt_cmpR op_gt (pe_call (ok__law_count T) (hr.mono (by decide)) (by rfl) T.m__law_count T.F__law_count.kp T.b__law_count .nil pass0 (pa_cons (pe_op op_and (pv 5) (pv 7)) pa_nil)) (pe_op op_sub (pv 2) pe_int) (nomark _)))) (fun _ _ _ _ _ => pe_int)) (pe_lst pa_nil) (nomark _)) (pss_one (ps_expr (pe_bm PySem.F.plainAttrs_list PySem.F.slot_list_append PySem.F.type_list_append mt_append (pv 4) (pa_cons (pv 5) pa_nil)))) pss_nil)))
      (pss_cons (ps_setLc (i := 6) (own := [("mask", 5)]) (g := (gName 5)) rfl sc__law_sparse.nd rfl rfl (sw_true rfl rfl rfl (by decide +kernel)) (kp_list K (pv 3)) (blkOk_by (N := ["source", "many", "size", "rest", "gone", "mask", "found", "mate"]) (sc := defScope s__law_sparse) (by decide +kernel)) (fun _ _ _ _ _ => (pg_name (i := 5) sc__law_sparse.nd rfl (by first | exact .inl rfl | exact .inr rfl))) (fun _ _ _ _ _ => (pts_one (pt_cmpR (ko_notIn K) (pv 5) (pv 4) rfl))) (fun _ _ _ _ _ => (pv 5)))
      (pss_one (ps_ret (pe_ifExp (pt_cmpR (ko_neD K (hu64 hr)) (pv 6) (pe_lst pa_nil) (nomark _)) (pv 6) (pv 3)))))))), ?_⟩
  refine ⟨.ref m, rfl, .int n, rfl, n, 1, rfl, rfl, m, _, N, rfl, hS, by omega, by omega, by omega, fun r H1 r0 r1 k1 S1 => ⟨1, r, rfl, rfl, ?_⟩⟩
  obtain ⟨k, hk⟩ : ∃ k : Nat, 1 + r = (k : Int) := ⟨(1 + r).toNat, by omega⟩
  dsimp only [gName]
  rw [hk]
  have k0 : 1 ≤ k ∧ k ≤ n := by omega
  have sl : (sized n k).length ≤ 1024 := by
    have := List.length_filter_le (fun m => decide (MB.cnt n m = k)) (List.range (2 ^ n))
    rw [List.length_range] at this
    exact Nat.le_trans this hp
  -- rest, gone
  refine pairA_seq ?_
  refine ⟨.ref m, rfl, ?_⟩
  refine asg1 (G := hid (XM m) H1) (O := XM m) (d := dNats (sized n k)) (ed_call ⟨n, k, rfl, n10, rfl⟩ (ea_cons (ed_var rfl (.int n)) (ea_one (ed_var rfl (.int k))))) S1.hid (.refl _) fun sv H2 s2 hsv => ?_
  refine ⟨m, _, sized n k, sv, rfl, S1.mono s2, by omega, by omega, hsv, fun rv rest H3 perm k3 S3 hrv => ?_⟩
  have rl : rest.length ≤ 1024 := by rw [perm.length_eq]; exact sl
  refine ⟨by show 0 ≤ sizeLine; decide, fun p np => pairA_fin fun H4 s4 => ?_⟩
  have sp := same_new (o := .lst []) np
  have hp4 := s4.lst (upd_same (H := H3) (a := p) (o := .lst []))
  have s34 := sp.trans s4
  have S4 := S3.mono s34
  have pm := S3.ne np
  have kx : KS m H H3 := k1.trans ((KS.of s2).trans k3)
  have g3 : Le (hid (XM m) H3) (hid (L2.plus (XM m) p) H4) := (KS.of s34).plus np
  have hO : L2.plus (XM m) p m := .inl rfl
  have hX : ∀ {H' : Hp} {N' : Int} {o : HO}, Src H' m N' → H' p = some o → Hid (L2.plus (XM m) p) H' := fun S e => S.hid.plus e
  have hr4 := hrv.mono g3
  -- for mask in rest[:..]
  dsimp only [tSeq, gName]
  refine for_draw ?_
  refine ⟨rv, rfl, .ref m, rfl, m, 6, _, rfl, S4, by omega, by decide, by decide, fun r6 H5 r60 r61 k5 S5 => ⟨r6, rfl, ?_⟩⟩
  obtain ⟨j, rfl⟩ : ∃ j : Nat, r6 = (j : Int) := ⟨r6.toNat, by omega⟩
  have hr5 := hr4.mono (k5.le hO)
  have hp5 := k5.lst hp4 pm
  obtain ⟨a, ys, rfl, hys, hdy⟩ := hr5.lst_inv
  have ey := nats_inv hdy
  subst ey
  refine ⟨a, _, rfl, (hid_sub _ _).seq hys, fun l nl => ?_⟩
  rw [cut_take]
  have s6 := same_new (o := .lst ((vNats rest).take j)) nl
  have hl6 : upd H5 l (.lst ((vNats rest).take j)) l = some (.lst ((vNats rest).take j)) := upd_same
  have S6 := S5.mono s6
  have lm := S5.ne nl
  have lp : l ≠ p := fun e => by subst e; rw [hp5] at nl; cases nl
  have hp6 := s6.lst hp5
  have g36 : Le (hid (XM m) H3) (hid (L2.plus (XM m) p) (upd H5 l (.lst ((vNats rest).take j)))) := g3.trans ((k5.le hO).trans (hid_same s6))
  generalize upd H5 l (.lst ((vNats rest).take j)) = H6 at s6 hl6 S6 hp6 g36
  have hl6' : Dq (hid (L2.plus (XM m) p) H6) (.ref l) (dNats (rest.take j)) := .lst (.inl (.inl (by rw [hid_out fun z => z.elim lm lp]; exact hl6))) (by rw [← List.map_take]; exact dq_nats _)
  refine for_iw (xs := rest.take j) (G := hid (L2.plus (XM m) p) H6) (O := L2.plus (XM m) p) (iw_list (φ := dNat) (ed_val hl6')) (hX S6 hp6) (.refl _) fun H7 s7 => ?_
  refine ⟨fun i σ H8 => ∃ (gone : List Nat) (x : Option V), σ = [some (.ref m), some (.int n), some (.int k), some (.ref a), some (.ref p), x, none, none] ∧ Le (hid (L2.plus (XM m) p) H7) (hid (L2.plus (XM m) p) H8) ∧ Src H8 m (N + 1 + (sized n k).length + 1) ∧ H8 p = some (.lst (vNats gone)) ∧ (∀ b, b ∈ gone → b < 2 ^ n) ∧ gone.length ≤ i ∧ ∀ b, b ∈ gone → ∀ c, c ∈ gone → b ≠ c → MB.cnt n (b &&& c) + 2 ≤ k,
    ⟨[], none, rfl, .refl _, S6.mono s7, s7.lst hp6, fun b hb => absurd hb List.not_mem_nil, Nat.le_refl _, fun b hb => absurd hb List.not_mem_nil⟩, fun i σ H8 _ h8 => ?_, fun i x σ H8 hx h8 => ?_, fun σ H8 h8 => ?_⟩
  · obtain ⟨_, _, _, h, _⟩ := h8
    exact h
  · obtain ⟨gone, x0, rfl, g8, S8, hp8, hlt, hgl, far⟩ := h8
    refine ⟨L2.plus (XM m) p, hX S8 hp8, g8, fun σ9 H9 s9 hB => ?_⟩
    obtain ⟨xv, rfl, hxv⟩ := hB
    have exv : xv = V.int (x : Nat) := hxv.int_inv
    subst exv
    have hi : i < (rest.take j).length := (List.getElem?_eq_some_iff.mp hx).1
    have hil : i < 1024 := by rw [List.length_take] at hi; omega
    have hxm := mem_sized.mp (perm.mem_iff.mp (List.mem_of_mem_take (List.mem_of_getElem? hx)))
    have S9 := S8.mono s9
    have hp9 := s9.lst hp8
    have vis : Dq (hid (XM m) H9) (.ref p) (dNats gone) := .lst (.inl (.inl (by rw [hid_out (O := XM m) pm]; exact hp9))) (dq_nats _)
    refine if_eb (b := (gone.filter fun y => decide ((k : Int) - 2 < ((MB.cnt n (x &&& y) : Nat) : Int))).isEmpty) (G := hid (XM m) H9) (O := XM m) (Eb.of (by rw [eqvNil', List.isEmpty_map]) (eb_test (ed_eqD (d := .list ((gone.filter fun y => decide ((k : Int) - 2 < ((MB.cnt n (x &&& y) : Nat) : Int))).map fun _ => .int 1)) (e := .list []) ?_ rfl (ed_lc (fun y => decide ((k : Int) - 2 < ((MB.cnt n (x &&& y) : Nat) : Int))) (fun _ => .int 1) (xs := gone) (by omega) (iw_list (φ := dNat) (ed_var rfl vis)) (fun x σ4 H4 ⟨v, e, _⟩ => by subst e; rfl) ?_) (ed_lst (by decide) ea_nil)))) S9.hid (.refl _) (fun e Ha sa => ?_) fun e Ha sa => ?_
    · have : (gone.filter fun y => decide ((k : Int) - 2 < ((MB.cnt n (x &&& y) : Nat) : Int))).map (fun _ => PyData.int 1) = ((gone.filter fun y => decide ((k : Int) - 2 < ((MB.cnt n (x &&& y) : Nat) : Int))).map fun _ => (1 : Int)).map .int := by rw [List.map_map]; rfl
      rw [this]
      exact shapedInts _
    · rintro y hy σ2 Hx sx ⟨u, rfl, du⟩
      exact ⟨eb_test (ed_B0 (g := fun i j => decide (j < i)) (ed_call (d := dNat (MB.cnt n (x &&& y))) ⟨n, x &&& y, rfl, Nat.lt_of_le_of_lt Nat.and_le_left hxm.1, rfl⟩ (ea_one (ed_andN (ed_var rfl (.int _)) (ed_var rfl du)))) (ed_I0 (g := fun i j => i - j) (ed_var rfl (.int _)) ed_int)), fun _ => ed_int⟩
    · have Sa := S9.mono sa
      have hpa := sa.lst hp9
      refine app_run (G := hid (L2.plus (XM m) p) Ha) (O := L2.plus (XM m) p) (i1 := 4) (d := dNat x) rfl (ed_var rfl (.int _)) (hX Sa hpa) (.refl _) hpa (by rw [List.length_map]; omega) fun y Hb sb hy => ?_
      have ey := hy.int_inv
      subst ey
      have hpb := sb.lst hpa
      have far1 : ∀ y, y ∈ gone → MB.cnt n (x &&& y) + 2 ≤ k := fun y hy => by
        rw [List.isEmpty_iff, List.filter_eq_nil_iff] at e
        have := e y hy
        simp only [decide_eq_true_eq] at this
        omega
      refine ⟨gone ++ [x], _, rfl, ?_, (Sa.mono sb).upd pm, by rw [upd_same, vNats_snoc], fun b hb => ?_, by rw [List.length_append]; simp; omega, fun b hb c hc hne => ?_⟩
      · rw [hid_upd _ (nt_lst hpb) rfl]
        exact g8.trans (hid_same (s9.trans (sa.trans sb)))
      · rcases List.mem_append.mp hb with hb | hb
        · exact hlt b hb
        · rw [List.mem_singleton.mp hb]; exact hxm.1
      · rcases List.mem_append.mp hb with hb | hb <;> rcases List.mem_append.mp hc with hc | hc
        · exact far b hb c hc hne
        · rw [List.mem_singleton.mp hc, Nat.and_comm]; exact far1 b hb
        · rw [List.mem_singleton.mp hb]; exact far1 c hc
        · rw [List.mem_singleton.mp hb, List.mem_singleton.mp hc] at hne
          exact absurd rfl hne
    · exact ⟨gone, _, rfl, g8.trans (hid_same (s9.trans sa)), S9.mono sa, sa.lst hp9, hlt, by omega, far⟩
  · obtain ⟨gone, x0, rfl, g8, S8, hp8, hlt, hgl, far⟩ := h8
    have g38 : Le (hid (XM m) H3) (hid (L2.plus (XM m) p) H8) := g36.trans ((hid_same s7).trans g8)
    have k38 : KS m H3 H8 := g38.trans (hid_plus _ _ _)
    have hr8 := hrv.mono k38
    have vis : Dq (hid (XM m) H8) (.ref p) (dNats gone) := .lst (.inl (.inl (by rw [hid_out (O := XM m) pm]; exact hp8))) (dq_nats _)
    refine asg_ed (G := hid (XM m) H8) (O := XM m) (d := dNats (rest.filter fun x => !decide (x ∈ gone))) (ed_lc (fun x => !decide (x ∈ gone)) dNat (xs := rest) (by omega) (iw_list (φ := dNat) (ed_var rfl hr8)) (fun x σ4 H4 ⟨v, e, _⟩ => by subst e; rfl) ?_) S8.hid (.refl _) fun fv H9 s9 hfv => ?_
    · rintro x hx σ2 Hx sx ⟨u, rfl, du⟩
      exact ⟨eb_test (ed_notInN (ed_var rfl du) (ed_var rfl (vis.mono sx))), fun _ => ed_var rfl du⟩
    have S9 := S8.mono s9
    have hr9 := hr8.mono (KS.of s9)
    have kf : KS m H H9 := kx.trans (k38.trans (KS.of s9))
    have mem : ∀ x, x ∈ rest.filter (fun x => !decide (x ∈ gone)) ↔ x < 2 ^ n ∧ MB.cnt n x = k ∧ x ∉ gone := fun x => by
      rw [List.mem_filter, perm.mem_iff, mem_sized, and_assoc]
      simp
    have rnd : rest.Nodup := perm.nodup_iff.mpr (sized_nd n k)
    by_cases e : rest.filter (fun x => !decide (x ∈ gone)) = []
    · refine ret_ed (G := hid (XM m) H9) (O := XM m) (d := dNats rest) (ed_if (c := false) (Eb.of (by rw [e]; decide +kernel) (eb_test (ed_neD (d := dNats (rest.filter fun x => !decide (x ∈ gone))) (e := .list []) (shapedNats _) rfl (ed_var rfl hfv) (ed_lst (by decide) ea_nil)))) (fun z => nomatch z) fun _ => ed_var rfl hr9) S9.hid (.refl _) fun v Hz sz hv => ?_
      exact q v rest Hz (kf.trans (KS.of sz)) ((S9.mono sz).le (by omega)) ((mat_sized k0.2).perm perm) hv
    · refine ret_ed (G := hid (XM m) H9) (O := XM m) (d := dNats (rest.filter fun x => !decide (x ∈ gone))) (ed_if (c := true) (Eb.of ?_ (eb_test (ed_neD (d := dNats (rest.filter fun x => !decide (x ∈ gone))) (e := .list []) (shapedNats _) rfl (ed_var rfl hfv) (ed_lst (by decide) ea_nil)))) (fun _ => ed_var rfl hfv) fun z => nomatch z) S9.hid (.refl _) fun v Hz sz hv => ?_
      · rw [eqvNil', List.isEmpty_map]
        cases q : rest.filter (fun x => !decide (x ∈ gone)) with
        | nil => exact absurd q e
        | cons => rfl
      · exact q v _ Hz (kf.trans (KS.of sz)) ((S9.mono sz).le (by omega)) (mat_size mem e (rnd.filter _) far) hv
end
end K9

set_option Elab.async false
set_option linter.all false
set_option maxRecDepth 100000
namespace K9
open PySem PySem.Spec PyProof.Rows L2 PySem.W MB
theorem eb_one {σ : L2.St} {H : Hp} {ta tb : TE} {m k : Nat} (ha : Ed ta σ H (dNat m)) (hb : Ed tb σ H (dNat k)) : Eb (tTest (tOp rEq (tOp (rI0 fun i j => .int (Builtin.bitAnd i j)) (tOp (rI (fun _ j => 0 ≤ j) fun i j => .int (i / 2 ^ j.toNat)) ta tb) (tC (.int 1))) (tC (.int 1)))) σ H (m.testBit k) :=
  Eb.of (by
    rw [Nat.testBit_eq_decide_div_mod_eq]
    exact decide_eq_decide.mpr (by omega)) (eb_test (ed_eqI (Ed.of (congrArg PyData.int (BT.bit_nat m k)) (ed_I0 (ed_I (by show (0 : Int) ≤ _; omega) ha hb) ed_int)) ed_int))
/-! ### masks of columns that are free -/
noncomputable def indB (col : Nat → Nat) (n m : Nat) : Bool := @decide (XM.IndC col n m) (Classical.propDecidable _)
theorem indB_iff {col : Nat → Nat} {n m : Nat} : indB col n m = true ↔ XM.IndC col n m := by
  unfold indB
  exact @decide_eq_true_iff _ (Classical.propDecidable _)
noncomputable def lessB (col : Nat → Nat) (n x j : Nat) : Bool := @decide (∀ k, k < j → x.testBit k = true → XM.IndC col n (clr x k)) (Classical.propDecidable _)
theorem lessB_iff {col : Nat → Nat} {n x j : Nat} : lessB col n x j = true ↔ ∀ k, k < j → x.testBit k = true → XM.IndC col n (clr x k) := by
  unfold lessB
  exact @decide_eq_true_iff _ (Classical.propDecidable _)
noncomputable abbrev frL (col : Nat → Nat) (n k : Nat) : List Nat := (List.range k).filter (indB col n)
noncomputable abbrev frM (col : Nat → Nat) (n : Nat) : List Nat := frL col n (2 ^ n)
abbrev colAt (cs : List Nat) : Nat → Nat := fun k => cs.getD k 0
theorem zero_ind (col : Nat → Nat) (n : Nat) : indB col n 0 = true := indB_iff.mpr (XM.indC col n).zero
theorem X_bound (col : Nat → Nat) (s : Nat) : ∀ n, (∀ k, k < n → col k < 64) → XM.X col n s < 64
  | 0, _ => by show (0 : Nat) < 64; decide
  | n + 1, h => by
    rw [XM.X]
    refine Nat.xor_lt_two_pow (n := 6) (X_bound col s n fun k hk => h k (by omega)) ?_
    split
    · exact h n (by omega)
    · decide
theorem frL_succ {col : Nat → Nat} {n k : Nat} : frL col n (k + 1) = frL col n k ++ if indB col n k = true then [k] else [] := by
  unfold frL
  rw [List.range_succ, List.filter_append, List.filter_cons, List.filter_nil]
theorem mem_frL {col : Nat → Nat} {n k m : Nat} : m ∈ frL col n k ↔ m < k ∧ indB col n m = true := by
  unfold frL
  rw [List.mem_filter, List.mem_range]
theorem frL_len (col : Nat → Nat) (n k : Nat) : (frL col n k).length ≤ k := by
  have := List.length_filter_le (indB col n) (List.range k)
  rwa [List.length_range] at this
theorem lessB_in {col : Nat → Nat} {n y j : Nat} (h : y.testBit j = true) : lessB col n y (j + 1) = (lessB col n y j && indB col n (clr y j)) := by
  rw [Bool.eq_iff_iff, Bool.and_eq_true, lessB_iff, lessB_iff, indB_iff]
  constructor
  · exact fun w => ⟨fun k hk hb => w k (by omega) hb, w j (by omega) h⟩
  · rintro ⟨w1, w2⟩ k hk hb
    by_cases e : k = j
    · subst e; exact w2
    · exact w1 k (by omega) hb
theorem lessB_out {col : Nat → Nat} {n y j : Nat} (h : y.testBit j = false) : lessB col n y (j + 1) = lessB col n y j := by
  rw [Bool.eq_iff_iff, lessB_iff, lessB_iff]
  refine ⟨fun w k hk hb => w k (by omega) hb, fun w k hk hb => w k ?_ hb⟩
  have : k ≠ j := fun e => by subst e; rw [h] at hb; cases hb
  omega
theorem free_at {col : Nat → Nat} {n y : Nat} (hy : y < 2 ^ n) (ne : y ≠ 0) : (lessB col n y n && !decide (((XM.X col n y : Nat) : Int) = 0)) = indB col n y := by
  rw [Bool.eq_iff_iff, Bool.and_eq_true, lessB_iff, indB_iff, XM.indC_step col hy ne, Bool.not_eq_true', decide_eq_false_iff_not]
  refine ⟨fun ⟨h1, h2⟩ => ⟨fun k hk => h1 k (lt_bit hy hk) hk, fun z => h2 (by rw [z]; rfl)⟩, fun ⟨h1, h2⟩ => ⟨fun k _ hk => h1 k hk, fun z => h2 (by omega)⟩⟩
theorem most_of {l : List Nat} (h : l ≠ []) : ∃ k, k ∈ l ∧ ∀ y, y ∈ l → y ≤ k := by
  induction l with
  | nil => exact absurd rfl h
  | cons x l ih =>
    by_cases e : l = []
    · subst e
      exact ⟨x, List.mem_cons_self, fun y hy => by rw [List.mem_singleton.mp hy]; exact Nat.le_refl _⟩
    · obtain ⟨k, hk, hm⟩ := ih e
      by_cases z : x ≤ k
      · exact ⟨k, List.mem_cons_of_mem _ hk, fun y hy => by
          rcases List.mem_cons.mp hy with rfl | hy
          · exact z
          · exact hm y hy⟩
      · exact ⟨x, List.mem_cons_self, fun y hy => by
          rcases List.mem_cons.mp hy with rfl | hy
          · exact Nat.le_refl _
          · exact Nat.le_trans (hm y hy) (by omega)⟩
/-- the greatest of what is free are bases -/
theorem mat_most {n k : Nat} {I : Nat → Prop} (hI : XM.Ind n I) {fr : List Nat} (hf : ∀ m, m ∈ fr ↔ m < 2 ^ n ∧ I m) (nd : fr.Nodup) (hk : k ∈ fr.map (MB.cnt n)) : MatM n (fr.filter fun m => decide (MB.cnt n m = k)) := by
  have mem : ∀ m, m ∈ fr.filter (fun m => decide (MB.cnt n m = k)) ↔ m < 2 ^ n ∧ I m ∧ MB.cnt n m = k := fun m => by
    rw [List.mem_filter, hf, decide_eq_true_eq, and_assoc]
  refine ⟨?_, nd.filter _, fun b hb => ((mem b).mp hb).1, ⟨k, fun b hb => ((mem b).mp hb).2.2⟩, hI.ex mem⟩
  obtain ⟨m, hm, e⟩ := List.mem_map.mp hk
  exact List.ne_nil_of_mem (List.mem_filter.mpr ⟨hm, decide_eq_true e⟩)
section
variable {P : Program} {w : World} {K : PySem.W.Frag} {mg : Str → Option Value} {base : Heap}
def R_cols (ds : List PyData) (d : PyData) : Prop := ∃ (n : Nat) (cs : List Nat) (k : Nat), ds = [dNat n, dNats cs] ∧ n ≤ 10 ∧ cs.length = n ∧ (∀ c, c ∈ cs → c < 64) ∧ k ∈ (frM (colAt cs) n).map (MB.cnt n) ∧ (∀ y, y ∈ (frM (colAt cs) n).map (MB.cnt n) → y ≤ k) ∧ d = dNats ((frM (colAt cs) n).filter fun m => decide (MB.cnt n m = k))
theorem ok__law_column_bases (T : Tx K mg) : FnOk P w K mg base CX0 2 T.f__law_column_bases T.fd__law_column_bases ["many", "columns"] (spD K R_cols) := by
  refine okD T.F__law_column_bases sc__law_column_bases (fun ds d ⟨_, _, _, e, _⟩ => by rw [e]; rfl) fun cdv A outer s H E O vs ds d hr o hv r => ?_
  obtain ⟨n, cs, most, rfl, hn, hcl, hc64, hm1, hm2, rfl⟩ := r
  obtain ⟨v1, v2, rfl, h1, h2⟩ := dp2 hv
  have hp := pow10 hn
  have hcol : ∀ k, k < n → colAt cs k < 64 := fun k hk => by
    have : colAt cs k = cs[k]'(by omega) := by simp [colAt, List.getD, List.getElem?_eq_getElem (show k < cs.length by omega)]
    rw [this]
    exact hc64 _ (List.getElem_mem _)
  generalize hcc : colAt cs = col at *
  have get : ∀ k, k < n → (cs.map dNat)[k]? = some (dNat (col k)) := fun k hk => by
    rw [List.getElem?_map, List.getElem?_eq_getElem (show k < cs.length by omega), ← hcc]
    simp [colAt, List.getD, List.getElem?_eq_getElem (show k < cs.length by omega)]
  refine ⟨_, (pss_cons (ps_set (i := 2) sc__law_column_bases.nd rfl (by first | exact .inl rfl | exact .inr rfl) (pe_lst (pa_cons pe_int pa_nil)))
      (pss_cons (ps_for PassesOwn.never rfl (pi_range2 (by rfl) T.n_range (pa_cons pe_int (pa_cons (pe_op op_shl pe_int (pv 0)) pa_nil))) (pg_name (i := 3) sc__law_column_bases.nd rfl (by first | exact .inl rfl | exact .inr rfl))
      (pss_cons (ps_asg (pe_tup (pa_cons pe_int (pa_cons pe_bl pa_nil))) (kg_tup K (pgs_cons (pg_name (i := 4) sc__law_column_bases.nd rfl (by first | exact .inl rfl | exact .inr rfl)) (pgs_cons (pg_name (i := 5) sc__law_column_bases.nd rfl (by first | exact .inl rfl | exact .inr rfl)) pgs_nil))))
      (pss_cons (ps_for PassesOwn.never rfl (pi_range1 (by rfl) T.n_range (pa_cons (pv 0) pa_nil)) (pg_name (i := 6) sc__law_column_bases.nd rfl (by first | exact .inl rfl | exact .inr rfl))
      (pss_one (ps_if (pt_cmpR op_eq (pe_op op_and (pe_op op_shr (pv 3) (pv 6)) pe_int) pe_int (nomark _)) (pss_cons (ps_set (i := 4) sc__law_column_bases.nd rfl (by first | exact .inl rfl | exact .inr rfl) (pe_op op_xor (pv 4) (pe_ix (ki_list K) (pv 1) (pv 6) (fun _ _ => rfl))))
      (pss_one (ps_set (i := 5) sc__law_column_bases.nd rfl (by first | exact .inl rfl | exact .inr rfl) (pe_and (pv 5) (pe_one (pe_cmpR (ko_in K) (pe_op op_xor (pv 3) (pe_op op_shl pe_int (pv 6))) (pv 2) rfl)))))) pss_nil)))
      (pss_one (ps_if (PW.pt (pw_and (pt_val (pv 5)) (pw_and1 (pt_cmpR op_ne (pv 4) pe_int (nomark _))))) (pss_one (ps_expr (pe_bm PySem.F.plainAttrs_list PySem.F.slot_list_append PySem.F.type_list_append mt_append (pv 2) (pa_cons (pv 3) pa_nil)))) pss_nil)))))
      (pss_cons (ps_set (i := 7) sc__law_column_bases.nd rfl (by first | exact .inl rfl | exact .inr rfl) (pe_callB (kc_max K) (by rfl) T.n_max boot_max (pa_cons (pe_lc (own := [("mask", 3)]) (g := (gName 3)) (tt := tYes) rfl sc__law_column_bases.nd (kp_list K (pv 2)) (blkOk_by (N := ["many", "columns", "free", "mask", "total", "is_free", "place", "most"]) (sc := defScope s__law_column_bases) (by decide +kernel)) (fun _ _ _ _ _ => (pg_name (i := 3) sc__law_column_bases.nd rfl (by first | exact .inl rfl | exact .inr rfl))) (fun _ _ _ _ _ => pts_nil) (fun _ _ _ _ _ => (pe_call (ok__law_count T) (hr.mono (by decide)) (by rfl) T.m__law_count T.F__law_count.kp T.b__law_count .nil pass0 (pa_cons (pv 3) pa_nil)))) pa_nil)))
      (pss_one (ps_ret (pe_lc (own := [("mask", 3)]) (g := (gName 3)) rfl sc__law_column_bases.nd (kp_list K (pv 2)) (blkOk_by (N := ["many", "columns", "free", "mask", "total", "is_free", "place", "most"]) (sc := defScope s__law_column_bases) (by decide +kernel)) (fun _ _ _ _ _ => (pg_name (i := 3) sc__law_column_bases.nd rfl (by first | exact .inl rfl | exact .inr rfl))) (fun _ _ _ _ _ => (pts_one (pt_cmpR op_eq (pe_call (ok__law_count T) (hr.mono (by decide)) (by rfl) T.m__law_count T.F__law_count.kp T.b__law_count .nil pass0 (pa_cons (pv 3) pa_nil)) (pv 7) (nomark _)))) (fun _ _ _ _ _ => (pv 3)))))))), fun D q => ?_⟩
  -- free = [0]
  refine ⟨by show 1 ≤ sizeLine; decide, fun p np => ?_⟩
  have s1 := same_new (o := .lst [V.int 0]) np
  have nO : ¬ O p := o.new np
  have hp1 : upd H p (.lst [V.int 0]) p = some (.lst [V.int 0]) := upd_same
  have g1 : Le (hid O H) (hid (L2.plus O p) (upd H p (.lst [V.int 0]))) := hid_add (hid_same s1) (by rw [hid_out nO]; exact np)
  generalize upd H p (.lst [V.int 0]) = H1 at s1 hp1 g1
  have hX : ∀ {H' : Hp} {o' : HO}, Le H H' → H' p = some o' → Hid (L2.plus O p) H' := fun s e => (o.mono s).plus e
  have fr1 : frL col n 1 = [0] := by
    show (List.range 1).filter _ = _
    rw [show List.range 1 = [0] from rfl, List.filter_cons, if_pos (zero_ind col n)]
    rfl
  have e1 : 2 ^ n = 1 + (2 ^ n - 1) := by have := Nat.two_pow_pos n; omega
  refine for_iw (xs := List.range (2 ^ n - 1)) (G := hid (L2.plus O p) H1) (O := L2.plus O p) (iw_range2 (a := 1) (n := 2 ^ n - 1) (by omega) (ea_cons ed_int (ea_one (Ed.of (by rw [← e1]) (ed_bit (by omega) (ed_var rfl (h1.mono g1))))))) (hX s1 hp1) (.refl _) fun H2 s2 => ?_
  refine ⟨fun i σ H3 => ∃ x3 x4 x5 x6, σ = [some v1, some v2, some (.ref p), x3, x4, x5, x6, none] ∧ Le H H3 ∧ Le (hid (L2.plus O p) H2) (hid (L2.plus O p) H3) ∧ H3 p = some (.lst (vNats (frL col n (1 + i)))), ⟨none, none, none, none, rfl, s1.trans s2, .refl _, by rw [fr1]; exact s2.lst hp1⟩, fun i σ H4 _ h4 => by obtain ⟨_, _, _, _, _, _, h, _⟩ := h4; exact h, fun i x σ H3 hx h3 => ?_, fun σ H3 h3 => ?_⟩
  · obtain ⟨x3, x4, x5, x6, rfl, s3, g3, hp3⟩ := h3
    refine ⟨L2.plus O p, hX s3 hp3, g3, fun σ4 H4 s4 hB => ?_⟩
    obtain ⟨xv, rfl, hxv⟩ := hB
    have hi : i < 2 ^ n - 1 := by have := (List.getElem?_eq_some_iff.mp hx).1; rwa [List.length_range] at this
    have ex : x = i := by rw [List.getElem?_range hi] at hx; exact (Option.some.inj hx).symm
    subst ex
    have exv := hxv.int_inv
    subst exv
    generalize hy : 1 + x = y at *
    have y0 : y ≠ 0 := by omega
    have yl : y < 2 ^ n := by omega
    have hp4 := s4.lst hp3
    have s04 := s3.trans s4
    -- total, is_free = 0, True
    refine pairA_seq (pairA_fin fun H5 s5 => ?_)
    have hp5 := s5.lst hp4
    have s05 := s04.trans s5
    have g5 : Le (hid (L2.plus O p) H1) (hid (L2.plus O p) H5) := (hid_same s2).trans (g3.trans (hid_same (s4.trans s5)))
    dsimp only [tSeq, gName]
    refine for_iw (xs := List.range n) (G := hid (L2.plus O p) H5) (O := L2.plus O p) (iw_range1 (by omega) (ea_one (ed_var rfl (h1.mono (g1.trans g5))))) (hX s05 hp5) (.refl _) fun H6 s6 => ?_
    have nOp : ∀ {H' : Hp} {xs : List V}, H' p = some (.lst xs) → hid O H' p = some (.lst xs) := fun e => by rw [hid_out nO]; exact e
    refine ⟨fun j σ H7 => ∃ x6, σ = [some v1, some v2, some (.ref p), some (.int (y : Nat)), some (.int (XM.X col j y : Nat)), some (.bl (lessB col n y j)), x6, none] ∧ Le H6 H7, ⟨x6, ?_, .refl _⟩, fun j σ H7 _ h7 => hid_same (by obtain ⟨_, _, h⟩ := h7; exact h), fun j z σ H7 hz h7 => ?_, fun σ H7 h7 => ?_⟩
    · have : lessB col n y 0 = true := lessB_iff.mpr fun k hk => absurd hk (Nat.not_lt_zero k)
      rw [this]
      rfl
    · obtain ⟨x6, rfl, s7⟩ := h7
      have hj : j < n := by have := (List.getElem?_eq_some_iff.mp hz).1; rwa [List.length_range] at this
      have ez : z = j := by rw [List.getElem?_range hj] at hz; exact (Option.some.inj hz).symm
      subst ez
      have hp7 := s7.lst (s6.lst hp5)
      refine ⟨L2.plus O p, hX (s05.trans (s6.trans s7)) hp7, hid_same s7, fun σ8 H8 s8 hB => ?_⟩
      obtain ⟨zv, rfl, hzv⟩ := hB
      have ezv : zv = V.int (z : Nat) := hzv.int_inv
      subst ezv
      have hp8 := s8.lst hp7
      have s08 := s05.trans (s6.trans (s7.trans s8))
      have o8 : Hid O H8 := o.mono s08
      have g8 := hid_same (O := O) s08
      refine if_eb (b := y.testBit z) (G := hid O H8) (O := O) (eb_one (ed_var rfl (.int _)) (ed_var rfl (.int _))) o8 (.refl _) (fun e H9 s9 => ?_) fun e H9 s9 => ?_
      · have s09 := s08.trans s9
        have o9 := o.mono s09
        refine asg_ed (G := hid O H9) (O := O) (d := dNat (XM.X col z y ^^^ col z)) (ed_xor (ed_var rfl (.int _)) (ed_ixL (n := z) (get z hj) (ed_var rfl (h2.mono (hid_same s09))) (ed_var rfl (.int _)))) o9 (.refl _) fun tv Ha sa htv => ?_
        have etv := htv.int_inv
        subst etv
        have s0a := s09.trans sa
        have vis : Dq (hid O Ha) (.ref p) (dNats (frL col n y)) := .lst (.inl (.inl (nOp (sa.lst (s9.lst hp8))))) (dq_nats _)
        have el : decide ((y ^^^ 2 ^ z) ∈ frL col n y) = indB col n (clr y z) := by
          rw [xor_clr e, Bool.eq_iff_iff, decide_eq_true_eq, mem_frL]
          exact ⟨fun w => w.2, fun w => ⟨clr_lt e, w⟩⟩
        refine asg_ed (G := hid O Ha) (O := O) (d := .bool (lessB col n y z && indB col n (clr y z))) (ed_and (ed_var rfl (.bl _)) fun _ => Ed.of (congrArg PyData.bool el) (ed_inN (ed_xor (ed_var rfl (.int _)) (ed_bit (by omega) (ed_var rfl (.int _)))) (ed_var rfl vis))) (o.mono s0a) (.refl _) fun bv Hb sb hbv => ?_
        have ebv := hbv.bl_inv
        subst ebv
        refine ⟨some (.int (z : Nat)), ?_, s7.trans (s8.trans (s9.trans (sa.trans sb)))⟩
        rw [lessB_in e, XM.X, e]
        rfl
      · refine ⟨some (.int (z : Nat)), ?_, s7.trans (s8.trans s9)⟩
        rw [lessB_out e, XM.X, e]
        simp only [Bool.false_eq_true, if_false, Nat.xor_zero]
        rfl
    · obtain ⟨x6', rfl, s7⟩ := h7
      rw [List.length_range]
      have s07 := s05.trans (s6.trans s7)
      have o7 := o.mono s07
      have hp7 := s7.lst (s6.lst hp5)
      refine if_eb (b := indB col n y) (G := hid O H7) (O := O) (Eb.of (free_at yl y0) (eb_and (eb_B (ed_var rfl (.bl _))) fun _ => eb_test (ed_neI (ed_var rfl (.int _)) ed_int))) o7 (.refl _) (fun e H8 s8 => ?_) fun e H8 s8 => ?_
      · have hp8 := s8.lst hp7
        have s08 := s07.trans s8
        refine app_run (G := hid O H8) (O := O) (i1 := 2) (d := dNat y) rfl (ed_var rfl (.int _)) (o.mono s08) (.refl _) hp8 (by rw [List.length_map]; have := frL_len col n y; omega) fun u H9 s9 hu => ?_
        have eu := hu.int_inv
        subst eu
        have hp9 := s9.lst hp8
        refine ⟨_, _, _, _, rfl, (s08.trans s9).updN np (nt_lst hp9), ?_, ?_⟩
        · rw [hid_upd O (nt_lst hp9) rfl]
          exact g3.trans (hid_same (s4.trans (s5.trans (s6.trans (s7.trans (s8.trans s9))))))
        · rw [upd_same, show 1 + (x + 1) = y + 1 by omega, frL_succ, if_pos e, vNats_snoc]
      · refine ⟨_, _, _, _, rfl, s07.trans s8, g3.trans (hid_same (s4.trans (s5.trans (s6.trans (s7.trans s8))))), ?_⟩
        rw [show 1 + (x + 1) = y + 1 by omega, frL_succ, if_neg (by rw [e]; exact Bool.false_ne_true), List.append_nil]
        exact s8.lst hp7
  · obtain ⟨x3, x4, x5, x6, rfl, s3, g3, hp3⟩ := h3
    rw [List.length_range, ← e1] at hp3
    have o3 := o.mono s3
    have vis : Dq (hid O H3) (.ref p) (dNats (frM col n)) := .lst (.inl (.inl (by rw [hid_out nO]; exact hp3))) (dq_nats _)
    have fl : (frM col n).length ≤ 2 ^ n := frL_len col n (2 ^ n)
    refine asg_ed (G := hid O H3) (O := O) (d := dNat most) (ed_max (ns := (frM col n).map fun m => ((MB.cnt n m : Nat) : Int)) (m := ((most : Nat) : Int)) ?_ (fun z hz => ?_) (Ed.of ?_ (ed_lc (fun _ => true) (fun m : Nat => dNat (MB.cnt n m)) (xs := frM col n) (by omega) (iw_list (φ := dNat) (ed_var rfl vis)) (fun x σ4 H4 ⟨v, e, _⟩ => by subst e; rfl) ?_))) o3 (.refl _) fun mv H4 s4 hmv => ?_
    · obtain ⟨m, hm, e⟩ := List.mem_map.mp hm1
      exact List.mem_map.mpr ⟨m, hm, by rw [e]⟩
    · obtain ⟨m, hm, rfl⟩ := List.mem_map.mp hz
      exact Int.ofNat_le.mpr (hm2 _ (List.mem_map.mpr ⟨m, hm, rfl⟩))
    · rw [filt_t, List.map_map]
      rfl
    · rintro m hm σ2 Ha sa ⟨u, rfl, du⟩
      exact ⟨eb_yes, fun _ => ed_call ⟨n, m, rfl, (mem_frL.mp hm).1, rfl⟩ (ea_one (ed_var rfl du))⟩
    have emv := hmv.int_inv
    subst emv
    refine ret_ed (G := hid O H4) (O := O) (ed_lc (fun m => decide (MB.cnt n m = most)) dNat (xs := frM col n) (by omega) (iw_list (φ := dNat) (ed_var rfl (vis.mono (hid_same s4)))) (fun x σ4 H4 ⟨v, e, _⟩ => by subst e; rfl) ?_) (o3.mono s4) (.refl _) fun v H5 s5 hv => q v H5 (s3.trans (s4.trans s5)) hv
    rintro m hm σ2 Ha sa ⟨u, rfl, du⟩
    exact ⟨Eb.of (decide_eq_decide.mpr Int.ofNat_inj) (eb_test (ed_eqI (ed_call (d := dNat (MB.cnt n m)) ⟨n, m, rfl, (mem_frL.mp hm).1, rfl⟩ (ea_one (ed_var rfl du))) (ed_var rfl (.int _)))), fun _ => ed_var rfl du⟩
end
end K9

set_option Elab.async false
set_option linter.all false
set_option maxRecDepth 100000
namespace K9
open PySem PySem.Spec PyProof.Rows L2 PySem.W MB
/-! ### edges drawn -/
abbrev dEdge (p : Nat × Nat) : PyData := .tuple [dNat p.1, dNat p.2]
abbrev dEdges (ps : List (Nat × Nat)) : PyData := .list (ps.map dEdge)
theorem asg_raw {te : TE} {D : Ends} {i : Nat} {σ : L2.St} {H : Hp} (h : te σ H (fun v H1 => D.nx (σ.set i (some v)) H1)) : tAsg te (gName i) D σ H := h
theorem edge_any {O O' : Addr → Prop} {H : Hp} {v : V} {e : Nat × Nat} (h : Dq (hid O H) v (dEdge e)) : Dq (hid O' H) v (dEdge e) := by
  obtain ⟨a, xs, rfl, h1, h2⟩ := h.tup_raw
  cases h2 with
  | cons a1 t =>
    cases t with
    | cons a2 t =>
      cases t
      have e1 := a1.int_inv
      have e2 := a2.int_inv
      subst e1 e2
      have h3 := (hid_some h1).1
      exact .tup (by rw [hid_tup (by rw [h3]; rfl)]; exact h3) (.cons (.int _) (.cons (.int _) .nil))
section
variable {P : Program} {w : World} {K : PySem.W.Frag} {mg : Str → Option Value} {base : Heap}
def spLines : Sp := fun vs H Q _ => ∃ (m : Addr) (n : Nat) (N : Int), vs = [.ref m, .int n] ∧ n ≤ 10 ∧ Src H m N ∧ N < 800000 ∧ ∀ v (ps : List (Nat × Nat)) H', KS m H H' → Src H' m (N + 100) → ps.length = n → (∀ p, p ∈ ps → p.1 < 12 ∧ p.2 < 12) → Dq (hid (XM m) H') v (dEdges ps) → Q v H'
theorem ok__law_drawn_lines (T : Tx K mg) : FnOk P w K mg base CX0 3 T.f__law_drawn_lines T.fd__law_drawn_lines ["source", "many"] spLines := by
  refine T.F__law_drawn_lines.ok sc__law_drawn_lines (fun vs H Q E h => ?_) (fun cdv A outer s H vs Q E hr h => ?_)
  · obtain ⟨m, n, N, rfl, _⟩ := h
    rfl
  obtain ⟨m, n, N, rfl, n10, hS, hN, q⟩ := h
  refine ⟨_, (pss_cons (ps_set (i := 2) sc__law_drawn_lines.nd rfl (by first | exact .inl rfl | exact .inr rfl) (pe_op op_add pe_int (pe_call (ok__law_next T) (hr.mono (by decide)) (by rfl) T.m__law_next T.F__law_next.kp T.b__law_next .nil pass0 (pa_cons (pv 0) (pa_cons pe_int pa_nil)))))
      (pss_cons (ps_if (pt_cmpR op_eq (pe_call (ok__law_next T) (hr.mono (by decide)) (by rfl) T.m__law_next T.F__law_next.kp T.b__law_next .nil pass0 (pa_cons (pv 0) (pa_cons pe_int pa_nil))) pe_int (nomark _)) (pss_cons (ps_set (i := 3) sc__law_drawn_lines.nd rfl (by first | exact .inl rfl | exact .inr rfl) (pe_lst pa_nil))
      (pss_cons (ps_for PassesOwn.never rfl (pi_range1 (by rfl) T.n_range (pa_cons (pv 1) pa_nil)) (pg_name (i := 4) sc__law_drawn_lines.nd rfl (by first | exact .inl rfl | exact .inr rfl))
      (pss_cons (ps_set (i := 5) sc__law_drawn_lines.nd rfl (by first | exact .inl rfl | exact .inr rfl) (pe_call (ok__law_next T) (hr.mono (by decide)) (by rfl) T.m__law_next T.F__law_next.kp T.b__law_next .nil pass0 (pa_cons (pv 0) (pa_cons (pe_op op_add (pv 2) pe_int) pa_nil))))
      (pss_one (ps_expr (pe_bm PySem.F.plainAttrs_list PySem.F.slot_list_append PySem.F.type_list_append mt_append (pv 3) (pa_cons (pe_tup (pa_cons (pv 5) (pa_cons (pe_op op_mod (pe_callTy call_int1 (by rfl) T.n_int boot_int (pa_cons (pe_op op_add (pe_op op_add (pv 5) pe_int) (pe_call (ok__law_next T) (hr.mono (by decide)) (by rfl) T.m__law_next T.F__law_next.kp T.b__law_next .nil pass0 (pa_cons (pv 0) (pa_cons (pv 2) pa_nil)))) pa_nil)) (pe_op op_add (pv 2) pe_int)) pa_nil))) pa_nil))))))
      (pss_one (ps_ret (pv 3))))) pss_nil)
      (pss_cons (ps_setLc (i := 3) (own := [("place", 4)]) (g := (gName 4)) (tt := tYes) rfl sc__law_drawn_lines.nd rfl rfl (sw_true rfl rfl rfl (by decide +kernel)) (pi_range1 (by rfl) T.n_range (pa_cons (pe_callB (call_min2 rfl) (by rfl) T.n_min boot_min (pa_cons (pv 1) (pa_cons (pe_op op_add (pv 2) pe_int) pa_nil))) pa_nil)) (blkOk_by (N := ["source", "many", "spots", "found", "place", "start"]) (sc := defScope s__law_drawn_lines) (by decide +kernel)) (fun _ _ _ _ _ => (pg_name (i := 4) sc__law_drawn_lines.nd rfl (by first | exact .inl rfl | exact .inr rfl))) (fun _ _ _ _ _ => pts_nil) (fun _ _ _ _ _ => (pe_tup (pa_cons (pv 4) (pa_cons (pe_op op_mod (pe_callTy call_int1 (by rfl) T.n_int boot_int (pa_cons (pe_op op_add (pv 4) pe_int) pa_nil)) (pe_op op_add (pv 2) pe_int)) pa_nil)))))
      (pss_cons (ps_while PassesOwn.never (pt_cmpR op_lt (pe_callB (kc_len K) (by rfl) T.n_len PySem.boot_len (pa_cons (pv 3) pa_nil)) (pv 1) (nomark _)) (pss_one (ps_expr (pe_bm PySem.F.plainAttrs_list PySem.F.slot_list_append PySem.F.type_list_append mt_append (pv 3) (pa_cons (pe_ifExp (pt_cmpR op_eq (pe_call (ok__law_next T) (hr.mono (by decide)) (by rfl) T.m__law_next T.F__law_next.kp T.b__law_next .nil pass0 (pa_cons (pv 0) (pa_cons pe_int pa_nil))) pe_int (nomark _)) (pe_call (ok__law_pick T) (hr.mono (by decide)) (by rfl) T.m__law_pick T.F__law_pick.kp T.b__law_pick .nil pass0 (pa_cons (pv 0) (pa_cons (pv 3) pa_nil))) (pe_tup (pa_cons pe_int (pa_cons (pe_call (ok__law_next T) (hr.mono (by decide)) (by rfl) T.m__law_next T.F__law_next.kp T.b__law_next .nil pass0 (pa_cons (pv 0) (pa_cons (pe_op op_add (pv 2) pe_int) pa_nil))) pa_nil)))) pa_nil)))))
      (pss_one (ps_ret (pv 3))))))), ?_⟩
  have hX : ∀ {p : Addr} {H' : Hp} {N' : Int} {o : HO}, Src H' m N' → H' p = some o → Hid (L2.plus (XM m) p) H' := fun S e => S.hid.plus e
  have hO : ∀ {p : Addr}, L2.plus (XM m) p m := .inl rfl
  -- spots
  refine ⟨.ref m, rfl, m, 3, N, rfl, hS, by omega, by decide, by decide, fun r H1 r0 r1 k1 S1 => ⟨2, r, rfl, rfl, ?_⟩⟩
  obtain ⟨sp, hsp⟩ : ∃ sp : Nat, 2 + r = (sp : Int) := ⟨(2 + r).toNat, by omega⟩
  dsimp only [gName]
  rw [hsp]
  have b2 : 2 ≤ sp ∧ sp ≤ 4 := by omega
  refine ⟨.ref m, rfl, m, 2, N + 1, rfl, S1, by omega, by decide, by decide, fun r2 H2 r20 r21 k2 S2 => ⟨rfl, _, rfl, ?_⟩⟩
  have k02 := k1.trans k2
  refine ite2 (fun e => ?_) (fun e => ?_)
  · -- found = []
    refine ⟨by show 0 ≤ sizeLine; decide, fun p np => ?_⟩
    have s3 := same_new (o := .lst []) np
    have pm := S2.ne np
    have hp3 : upd H2 p (.lst []) p = some (.lst []) := upd_same
    have g3 : Le (hid (XM m) H2) (hid (L2.plus (XM m) p) (upd H2 p (.lst []))) := (KS.of s3).plus np
    have S3 := S2.mono s3
    generalize upd H2 p (.lst []) = H3 at s3 hp3 g3 S3
    refine for_iw (xs := List.range n) (G := hid (L2.plus (XM m) p) H3) (O := L2.plus (XM m) p) (iw_range1 (by omega) (ea_one (ed_var rfl (.int _)))) (hX S3 hp3) (.refl _) fun H4 s4 => ?_
    refine ⟨fun i σ H5 => ∃ (ps : List (Nat × Nat)) (acc : List V) (x4 x5 : Option V), σ = [some (.ref m), some (.int n), some (.int sp), some (.ref p), x4, x5] ∧ Le (hid (L2.plus (XM m) p) H4) (hid (L2.plus (XM m) p) H5) ∧ Src H5 m (N + 2 + 2 * i) ∧ H5 p = some (.lst acc) ∧ DqAll (hid (L2.plus (XM m) p) H5) acc (ps.map dEdge) ∧ ps.length = i ∧ ∀ p, p ∈ ps → p.1 < 12 ∧ p.2 < 12,
      ⟨[], [], none, none, rfl, .refl _, (S3.mono s4).le (by omega), s4.lst hp3, .nil, rfl, fun p hp => absurd hp List.not_mem_nil⟩, fun i σ H5 _ h5 => by obtain ⟨_, _, _, _, _, h, _⟩ := h5; exact h, fun i x σ H5 hx h5 => ?_, fun σ H5 h5 => ?_⟩
    · obtain ⟨ps, acc, x4, x5, rfl, g5, S5, hp5, hacc, hl, hb⟩ := h5
      have hi : i < n := by have := (List.getElem?_eq_some_iff.mp hx).1; rwa [List.length_range] at this
      refine ⟨L2.plus (XM m) p, hX S5 hp5, g5, fun σ6 H6 s6 hB => ?_⟩
      obtain ⟨xv, rfl, hxv⟩ := hB
      have S6 := S5.mono s6
      refine ⟨.ref m, rfl, .int sp, rfl, _, _, rfl, rfl, m, _, _, rfl, S6, by omega, by omega, by omega, fun st H7 st0 st1 k7 S7 => ?_⟩
      have hp7 := k7.lst (s6.lst hp5) pm
      refine ⟨.ref p, rfl, .inl ⟨rfl, acc, .inl (.inl hp7)⟩, .int st, rfl, .int st, rfl, _, _, rfl, rfl, .ref m, rfl, .int sp, rfl, m, _, _, rfl, S7, by omega, by omega, by omega, fun y H8 y0 y1 k8 S8 => ⟨_, _, rfl, rfl, .inl ⟨_, rfl, .int sp, rfl, _, _, rfl, rfl, _, _, rfl, rfl, by omega, by show 2 ≤ sizeLine; decide, fun t nt => ?_⟩⟩⟩
      have hp8 := k8.lst hp7 pm
      have s9 := same_new (o := .tup [V.int st, V.int ((st + 1 + y) % ((sp : Int) + 1))]) nt
      have hp9 := s9.lst hp8
      obtain ⟨a, ha⟩ : ∃ a : Nat, st = (a : Int) := ⟨st.toNat, by omega⟩
      have z0 : 0 ≤ (st + 1 + y) % ((sp : Int) + 1) := Int.emod_nonneg _ (by omega)
      have z1 : (st + 1 + y) % ((sp : Int) + 1) < (sp : Int) + 1 := Int.emod_lt_of_pos _ (by omega)
      obtain ⟨b, hb2⟩ : ∃ b : Nat, (st + 1 + y) % ((sp : Int) + 1) = (b : Int) := ⟨_, (Int.toNat_of_nonneg z0).symm⟩
      have gn : Le (hid (L2.plus (XM m) p) H5) (hid (L2.plus (XM m) p) (upd H8 t (.tup [V.int st, V.int ((st + 1 + y) % ((sp : Int) + 1))]))) := (hid_same s6).trans ((k7.le hO).trans ((k8.le hO).trans (hid_same s9)))
      have S9 := S8.mono s9
      have ht9 : upd H8 t (.tup [V.int st, V.int ((st + 1 + y) % ((sp : Int) + 1))]) t = some (.tup [V.int st, V.int ((st + 1 + y) % ((sp : Int) + 1))]) := upd_same
      generalize upd H8 t (.tup [V.int st, V.int ((st + 1 + y) % ((sp : Int) + 1))]) = H9 at s9 hp9 gn S9 ht9
      refine ⟨p, acc, .ref t, rfl, rfl, hp9, by rw [dpAll_len hacc, List.length_map]; exact Nat.lt_of_lt_of_le (show ps.length < 100 by omega) (by decide), ?_⟩
      refine ⟨ps ++ [(a, b)], acc ++ [.ref t], _, _, rfl, ?_, (S9.upd pm).le (by push_cast; omega), upd_same, ?_, by rw [List.length_append, hl]; rfl, fun q hq => ?_⟩
      · rw [hid_upd _ (nt_lst hp9) rfl]
        exact g5.trans gn
      · rw [hid_upd _ (nt_lst hp9) rfl, List.map_append]
        refine (hacc.mono gn).append (.cons (.tup (xs := [V.int (a : Nat), V.int (b : Nat)]) ?_ (.cons (.int _) (.cons (.int _) .nil))) .nil)
        rw [hid_tup (by rw [ht9]; rfl), ht9, ha, ← hb2, ha]
      · rcases List.mem_append.mp hq with hq | hq
        · exact hb q hq
        · rw [List.mem_singleton.mp hq]
          constructor
          · show a < 12
            omega
          · show b < 12
            omega
    · obtain ⟨ps, acc, x4, x5, rfl, g5, S5, hp5, hacc, hl, hb⟩ := h5
      rw [List.length_range] at hl S5
      refine ⟨.ref p, rfl, q _ ps H5 (k02.trans (g3.trans ((hid_same s4).trans (g5.trans (hid_plus _ _ _))))) (S5.le (by omega)) hl hb (.lst (.inl (.inl (by rw [hid_out (O := XM m) pm]; exact hp5))) (hacc.mono (hid_plus _ _ _)))⟩
  · -- a ring with chords
    have dmin : ∃ c : Nat, c ≤ n ∧ c ≤ sp + 1 ∧ (c = 0 → n = 0) ∧ Ed (tCB (fun xs H Q => ∃ i j, xs = [V.int i, V.int j] ∧ Q (V.int (if j < i then j else i)) H) (tCons (tVar 1) (tCons (tOp (rI0 fun i j => V.int (i + j)) (tVar 2) (tC (V.int 1))) tNil))) [some (.ref m), some (.int n), some (.int sp), none, none, none] (hid (XM m) H2) (dNat c) := by
      refine ⟨min n (sp + 1), Nat.min_le_left _ _, Nat.min_le_right _ _, fun z => by omega, ed_cb (ds := [dNat n, .int ((sp : Int) + 1)]) (ea_cons (ed_var rfl (.int _)) (ea_one (ed_I0 (g := fun i j => i + j) (ed_var rfl (.int _)) ed_int))) fun O vs H1 o s hv Q q => ?_⟩
      cases hv with
      | cons h0 t =>
        cases t with
        | cons h1 t =>
          cases t
          rw [h0.int_inv, h1.int_inv]
          refine ⟨_, _, rfl, ?_⟩
          have e : (if (sp : Int) + 1 < (n : Int) then (sp : Int) + 1 else (n : Int)) = ((min n (sp + 1) : Nat) : Int) := by
            split <;> omega
          rw [e]
          exact q _ H1 (.refl _) (.int _)
    obtain ⟨c, c1, c2, c3, hc⟩ := dmin
    dsimp only [tNext]
    refine asg_raw ?_
    refine lc_new (O := XM m) (G := hid (XM m) H2) (fun _ : Nat => true) (fun k => dEdge (k, (k + 1) % (sp + 1))) (xs := List.range c) (by rw [List.length_range]; omega) (iw_range1 (by omega) (ea_one hc)) S2.hid (.refl _) (fun x σ4 H4 ⟨v, e, _⟩ => by subst e; rfl) ?_ fun p acc H3 np s3 hp3 hacc => ?_
    · rintro k hk σ2 Hx sx ⟨u, rfl, du⟩
      refine ⟨eb_yes, fun _ => ed_tup (by show 2 ≤ 1000; decide) (ea_cons (ed_var rfl du) (ea_one (Ed.of (congrArg PyData.int (?_ : ((k : Int) + 1) % ((sp : Int) + 1) = _)) (ed_I (g := fun i j => i % j) (C := fun _ j => 0 < j) (i := (k : Int) + 1) (j := (sp : Int) + 1) (by show (0 : Int) < _; omega) (ed_cb (ds := [.int ((k : Int) + 1)]) (ea_one (ed_I0 (g := fun i j => i + j) (ed_var rfl du) ed_int)) fun O vs H1 o s hv Q q => ?_) (ed_I0 (g := fun i j => i + j) (ed_var rfl (.int _)) ed_int)))))⟩
      · show ((k + 1 : Nat) : Int) % ((sp + 1 : Nat) : Int) = _
        exact (Int.natCast_emod _ _).symm
      · cases hv with
        | cons h0 t =>
          cases t
          have e0 := h0.int_inv
          subst e0
          exact .inl ⟨_, rfl, q _ H1 (.refl _) (.int _)⟩
    · have pm := S2.ne np
      have S3 := S2.mono s3
      have k3 : KS m H H3 := k02.trans (KS.of s3)
      rw [filt_t, show (List.range c).map (fun k => dEdge (k, (k + 1) % (sp + 1))) = ((List.range c).map fun k => (k, (k + 1) % (sp + 1))).map dEdge by rw [List.map_map]; rfl] at hacc
      dsimp only [tSeq]
      refine ⟨fun k σ H4 => ∃ (ps : List (Nat × Nat)) (acc : List V), k = n - ps.length ∧ ps.length ≤ n ∧ c ≤ ps.length ∧ σ = [some (.ref m), some (.int n), some (.int sp), some (.ref p), none, none] ∧ Le (hid (L2.plus (XM m) p) H3) (hid (L2.plus (XM m) p) H4) ∧ Src H4 m (N + 2 + 2 * ps.length) ∧ H4 p = some (.lst acc) ∧ DqAll (hid (L2.plus (XM m) p) H4) acc (ps.map dEdge) ∧ ∀ p, p ∈ ps → p.1 < 12 ∧ p.2 < 12,
        ⟨_, _, acc, rfl, by rw [List.length_map, List.length_range]; exact c1, by rw [List.length_map, List.length_range]; exact Nat.le_refl _, rfl, .refl _, S3.le (by omega), hp3, hacc, fun q hq => ?_⟩, ?_⟩
      · obtain ⟨k, hk, rfl⟩ := List.mem_map.mp hq
        have := List.mem_range.mp hk
        have := Nat.mod_lt (k + 1) (show 0 < sp + 1 by omega)
        constructor
        · show k < 12
          omega
        · show (k + 1) % (sp + 1) < 12
          omega
      rintro k σ H4 ⟨ps, acc4, rfl, hl, cl, rfl, g4, S4, hp4, hacc4, hb⟩
      have al : acc4.length = ps.length := by rw [dpAll_len hacc4, List.length_map]
      have vis : Dq (hid (XM m) H4) (.ref p) (dEdges ps) := .lst (.inl (.inl (by rw [hid_out (O := XM m) pm]; exact hp4))) (hacc4.mono (hid_plus _ _ _))
      have t0 : Eb (tTest (tOp (rI0 fun i j => .bl (decide (i < j))) (tCB (fun xs H Q => ∃ p ys, xs = [V.ref p] ∧ (SqL K H p ys ∨ SqT K H p ys) ∧ Q (V.int ys.length) H) (tCons (tVar 3) tNil)) (tVar 1))) [some (.ref m), some (.int n), some (.int sp), some (.ref p), none, none] (hid (XM m) H4) (decide (ps.length < n)) := Eb.of (by rw [List.length_map]; exact decide_eq_decide.mpr Int.ofNat_lt) (eb_test (ed_B0 (g := fun i j => decide (i < j)) (ed_len (kd := false) (ed_var rfl vis)) (ed_var rfl (.int _))))
      refine t0 (XM m) H4 S4.hid (.refl _) _ fun H5 s5 => ?_
      have S5 := S4.mono s5
      have hp5 := s5.lst hp4
      have g5 := g4.trans (hid_same s5)
      refine ite2 (fun e5 => ?_) (fun e5 => ?_)
      rotate_left
      · have ln : ps.length = n := by
          have := of_decide_eq_false (Bool.eq_false_iff.mpr e5)
          omega
        have kf : KS m H H5 := k02.trans (((KS.of s3).plus np).trans (g5.trans (hid_plus _ _ _)))
        exact ⟨.ref p, rfl, q _ ps H5 kf (S5.le (by omega)) ln hb (.lst (.inl (.inl (by rw [hid_out (O := XM m) pm]; exact hp5))) ((hacc4.mono (hid_same s5)).mono (hid_plus _ _ _)))⟩
      · have lt : ps.length < n := of_decide_eq_true e5
        refine ⟨fun σ' H' => ∃ k', k' < n - ps.length ∧ ∃ (ps : List (Nat × Nat)) (acc : List V), k' = n - ps.length ∧ ps.length ≤ n ∧ c ≤ ps.length ∧ σ' = [some (.ref m), some (.int n), some (.int sp), some (.ref p), none, none] ∧ Le (hid (L2.plus (XM m) p) H3) (hid (L2.plus (XM m) p) H') ∧ Src H' m (N + 2 + 2 * ps.length) ∧ H' p = some (.lst acc) ∧ DqAll (hid (L2.plus (XM m) p) H') acc (ps.map dEdge) ∧ ∀ p, p ∈ ps → p.1 < 12 ∧ p.2 < 12, fun σ' H' h => h, ?_⟩
        -- the end of a turn, whatever is put in
        have fin : ∀ (y : V) (e : Nat × Nat) (H' : Hp), Le (hid (L2.plus (XM m) p) H5) (hid (L2.plus (XM m) p) H') → Src H' m (N + 2 + 2 * ps.length + 2) → H' p = some (.lst acc4) → Dq (hid (L2.plus (XM m) p) H') y (dEdge e) → e.1 < 12 ∧ e.2 < 12 → rAppend (.ref p) [y] H' (fun _ H' => ∃ k', k' < n - ps.length ∧ ∃ (ps : List (Nat × Nat)) (acc : List V), k' = n - ps.length ∧ ps.length ≤ n ∧ c ≤ ps.length ∧ [some (V.ref m), some (V.int n), some (V.int sp), some (V.ref p), none, none] = [some (.ref m), some (.int n), some (.int sp), some (.ref p), none, none] ∧ Le (hid (L2.plus (XM m) p) H3) (hid (L2.plus (XM m) p) H') ∧ Src H' m (N + 2 + 2 * ps.length) ∧ H' p = some (.lst acc) ∧ DqAll (hid (L2.plus (XM m) p) H') acc (ps.map dEdge) ∧ ∀ p, p ∈ ps → p.1 < 12 ∧ p.2 < 12) := fun y e H' g' S' hp' hy he => by
          refine ⟨p, acc4, y, rfl, rfl, hp', by rw [al]; exact Nat.lt_of_lt_of_le (show ps.length < 100 by omega) (by decide), n - (ps ++ [e]).length, by rw [List.length_append]; simp; omega, ps ++ [e], acc4 ++ [y], rfl, by rw [List.length_append]; simp; omega, by rw [List.length_append]; omega, rfl, ?_, (S'.upd pm).le (by rw [List.length_append]; push_cast; simp; omega), upd_same, ?_, fun q hq => ?_⟩
          · rw [hid_upd _ (nt_lst hp') rfl]
            exact g5.trans g'
          · rw [hid_upd _ (nt_lst hp') rfl, List.map_append]
            exact (hacc4.mono ((hid_same s5).trans g')).append (.cons hy .nil)
          · rcases List.mem_append.mp hq with hq | hq
            · exact hb q hq
            · rw [List.mem_singleton.mp hq]; exact he
        refine ⟨.ref p, rfl, .inl ⟨rfl, acc4, .inl (.inl hp5)⟩, .ref m, rfl, m, 2, _, rfl, S5, by omega, by decide, by decide, fun w H6 w0 w1 k6 S6 => ⟨rfl, _, rfl, ?_⟩⟩
        have hp6 := k6.lst hp5 pm
        refine ite2 (fun _ => ?_) (fun _ => ?_)
        · have z : ps ≠ [] := fun z => by rw [z] at cl lt; simp at cl lt; have := c3 cl; omega
          refine ⟨.ref m, rfl, .ref p, rfl, m, _, ps.map dEdge, .ref p, rfl, S6, by omega, fun q => z (List.map_eq_nil_iff.mp q), by rw [List.length_map]; omega, ?_, fun y d H7 hd k7 S7 hy => ?_⟩
          · exact .lst (.inl (.inl (by rw [hid_out (O := XM m) pm]; exact hp6))) ((hacc4.mono ((hid_same s5).trans (k6.le hO))).mono (hid_plus _ _ _))
          · obtain ⟨e, he, rfl⟩ := List.mem_map.mp hd
            exact fin y e H7 ((k6.le hO).trans (k7.le hO)) (S7.le (by omega)) (k7.lst hp6 pm) (edge_any hy) (hb e he)
        · refine ⟨.ref m, rfl, .int sp, rfl, _, _, rfl, rfl, m, _, _, rfl, S6, by omega, by omega, by omega, fun y H7 y0 y1 k7 S7 => ⟨by show 2 ≤ sizeLine; decide, fun t nt => ?_⟩⟩
          obtain ⟨b, rfl⟩ : ∃ b : Nat, y = (b : Int) := ⟨y.toNat, by omega⟩
          have s8 := same_new (o := .tup [V.int 0, V.int (b : Nat)]) nt
          refine fin (.ref t) (0, b) _ (((k6.le hO).trans (k7.le hO)).trans (hid_same s8)) ((S7.mono s8).le (by omega)) (s8.lst (k7.lst hp6 pm)) (.tup (xs := [V.int 0, V.int (b : Nat)]) ?_ (.cons (.int _) (.cons (.int _) .nil))) ⟨by show 0 < 12; decide, by show b < 12; omega⟩
          rw [hid_tup (by rw [upd_same]; rfl), upd_same]
end
end K9

set_option Elab.async false
set_option linter.all false
set_option maxRecDepth 100000
set_option maxHeartbeats 2000000
/-! a dict with ints for keys that is walked -/
namespace L2
open PySem PySem.Spec PyProof.Rows PySem.W
theorem nosq_dK {G : Hp} {a : Addr} {ks : List (Key × V)} (h : G a = some (.dK ks)) (xs : List V) : ¬ SqL [] G a xs := by
  rintro ((h' | ⟨_, h'⟩) | ⟨_, _, _, h', _⟩)
  · rw [h] at h'; cases h'
  · rw [h] at h'; cases h'
  · cases h'
theorem nosq_frzK {G : Hp} {a : Addr} {od : Obj} {ks : List (Key × V)} (h : G a = some (.frz od (.dK ks))) (xs : List V) : ¬ SqL [] G a xs := by
  rintro ((h' | ⟨_, h'⟩) | ⟨_, _, _, h', _⟩)
  · rw [h] at h'; cases h'
  · rw [h] at h'; cases h'
  · cases h'
section
variable {G H H' : Hp} {a : Addr} {ks : List (Key × V)} {kvs : List (Int × PyData)} {od : Obj} {v : V} {d : PyData}
abbrev lockK (G : Hp) (a : Addr) (od : Obj) (ks : List (Key × V)) : Hp := upd G a (.frz od (.dK ks))
theorem Dq.lockK (h : G a = some (.dK ks)) (hd : Dq G v d) : Dq (lockK G a od ks) v d := hd.but (nosq_dK h) (fun xs z => by rw [h] at z; cases z) fun b ne => upd_ne ne
theorem KvAll.but {K1 : Hp} (hn : ∀ xs, ¬ SqL [] G a xs) (ht : ∀ xs, G a ≠ some (.tup xs)) (hk : ∀ b, b ≠ a → K1 b = G b) (h : KvAll G ks kvs) : KvAll K1 ks kvs := by
  induction h with
  | nil => exact .nil
  | cons d _ ih => exact .cons (d.but hn ht hk) ih
theorem le_unlockK {o : HO} (h : H a = some (.dK ks)) (s : Le (upd H a o) H') (t : isTupO (some o) = false) (ni : ∀ C dx fs, o ≠ .ins C dx fs) (t' : isTupO (H' a) = false) : Le H (upd H' a (.dK ks)) := by
  have e : upd (upd H a o) a (.dK ks) = H := by
    funext b
    by_cases z : b = a
    · subst z; rw [upd_same, h]
    · rw [upd_ne z, upd_ne z]
  have := le_upd2 (a := a) (o := .dK ks) (by rw [upd_same]; exact t) t' rfl (fun _ _ _ z => nomatch z) s
  rwa [e] at this
theorem ed_lockK {te : TE} {σ : L2.St} (ha : G a = some (.dK ks)) (h : ∀ od, Ed te σ (lockK G a od ks) d) : Ed (tLockE te) σ G d := fun O H1 o s Q q => by
  have h1 := s.s a _ ha (fun ⟨_, _, _, _, _, _, _, e⟩ => nomatch e)
  have nO : ¬ O a := fun z => by
    rw [hid_in z (by rw [(hid_some h1).1]; rfl)] at h1
    cases h1
  have e1 := (hid_some h1).1
  refine ⟨a, .dK ks, e1, trivial, fun od => h od O (upd H1 a (.frz od (.dK ks))) (fun b hb => ?_) ?_ _ fun v H2 s2 hv => ?_⟩
  · rw [upd_ne (fun z : b = a => nO (by rw [← z]; exact hb))]
    exact o b hb
  · rw [hid_upd_out nO]
    exact le_upd2 (by rw [ha]; rfl) (by rw [h1]; rfl) rfl (fun _ _ _ z => nomatch z) s
  · have e2 : H2 a = some (.frz od (.dK ks)) := s2.s a _ upd_same (fun ⟨_, _, _, _, _, _, _, e⟩ => nomatch e)
    refine ⟨e2, q v _ (le_unlockK e1 s2 rfl (fun _ _ _ z => nomatch z) (by rw [e2]; rfl)) ?_⟩
    rw [hid_upd_out nO]
    have e3 : hid O H2 a = some (.frz od (.dK ks)) := by rw [hid_out nO]; exact e2
    exact hv.but (nosq_frzK e3) (fun xs z => by rw [e3] at z; cases z) fun b ne => upd_ne ne
theorem KvAll.key_at {i : Nat} {k : Int} (h : KvAll G ks kvs) (e : (kvs.map (·.1))[i]? = some k) : ∃ u, ks[i]? = some (Sum.inl k, u) := by
  induction h generalizing i with
  | nil => cases e
  | @cons j v d ks kvs hd _ ih =>
    cases i with
    | zero =>
      cases e
      exact ⟨v, rfl⟩
    | succ i => exact ih e
theorem KvAll.len' (h : KvAll G ks kvs) : ks.length = kvs.length := by
  induction h with
  | nil => rfl
  | cons _ _ ih => rw [List.length_cons, List.length_cons, ih]
/-- the keys of a locked dict -/
theorem iw_keysI {i j : Nat} {σ : L2.St} (hv : σ[i]? = some (some (.ref a))) (hG : G a = some (.frz od (.dK ks))) (hk : KvAll G ks kvs) : Iw (iKeys (tVar i)) (gName j) σ G (kvs.map (·.1)) (B1 j PyData.int) := fun O H0 o s R q => by
  have at_ : ∀ {H2 : Hp}, Le (hid O H0) (hid O H2) → H2 a = some (.frz od (.dK ks)) := fun s2 => (hid_some ((s.trans s2).s a _ hG (fun ⟨_, _, _, _, _, _, _, e⟩ => nomatch e))).1
  refine ⟨.ref a, hv, a, od, rfl, .inl ⟨ks, at_ (.refl _), q (Itk a od ks) H0 (.refl _) (fun n k H2 hx s2 => ?_) fun H2 s2 => ⟨at_ s2, ?_⟩⟩⟩
  · obtain ⟨u, e1⟩ := hk.key_at hx
    refine ⟨⟨at_ s2, (List.getElem?_eq_some_iff.mp e1).1⟩, fun v H3 ⟨e3, k', u', e4, e5⟩ O' σ' Q o' s' kk => ?_⟩
    subst e3
    rw [e1] at e4
    cases e4
    subst e5
    exact kk _ _ (.refl _) ⟨_, rfl, .int k⟩
  · rw [hk.len', List.length_map]
    exact Nat.le_refl _
end
end L2

set_option Elab.async false
set_option linter.all false
set_option maxRecDepth 100000
namespace K9
open PySem PySem.Spec PyProof.Rows L2 PySem.W MB
/-! ### the lowest place -/
theorem low_bit2 : ∀ m : Nat, 0 < m → ∃ b, m.testBit b = true ∧ (m &&& (m - 1)) = clr m b ∧ ∀ i, i < b → m.testBit i = false := by
  intro m
  induction m using Nat.strongRecOn with
  | _ m ih =>
    intro hm
    rcases Nat.mod_two_eq_zero_or_one m with e | e
    · obtain ⟨k, rfl⟩ : ∃ k, m = 2 * k := ⟨m / 2, by omega⟩
      obtain ⟨b, h1, h2, h3⟩ := ih k (by omega) (by omega)
      have e1 : ∀ i, (2 * k).testBit (i + 1) = k.testBit i := fun i => by rw [Nat.testBit_succ, Nat.mul_div_cancel_left k (by decide)]
      refine ⟨b + 1, by rw [e1]; exact h1, Nat.eq_of_testBit_eq fun i => ?_, fun i hi => ?_⟩
      · rw [Nat.testBit_and, clr_bit]
        cases i with
        | zero => simp
        | succ i =>
          have e2 : (2 * k - 1).testBit (i + 1) = (k - 1).testBit i := by rw [Nat.testBit_succ]; congr 1; omega
          rw [e1, e2, ← Nat.testBit_and, h2, clr_bit]
          simp
      · cases i with
        | zero => simp
        | succ i => rw [e1]; exact h3 i (by omega)
    · refine ⟨0, by rw [Nat.testBit_zero]; simpa using e, Nat.eq_of_testBit_eq fun i => ?_, fun i hi => absurd hi (Nat.not_lt_zero i)⟩
      rw [Nat.testBit_and, clr_bit]
      cases i with
      | zero =>
        have : (m - 1) % 2 = 0 := by omega
        simp [Nat.testBit_zero, e, this]
      | succ i =>
        have e2 : (m - 1).testBit (i + 1) = m.testBit (i + 1) := by rw [Nat.testBit_succ, Nat.testBit_succ]; congr 1; omega
        rw [e2]
        simp
theorem clr_add {m b : Nat} (h : m.testBit b = true) : clr m b + 2 ^ b = m := by
  have hs := BT.or_split m m (2 ^ b) Nat.lt_two_pow_self
  have ha : m &&& 2 ^ b = 2 ^ b := Nat.eq_of_testBit_eq fun i => by
    rw [Nat.testBit_and, bit_pow]
    by_cases e : b = i
    · subst e; simp [h]
    · simp [e]
  rw [RT.or_in h, xor_clr h, ha] at hs
  exact hs.symm
theorem low_and {m b : Nat} (hm : 0 < m) (h : m.testBit b = true) (e : (m &&& (m - 1)) = clr m b) : Builtin.bitAnd (m : Int) (0 - (m : Int)) = ((2 ^ b : Nat) : Int) := by
  have h0 : ¬ (0 : Int) ≤ 0 - (m : Int) := by omega
  have e1 : (-(0 - (m : Int)) - 1) = ((m - 1 : Nat) : Int) := by omega
  have h1 : (0 : Int) ≤ (m : Int) := by omega
  unfold Builtin.bitAnd Builtin.bitNot
  simp only [h0, h1, decide_false, decide_true, e1, Int.toNat_natCast]
  rw [e]
  have := clr_add h
  omega
theorem bits_pow (b : Nat) : ((Builtin.Int.intBits ((2 ^ b : Nat) : Int) : Nat) : Int) - 1 = (b : Int) := by
  unfold Builtin.Int.intBits
  have : ¬ ((((2 ^ b : Nat) : Int) == 0) = true) := by
    have := Nat.two_pow_pos b
    simp only [beq_iff_eq]
    omega
  rw [if_neg this, Int.natAbs_natCast, Nat.log2_two_pow]
  omega
theorem places_low {n m b : Nat} (hm : m < 2 ^ n) (h : m.testBit b = true) (lo : ∀ i, i < b → m.testBit i = false) : placesIn m n = b :: placesIn (clr m b) n := by
  have hb := lt_bit hm h
  have er : List.range n = List.range b ++ b :: List.range' (b + 1) (n - (b + 1)) := by
    rw [List.range_eq_range', List.range_eq_range']
    have h1 : List.range' 0 n = List.range' 0 b ++ List.range' (0 + b) (n - b) := by
      rw [List.range'_append_1, Nat.add_sub_cancel' (by omega)]
    rw [h1, Nat.zero_add]
    congr 1
    obtain ⟨k, hk⟩ : ∃ k, n - b = k + 1 := ⟨n - b - 1, by omega⟩
    rw [hk, List.range'_succ]
    congr 2
    omega
  have f1 : ∀ m' : Nat, (∀ i, i < b → m'.testBit i = false) → (List.range b).filter (fun k => m'.testBit k) = [] := fun m' h' => List.filter_eq_nil_iff.mpr fun k hk => by
    rw [h' k (List.mem_range.mp hk)]
    exact Bool.false_ne_true
  unfold placesIn
  rw [er, List.filter_append, List.filter_append, f1 m lo, f1 (clr m b) (fun i hi => by rw [clr_bit, lo i hi]; rfl), List.nil_append, List.nil_append, List.filter_cons, if_pos h, List.filter_cons, if_neg (by rw [clr_bit]; simp)]
  congr 1
  refine List.filter_congr fun k hk => ?_
  have := List.mem_range'_1.mp hk
  rw [clr_bit]
  have : b ≠ k := by omega
  simp [this]
theorem eds_low {E : Nat → Nat × Nat} {n m b : Nat} (hm : m < 2 ^ n) (h : m.testBit b = true) (lo : ∀ i, i < b → m.testBit i = false) : XM.eds E n m = E b :: XM.eds E n (clr m b) := by
  unfold XM.eds
  rw [places_low hm h lo]
  rfl
/-! ### masks without a ring -/
abbrev gB (E : Nat → Nat × Nat) (n m : Nat) : Bool := XM.okOf (XM.eds E n m)
abbrev gL (E : Nat → Nat × Nat) (n k : Nat) : List Nat := (List.range k).filter (gB E n)
abbrev gM (E : Nat → Nat × Nat) (n : Nat) : List Nat := gL E n (2 ^ n)
abbrev labD (E : Nat → Nat × Nat) (n m : Nat) : PyData := dNats ((List.range 12).map (XM.labOf (XM.eds E n m)))
abbrev gK (E : Nat → Nat × Nat) (n k : Nat) : List (Int × PyData) := (gL E n k).map fun m => ((m : Nat), labD E n m)
abbrev edAt (ps : List (Nat × Nat)) : Nat → Nat × Nat := fun k => ps.getD k (0, 0)
theorem gL_succ {E : Nat → Nat × Nat} {n k : Nat} : gL E n (k + 1) = gL E n k ++ if gB E n k = true then [k] else [] := by
  unfold gL
  rw [List.range_succ, List.filter_append, List.filter_cons, List.filter_nil]
theorem mem_gL {E : Nat → Nat × Nat} {n k m : Nat} : m ∈ gL E n k ↔ m < k ∧ gB E n m = true := by
  unfold gL
  rw [List.mem_filter, List.mem_range]
theorem gL_len (E : Nat → Nat × Nat) (n k : Nat) : (gL E n k).length ≤ k := by
  have := List.length_filter_le (gB E n) (List.range k)
  rwa [List.length_range] at this
theorem g_zero (E : Nat → Nat × Nat) (n : Nat) : XM.eds E n 0 = [] := by
  unfold XM.eds
  rw [show placesIn 0 n = [] from List.filter_eq_nil_iff.mpr fun k _ => by rw [Nat.zero_testBit]; exact Bool.false_ne_true]
  rfl
theorem KvAll.snoc {G : Hp} {v : V} {d : PyData} {k : Int} : ∀ {ks : List (Key × V)} {kvs : List (Int × PyData)}, KvAll G ks kvs → Dq G v d → KvAll G (ks ++ [(Sum.inl k, v)]) (kvs ++ [(k, d)])
  | _, _, .nil, h => .cons h .nil
  | _, _, .cons a t, h => .cons a (KvAll.snoc t h)
theorem iw_map {α β : Type} {wi : TI} {g : TG} {σ : L2.St} {G : Hp} {xs : List α} {f : α → β} {φ : β → PyData} {j : Nat} (h : Iw wi g σ G (xs.map f) (B1 j φ)) : Iw wi g σ G xs (B1 j fun a => φ (f a)) := fun O H0 o s R q => h O H0 o s R fun J H1 s1 turn stop => q J H1 s1 (fun i x H2 hx s2 => turn i (f x) H2 (by rw [List.getElem?_map, hx]; rfl) s2) fun H2 s2 => by
  have := stop H2 s2
  rwa [List.length_map] at this
section
variable {P : Program} {w : World} {K : PySem.W.Frag} {mg : Str → Option Value} {base : Heap}
def R_forest (ds : List PyData) (d : PyData) : Prop := ∃ (n : Nat) (ps : List (Nat × Nat)) (k : Nat), ds = [dNat n, dEdges ps] ∧ n ≤ 10 ∧ ps.length = n ∧ (∀ p, p ∈ ps → p.1 < 12 ∧ p.2 < 12) ∧ k ∈ (gM (edAt ps) n).map (MB.cnt n) ∧ (∀ y, y ∈ (gM (edAt ps) n).map (MB.cnt n) → y ≤ k) ∧ d = dNats ((gM (edAt ps) n).filter fun m => decide (MB.cnt n m = k))
theorem ok__law_forest_bases (T : Tx K mg) : FnOk P w K mg base CX0 2 T.f__law_forest_bases T.fd__law_forest_bases ["many", "lines"] (spD K R_forest) := by
  refine okD T.F__law_forest_bases sc__law_forest_bases (fun ds d ⟨_, _, _, e, _⟩ => by rw [e]; rfl) fun cdv A outer s H E0 O vs ds d hr o hv r => ?_
  obtain ⟨n, ps, most, rfl, hn, hcl, hc12, hm1, hm2, rfl⟩ := r
  obtain ⟨v1, v2, rfl, h1, h2⟩ := dp2 hv
  have hu := hu_of hr
  have hp := pow10 hn
  have get : ∀ k, k < n → (ps.map dEdge)[k]? = some (dEdge (edAt ps k)) ∧ (edAt ps k).1 < 12 ∧ (edAt ps k).2 < 12 := fun k hk => by
    have e : edAt ps k = ps[k]'(by omega) := by simp [edAt, List.getD, List.getElem?_eq_getElem (show k < ps.length by omega)]
    rw [List.getElem?_map, List.getElem?_eq_getElem (show k < ps.length by omega), e]
    exact ⟨rfl, hc12 _ (List.getElem_mem _)⟩
  generalize edAt ps = E at *
  refine ⟨_, (pss_cons (ps_set (i := 2) sc__law_forest_bases.nd rfl (by first | exact .inl rfl | exact .inr rfl) (pe_disp (pps_cons pe_int (pe_listRg rfl (by rfl) T.n_list (prg_1 (by rfl) T.n_range pe_int)) pps_nil) rfl rfl (by intro z; cases z) (by decide)))
      (pss_cons (ps_for PassesOwn.never rfl (pi_range2 (by rfl) T.n_range (pa_cons pe_int (pa_cons (pe_op op_shl pe_int (pv 0)) pa_nil))) (pg_name (i := 3) sc__law_forest_bases.nd rfl (by first | exact .inl rfl | exact .inr rfl))
      (pss_cons (ps_set (i := 4) sc__law_forest_bases.nd rfl (by first | exact .inl rfl | exact .inr rfl) (pe_op op_and (pv 3) (pe_op op_sub pe_int (pv 3))))
      (pss_cons (ps_set (i := 5) sc__law_forest_bases.nd rfl (by first | exact .inl rfl | exact .inr rfl) (pe_dget2 hu (pv 2) (pe_op op_xor (pv 3) (pv 4)) pe_non ⟨by rfl, by rfl, by rfl, by rfl⟩))
      (pss_one (ps_if (pt_cmpR op_notN (pv 5) pe_non (nomark _)) (pss_cons (ps_set (i := 6) sc__law_forest_bases.nd rfl (by first | exact .inl rfl | exact .inr rfl) (pe_ix (ki_list K) (pv 1) (pe_op op_sub (pe_bits (pv 4)) pe_int) (fun _ _ => rfl)))
      (pss_cons (ps_asg (pe_tup (pa_cons (pe_ix (ki_list K) (pv 5) (pe_ix (ki_tup K) (pv 6) pe_int (fun _ _ => rfl)) (fun _ _ => rfl)) (pa_cons (pe_ix (ki_list K) (pv 5) (pe_ix (ki_tup K) (pv 6) pe_int (fun _ _ => rfl)) (fun _ _ => rfl)) pa_nil))) (kg_tup K (pgs_cons (pg_name (i := 7) sc__law_forest_bases.nd rfl (by first | exact .inl rfl | exact .inr rfl)) (pgs_cons (pg_name (i := 8) sc__law_forest_bases.nd rfl (by first | exact .inl rfl | exact .inr rfl)) pgs_nil))))
      (pss_one (ps_if (pt_cmpR op_ne (pv 7) (pv 8) (nomark _)) (pss_one (ps_dput hu (pv 2) (pv 3) (pe_lc (own := [("spot", 10)]) (g := (gName 10)) (tt := tYes) rfl sc__law_forest_bases.nd (kp_list K (pv 5)) (blkOk_by (N := ["many", "lines", "kept", "mask", "low", "where", "line", "first", "last", "most", "spot"]) (sc := defScope s__law_forest_bases) (by decide +kernel)) (fun _ _ _ _ _ => (pg_name (i := 10) sc__law_forest_bases.nd rfl (by first | exact .inl rfl | exact .inr rfl))) (fun _ _ _ _ _ => pts_nil) (fun _ _ _ _ _ => (pe_ifExp (pt_cmpR op_eq (pv 10) (pv 8) (nomark _)) (pv 7) (pv 10)))) rfl)) pss_nil)))) pss_nil)))))
      (pss_cons (ps_set (i := 9) sc__law_forest_bases.nd rfl (by first | exact .inl rfl | exact .inr rfl) (pe_callB (kc_max K) (by rfl) T.n_max boot_max (pa_cons (pe_lock (pe_lc (own := [("mask", 3)]) (g := (gName 3)) (tt := tYes) rfl sc__law_forest_bases.nd (pi_keys (pv 2)) (blkOk_by (N := ["many", "lines", "kept", "mask", "low", "where", "line", "first", "last", "most", "spot"]) (sc := defScope s__law_forest_bases) (by decide +kernel)) (fun _ _ _ _ _ => (pg_name (i := 3) sc__law_forest_bases.nd rfl (by first | exact .inl rfl | exact .inr rfl))) (fun _ _ _ _ _ => pts_nil) (fun _ _ _ _ _ => (pe_call (ok__law_count T) (hr.mono (by decide)) (by rfl) T.m__law_count T.F__law_count.kp T.b__law_count .nil pass0 (pa_cons (pv 3) pa_nil))))) pa_nil)))
      (pss_one (ps_ret (pe_lock (pe_lc (own := [("mask", 3)]) (g := (gName 3)) rfl sc__law_forest_bases.nd (pi_keys (pv 2)) (blkOk_by (N := ["many", "lines", "kept", "mask", "low", "where", "line", "first", "last", "most", "spot"]) (sc := defScope s__law_forest_bases) (by decide +kernel)) (fun _ _ _ _ _ => (pg_name (i := 3) sc__law_forest_bases.nd rfl (by first | exact .inl rfl | exact .inr rfl))) (fun _ _ _ _ _ => (pts_one (pt_cmpR op_eq (pe_call (ok__law_count T) (hr.mono (by decide)) (by rfl) T.m__law_count T.F__law_count.kp T.b__law_count .nil pass0 (pa_cons (pv 3) pa_nil)) (pv 9) (nomark _)))) (fun _ _ _ _ _ => (pv 3))))))))), fun D q => ?_⟩
  -- kept = {0: list(range(12))}
  refine fun p np => ⟨12, rfl, RgOk.of_le (by decide) (by decide) (by decide) (by decide), fun l nl => ?_⟩
  have sp := same_new (o := .dK []) np
  have sl := same_new (o := .lst (rgV 0 12)) nl
  have pl : p ≠ l := fun e => by subst e; rw [upd_same] at nl; cases nl
  have hp0 : upd (upd H p (.dK [])) l (.lst (rgV 0 12)) p = some (.dK []) := sl.dK upd_same
  refine ⟨hp0, [(Sum.inl 0, .ref l)], rfl, by show 1 ≤ 15; decide, ?_⟩
  have s1 : Le H (upd (upd (upd H p (.dK [])) l (.lst (rgV 0 12))) p (.dK (mergeK [] [((Sum.inl 0 : Key), V.ref l)]))) := (sp.trans sl).updN np (nt_dK hp0)
  have hp1 : (upd (upd (upd H p (.dK [])) l (.lst (rgV 0 12))) p (.dK (mergeK [] [((Sum.inl 0 : Key), V.ref l)]))) p = some (.dK [((Sum.inl 0 : Key), V.ref l)]) := upd_same
  have hl1 : (upd (upd (upd H p (.dK [])) l (.lst (rgV 0 12))) p (.dK (mergeK [] [((Sum.inl 0 : Key), V.ref l)]))) l = some (.lst (rgV 0 12)) := by rw [upd_ne pl.symm, upd_same]
  generalize (upd (upd (upd H p (.dK [])) l (.lst (rgV 0 12))) p (.dK (mergeK [] [((Sum.inl 0 : Key), V.ref l)]))) = H1 at s1 hp1 hl1
  have nO : ¬ O p := o.new np
  have nOl : ¬ O l := o.new (sp.free nl)
  have g1 : Le (hid O H) (hid (L2.plus O p) H1) := hid_add (hid_same s1) (by rw [hid_out nO]; exact np)
  have hX : ∀ {H' : Hp} {o' : HO}, Le H H' → H' p = some o' → Hid (L2.plus O p) H' := fun s e => (o.mono s).plus e
  have gk1 : gK E n 1 = [(0, labD E n 0)] := by
    show ((List.range 1).filter _).map _ = _
    have : gB E n 0 = true := by rw [gB, g_zero]; rfl
    rw [show List.range 1 = [0] from rfl, List.filter_cons, if_pos this]
    rfl
  have kv1 : KvAll (hid (L2.plus O p) H1) [((Sum.inl 0 : Key), V.ref l)] (gK E n 1) := by
    rw [gk1]
    refine .cons ?_ .nil
    have : labD E n 0 = dNats (List.range 12) := by
      unfold labD
      rw [g_zero]
      rfl
    rw [this]
    refine .lst (xs := vNats (List.range 12)) (.inl (.inl ?_)) (dq_nats _)
    rw [hid_out fun z => z.elim nOl pl.symm, hl1]
    rfl
  have e1 : 2 ^ n = 1 + (2 ^ n - 1) := by have := Nat.two_pow_pos n; omega
  have ebits : ∀ {te : TE} {σ : L2.St} {G : Hp} {i : Int}, Ed te σ G (.int i) → Ed (tBits te) σ G (.int (Builtin.Int.intBits i : Nat)) := fun {te σ G i} h O H1 o s Q q => h O H1 o s _ fun v H2 s2 hv => ⟨i, hv.int_inv, q _ H2 s2 (.int _)⟩
  refine for_iw (xs := List.range (2 ^ n - 1)) (G := hid (L2.plus O p) H1) (O := L2.plus O p) (iw_range2 (a := 1) (n := 2 ^ n - 1) (by omega) (ea_cons ed_int (ea_one (Ed.of (by rw [← e1]) (ed_bit (by omega) (ed_var rfl (h1.mono g1))))))) (hX s1 hp1) (.refl _) fun H2 s2 => ?_
  refine ⟨fun i σ H3 => ∃ x3 x4 x5 x6 x7 x8 ks, σ = [some v1, some v2, some (.ref p), x3, x4, x5, x6, x7, x8, none, none] ∧ Le H H3 ∧ Le (hid (L2.plus O p) H2) (hid (L2.plus O p) H3) ∧ H3 p = some (.dK ks) ∧ KvAll (hid (L2.plus O p) H3) ks (gK E n (1 + i)), ⟨none, none, none, none, none, none, _, rfl, s1.trans s2, .refl _, s2.dK hp1, kv1.mono (hid_same s2)⟩, fun i σ H4 _ h4 => by obtain ⟨_, _, _, _, _, _, _, _, _, h, _⟩ := h4; exact h, fun i x σ H3 hx h3 => ?_, fun σ H3 h3 => ?_⟩
  · obtain ⟨x3, x4, x5, x6, x7, x8, ks, rfl, s3, g3, hp3, kv3⟩ := h3
    refine ⟨L2.plus O p, hX s3 hp3, g3, fun σ4 H4 s4 hB => ?_⟩
    obtain ⟨xv, rfl, hxv⟩ := hB
    have hi : i < 2 ^ n - 1 := by have := (List.getElem?_eq_some_iff.mp hx).1; rwa [List.length_range] at this
    have ex : x = i := by rw [List.getElem?_range hi] at hx; exact (Option.some.inj hx).symm
    subst ex
    have exv := hxv.int_inv
    subst exv
    have ey : 1 + (x + 1) = 1 + x + 1 := by omega
    generalize hy : 1 + x = y at *
    have y0 : 0 < y := by omega
    have yl : y < 2 ^ n := by omega
    obtain ⟨b, hb, hlow, lo⟩ := low_bit2 y y0
    have hbn := lt_bit yl hb
    have es := eds_low (E := E) yl hb lo
    have cl := clr_lt hb
    have klen : ks.length ≤ y := by
      have := kv3.len'
      rw [List.length_map] at this
      have := gL_len E n y
      omega
    -- no turn changes anything
    have skip : ∀ (x4 x5 x6 x7 x8 : Option V) (H' : Hp), Le H4 H' → gB E n y = false → ∃ x3 x4' x5' x6' x7' x8' ks, [some v1, some v2, some (.ref p), some (.int (y : Nat)), x4, x5, x6, x7, x8, none, none] = [some v1, some v2, some (.ref p), x3, x4', x5', x6', x7', x8', none, none] ∧ Le H H' ∧ Le (hid (L2.plus O p) H2) (hid (L2.plus O p) H') ∧ H' p = some (.dK ks) ∧ KvAll (hid (L2.plus O p) H') ks (gK E n (1 + (x + 1))) := fun x4 x5 x6 x7 x8 H' s' e => by
      refine ⟨_, _, _, _, _, _, ks, rfl, s3.trans (s4.trans s'), g3.trans (hid_same (s4.trans s')), s'.dK (s4.dK hp3), ?_⟩
      rw [ey]
      unfold gK
      rw [gL_succ, if_neg (by rw [e]; exact Bool.false_ne_true), List.append_nil]
      exact kv3.mono (hid_same (s4.trans s'))
    have hp4 := s4.dK hp3
    have o4 := hX (s3.trans s4) hp4
    -- low
    refine asg_ed (G := hid (L2.plus O p) H4) (O := L2.plus O p) (d := dNat (2 ^ b)) (Ed.of (congrArg PyData.int (low_and y0 hb hlow)) (ed_I0 (ed_var rfl (.int _)) (ed_I0 (g := fun i j => i - j) ed_int (ed_var rfl (.int _))))) o4 (.refl _) fun lv H5 s5 hlv => ?_
    have elv := hlv.int_inv
    subst elv
    have hp5 := s5.dK hp4
    have o5 := hX ((s3.trans s4).trans s5) hp5
    -- where
    dsimp only [gName, tSeq]
    refine asg_raw ?_
    refine ⟨.ref p, rfl, p, rfl, .inl ⟨ks, .inl hp5⟩, ?_⟩
    refine asg1 (G := hid (L2.plus O p) H5) (O := L2.plus O p) (d := dNat (y ^^^ 2 ^ b)) (ed_xor (ed_var rfl (.int _)) (ed_var rfl (.int _))) o5 (.refl _) fun yv H6 s6 hyv => ?_
    have eyv := hyv.int_inv
    subst eyv
    rw [xor_clr hb]
    have hp6 := s6.dK hp5
    have s46 := s5.trans s6
    have s06 := (s3.trans s4).trans s46
    have o6 := hX s06 hp6
    have kv6 := kv3.mono (hid_same (s4.trans s46))
    refine ⟨_, DGet.k (k := Sum.inl ((clr y b : Nat) : Int)) hp6, ?_⟩
    rcases kv6.look ((clr y b : Nat) : Int) with ⟨e, nk⟩ | ⟨u, d', e, du, mm⟩
    · rw [e]
      have gf : gB E n (clr y b) = false := by
        cases q : gB E n (clr y b) with
        | false => rfl
        | true => exact absurd (List.mem_map.mpr ⟨_, List.mem_map.mpr ⟨clr y b, mem_gL.mpr ⟨cl, q⟩, rfl⟩, rfl⟩) nk
      refine if_eb (b := false) (G := hid (L2.plus O p) H6) (O := L2.plus O p) (eb_test (ed_notN (d := .none) (ed_var rfl .non) ed_non)) o6 (.refl _) (fun z => nomatch z) fun _ H7 s7 => ?_
      exact skip _ _ _ _ _ H7 (s46.trans s7) (by rw [gB, es, XM.okOf]; show (gB E n (clr y b) && _) = false; rw [gf]; rfl)
    · rw [e]
      obtain ⟨m', hm', e'⟩ := List.mem_map.mp mm
      have em : m' = clr y b := by
        have := (Prod.mk.inj e').1
        omega
      subst em
      have ed : labD E n (clr y b) = d' := (Prod.mk.inj e').2
      subst ed
      have gt := (mem_gL.mp hm').2
      generalize hL : XM.labOf (XM.eds E n (clr y b)) = L at *
      have du : Dq (hid (L2.plus O p) H6) u (dNats ((List.range 12).map L)) := by rw [← hL]; exact du
      refine if_eb (b := true) (G := hid (L2.plus O p) H6) (O := L2.plus O p) (eb_test (ed_notN (d := dNats ((List.range 12).map L)) (ed_var rfl du) ed_non)) o6 (.refl _) (fun _ H7 s7 => ?_) fun z => nomatch z
      obtain ⟨gb1, gb2, gb3⟩ := get b hbn
      have s07 := s06.trans s7
      have o7 := hX s07 (s7.dK hp6)
      have g17 : Le (hid O H) (hid (L2.plus O p) H7) := g1.trans ((hid_same s2).trans (g3.trans (hid_same (s4.trans (s46.trans s7)))))
      -- line
      refine asg_ed (G := hid (L2.plus O p) H7) (O := L2.plus O p) (d := dEdge (E b)) (ed_ixL (n := b) gb1 (ed_var rfl (h2.mono g17)) (Ed.of (congrArg PyData.int (bits_pow b)) (ed_I0 (g := fun i j => i - j) (ebits (ed_var rfl (.int _))) ed_int))) o7 (.refl _) fun ev H8 s8 hev => ?_
      have du8 := du.mono (hid_same (s7.trans s8))
      have o8 := hX (s07.trans s8) (s8.dK (s7.dK hp6))
      have lab : ∀ k : Nat, k < 12 → (((List.range 12).map L).map dNat)[k]? = some (dNat (L k)) := fun k hk => by
        rw [List.getElem?_map, List.getElem?_map, List.getElem?_range hk]
        rfl
      -- first, last
      dsimp only [gName, tSeq]
      refine pairA_seq ?_
      refine asg1 (G := hid (L2.plus O p) H8) (O := L2.plus O p) (d := dNat (L (E b).1)) (ed_ixL (n := (E b).1) (lab _ gb2) (ed_var rfl du8) (ed_ixT (n := 0) (ds := [dNat (E b).1, dNat (E b).2]) rfl (ed_var rfl hev) ed_int)) o8 (.refl _) fun fv H9 s9 hfv => ?_
      have efv := hfv.int_inv
      subst efv
      have o9 := hX ((s07.trans s8).trans s9) (s9.dK (s8.dK (s7.dK hp6)))
      refine asg1 (G := hid (L2.plus O p) H9) (O := L2.plus O p) (d := dNat (L (E b).2)) (ed_ixL (n := (E b).2) (lab _ gb3) (ed_var rfl (du8.mono (hid_same s9))) (ed_ixT (n := 1) (ds := [dNat (E b).1, dNat (E b).2]) rfl (ed_var rfl (hev.mono (hid_same s9))) ed_int)) o9 (.refl _) fun gv Ha sa hgv => pairA_fin fun Hb sb => ?_
      have egv := hgv.int_inv
      subst egv
      have s8b := s9.trans (sa.trans sb)
      have s7b := s8.trans s8b
      have s0b := s07.trans s7b
      have hpb := s7b.dK (s7.dK hp6)
      have ob := hX s0b hpb
      refine if_eb (b := !decide (((L (E b).1 : Nat) : Int) = ((L (E b).2 : Nat) : Int))) (G := hid (L2.plus O p) Hb) (O := L2.plus O p) (eb_test (ed_neI (ed_var rfl (.int _)) (ed_var rfl (.int _)))) ob (.refl _) (fun z Hc sc => ?_) fun z Hc sc => ?_
      · have ne : L (E b).1 ≠ L (E b).2 := fun w => by rw [w] at z; simp at z
        have sbc := s7b.trans sc
        have hpc := sc.dK hpb
        have oc := hX (s0b.trans sc) hpc
        have duc := du.mono (hid_same (s7.trans sbc))
        refine asg1 (G := hid (L2.plus O p) Hc) (O := L2.plus O p) (d := dNats ((List.range 12).map (XM.mrg L (L (E b).1) (L (E b).2)))) (Ed.of ?_ (ed_lc (fun _ => true) (fun k : Nat => dNat (if k = L (E b).2 then L (E b).1 else k)) (xs := (List.range 12).map L) (by rw [List.length_map, List.length_range]; decide) (iw_list (φ := dNat) (ed_var rfl duc)) (fun x σ4 H4 ⟨v, e, _⟩ => by subst e; rfl) ?_)) oc (.refl _) fun nv Hd sd hnv => ?_
        · rw [filt_t, dNats, List.map_map, List.map_map]
          rfl
        · rintro k hk σ2 Hx sx ⟨w, rfl, dw⟩
          refine ⟨eb_yes, fun _ => ?_⟩
          refine ed_if (c := decide (k = L (E b).2)) (Eb.of (decide_eq_decide.mpr Int.ofNat_inj) (eb_test (ed_eqI (ed_var rfl dw) (ed_var rfl (.int _))))) (fun e => ?_) fun e => ?_
          · rw [if_pos (of_decide_eq_true e)]
            exact ed_var rfl (.int _)
          · rw [if_neg (of_decide_eq_false e)]
            exact ed_var rfl dw
        · have hpd := sd.dK hpc
          have s4d := s46.trans (s7.trans (sbc.trans sd))
          refine ⟨.ref p, rfl, .int (y : Nat), rfl, p, _, rfl, DPut.k (k := Sum.inl ((y : Nat) : Int)) hpd (Nat.lt_of_le_of_lt klen (Nat.lt_of_lt_of_le (show y < 2000 by omega) (by decide))), ?_⟩
          have new : valV ks (Sum.inl ((y : Nat) : Int)) = none := by
            rcases kv6.look ((y : Nat) : Int) with ⟨e, _⟩ | ⟨_, d', _, _, mm⟩
            · exact e
            · obtain ⟨m', hm', e'⟩ := List.mem_map.mp mm
              have := (Prod.mk.inj e').1
              have := (mem_gL.mp hm').1
              omega
          rw [putK_new _ new]
          refine ⟨_, _, _, _, _, _, ks ++ [(Sum.inl ((y : Nat) : Int), nv)], rfl, ?_, ?_, upd_same, ?_⟩
          · exact (s06.trans (s7.trans (sbc.trans sd))).updN np (nt_dK hpd)
          · rw [hid_upd O (nt_dK hpd) rfl]
            exact g3.trans (hid_same (s4.trans s4d))
          · rw [hid_upd O (nt_dK hpd) rfl]
            have gy : gB E n y = true := by
              rw [gB, es, XM.okOf, Bool.and_eq_true, decide_eq_true_eq, hL]
              exact ⟨gt, ne⟩
            have lv : labD E n y = dNats ((List.range 12).map (XM.mrg L (L (E b).1) (L (E b).2))) := by
              unfold labD
              rw [es]
              show dNats ((List.range 12).map (XM.mrg (XM.labOf (XM.eds E n (clr y b))) _ _)) = _
              rw [hL]
            rw [ey]
            unfold gK
            rw [gL_succ, if_pos gy, List.map_append]
            refine KvAll.snoc (kv3.mono (hid_same (s4.trans s4d))) ?_
            rw [lv]
            exact hnv
      · have eq : L (E b).1 = L (E b).2 := by
          have : ((L (E b).1 : Nat) : Int) = ((L (E b).2 : Nat) : Int) := by simpa using z
          omega
        exact skip _ _ _ _ _ Hc (s46.trans (s7.trans (s7b.trans sc))) (by rw [gB, es, XM.okOf, hL, eq]; simp)
  · obtain ⟨x3, x4, x5, x6, x7, x8, ks, rfl, s3, g3, hp3, kv3⟩ := h3
    rw [List.length_range, ← e1] at kv3
    have o3 := o.mono s3
    have vis : hid O H3 p = some (.dK ks) := by rw [hid_out nO]; exact hp3
    have kvo : KvAll (hid O H3) ks (gK E n (2 ^ n)) := kv3.mono (hid_plus _ _ _)
    have keys : (gK E n (2 ^ n)).map (·.1) = (gM E n).map fun m : Nat => (m : Int) := by
      show ((gM E n).map _).map _ = _
      rw [List.map_map]
      rfl
    have fl : (gM E n).length ≤ 2 ^ n := gL_len E n (2 ^ n)
    have walk : ∀ {σ : L2.St} {G : Hp} {od : Obj} {j : Nat}, σ[2]? = some (some (.ref p)) → G p = some (.dK ks) → KvAll G ks (gK E n (2 ^ n)) → Iw (iKeys (tVar 2)) (gName j) σ (lockK G p od ks) (gM E n) (B1 j dNat) := fun {σ G od j} hs hg hk => by
      have := iw_keysI (j := j) (od := od) hs (upd_same (H := G) (a := p)) (hk.but (nosq_dK hg) (fun xs z => by rw [hg] at z; cases z) fun b ne => upd_ne ne)
      rw [keys] at this
      exact iw_map (f := fun m : Nat => (m : Int)) (φ := PyData.int) this
    refine asg_ed (G := hid O H3) (O := O) (d := dNat most) (ed_max (ns := (gM E n).map fun m => ((MB.cnt n m : Nat) : Int)) (m := ((most : Nat) : Int)) ?_ (fun z hz => ?_) (ed_lockK vis fun od => Ed.of ?_ (ed_lc (fun _ => true) (fun m : Nat => dNat (MB.cnt n m)) (xs := gM E n) (by omega) (walk rfl vis kvo) (fun x σ4 H4 ⟨v, e, _⟩ => by subst e; rfl) ?_))) o3 (.refl _) fun mv H4 s4 hmv => ?_
    · obtain ⟨m, hm, e⟩ := List.mem_map.mp hm1
      exact List.mem_map.mpr ⟨m, hm, by rw [e]⟩
    · obtain ⟨m, hm, rfl⟩ := List.mem_map.mp hz
      exact Int.ofNat_le.mpr (hm2 _ (List.mem_map.mpr ⟨m, hm, rfl⟩))
    · rw [filt_t, List.map_map]
      rfl
    · rintro m hm σ2 Ha sa ⟨u, rfl, du⟩
      exact ⟨eb_yes, fun _ => ed_call ⟨n, m, rfl, (mem_gL.mp hm).1, rfl⟩ (ea_one (ed_var rfl du))⟩
    have emv := hmv.int_inv
    subst emv
    have vis4 : hid O H4 p = some (.dK ks) := by rw [hid_out nO]; exact s4.dK hp3
    refine ret_ed (G := hid O H4) (O := O) (ed_lockK vis4 fun od => ed_lc (fun m => decide (MB.cnt n m = most)) dNat (xs := gM E n) (by omega) (walk rfl vis4 (kvo.mono (hid_same s4))) (fun x σ4 H4 ⟨v, e, _⟩ => by subst e; rfl) ?_) (o3.mono s4) (.refl _) fun v H5 s5 hv => q v H5 (s3.trans (s4.trans s5)) hv
    rintro m hm σ2 Ha sa ⟨u, rfl, du⟩
    exact ⟨Eb.of (decide_eq_decide.mpr Int.ofNat_inj) (eb_test (ed_eqI (ed_call (d := dNat (MB.cnt n m)) ⟨n, m, rfl, (mem_gL.mp hm).1, rfl⟩ (ea_one (ed_var rfl du))) (ed_var rfl (.int _)))), fun _ => ed_var rfl du⟩
end
end K9

set_option Elab.async false
set_option linter.all false
set_option maxRecDepth 100000
namespace K9
open PySem PySem.Spec PyProof.Rows L2 PySem.W MB
theorem mat_cols {n : Nat} {cs : List Nat} {k : Nat} (hk : k ∈ (frM (colAt cs) n).map (MB.cnt n)) : MatM n ((frM (colAt cs) n).filter fun m => decide (MB.cnt n m = k)) :=
  mat_most (XM.indC (colAt cs) n) (fun m => by rw [mem_frL, indB_iff]) (List.nodup_range.filter _) hk
theorem mat_edges {n : Nat} {ps : List (Nat × Nat)} {k : Nat} (hl : ps.length = n) (hb : ∀ p, p ∈ ps → p.1 < 12 ∧ p.2 < 12) (hk : k ∈ (gM (edAt ps) n).map (MB.cnt n)) : MatM n ((gM (edAt ps) n).filter fun m => decide (MB.cnt n m = k)) :=
  mat_most (I := XM.IndG (edAt ps) n) (XM.indG (V := 12) fun k hk => by
    have e : edAt ps k = ps[k]'(by omega) := by simp [edAt, List.getD, List.getElem?_eq_getElem (show k < ps.length by omega)]
    rw [e]
    exact hb _ (List.getElem_mem _)) (fun m => by rw [mem_gL]; exact Iff.rfl) (List.nodup_range.filter _) hk
theorem frM_most (col : Nat → Nat) (n : Nat) : ∃ k, k ∈ (frM col n).map (MB.cnt n) ∧ ∀ y, y ∈ (frM col n).map (MB.cnt n) → y ≤ k := most_of fun e => by
  have : 0 ∈ frM col n := mem_frL.mpr ⟨Nat.two_pow_pos n, zero_ind col n⟩
  rw [List.map_eq_nil_iff.mp e] at this
  exact List.not_mem_nil this
theorem gM_most (E : Nat → Nat × Nat) (n : Nat) : ∃ k, k ∈ (gM E n).map (MB.cnt n) ∧ ∀ y, y ∈ (gM E n).map (MB.cnt n) → y ≤ k := most_of fun e => by
  have : 0 ∈ gM E n := mem_gL.mpr ⟨Nat.two_pow_pos n, by rw [gB, g_zero]; rfl⟩
  rw [List.map_eq_nil_iff.mp e] at this
  exact List.not_mem_nil this
/-! ### grounds, and matroids on them -/
structure IsGrd (g : List Int) (n : Nat) : Prop where
  len : g.length = n
  few : n ≤ 10
  asc : g.Pairwise (· < ·)
  els : ∀ x, x ∈ g → 0 ≤ x ∧ x ≤ 149
theorem IsGrd.nd {g : List Int} {n : Nat} (h : IsGrd g n) : g.Nodup := h.asc.imp fun {a b} hab => by omega
abbrev bsOf (g : List Int) (B : List Nat) : List (List Int) := sortS (B.map (setOf · g))
theorem bs_perm (g : List Int) (B : List Nat) : (bsOf g B).Perm (B.map (setOf · g)) := List.mergeSort_perm _ _
theorem sets_nd' {g : List Int} {B : List Nat} (nd : g.Nodup) (hB : B.Nodup) (lt : ∀ b, b ∈ B → b < 2 ^ g.length) : (B.map (setOf · g)).Nodup := by
  refine List.pairwise_map.mpr (List.Pairwise.imp_of_mem (fun {a b} ha hb hab e => hab ?_) hB)
  rw [← msk_set nd (lt a ha), ← msk_set nd (lt b hb), e]
theorem msks_perm {g : List Int} {B : List Nat} (nd : g.Nodup) (lt : ∀ b, b ∈ B → b < 2 ^ g.length) : ((bsOf g B).map (mskOf · g)).Perm B := by
  have h := (bs_perm g B).map (mskOf · g)
  rw [List.map_map] at h
  have e : B.map ((mskOf · g) ∘ (setOf · g)) = B := by
    conv => rhs; rw [← List.map_id B]
    exact List.map_congr_left fun b hb => msk_set nd (lt b hb)
  rwa [e] at h
theorem given_mat {g : List Int} {n : Nat} {B : List Nat} (hg : IsGrd g n) (M : MatM n B) : IsMat g (bsOf g B) := by
  have nd := hg.nd
  have lt : ∀ b, b ∈ B → b < 2 ^ g.length := by rw [hg.len]; exact M.lt
  have pm := msks_perm nd lt
  have snd := sets_nd' nd M.nd lt
  have few := hg.few
  have len := M.len
  have h10 := pow10 few
  refine ⟨by rw [hg.len]; exact few, hg.asc, fun x hx => by have := hg.els x hx; omega, ⟨fun e => ?_, ?_, fun b hb => ?_, fun b hb c hc => ?_, (bs_perm g B).nodup_iff.mpr snd, fun a ha b hb i h1 h2 => ?_⟩, (ascB_iff lt_tr _).mpr (sortS_asc snd)⟩
  · have := (bs_perm g B).length_eq
    rw [e, List.length_map] at this
    exact M.ne (List.length_eq_zero_iff.mp this.symm)
  · rw [(bs_perm g B).length_eq, List.length_map]
    omega
  · obtain ⟨m, _, rfl⟩ := List.mem_map.mp ((bs_perm g B).mem_iff.mp hb)
    exact set_sub m g
  · obtain ⟨m, hm, rfl⟩ := List.mem_map.mp ((bs_perm g B).mem_iff.mp hb)
    obtain ⟨m', hm', rfl⟩ := List.mem_map.mp ((bs_perm g B).mem_iff.mp hc)
    obtain ⟨k, hk⟩ := M.size
    rw [setOf_len, setOf_len, hg.len, hk m hm, hk m' hm']
  · obtain ⟨j, j1, j2, j3⟩ := M.ex a (pm.mem_iff.mp ha) b (pm.mem_iff.mp hb) i h1 h2
    exact ⟨j, j1, j2, pm.mem_iff.mpr j3⟩
theorem rank_same {n : Nat} {B B' : List Nat} (h : ∀ b, b ∈ B ↔ b ∈ B') (m : Nat) : rankOf n B m = rankOf n B' m :=
  Nat.le_antisymm (rank_le fun b hb => rank_ge ((h b).mp hb)) (rank_le fun b hb => rank_ge ((h b).mpr hb))
abbrev rkL (n : Nat) (B : List Nat) : List Nat := (List.range (2 ^ n)).map (rankOf n B)
theorem given_ranks {g : List Int} {n : Nat} {B : List Nat} (hg : IsGrd g n) (M : MatM n B) : rksOf g (bsOf g B) = rkL n B := by
  have lt : ∀ b, b ∈ B → b < 2 ^ g.length := by rw [hg.len]; exact M.lt
  unfold rksOf
  rw [hg.len]
  exact List.map_congr_left fun m _ => rank_same (fun b => (msks_perm hg.nd lt).mem_iff) m
section
variable {P : Program} {w : World} {K : PySem.W.Frag} {mg : Str → Option Value} {base : Heap}
theorem ok__law_drawn_bases (T : Tx K mg) : FnOk P w K mg base CX0 4 T.f__law_drawn_bases T.fd__law_drawn_bases ["source", "many"] (spDrw 0 700000 1600) := by
  refine T.F__law_drawn_bases.ok sc__law_drawn_bases (fun vs H Q E h => ?_) (fun cdv A outer s H vs Q E hr h => ?_)
  · obtain ⟨m, n, N, rfl, _⟩ := h
    rfl
  obtain ⟨m, n, N, rfl, _, n10, hS, hN, q⟩ := h
  have hp := pow10 n10
  refine ⟨_, (pss_cons (ps_set (i := 2) sc__law_drawn_bases.nd rfl (by first | exact .inl rfl | exact .inr rfl) (pe_call (ok__law_next T) (hr.mono (by decide)) (by rfl) T.m__law_next T.F__law_next.kp T.b__law_next .nil pass0 (pa_cons (pv 0) (pa_cons pe_int pa_nil))))
      (pss_cons (ps_if (PW.pt (pw_and (pt_cmpR op_eq (pv 2) pe_int (nomark _)) (pw_and1 (pt_cmpR op_gt (pv 1) pe_int (nomark _))))) (pss_one (ps_ret (pe_call (ok__law_sparse T) (hr.mono (by decide)) (by rfl) T.m__law_sparse T.F__law_sparse.kp T.b__law_sparse .nil pass0 (pa_cons (pv 0) (pa_cons (pv 1) pa_nil))))) pss_nil)
      (pss_cons (ps_if (pt_cmpR op_eq (pv 2) pe_int (nomark _)) (pss_one (ps_ret (pe_call (ok__law_column_bases T) (hr.mono (by decide)) (by rfl) T.m__law_column_bases T.F__law_column_bases.kp T.b__law_column_bases .nil pass0 (pa_cons (pv 1) (pa_cons (pe_lc (own := [("place", 3)]) (g := (gName 3)) (tt := tYes) rfl sc__law_drawn_bases.nd (pi_range1 (by rfl) T.n_range (pa_cons (pv 1) pa_nil)) (blkOk_by (N := ["source", "many", "way", "place"]) (sc := defScope s__law_drawn_bases) (by decide +kernel)) (fun _ _ _ _ _ => (pg_name (i := 3) sc__law_drawn_bases.nd rfl (by first | exact .inl rfl | exact .inr rfl))) (fun _ _ _ _ _ => pts_nil) (fun _ _ _ _ _ => (pe_call (ok__law_next T) (hr.mono (by decide)) (by rfl) T.m__law_next T.F__law_next.kp T.b__law_next .nil pass0 (pa_cons (pv 0) (pa_cons pe_int pa_nil))))) pa_nil))))) pss_nil)
      (pss_one (ps_ret (pe_call (ok__law_forest_bases T) (hr.mono (by decide)) (by rfl) T.m__law_forest_bases T.F__law_forest_bases.kp T.b__law_forest_bases .nil pass0 (pa_cons (pv 1) (pa_cons (pe_call (ok__law_drawn_lines T) (hr.mono (by decide)) (by rfl) T.m__law_drawn_lines T.F__law_drawn_lines.kp T.b__law_drawn_lines .nil pass0 (pa_cons (pv 0) (pa_cons (pv 1) pa_nil))) pa_nil)))))))), ?_⟩
  refine ⟨.ref m, rfl, m, 4, N, rfl, hS, by omega, by decide, by decide, fun wy H1 w0 w1 k1 S1 => ?_⟩
  dsimp only [gName]
  refine if_eb (b := decide (wy = 0) && decide ((1 : Int) < n)) (G := hid (XM m) H1) (O := XM m) (eb_and (eb_test (ed_eqI (ed_var rfl (.int _)) ed_int)) fun _ => eb_test (ed_B0 (g := fun i j => decide (j < i)) (ed_var rfl (.int _)) ed_int)) S1.hid (.refl _) (fun e H2 s2 => ?_) fun e H2 s2 => ?_
  · have e2 : 2 ≤ n := by
      rw [Bool.and_eq_true, decide_eq_true_eq, decide_eq_true_eq] at e
      omega
    refine ⟨.ref m, rfl, .int n, rfl, m, n, N + 1, rfl, e2, n10, S1.mono s2, by omega, fun v B H3 k3 S3 hM hv => q v B H3 (k1.trans ((KS.of s2).trans k3)) (S3.le (by omega)) hM hv⟩
  · have S2 := S1.mono s2
    have k2 : KS m H H2 := k1.trans (KS.of s2)
    refine if_eb (b := decide (wy = 1)) (G := hid (XM m) H2) (O := XM m) (eb_test (ed_eqI (ed_var rfl (.int _)) ed_int)) S2.hid (.refl _) (fun e H3 s3 => ?_) fun e H3 s3 => ?_
    · have S3 := S2.mono s3
      refine ⟨.int n, rfl, ?_⟩
      -- the columns
      refine lcx_run (xs := List.range n) (O := XM m) (G := hid (XM m) H3) (iw_range1 (by omega) (ea_one (ed_var rfl (.int _)))) S3.hid (.refl _) (fun x σ4 H4 ⟨v, e, _⟩ => by subst e; rfl) fun H4 s4 p np => ?_
      have S4 := S3.mono s4
      have pm := S4.ne np
      have s5 := same_new (o := .lst []) np
      refine ⟨fun i H5 => ∃ cs : List Nat, cs.length = i ∧ (∀ c, c ∈ cs → c < 64) ∧ KS m H4 H5 ∧ Src H5 m (N + 1 + i) ∧ H5 p = some (.lst (vNats cs)), ⟨[], rfl, fun c hc => absurd hc List.not_mem_nil, KS.of s5, (S4.mono s5).le (by omega), upd_same⟩, fun i H5 _ h5 => by obtain ⟨_, _, _, h, _⟩ := h5; exact h, fun i x H5 hx h5 => ?_, fun H5 h5 => ?_⟩
      · obtain ⟨cs, hl, hc, k5, S5, hp5⟩ := h5
        refine ⟨XM m, S5.hid, k5, fun σ6 H6 s6 hB => ?_⟩
        obtain ⟨xv, rfl, hxv⟩ := hB
        have hi : i < n := by have := (List.getElem?_eq_some_iff.mp hx).1; rwa [List.length_range] at this
        unfold tYes
        dsimp only
        rw [if_pos rfl]
        refine ⟨.ref m, rfl, m, 8, _, rfl, S5.mono s6, by omega, by decide, by decide, fun c H7 c0 c1 k7 S7 => ?_⟩
        obtain ⟨c, rfl⟩ : ∃ j : Nat, c = (j : Int) := ⟨c.toNat, by omega⟩
        have hp7 := k7.lst (s6.lst hp5) pm
        refine ⟨vNats cs, hp7, by rw [List.length_map, hl]; exact Nat.lt_of_lt_of_le (show i < 100 by omega) (by decide), cs ++ [c], by rw [List.length_append, hl]; rfl, fun d hd => ?_, KS.own (k5.trans ((KS.of s6).trans k7)) np (nt_lst hp7) pm, (S7.upd pm).le (by push_cast; omega), by rw [upd_same, vNats_snoc]⟩
        rcases List.mem_append.mp hd with hd | hd
        · exact hc d hd
        · rw [List.mem_singleton.mp hd]; omega
      · obtain ⟨cs, hl, hc, k5, S5, hp5⟩ := h5
        rw [List.length_range] at hl
        obtain ⟨k, hk1, hk2⟩ := frM_most (colAt cs) n
        refine ⟨XM m, [dNat n, dNats cs], dNats ((frM (colAt cs) n).filter fun m => decide (MB.cnt n m = k)), S5.hid, .cons (.int _) (.cons (.lst (.inl (.inl (by rw [hid_out (O := XM m) pm]; exact hp5))) (dq_nats _)) .nil), ⟨n, cs, k, rfl, n10, hl, hc, hk1, hk2, rfl⟩, fun v H6 s6 hv => ?_⟩
        exact q v _ H6 (k2.trans ((KS.of (s3.trans s4)).trans (k5.trans (KS.of s6)))) ((S5.mono s6).le (by rw [List.length_range]; omega)) (mat_cols hk1) hv
    · have S3 := S2.mono s3
      refine ⟨.int n, rfl, .ref m, rfl, .int n, rfl, m, n, N + 1, rfl, n10, S3, by omega, fun v ps H4 k4 S4 hl hb hv => ?_⟩
      obtain ⟨k, hk1, hk2⟩ := gM_most (edAt ps) n
      refine ⟨XM m, [dNat n, dEdges ps], dNats ((gM (edAt ps) n).filter fun m => decide (MB.cnt n m = k)), S4.hid, .cons (.int _) (.cons hv .nil), ⟨n, ps, k, rfl, n10, hl, hb, hk1, hk2, rfl⟩, fun v H6 s6 hv => ?_⟩
      exact q v _ H6 (k2.trans ((KS.of s3).trans (k4.trans (KS.of s6)))) ((S4.mono s6).le (by omega)) (mat_edges hl hb hk1) hv
end
end K9

set_option Elab.async false
set_option linter.all false
set_option maxRecDepth 100000
namespace K9
open PySem PySem.Spec PyProof.Rows L2 PySem.W MB
section
variable {P : Program} {w : World} {K : PySem.W.Frag} {mg : Str → Option Value} {base : Heap}
def spGrd : Sp := fun vs H Q _ => ∃ (m : Addr) (n : Nat) (N : Int), vs = [.ref m, .int n] ∧ n ≤ 10 ∧ Src H m N ∧ N < 900000 ∧ ∀ v g H', KS m H H' → Src H' m (N + 10) → IsGrd g n → Dq (hid (XM m) H') v (dSet g) → Q v H'
theorem ok__law_drawn_ground (T : Tx K mg) : FnOk P w K mg base CX0 2 T.f__law_drawn_ground T.fd__law_drawn_ground ["source", "many"] spGrd := by
  refine T.F__law_drawn_ground.ok sc__law_drawn_ground (fun vs H Q E h => ?_) (fun cdv A outer s H vs Q E hr h => ?_)
  · obtain ⟨m, n, N, rfl, _⟩ := h
    rfl
  obtain ⟨m, n, N, rfl, n10, hS, hN, q⟩ := h
  refine ⟨_, (pss_cons (ps_par (i := 2) (j := 3) rfl sc__law_drawn_ground.nd rfl rfl (by decide) rfl rfl (pa_cons (pe_lst pa_nil) (pa_cons (pe_un un_neg pe_int) pa_nil)) (by rfl))
      (pss_cons (ps_for PassesOwn.never rfl (pi_range1 (by rfl) T.n_range (pa_cons (pv 1) pa_nil)) (pg_name (i := 4) sc__law_drawn_ground.nd rfl (by first | exact .inl rfl | exact .inr rfl))
      (pss_cons (ps_set (i := 3) sc__law_drawn_ground.nd rfl (by first | exact .inl rfl | exact .inr rfl) (pe_op op_add (pe_op op_add (pv 3) pe_int) (pe_call (ok__law_next T) (hr.mono (by decide)) (by rfl) T.m__law_next T.F__law_next.kp T.b__law_next .nil pass0 (pa_cons (pv 0) (pa_cons pe_int pa_nil)))))
      (pss_one (ps_expr (pe_bm PySem.F.plainAttrs_list PySem.F.slot_list_append PySem.F.type_list_append mt_append (pv 2) (pa_cons (pv 3) pa_nil))))))
      (pss_one (ps_ret (pe_callTy (kc_tuple K) (by rfl) T.n_tuple boot_tuple (pa_cons (pv 2) pa_nil)))))), ?_⟩
  have hX : ∀ {p : Addr} {H' : Hp} {N' : Int} {o : HO}, Src H' m N' → H' p = some o → Hid (L2.plus (XM m) p) H' := fun S e => S.hid.plus e
  have hO : ∀ {p : Addr}, L2.plus (XM m) p m := .inl rfl
  refine ⟨by show 0 ≤ sizeLine; decide, fun p np => ⟨_, rfl, _, _, rfl, ?_⟩⟩
  have s3 := same_new (o := .lst []) np
  have pm := hS.ne np
  have hp3 : upd H p (.lst []) p = some (.lst []) := upd_same
  have g3 : Le (hid (XM m) H) (hid (L2.plus (XM m) p) (upd H p (.lst []))) := (KS.of s3).plus np
  have S3 := hS.mono s3
  generalize upd H p (.lst []) = H3 at s3 hp3 g3 S3
  dsimp only [tNext]
  refine for_iw (xs := List.range n) (G := hid (L2.plus (XM m) p) H3) (O := L2.plus (XM m) p) (iw_range1 (by omega) (ea_one (ed_var rfl (.int _)))) (hX S3 hp3) (.refl _) fun H4 s4 => ?_
  refine ⟨fun i σ H5 => ∃ (g : List Int) (last : Int) (x4 : Option V), σ = [some (.ref m), some (.int n), some (.ref p), some (.int last), x4] ∧ Le (hid (L2.plus (XM m) p) H4) (hid (L2.plus (XM m) p) H5) ∧ Src H5 m (N + i) ∧ H5 p = some (.lst (g.map .int)) ∧ g.length = i ∧ -1 ≤ last ∧ last + 1 ≤ 14 * i ∧ g.Pairwise (· < ·) ∧ ∀ x, x ∈ g → 0 ≤ x ∧ x ≤ last,
    ⟨[], -1, none, rfl, .refl _, (S3.mono s4).le (by omega), s4.lst hp3, rfl, by omega, by omega, .nil, fun x hx => absurd hx List.not_mem_nil⟩, fun i σ H5 _ h5 => by obtain ⟨_, _, _, _, h, _⟩ := h5; exact h, fun i x σ H5 hx h5 => ?_, fun σ H5 h5 => ?_⟩
  · obtain ⟨g, last, x4, rfl, g5, S5, hp5, hl, l0, l1, ha, hb⟩ := h5
    have hi : i < n := by have := (List.getElem?_eq_some_iff.mp hx).1; rwa [List.length_range] at this
    refine ⟨L2.plus (XM m) p, hX S5 hp5, g5, fun σ6 H6 s6 hB => ?_⟩
    obtain ⟨xv, rfl, hxv⟩ := hB
    have S6 := S5.mono s6
    refine ⟨.int last, rfl, _, _, rfl, rfl, .ref m, rfl, m, _, _, rfl, S6, by omega, by omega, by omega, fun st H7 st0 st1 k7 S7 => ⟨_, _, rfl, rfl, ?_⟩⟩
    have hp7 := k7.lst (s6.lst hp5) pm
    refine ⟨.ref p, rfl, .inl ⟨rfl, _, .inl (.inl hp7)⟩, .int (last + 1 + st), rfl, p, _, _, rfl, rfl, hp7, by rw [List.length_map, hl]; exact Nat.lt_of_lt_of_le (show i < 100 by omega) (by decide), ?_⟩
    refine ⟨g ++ [last + 1 + st], last + 1 + st, _, rfl, ?_, (S7.upd pm).le (by push_cast; omega), by rw [upd_same, List.map_append]; rfl, by rw [List.length_append, hl]; rfl, by omega, by push_cast; omega, ?_, fun x hx => ?_⟩
    · rw [hid_upd _ (nt_lst hp7) (by first | rfl | exact .inr rfl)]
      exact g5.trans ((hid_same s6).trans (k7.le hO))
    · refine List.pairwise_append.mpr ⟨ha, List.pairwise_singleton _ _, fun a ha' b hb' => ?_⟩
      rw [List.mem_singleton.mp hb']
      have := hb a ha'
      omega
    · rcases List.mem_append.mp hx with hx | hx
      · have := hb x hx
        omega
      · rw [List.mem_singleton.mp hx]
        omega
  · obtain ⟨g, last, x4, rfl, g5, S5, hp5, hl, l0, l1, ha, hb⟩ := h5
    rw [List.length_range] at hl S5 l1
    have vis : Dq (hid (XM m) H5) (.ref p) (.list (g.map .int)) := .lst (.inl (.inl (by rw [hid_out (O := XM m) pm]; exact hp5))) (DqAll.of_ints g)
    refine ret_ed (G := hid (XM m) H5) (O := XM m) (d := dSet g) (ed_tupleL (ed_var rfl vis)) S5.hid (.refl _) fun v H6 s6 hv => ?_
    exact q v g H6 (g3.trans ((hid_same s4).trans ((g5.trans (hid_plus _ _ _)).trans (hid_same s6)))) ((S5.mono s6).le (by omega)) ⟨hl, n10, ha, fun x hx => by have := hb x hx; omega⟩ hv
def R_lset (ds : List PyData) (d : PyData) : Prop := ∃ (m : Nat) (g : List Int), ds = [dSet g, dNat m] ∧ g.length ≤ 10 ∧ d = dSet (setOf m g)
theorem ok__law_set (T : Tx K mg) : FnOk P w K mg base CX0 1 T.f__law_set T.fd__law_set ["ground", "mask"] (spD K R_lset) := by
  refine okD T.F__law_set sc__law_set (fun ds d ⟨m, g, e, _⟩ => by rw [e]; rfl) fun cdv A outer s H E O vs ds d hr o hv r => ?_
  obtain ⟨m, g, rfl, hg, rfl⟩ := r
  obtain ⟨v1, v2, rfl, h1, h2⟩ := dp2 hv
  refine ⟨_, (pss_one (ps_ret (pe_callTy (kc_tuple K) (by rfl) T.n_tuple boot_tuple (pa_cons (pe_lc (own := [("place", 2), ("element", 3)]) (g := (gTup K 2 (gCons (gName 2) (gCons (gName 3) gNil)))) rfl sc__law_set.nd (kp_enumT K (by rfl) T.n_enumerate (pa_cons (pv 0) pa_nil)) (blkOk_by (N := ["ground", "mask", "place", "element"]) (sc := defScope s__law_set) (by decide +kernel)) (fun _ _ _ _ _ => (kg_tup K (pgs_cons (pg_name (i := 2) sc__law_set.nd rfl (by first | exact .inl rfl | exact .inr rfl)) (pgs_cons (pg_name (i := 3) sc__law_set.nd rfl (by first | exact .inl rfl | exact .inr rfl)) pgs_nil)))) (fun _ _ _ _ _ => (pts_one (pt_cmpR op_eq (pe_op op_and (pe_op op_shr (pv 1) (pv 2)) pe_int) pe_int (nomark _)))) (fun _ _ _ _ _ => (pv 3))) pa_nil)))), fun D q => ?_⟩
  refine ret_ed (G := hid O H) ?_ o (.refl _) q
  refine ed_tupleL (Ed.of ?_ (ed_lc (fun x : Int × Nat => m.testBit x.2) (fun x => .int x.1) (by rw [List.length_zipIdx]; omega) (iw_enumT (ea_one (ed_var rfl h1))) ?_ ?_))
  · unfold setOf
    rw [List.map_map]
    rfl
  · rintro x σ4 H4 ⟨v, w, rfl, _, _⟩
    rfl
  · rintro x hx σ2 H2 s2 ⟨v, w, rfl, d1, d2⟩
    exact ⟨eb_one (ed_var rfl (h2.mono s2)) (ed_var rfl d1), fun _ => ed_var rfl d2⟩
def R_lsort (ds : List PyData) (d : PyData) : Prop := ∃ (g : List Int) (B : List Nat), ds = [dSet g, dNats B] ∧ g.length ≤ 10 ∧ B.length ≤ 5000 ∧ d = dSets (bsOf g B)
theorem ok__law_sorted_sets (T : Tx K mg) : FnOk P w K mg base CX0 2 T.f__law_sorted_sets T.fd__law_sorted_sets ["ground", "masks"] (spD K R_lsort) := by
  refine okD T.F__law_sorted_sets sc__law_sorted_sets (fun ds d ⟨m, g, e, _⟩ => by rw [e]; rfl) fun cdv A outer s H E O vs ds d hr o hv r => ?_
  obtain ⟨g, B, rfl, hg, hB, rfl⟩ := r
  obtain ⟨v1, v2, rfl, h1, h2⟩ := dp2 hv
  refine ⟨_, (pss_one (ps_ret (pe_callTy (kc_tuple K) (by rfl) T.n_tuple boot_tuple (pa_cons (pe_callB (kc_sortedTu K (hu64 hr)) (by rfl) T.n_sorted boot_sorted (pa_cons (pe_lc (own := [("mask", 2)]) (g := (gName 2)) (tt := tYes) rfl sc__law_sorted_sets.nd (kp_list K (pv 1)) (blkOk_by (N := ["ground", "masks", "mask"]) (sc := defScope s__law_sorted_sets) (by decide +kernel)) (fun _ _ _ _ _ => (pg_name (i := 2) sc__law_sorted_sets.nd rfl (by first | exact .inl rfl | exact .inr rfl))) (fun _ _ _ _ _ => pts_nil) (fun _ _ _ _ _ => (pe_call (ok__law_set T) (hr.mono (by decide)) (by rfl) T.m__law_set T.F__law_set.kp T.b__law_set .nil pass0 (pa_cons (pv 0) (pa_cons (pv 2) pa_nil))))) pa_nil)) pa_nil)))), fun D q => ?_⟩
  refine ret_ed (G := hid O H) (ed_tupleL (ed_sorted (ls := B.map (setOf · g)) (Ed.of ?_ (ed_lc (fun _ => true) (fun m : Nat => dSet (setOf m g)) (by omega) (iw_list (φ := dNat) (xs := B) (ed_var rfl h2)) (fun x σ4 H4 ⟨v, e, _⟩ => by subst e; rfl) ?_)))) o (.refl _) q
  · rw [filt_t, dSetL, List.map_map]
    rfl
  · rintro m hx σ2 H2 s2 ⟨v, rfl, d1⟩
    exact ⟨eb_yes, fun _ => ed_call ⟨m, g, rfl, hg, rfl⟩ (ea_cons (ed_var rfl (h1.mono s2)) (ea_one (ed_var rfl d1)))⟩
def R_given (xs : List Vl) (x : Vl) : Prop := ∃ (g : List Int) (B : List Nat), xs = [.d (dSet g), .d (dNats B)] ∧ g.length ≤ 10 ∧ B.length ≤ 5000 ∧ IsMat g (bsOf g B) ∧ x = .m g (bsOf g B)
theorem ok__law_given (T : Tx K mg) : FnOk P w K mg base CX0 9 T.f__law_given T.fd__law_given ["ground", "bases"] (spX T.C R_given) := by
  refine okX T.F__law_given sc__law_given (fun ds d ⟨g, bs, e, _⟩ => by rw [e]; rfl) fun cdv A outer s H E O vs ds d hr o hv r => ?_
  obtain ⟨g, B, rfl, hg, hB, M, rfl⟩ := r
  obtain ⟨v0, v1, rfl, h1, h2⟩ := vr2 hv
  have h1 := h1.dp
  have h2 := h2.dp
  refine ⟨_, (pss_one (ps_ret (pe_make T.mkC (ok_init T) (hr.mono (by decide)) (by rfl) T.m_Matroid T.b_Matroid___init__ .nil pass0 (pa_cons (pv 0) (pa_cons (pe_callTy (kc_tuple K) (by rfl) T.n_tuple boot_tuple (pa_cons (pe_callB (kc_sortedTu K (hu64 hr)) (by rfl) T.n_sorted boot_sorted (pa_cons (pe_lc (own := [("mask", 2)]) (g := (gName 2)) (tt := tYes) rfl sc__law_given.nd (kp_list K (pv 1)) (blkOk_by (N := ["ground", "bases", "mask"]) (sc := defScope s__law_given) (by decide +kernel)) (fun _ _ _ _ _ => (pg_name (i := 2) sc__law_given.nd rfl (by first | exact .inl rfl | exact .inr rfl))) (fun _ _ _ _ _ => pts_nil) (fun _ _ _ _ _ => (pe_call (ok__law_set T) (hr.mono (by decide)) (by rfl) T.m__law_set T.F__law_set.kp T.b__law_set .nil pass0 (pa_cons (pv 0) (pa_cons (pv 2) pa_nil))))) pa_nil)) pa_nil)) pa_nil))))), fun D q => ?_⟩
  refine (eo_make (G := hid O H) (ea_cons (ed_var rfl h1) (ea_one (ed_tupleL (ed_sorted (ls := B.map (setOf · g)) (Ed.of ?_ (ed_lc (fun _ => true) (fun m : Nat => dSet (setOf m g)) (by omega) (iw_list (φ := dNat) (xs := B) (ed_var rfl h2)) (fun x σ4 H4 ⟨v, e, _⟩ => by subst e; rfl) ?_)))))) M).ev O H o (.refl _) _ fun v H' s' hv => q v H' s' hv
  · rw [filt_t, dSetL, List.map_map]
    rfl
  · rintro m hx σ2 H2 s2 ⟨v, rfl, d1⟩
    exact ⟨eb_yes, fun _ => ed_call ⟨m, g, rfl, hg, rfl⟩ (ea_cons (ed_var rfl (h1.mono s2)) (ea_one (ed_var rfl d1)))⟩
end
end K9

set_option Elab.async false
set_option linter.all false
set_option maxRecDepth 100000
namespace K9
open PySem PySem.Spec PyProof.Rows L2 PySem.W MB
theorem cnt_eq_sub {n a b : Nat} (hb : b < 2 ^ n) (h : sub a b) (e : cnt n a = cnt n b) : a = b := by
  refine sub_antisymm h (sub_iff.mpr fun i hi => Classical.byContradiction fun na => ?_)
  have hin := lt_bit hb hi
  have h1 : sub a (clr b i) := sub_iff.mpr fun j hj => by
    rw [clr_bit, sub_iff.mp h j hj, Bool.true_and, Bool.not_eq_true', decide_eq_false_iff_not]
    intro z
    subst z
    exact na hj
  have := cnt_mono (n := n) h1
  have := cnt_clr hin hi
  omega
/-! ### duals: the mathematics -/
abbrev cmpl (n m : Nat) : Nat := (2 ^ n - 1) ^^^ m
theorem cmpl_bit {n m i : Nat} : (cmpl n m).testBit i = ((decide (i < n)) ^^ m.testBit i) := by
  rw [Nat.testBit_xor, Nat.testBit_two_pow_sub_one]
theorem cmpl_lt {n m : Nat} (h : m < 2 ^ n) : cmpl n m < 2 ^ n := Nat.xor_lt_two_pow (Nat.sub_lt (Nat.two_pow_pos n) (by decide)) h
theorem cmpl_cmpl {n m : Nat} : cmpl n (cmpl n m) = m := by
  unfold cmpl
  rw [← Nat.xor_assoc, Nat.xor_self, Nat.zero_xor]
theorem cmpl_inj {n a b : Nat} (h : cmpl n a = cmpl n b) : a = b := by rw [← cmpl_cmpl (n := n) (m := a), h, cmpl_cmpl]
theorem cmpl_in {n m i : Nat} (h : i < n) : (cmpl n m).testBit i = !m.testBit i := by rw [cmpl_bit, decide_eq_true h]; cases m.testBit i <;> rfl
theorem rest_msk {g l : List Int} (nd : g.Nodup) : mskOf (restOf g l) g = cmpl g.length (mskOf l g) := by
  refine Nat.eq_of_testBit_eq fun i => ?_
  rw [cmpl_bit, Bool.eq_iff_iff, msk_bit]
  by_cases hi : i < g.length
  · rw [decide_eq_true hi]
    have e := List.getElem?_eq_getElem hi
    have hl : (mskOf l g).testBit i = decide (g[i] ∈ l) := by
      rw [Bool.eq_iff_iff, msk_bit, decide_eq_true_eq]
      exact ⟨fun ⟨x, h1, h2⟩ => by rw [e] at h1; cases h1; exact h2, fun h => ⟨_, e, h⟩⟩
    rw [hl]
    constructor
    · rintro ⟨x, h1, h2⟩
      rw [e] at h1; cases h1
      have := (List.mem_filter.mp h2).2
      simpa using this
    · intro h
      refine ⟨_, e, List.mem_filter.mpr ⟨List.getElem_mem hi, ?_⟩⟩
      simpa using h
  · rw [decide_eq_false hi]
    have e := List.getElem?_eq_none (Nat.le_of_not_lt hi)
    have hl : (mskOf l g).testBit i = false := by
      cases z : (mskOf l g).testBit i with
      | false => rfl
      | true =>
        obtain ⟨x, h1, _⟩ := (msk_bit l g i).mp z
        rw [e] at h1; cases h1
    rw [hl]
    constructor
    · rintro ⟨x, h1, _⟩
      rw [e] at h1; cases h1
    · intro h; cases h
theorem rest_set {g : List Int} (nd : g.Nodup) {m : Nat} (hm : m < 2 ^ g.length) : restOf g (setOf m g) = setOf (cmpl g.length m) g := by
  have h : (restOf g (setOf m g)).Sublist g := List.filter_sublist
  rw [← set_msk h nd, rest_msk nd, msk_set nd hm]
theorem rest_rest {g l : List Int} (h : l.Sublist g) (nd : g.Nodup) : restOf g (restOf g l) = l := by
  have e := sub_filter h nd
  rw [← e]
  refine List.filter_congr fun x hx => ?_
  rw [e, Bool.eq_iff_iff]
  simp only [decide_eq_true_eq, List.mem_filter, hx, true_and]
  simp
/-- cnt of what two have, and of the rest -/
theorem cnt_split (n a b : Nat) : cnt n a = cnt n (a &&& b) + cnt n (a &&& cmpl n b) := by
  rw [cnt_and, cnt_and]
  have := split_len (fun k => a.testBit k) (fun k => b.testBit k) (List.range n)
  unfold MB.cnt placesIn
  rw [this]
  congr 2
  refine List.filter_congr fun k hk => ?_
  rw [cmpl_in (List.mem_range.mp hk)]
/-- ranks in the dual -/
theorem rank_dual {n r : Nat} {ms : List Nat} (hne : ms ≠ []) (sz : ∀ b, b ∈ ms → cnt n b = r) (m : Nat) : rankOf n (ms.map (cmpl n)) m + r = cnt n m + rankOf n ms (cmpl n m) := by
  have key : ∀ b, b ∈ ms → cnt n (m &&& cmpl n b) + r = cnt n m + cnt n (cmpl n m &&& b) := fun b hb => by
    have h1 := cnt_split n m b
    have h2 := cnt_split n b m
    rw [sz b hb, Nat.and_comm b m, Nat.and_comm b (cmpl n m)] at h2
    omega
  obtain ⟨b0, hb0⟩ := List.exists_mem_of_ne_nil ms hne
  refine Nat.le_antisymm ?_ ?_
  · rcases rank_at n (ms.map (cmpl n)) m with h | ⟨b, hb, h⟩
    · have := key b0 hb0
      have := rank_ge (n := n) (m := cmpl n m) hb0
      omega
    · obtain ⟨c, hc, rfl⟩ := List.mem_map.mp hb
      have := key c hc
      have := rank_ge (n := n) (m := cmpl n m) hc
      omega
  · rcases rank_at n ms (cmpl n m) with h | ⟨b, hb, h⟩
    · have h1 := key b0 hb0
      have h2 := rank_ge (n := n) (m := m) (List.mem_map_of_mem (f := cmpl n) hb0)
      omega
    · have h1 := key b hb
      have h2 := rank_ge (n := n) (m := m) (List.mem_map_of_mem (f := cmpl n) hb)
      omega
theorem swap_lt {n a k j : Nat} (ha : a < 2 ^ n) (hk : k < n) (hj : j < n) : (a ^^^ 2 ^ k) ||| 2 ^ j < 2 ^ n :=
  Nat.or_lt_two_pow (xor_lt ha hk) (Nat.pow_lt_pow_right (by decide) hj)
theorem swap_cnt {n a k j : Nat} (ha : a.testBit k = true) (hk : k < n) (hj : j < n) (hja : a.testBit j = false) : MB.cnt n ((a ^^^ 2 ^ k) ||| 2 ^ j) = MB.cnt n a := by
  have hkj : k ≠ j := fun e => by subst e; rw [ha] at hja; cases hja
  have bit : ∀ i, ((a ^^^ 2 ^ k) ||| 2 ^ j).testBit i = ((a.testBit i && !decide (k = i)) || decide (j = i)) := fun i => by
    rw [xor_clr ha, Nat.testBit_or, clr_bit, bit_pow]
  have h1 := cnt_clr hk ha
  have h2 := cnt_clr (m := (a ^^^ 2 ^ k) ||| 2 ^ j) hj (by rw [bit]; simp)
  have : clr ((a ^^^ 2 ^ k) ||| 2 ^ j) j = clr a k := Nat.eq_of_testBit_eq fun i => by
    rw [clr_bit, bit, clr_bit]
    by_cases e : j = i
    · subst e
      rw [hja]
      simp
    · simp [e]
  rw [this] at h2
  omega
/-- the exchange for complements -/
theorem ex_dual {n : Nat} {ms : List Nat} (ex : ExM ms) (sz : ∀ a, a ∈ ms → ∀ b, b ∈ ms → cnt n a = cnt n b) (lt : ∀ a, a ∈ ms → a < 2 ^ n) : ExM (ms.map (cmpl n)) := by
  intro a' ha' b' hb' k hk1 hk2
  obtain ⟨a, ha, rfl⟩ := List.mem_map.mp ha'
  obtain ⟨b, hb, rfl⟩ := List.mem_map.mp hb'
  have hkn : k < n := lt_bit (cmpl_lt (lt a ha)) hk1
  have ka : a.testBit k = false := by rw [cmpl_in hkn] at hk1; simpa using hk1
  have kb : b.testBit k = true := by rw [cmpl_in hkn] at hk2; simpa using hk2
  have hJ : sub ((a &&& b) ||| 2 ^ k) (a ||| 2 ^ k) := sub_iff.mpr fun i hi => by
    rw [Nat.testBit_or, Nat.testBit_and] at hi
    rw [Nat.testBit_or]
    cases h1 : a.testBit i <;> simp_all
  have hJb : sub ((a &&& b) ||| 2 ^ k) b := sub_iff.mpr fun i hi => by
    rw [Nat.testBit_or, Nat.testBit_and, bit_pow] at hi
    by_cases e : k = i
    · subst e; exact kb
    · simp [e] at hi; exact hi.2
  obtain ⟨e, he, hJe, hc⟩ := aug ex sz lt hJ ha n b hb hJb (Nat.le_add_left _ _)
  have hLa : (a ||| 2 ^ k) &&& a = a := Nat.eq_of_testBit_eq fun i => by
    rw [Nat.testBit_and, Nat.testBit_or]
    cases a.testBit i <;> simp
  rw [hLa] at hc
  have heL : sub e (a ||| 2 ^ k) := by
    have h1 : MB.cnt n ((a ||| 2 ^ k) &&& e) = cnt n e := Nat.le_antisymm (cnt_mono (and_sub_r _ _)) (by rw [sz e he a ha]; exact hc)
    have := cnt_eq_sub (lt e he) (and_sub_r (a ||| 2 ^ k) e) h1
    rw [← this]
    exact and_sub_l _ _
  have hek : e.testBit k = true := sub_iff.mp hJe k (by rw [Nat.testBit_or, bit_pow]; simp)
  -- some j of a is not in e
  obtain ⟨j, hja, hje⟩ : ∃ j, a.testBit j = true ∧ e.testBit j = false := by
    refine Classical.byContradiction fun z => ?_
    have hs : sub a e := sub_iff.mpr fun i hi => by
      cases h : e.testBit i with
      | true => rfl
      | false => exact absurd ⟨i, hi, h⟩ z
    have := cnt_eq_sub (lt e he) hs (sz a ha e he)
    rw [this, hek] at ka
    cases ka
  have hjn : j < n := lt_bit (lt a ha) hja
  have hjb : b.testBit j = false := by
    cases h : b.testBit j with
    | false => rfl
    | true =>
      have := sub_iff.mp hJe j (by rw [Nat.testBit_or, Nat.testBit_and, hja, h]; simp)
      rw [hje] at this
      cases this
  have hkj : k ≠ j := fun z => by subst z; rw [ka] at hja; cases hja
  refine ⟨j, by rw [cmpl_in hjn, hjb]; rfl, by rw [cmpl_in hjn, hja]; rfl, ?_⟩
  have e1 : e = (a ^^^ 2 ^ j) ||| 2 ^ k := by
    refine cnt_eq_sub (n := n) ?_ ?_ ?_
    · exact swap_lt (lt a ha) hjn hkn
    · refine sub_iff.mpr fun i hi => ?_
      have h1 := sub_iff.mp heL i hi
      rw [Nat.testBit_or, bit_pow] at h1 ⊢
      rw [Nat.testBit_xor, bit_pow]
      by_cases z : j = i
      · subst z; rw [hje] at hi; cases hi
      · simpa [z] using h1
    · rw [swap_cnt hja hjn hkn ka]
      exact sz e he a ha
  have e2 : (cmpl n a ^^^ 2 ^ k) ||| 2 ^ j = cmpl n e := Nat.eq_of_testBit_eq fun i => by
    rw [e1, Nat.testBit_or, Nat.testBit_xor, cmpl_bit, cmpl_bit, Nat.testBit_or, Nat.testBit_xor, bit_pow, bit_pow]
    by_cases z1 : k = i
    · subst z1
      simp [hkn, ka, Ne.symm hkj]
    · by_cases z2 : j = i
      · subst z2
        simp [hjn, hja, z1]
      · simp [z1, z2]
  rw [e2]
  exact List.mem_map_of_mem he
/-! ### connectivity -/
abbrev lkI (n : Nat) (r : Nat → Nat) (m : Nat) : Int := (r m : Int) + (r (cmpl n m) : Int) - (r (2 ^ n - 1) : Int)
def zB (n : Nat) (r : Nat → Nat) (m : Nat) : Bool := decide (0 < m) && decide (lkI n r m = 0)
def minB (Z : Nat → Bool) (m : Nat) : Bool := Z m && !((List.range m).any fun k => Z k && decide (k &&& m = k))
abbrev partsM (n : Nat) (r : Nat → Nat) : List Nat := (List.range (2 ^ n)).filter (minB (zB n r))
def splB (n : Nat) (r : Nat → Nat) (m : Nat) : Bool := decide (2 ≤ MB.cnt n m) && decide (MB.cnt n m + 2 ≤ n) && decide (lkI n r m = 1)
abbrev odds (n : Nat) : List Nat := (List.range (2 ^ (n - 1))).map fun k => 2 * k + 1
abbrev splM (n : Nat) (r : Nat → Nat) : List Nat := (odds n).filter (splB n r)
def crsB (n a b : Nat) : Bool := decide (a &&& b ≠ a) && decide (a &&& b ≠ b) && decide (a ||| b ≠ 2 ^ n - 1)
abbrev goodM (n : Nat) (r : Nat → Nat) : List Nat := (splM n r).filter fun a => !(splM n r).any (crsB n a)
theorem min_has {Z : Nat → Bool} : ∀ m, Z m = true → ∃ k, minB Z k = true ∧ k &&& m = k := by
  intro m
  induction m using Nat.strongRecOn with
  | _ m ih =>
    intro h
    by_cases e : minB Z m = true
    · exact ⟨m, e, Nat.and_self m⟩
    · have : ((List.range m).any fun k => Z k && decide (k &&& m = k)) = true := by
        unfold minB at e
        rw [h, Bool.true_and] at e
        simpa using e
      obtain ⟨k, hk, h2⟩ := List.any_eq_true.mp this
      rw [Bool.and_eq_true, decide_eq_true_eq] at h2
      obtain ⟨j, h3, h4⟩ := ih k (List.mem_range.mp hk) h2.1
      refine ⟨j, h3, ?_⟩
      have : j &&& m = j &&& (k &&& m) := by rw [← Nat.and_assoc, h4]
      rw [this, h2.2, h4]
theorem min_Z {Z : Nat → Bool} {m : Nat} (h : minB Z m = true) : Z m = true := (Bool.and_eq_true _ _ ▸ h).1
/-- against the minimal ones before -/
theorem min_new {Z : Nat → Bool} {m : Nat} (h : Z m = true) : minB Z m = !(((List.range m).filter (minB Z)).any fun p => decide (m &&& p = p)) := by
  unfold minB
  rw [h, Bool.true_and]
  congr 1
  rw [Bool.eq_iff_iff, List.any_eq_true, List.any_eq_true]
  constructor
  · rintro ⟨k, hk, h2⟩
    rw [Bool.and_eq_true, decide_eq_true_eq] at h2
    obtain ⟨j, h3, h4⟩ := min_has k h2.1
    have e : j &&& m = j := by rw [← h4, Nat.and_assoc, h2.2]
    have : j ≤ k := by rw [← h4]; exact Nat.and_le_right
    have := List.mem_range.mp hk
    exact ⟨j, List.mem_filter.mpr ⟨List.mem_range.mpr (by omega), h3⟩, by rw [Nat.and_comm, e]; simp⟩
  · rintro ⟨k, hk, h2⟩
    obtain ⟨h3, h4⟩ := List.mem_filter.mp hk
    rw [decide_eq_true_eq, Nat.and_comm] at h2
    exact ⟨k, h3, by rw [min_Z h4, h2]; simp⟩
/-- against all -/
theorem min_all {Z : Nat → Bool} {N m : Nat} (hm : m < N) : minB Z m = (Z m && (((List.range N).filter Z).filter fun k => decide (k ≠ m) && decide (k &&& m = k)).isEmpty) := by
  unfold minB
  congr 1
  rw [Bool.eq_iff_iff, Bool.not_eq_true', List.isEmpty_iff, List.filter_eq_nil_iff, List.any_eq_false]
  constructor
  · intro h k hk h2
    obtain ⟨h3, h4⟩ := List.mem_filter.mp hk
    rw [Bool.and_eq_true, decide_eq_true_eq, decide_eq_true_eq] at h2
    have : k ≤ m := by rw [← h2.2]; exact Nat.and_le_right
    have := h2.1
    exact h k (List.mem_range.mpr (by omega)) (by rw [h4, h2.2]; simp)
  · intro h k hk h2
    rw [Bool.and_eq_true, decide_eq_true_eq] at h2
    have := List.mem_range.mp hk
    exact h k (List.mem_filter.mpr ⟨List.mem_range.mpr (by omega), h2.1⟩) (by rw [h2.2]; simp; omega)
theorem odds_lt {n m : Nat} (h : 0 < n) (hm : m ∈ odds n) : m < 2 ^ n ∧ m.testBit 0 = true := by
  obtain ⟨k, hk, rfl⟩ := List.mem_map.mp hm
  have := List.mem_range.mp hk
  obtain ⟨j, rfl⟩ : ∃ j, n = j + 1 := ⟨n - 1, by omega⟩
  rw [Nat.add_sub_cancel] at this
  rw [Nat.pow_succ]
  exact ⟨by omega, by rw [Nat.testBit_zero]; simp⟩
theorem and_cmpl {n a b : Nat} (ha : a < 2 ^ n) : a &&& cmpl n b = 0 ↔ a &&& b = a := by
  constructor
  · intro h
    refine Nat.eq_of_testBit_eq fun i => ?_
    have := congrArg (fun z => Nat.testBit z i) h
    simp only [Nat.testBit_and, cmpl_bit, Nat.zero_testBit] at this
    rw [Nat.testBit_and]
    cases e : a.testBit i with
    | false => simp
    | true =>
      have := lt_bit ha e
      simp_all
  · intro h
    refine Nat.eq_of_testBit_eq fun i => ?_
    have := congrArg (fun z => Nat.testBit z i) h
    simp only [Nat.testBit_and] at this
    rw [Nat.testBit_and, cmpl_bit, Nat.zero_testBit]
    cases e : a.testBit i with
    | false => simp
    | true =>
      have := lt_bit ha e
      simp_all
theorem cmpl_or {n a b : Nat} (ha : a < 2 ^ n) (hb : b < 2 ^ n) : cmpl n a &&& cmpl n b = 0 ↔ a ||| b = 2 ^ n - 1 := by
  constructor
  · intro h
    refine Nat.eq_of_testBit_eq fun i => ?_
    have := congrArg (fun z => Nat.testBit z i) h
    simp only [Nat.testBit_and, cmpl_bit, Nat.zero_testBit] at this
    rw [Nat.testBit_or, Nat.testBit_two_pow_sub_one]
    by_cases z : i < n
    · simp only [z, decide_true, Bool.true_xor] at this ⊢
      cases h1 : a.testBit i <;> cases h2 : b.testBit i <;> simp_all
    · have h1 : a.testBit i = false := by
        cases e : a.testBit i with
        | false => rfl
        | true => exact absurd (lt_bit ha e) z
      have h2 : b.testBit i = false := by
        cases e : b.testBit i with
        | false => rfl
        | true => exact absurd (lt_bit hb e) z
      simp [h1, h2, z]
  · intro h
    refine Nat.eq_of_testBit_eq fun i => ?_
    have := congrArg (fun z => Nat.testBit z i) h
    rw [Nat.testBit_or, Nat.testBit_two_pow_sub_one] at this
    rw [Nat.testBit_and, cmpl_bit, cmpl_bit, Nat.zero_testBit]
    by_cases z : i < n
    · simp only [z, decide_true] at this ⊢
      cases h1 : a.testBit i <;> cases h2 : b.testBit i <;> simp_all
    · simp only [z, decide_false] at this ⊢
      cases h1 : a.testBit i <;> cases h2 : b.testBit i <;> simp_all
/-! ### the dual -/
theorem cnt_both {n m : Nat} (hm : m < 2 ^ n) : MB.cnt n m + MB.cnt n (cmpl n m) = n := by
  have h := cnt_split n (2 ^ n - 1) m
  have e1 : (2 ^ n - 1) &&& m = m := by rw [Nat.and_comm]; exact RT.sub_full hm
  have e2 : (2 ^ n - 1) &&& cmpl n m = cmpl n m := by rw [Nat.and_comm]; exact RT.sub_full (cmpl_lt hm)
  have e3 : MB.cnt n (2 ^ n - 1) = n := by
    unfold MB.cnt placesIn
    rw [List.filter_eq_self.mpr fun k hk => by rw [Nat.testBit_two_pow_sub_one, decide_eq_true (List.mem_range.mp hk)], List.length_range]
  rw [e1, e2, e3] at h
  omega
theorem lk_dual {n : Nat} {B : List Nat} (M : MatM n B) {m : Nat} (hm : m < 2 ^ n) : lkI n (rankOf n (B.map (cmpl n))) m = lkI n (rankOf n B) m := by
  obtain ⟨k, hk⟩ := M.size
  have h := fun m => rank_dual M.ne hk m
  have h0 := h 0
  have h1 := h m
  have h2 := h (cmpl n m)
  have h3 := h (2 ^ n - 1)
  have z : ∀ B : List Nat, rankOf n B 0 = 0 := fun B => Nat.le_zero.mp (rank_le fun b _ => by rw [Nat.zero_and, cnt_nil]; exact Nat.le_refl _)
  have f : cmpl n (2 ^ n - 1) = 0 := Nat.xor_self _
  have f0 : cmpl n 0 = 2 ^ n - 1 := Nat.xor_zero _
  have c0 := cnt_both (n := n) (m := 0) (Nat.two_pow_pos n)
  have c1 := cnt_both hm
  rw [cmpl_cmpl] at h2
  rw [f, z] at h3
  rw [f0, z, cnt_nil] at h0
  rw [f0, cnt_nil] at c0
  unfold lkI
  omega
theorem matM_dual {n : Nat} {B : List Nat} (M : MatM n B) : MatM n (B.map (cmpl n)) where
  ne := fun e => M.ne (List.map_eq_nil_iff.mp e)
  nd := List.pairwise_map.mpr (List.Pairwise.imp (fun {a b} hab e => hab (cmpl_inj e)) M.nd)
  lt := fun b hb => by
    obtain ⟨c, hc, rfl⟩ := List.mem_map.mp hb
    exact cmpl_lt (M.lt c hc)
  size := by
    obtain ⟨k, hk⟩ := M.size
    refine ⟨n - k, fun b hb => ?_⟩
    obtain ⟨c, hc, rfl⟩ := List.mem_map.mp hb
    have := cnt_both (M.lt c hc)
    rw [hk c hc] at this
    omega
  ex := ex_dual M.ex (fun a ha b hb => by
    obtain ⟨k, hk⟩ := M.size
    rw [hk a ha, hk b hb]) M.lt
theorem dual_given {g : List Int} {n : Nat} {B : List Nat} (hg : IsGrd g n) (M : MatM n B) : dualB g (bsOf g B) = bsOf g (B.map (cmpl n)) := by
  have nd := hg.nd
  refine sortS_eq (((bs_perm g B).map _).trans ?_)
  rw [List.map_map, List.map_map]
  refine List.Perm.of_eq (List.map_congr_left fun b hb => ?_)
  have := rest_set nd (m := b) (by rw [hg.len]; exact M.lt b hb)
  rw [hg.len] at this
  exact this
theorem parts_same {n : Nat} {r r' : Nat → Nat} (h : ∀ m, m < 2 ^ n → lkI n r m = lkI n r' m) : partsM n r = partsM n r' := by
  have z : ∀ m, m < 2 ^ n → zB n r m = zB n r' m := fun m hm => by unfold zB; rw [h m hm]
  refine List.filter_congr fun m hm => ?_
  have hm := List.mem_range.mp hm
  unfold minB
  rw [z m hm]
  congr 2
  rw [Bool.eq_iff_iff, List.any_eq_true, List.any_eq_true]
  exact ⟨fun ⟨k, hk, e⟩ => ⟨k, hk, by rw [← z k (Nat.lt_trans (List.mem_range.mp hk) hm)]; exact e⟩, fun ⟨k, hk, e⟩ => ⟨k, hk, by rw [z k (Nat.lt_trans (List.mem_range.mp hk) hm)]; exact e⟩⟩
theorem spl_same {n : Nat} {r r' : Nat → Nat} (h0 : 0 < n) (h : ∀ m, m < 2 ^ n → lkI n r m = lkI n r' m) : splM n r = splM n r' :=
  List.filter_congr fun m hm => by unfold splB; rw [h m (odds_lt h0 hm).1]
theorem good_same {n : Nat} {r r' : Nat → Nat} (h0 : 0 < n) (h : ∀ m, m < 2 ^ n → lkI n r m = lkI n r' m) : goodM n r = goodM n r' := by
  unfold goodM
  rw [spl_same h0 h]
end K9

set_option Elab.async false
set_option linter.all false
set_option maxRecDepth 100000
namespace L2
open PySem PySem.Spec PyProof.Rows PySem.W
section
variable {K : PySem.W.Frag} {σ : L2.St} {G H : Hp} {ta tb tc : TE} {d e f : PyData} {i j k : Int}
/-- a op b op' c with ints -/
theorem ed_chainI {g h : Int → Int → Bool} (ha : Ed ta σ G (.int i)) (hb : Ed tb σ G (.int j)) (hc : Ed tc σ G (.int k)) : Ed (tChain (rI0 fun i j => .bl (g i j)) (rI0 fun i j => .bl (h i j)) ta tb tc) σ G (.bool (g i j && h j k)) := fun O H1 o s Q q =>
  ha O H1 o s _ fun x H2 s2 hx => hb O H2 (o.mono s2) (s.trans (hid_same s2)) _ fun y H3 s3 hy => by
    refine ⟨i, j, hx.int_inv, hy.int_inv, g i j, rfl, ?_⟩
    split
    · rename_i z
      refine hc O H3 (o.mono (s2.trans s3)) (s.trans (hid_same (s2.trans s3))) _ fun w H4 s4 hw => ⟨j, k, hy.int_inv, hw.int_inv, ?_⟩
      have := q (.bl (g i j && h j k)) H4 ((s2.trans s3).trans s4) (.bl _)
      rw [z] at this
      exact this
    · rename_i z
      have := q (.bl (g i j && h j k)) H3 (s2.trans s3) (.bl _)
      rw [show g i j = false by cases hg : g i j <;> simp_all] at this
      exact this
/-- a == b == c with data -/
theorem ed_chainD (sd : SeqAt.shaped d = true) (se : SeqAt.shaped e = true) (sf : SeqAt.shaped f = true) (ha : Ed ta σ G d) (hb : Ed tb σ G e) (hc : Ed tc σ G f) : Ed (tChain (rEqD K) (rEqD K) ta tb tc) σ G (.bool (PyData.eqv d e && PyData.eqv e f)) := fun O H1 o s Q q =>
  ha O H1 o s _ fun x H2 s2 hx => hb O H2 (o.mono s2) (s.trans (hid_same s2)) _ fun y H3 s3 hy => by
    refine ⟨d, e, ((hx.mono (hid_same s3)).mono (hid_sub _ _)).up, (hy.mono (hid_sub _ _)).up, sd, se, PyData.eqv d e, rfl, ?_⟩
    split
    · rename_i z
      refine hc O H3 (o.mono (s2.trans s3)) (s.trans (hid_same (s2.trans s3))) _ fun w H4 s4 hw => ⟨e, f, ((hy.mono (hid_same s4)).mono (hid_sub _ _)).up, (hw.mono (hid_sub _ _)).up, se, sf, ?_⟩
      have := q (.bl (PyData.eqv d e && PyData.eqv e f)) H4 ((s2.trans s3).trans s4) (.bl _)
      rw [z] at this
      exact this
    · rename_i z
      have := q (.bl (PyData.eqv d e && PyData.eqv e f)) H3 (s2.trans s3) (.bl _)
      rw [show PyData.eqv d e = false by cases hg : PyData.eqv d e <;> simp_all] at this
      exact this
/-- range(1, 2 ** (n + 1), 2) -/
theorem iw_rangeO {i : Nat} {ta : TA} {n : Nat} (hn : n ≤ 15) (h : Ea ta σ H [.int 1, .int ((2 ^ (n + 1) : Nat) : Int), .int 2]) : Iw (iRng3 ta) (gName i) σ H (List.range (2 ^ n)) (B1 i fun k => .int ((2 * k + 1 : Nat) : Int)) := fun O H0 o s R q =>
  h O H0 o s _ fun vs H1 s1 hv => by
    cases hv with
    | cons h0 t =>
      cases t with
      | cons h1 t =>
        cases t with
        | cons h2 t =>
          cases t
          rw [h0.int_inv, h1.int_inv, h2.int_inv]
          refine ⟨1, _, 2, 2 ^ n, rfl, ⟨by decide, by decide, ?_, ?_⟩, q (Itc 1 2 (2 ^ n)) H1 s1 (fun i x H2 hx s2 => ?_) fun H2 s2 => by show _ ≤ _; rw [List.length_range]; exact Nat.le_refl _⟩
          · have : n = 0 ∨ n = 1 ∨ n = 2 ∨ n = 3 ∨ n = 4 ∨ n = 5 ∨ n = 6 ∨ n = 7 ∨ n = 8 ∨ n = 9 ∨ n = 10 ∨ n = 11 ∨ n = 12 ∨ n = 13 ∨ n = 14 ∨ n = 15 := by omega
            rcases this with rfl | rfl | rfl | rfl | rfl | rfl | rfl | rfl | rfl | rfl | rfl | rfl | rfl | rfl | rfl | rfl <;> decide +kernel
          · have : n = 0 ∨ n = 1 ∨ n = 2 ∨ n = 3 ∨ n = 4 ∨ n = 5 ∨ n = 6 ∨ n = 7 ∨ n = 8 ∨ n = 9 ∨ n = 10 ∨ n = 11 ∨ n = 12 ∨ n = 13 ∨ n = 14 ∨ n = 15 := by omega
            rcases this with rfl | rfl | rfl | rfl | rfl | rfl | rfl | rfl | rfl | rfl | rfl | rfl | rfl | rfl | rfl | rfl <;> decide +kernel
          · obtain ⟨hi, rfl⟩ := List.getElem?_eq_some_iff.mp hx
            rw [List.length_range] at hi
            refine ⟨hi, fun v H3 ⟨e3, hv⟩ O' σ' Q o' s' k => ?_⟩
            subst e3
            subst hv
            refine k _ _ (.refl _) ⟨_, rfl, ?_⟩
            rw [List.getElem_range]
            have : (1 : Int) + (i : Nat) * 2 = ((2 * i + 1 : Nat) : Int) := by omega
            rw [this]
            exact .int _
end
theorem and_inv (m k : Nat) : Builtin.bitAnd (m : Int) (Builtin.bitNot (k : Int)) = ((m - (m &&& k) : Nat) : Int) := by
  have h0 : ¬ (0 : Int) ≤ -(k : Int) - 1 := by omega
  have e1 : (-(-(k : Int) - 1) - 1) = ((k : Nat) : Int) := by omega
  have h1 : (0 : Int) ≤ (m : Int) := by omega
  unfold Builtin.bitAnd Builtin.bitNot
  simp only [h0, h1, decide_false, decide_true, e1, Int.toNat_natCast]
  have : m &&& k ≤ m := Nat.and_le_left
  omega
end L2

set_option Elab.async false
set_option linter.all false
set_option maxRecDepth 100000
namespace L2
open PySem PySem.Spec PyProof.Rows PySem.W
section
variable {P : Program} {w : World} {K : PySem.W.Frag} {mg : Str → Option Value} {base : Heap}
/-- a def over values that ends without a value -/
theorem okXN {C : Addr} {x qual : Str} {st : Stmt} {f : Addr} {fd : FuncData} {N ps : List Str} {k : Nat} {R : List Vl → Vl → Prop} (F : Fun K x qual st f fd) (S : FnScope N ps (defScope st)) (hl : ∀ ds d, R ds d → ds.length = ps.length ∧ d = .d .none)
    (body : ∀ (cdv : Value) (A : Around) (outer : List Env) (s : Shared) (H : Hp) (E : XK) (O : Addr → Prop) (vs : List V) (ds : List Vl) (d : Vl),
      Room k (A.deeper (envOfC qual (defScope st) s.heap.objs.size f cdv)) → Hid O H → VrAll C (hid O H) vs ds → R ds d →
      ∃ t, PSs (cxOf CX0 P w K mg base N qual (defScope st) f cdv A outer s H E).nox (defBody st) t ∧
        ∀ D : Ends, (∀ σ H', Le H H' → D.nx σ H') → t D (start N vs) H) :
    FnOk P w K mg base CX0 (k + 1) f fd ps (spX C R) := by
  refine F.ok S (fun vs H Q E h => ?_) (fun cdv A outer s H vs Q E hr h => ?_)
  · obtain ⟨O, ds, d, o, hv, r, _⟩ := h
    rw [hv.len]
    exact (hl ds d r).1
  · obtain ⟨O, ds, d, o, hv, r, q⟩ := h
    obtain ⟨t, ht, k⟩ := body cdv A outer s H E O vs ds d hr o hv r
    have e := (hl ds d r).2
    subst e
    exact ⟨t, ht, k _ fun _ H' s' => q _ H' s' (.d .non)⟩
end
end L2
namespace K9
open PySem PySem.Spec PyProof.Rows L2 PySem.W MB
abbrev rkF (g : List Int) (bs : List (List Int)) : Nat → Nat := rankOf g.length (bs.map (mskOf · g))
abbrev dInts (n : Nat) (f : Nat → Int) : PyData := .list ((List.range (2 ^ n)).map fun m => .int (f m))
theorem ints_at {n m : Nat} {f : Nat → Int} (h : m < 2 ^ n) : ((List.range (2 ^ n)).map fun m => PyData.int (f m))[m]? = some (.int (f m)) := by
  rw [List.getElem?_map, List.getElem?_range h]
  rfl
theorem rksF_at {g : List Int} {bs : List (List Int)} {m : Nat} (h : m < 2 ^ g.length) : ((rksOf g bs).map dNat)[m]? = some (dNat (rkF g bs m)) := by
  simp only [rksOf, List.map_map]
  rw [List.getElem?_map, List.getElem?_range h]
  rfl
theorem cnt_up {n m : Nat} (hm : m < 2 ^ n) : MB.cnt (n + 1) m = MB.cnt n m ∧ MB.cnt (n + 1) (2 ^ n + m) = MB.cnt n m + 1 := by
  have e : ∀ k, k < n → (2 ^ n + m).testBit k = m.testBit k := fun k hk => Nat.testBit_two_pow_add_gt hk m
  have c : ∀ a, MB.cnt (n + 1) a = MB.cnt n a + if a.testBit n then 1 else 0 := fun a => by
    unfold MB.cnt placesIn
    rw [List.range_succ, List.filter_append, List.length_append]
    congr 1
    by_cases h : a.testBit n = true
    · simp [h]
    · simp [h]
  have h1 : m.testBit n = false := Nat.testBit_lt_two_pow hm
  have h2 : (2 ^ n + m).testBit n = true := by rw [Nat.testBit_two_pow_add_eq, h1]; rfl
  refine ⟨by rw [c, h1]; rfl, ?_⟩
  rw [c, h2]
  congr 1
  unfold MB.cnt placesIn
  congr 1
  exact List.filter_congr fun k hk => e k (List.mem_range.mp hk)
theorem sizes_up (n : Nat) : (List.range (2 ^ (n + 1))).map (MB.cnt (n + 1)) = (List.range (2 ^ n)).map (MB.cnt n) ++ ((List.range (2 ^ n)).map (MB.cnt n)).map (· + 1) := by
  have e : 2 ^ (n + 1) = 2 ^ n + 2 ^ n := by rw [Nat.pow_succ]; omega
  rw [e, List.range_add, List.map_append, List.map_map, List.map_map]
  congr 1
  · exact List.map_congr_left fun m hm => (cnt_up (List.mem_range.mp hm)).1
  · exact List.map_congr_left fun m hm => (cnt_up (List.mem_range.mp hm)).2
section
variable {P : Program} {w : World} {K : PySem.W.Frag} {mg : Str → Option Value} {base : Heap}
def R_sizes (ds : List PyData) (d : PyData) : Prop := ∃ n : Nat, ds = [dNat n] ∧ n ≤ 10 ∧ d = dNats ((List.range (2 ^ n)).map (MB.cnt n))
theorem ok_sizes_of_masks (T : Tx K mg) : FnOk P w K mg base CX0 1 T.f_sizes_of_masks T.fd_sizes_of_masks ["many"] (spD K R_sizes) := by
  refine okD T.F_sizes_of_masks sc_sizes_of_masks (fun ds d ⟨g, e, _⟩ => by rw [e]; rfl) fun cdv A outer s H E O vs ds d hr o hv r => ?_
  obtain ⟨n, rfl, n10, rfl⟩ := r
  obtain ⟨v0, rfl, h1⟩ := dp1 hv
  have hp := pow10 n10
  refine ⟨_, (pss_cons (ps_set (i := 1) sc_sizes_of_masks.nd rfl (by first | exact .inl rfl | exact .inr rfl) (pe_lst (pa_cons pe_int pa_nil)))
      (pss_cons (ps_for PassesOwn.never rfl (pi_range1 (by rfl) T.n_range (pa_cons (pv 0) pa_nil)) (pg_name (i := 2) sc_sizes_of_masks.nd rfl (by first | exact .inl rfl | exact .inr rfl))
      (pss_one (ps_set (i := 1) sc_sizes_of_masks.nd rfl (by first | exact .inl rfl | exact .inr rfl) (pe_op (ko_catL K) (pv 1) (pe_lc (own := [("size", 3)]) (g := (gName 3)) (tt := tYes) rfl sc_sizes_of_masks.nd (kp_list K (pv 1)) (blkOk_by (N := ["many", "sizes", "_", "size"]) (sc := defScope s_sizes_of_masks) (by decide +kernel)) (fun _ _ _ _ _ => (pg_name (i := 3) sc_sizes_of_masks.nd rfl (by first | exact .inl rfl | exact .inr rfl))) (fun _ _ _ _ _ => pts_nil) (fun _ _ _ _ _ => (pe_op op_add (pv 3) pe_int)))))))
      (pss_one (ps_ret (pv 1))))), fun D q => ?_⟩
  refine asg_ed (G := hid O H) (d := dNats ((List.range (2 ^ 0)).map (MB.cnt 0))) (ed_lst (by show 1 ≤ 1000; decide) (ea_one ed_int)) o (.refl _) fun v1 H1 s1 hv1 => ?_
  have o1 := o.mono s1
  refine for_iw (xs := List.range n) (G := hid O H1) (O := O) (iw_range1 (by omega) (ea_one (ed_var rfl (h1.mono (hid_same s1))))) o1 (.refl _) fun H2 s2 => ?_
  refine ⟨fun i σ H3 => ∃ (v : V) (x : Option V), σ = [some v0, some v, x, none] ∧ Le H2 H3 ∧ Dq (hid O H3) v (dNats ((List.range (2 ^ i)).map (MB.cnt i))), ⟨v1, none, rfl, .refl _, hv1.mono (hid_same s2)⟩, fun i σ H3 _ h3 => by obtain ⟨_, _, _, h, _⟩ := h3; exact hid_same h, fun i x σ H3 hx h3 => ?_, fun σ H3 h3 => ?_⟩
  · obtain ⟨v, x, rfl, s3, hv3⟩ := h3
    have hi : i < n := by have := (List.getElem?_eq_some_iff.mp hx).1; rwa [List.length_range] at this
    have hpi : 2 ^ i ≤ 1024 := pow10 (by omega)
    refine ⟨O, o1.mono (s2.trans s3), hid_same s3, fun σ4 H4 s4 hB => ?_⟩
    obtain ⟨xv, rfl, _⟩ := hB
    have hv4 := hv3.mono (hid_same s4)
    refine asg_ed (G := hid O H4) (d := dNats ((List.range (2 ^ (i + 1))).map (MB.cnt (i + 1)))) (Ed.of ?_ (ed_catL (es := ((List.range (2 ^ i)).map (MB.cnt i)).map fun c => dNat (c + 1)) (by simp only [List.length_map, List.length_range]; omega) (ed_var rfl hv4) (Ed.of ?_ (ed_lc (fun _ => true) (fun c : Nat => dNat (c + 1)) (xs := (List.range (2 ^ i)).map (MB.cnt i)) (by simp only [List.length_map, List.length_range]; omega) (iw_list (φ := dNat) (ed_var rfl hv4)) (fun x σ4 H4 ⟨v, e, _⟩ => by subst e; rfl) ?_)))) (o1.mono (s2.trans (s3.trans s4))) (.refl _) fun u H5 s5 hu => ?_
    · show PyData.list _ = PyData.list _
      rw [sizes_up, List.map_append]
      congr 2
      rw [List.map_map, List.map_map, List.map_map]
      rfl
    · rw [filt_t]
    · rintro c hc σ2 Ha sa ⟨u, rfl, du⟩
      exact ⟨eb_yes, fun _ => ed_I0 (g := fun i j => i + j) (ed_var rfl du) ed_int⟩
    · exact ⟨u, _, rfl, s3.trans (s4.trans s5), hu⟩
  · obtain ⟨v, x, rfl, s3, hv3⟩ := h3
    rw [List.length_range] at hv3
    exact ⟨v, rfl, q _ H3 (s1.trans (s2.trans s3)) hv3⟩
theorem ed_isiM {σ : L2.St} {G : Hp} {to tc : TE} {C : Addr} {g : List Int} {bs : List (List Int)} (ic : C8.InsC K C) (h : Eo C to σ G g bs) : Ed (tCB (rIsi K) (tCons to (tCons (tC (.ref C)) tNil))) σ G (.bool true) :=
  fun O H1 o s Q q => h O H1 o s _ fun p H2 s2 hm => by
    obtain ⟨dx, v1, v2, v3, v4, v5, hp, r⟩ := hm
    exact ⟨.ref p, .ref C, .ref C, .ref C, true, rfl, .own C, .base (.ins (hid_some hp).1 ic.cl ic.ha ic.hn ic.htk ic.hm), ic.me, q _ H2 s2 (.bl _)⟩
def R_cm (xs : List Vl) (x : Vl) : Prop := ∃ g bs, xs = [.m g bs] ∧ x = .d .none
theorem ok_check_matroid (T : Tx K mg) : FnOk P w K mg base CX0 1 T.f_check_matroid T.fd_check_matroid ["matroid"] (spX T.C R_cm) := by
  refine okXN T.F_check_matroid sc_check_matroid (fun ds d ⟨g, bs, e, z⟩ => ⟨by rw [e]; rfl, z⟩) fun cdv A outer s H E O vs ds d hr o hv r => ?_
  obtain ⟨g, bs, rfl, rfl⟩ := r
  obtain ⟨v0, rfl, m0⟩ := vr1 hv
  obtain ⟨p, rfl, m⟩ := m0.mt
  refine ⟨_, (pss_one (ps_if (pt_not (pt_val (pe_callB (kc_isi K) (by rfl) T.n_isinstance (by rfl) (pa_cons (pv 0) (pa_cons (C8.pe_gc (v := .ref T.C) (by rfl) ⟨_, T.m_Matroid, rfl⟩) pa_nil))))) pss_never pss_nil)), fun D q => ?_⟩
  exact if_eb (b := false) (G := hid O H) (eb_not (eb_B (ed_isiM (tc := tC (.ref T.C)) T.ic (eo_var rfl m)))) o (.refl _) (fun z => nomatch z) fun _ H1 s1 => q _ H1 s1
def R_conn (xs : List Vl) (x : Vl) : Prop := ∃ g bs, xs = [.m g bs] ∧ IsMat g bs ∧ x = .d (dInts g.length (lkI g.length (rkF g bs)))
theorem ok__connectivity (T : Tx K mg) : FnOk P w K mg base CX0 5 T.f__connectivity T.fd__connectivity ["matroid"] (spX T.C R_conn) := by
  refine okX T.F__connectivity sc__connectivity (fun ds d ⟨g, bs, e, _⟩ => by rw [e]; rfl) fun cdv A outer s H E O vs ds d hr o hv r => ?_
  obtain ⟨g, bs, rfl, M, rfl⟩ := r
  obtain ⟨v0, rfl, m0⟩ := vr1 hv
  obtain ⟨p, rfl, m⟩ := m0.mt
  have hp := pow10 M.few
  have hpos := Nat.two_pow_pos g.length
  refine ⟨_, (pss_cons (ps_set (i := 1) sc__connectivity.nd rfl (by first | exact .inl rfl | exact .inr rfl) (pe_prop (pv 0) T.cl T.pr_mask_ranks (ok_mask_ranks T) (hr.mono (by decide)) T.b_Matroid_mask_ranks .nil pass0 rfl))
      (pss_cons (ps_set (i := 2) sc__connectivity.nd rfl (by first | exact .inl rfl | exact .inr rfl) (pe_op op_sub (pe_callB (kc_len K) (by rfl) T.n_len PySem.boot_len (pa_cons (pv 1) pa_nil)) pe_int))
      (pss_one (ps_ret (pe_lc (own := [("mask", 3)]) (g := (gName 3)) (tt := tYes) rfl sc__connectivity.nd (pi_range1 (by rfl) T.n_range (pa_cons (pe_op op_add (pv 2) pe_int) pa_nil)) (blkOk_by (N := ["matroid", "ranks", "full", "mask"]) (sc := defScope s__connectivity) (by decide +kernel)) (fun _ _ _ _ _ => (pg_name (i := 3) sc__connectivity.nd rfl (by first | exact .inl rfl | exact .inr rfl))) (fun _ _ _ _ _ => pts_nil) (fun _ _ _ _ _ => (pe_op op_sub (pe_op op_add (pe_ix (ki_tup K) (pv 1) (pv 3) (fun _ _ => rfl)) (pe_ix (ki_tup K) (pv 1) (pe_op op_xor (pv 2) (pv 3)) (fun _ _ => rfl))) (pe_ix (ki_tup K) (pv 1) (pv 2) (fun _ _ => rfl))))))))), fun D q => ?_⟩
  refine asg_ed (G := hid O H) (d := dNatT (rksOf g bs)) (ed_mranks M (eo_var rfl m)) o (.refl _) fun rv H1 s1 hrv => ?_
  have o1 := o.mono s1
  refine asg_ed (G := hid O H1) (d := dNat (2 ^ g.length - 1)) (Ed.of (congrArg PyData.int ?_) (ed_I0 (g := fun i j => i - j) (ed_len (kd := true) (ed_var rfl hrv)) ed_int)) o1 (.refl _) fun fv H2 s2 hfv => ?_
  · rw [List.length_map, rks_len]
    omega
  have o2 := o1.mono s2
  have hrv2 := hrv.mono (hid_same (O := O) s2)
  refine ret_ed (G := hid O H2) (Ed.of ?_ (ed_lc (fun _ => true) (fun m : Nat => .int (lkI g.length (rkF g bs) m)) (xs := List.range (2 ^ g.length)) (by rw [List.length_range]; omega) (iw_range1 (by omega) (ea_one (Ed.of (congrArg PyData.int ?_) (ed_I0 (g := fun i j => i + j) (ed_var rfl hfv) ed_int)))) (fun x σ4 H4 ⟨v, e, _⟩ => by subst e; rfl) ?_)) o2 (.refl _) fun v H4 s4 hv => q v H4 (s1.trans (s2.trans s4)) (.d hv)
  · rw [filt_t]
  · omega
  · rintro k hk σ2 Ha sa ⟨u, rfl, du⟩
    have hk := List.mem_range.mp hk
    exact ⟨eb_yes, fun _ => ed_I0 (g := fun i j => i - j) (ed_I0 (g := fun i j => i + j) (ed_ixT (n := k) (rksF_at hk) (ed_var rfl (hrv2.mono sa)) (ed_var rfl du)) (ed_ixT (n := cmpl g.length k) (rksF_at (cmpl_lt hk)) (ed_var rfl (hrv2.mono sa)) (ed_xor (ed_var rfl (hfv.mono sa)) (ed_var rfl du)))) (ed_ixT (n := 2 ^ g.length - 1) (rksF_at (g := g) (bs := bs) (by omega)) (ed_var rfl (hrv2.mono sa)) (ed_var rfl (hfv.mono sa)))⟩
end
end K9

set_option Elab.async false
set_option linter.all false
set_option maxRecDepth 100000
namespace K9
open PySem PySem.Spec PyProof.Rows L2 PySem.W MB
theorem parts_len (n : Nat) (r : Nat → Nat) : (partsM n r).length ≤ 2 ^ n := Nat.le_trans (List.length_filter_le _ _) (by rw [List.length_range]; exact Nat.le_refl _)
theorem zB_zero (n : Nat) (r : Nat → Nat) : minB (zB n r) 0 = false := by
  unfold minB zB
  simp
theorem splM_len (n : Nat) (r : Nat → Nat) : (splM n r).length ≤ 2 ^ n := Nat.le_trans (List.length_filter_le _ _) (by rw [List.length_map, List.length_range]; exact Nat.pow_le_pow_right (by decide) (Nat.sub_le _ _))
theorem goodM_len (n : Nat) (r : Nat → Nat) : (goodM n r).length ≤ 2 ^ n := Nat.le_trans (List.length_filter_le _ _) (splM_len n r)
section
variable {P : Program} {w : World} {K : PySem.W.Frag} {mg : Str → Option Value} {base : Heap}
def R_parts (xs : List Vl) (x : Vl) : Prop := ∃ g bs, xs = [.m g bs] ∧ IsMat g bs ∧ x = .d (dSets (bsOf g (partsM g.length (rkF g bs))))
theorem ok_parts_of (T : Tx K mg) : FnOk P w K mg base CX0 6 T.f_parts_of T.fd_parts_of ["matroid"] (spX T.C R_parts) := by
  refine okX T.F_parts_of sc_parts_of (fun ds d ⟨g, bs, e, _⟩ => by rw [e]; rfl) fun cdv A outer s H E O vs ds d hr o hv r => ?_
  obtain ⟨g, bs, rfl, M, rfl⟩ := r
  obtain ⟨v0, rfl, m0⟩ := vr1 hv
  obtain ⟨pm, rfl, m⟩ := m0.mt
  have hp := pow10 M.few
  have hpos := Nat.two_pow_pos g.length
  generalize hn : g.length = n at hp hpos
  have few : n ≤ 10 := hn ▸ M.few
  refine ⟨_, (pss_cons (ps_expr (pe_call (ok_check_matroid T) (hr.mono (by decide)) (by rfl) T.m_check_matroid T.F_check_matroid.kp T.b_check_matroid .nil pass0 (pa_cons (pv 0) pa_nil)))
      (pss_cons (ps_set (i := 1) sc_parts_of.nd rfl (by first | exact .inl rfl | exact .inr rfl) (pe_call (ok__connectivity T) (hr.mono (by decide)) (by rfl) T.m__connectivity T.F__connectivity.kp T.b__connectivity .nil pass0 (pa_cons (pv 0) pa_nil)))
      (pss_cons (ps_set (i := 2) sc_parts_of.nd rfl (by first | exact .inl rfl | exact .inr rfl) (pe_lst pa_nil))
      (pss_cons (ps_for PassesOwn.never rfl (pi_range2 (by rfl) T.n_range (pa_cons pe_int (pa_cons (pe_callB (kc_len K) (by rfl) T.n_len PySem.boot_len (pa_cons (pv 1) pa_nil)) pa_nil))) (pg_name (i := 3) sc_parts_of.nd rfl (by first | exact .inl rfl | exact .inr rfl))
      (pss_one (ps_if (PW.pt (pw_and (pt_cmpR op_eq (pe_ix (ki_list K) (pv 1) (pv 3) (fun _ _ => rfl)) pe_int (nomark _)) (pw_and1 (pt_not (pt_val (pe_callB (kc_any K) (by rfl) T.n_any boot_any (pa_cons (pe_lc (own := [("part", 4)]) (g := (gName 4)) (tt := tYes) rfl sc_parts_of.nd (kp_list K (pv 2)) (blkOk_by (N := ["matroid", "connectivity", "parts", "mask", "part"]) (sc := defScope s_parts_of) (by decide +kernel)) (fun _ _ _ _ _ => (pg_name (i := 4) sc_parts_of.nd rfl (by first | exact .inl rfl | exact .inr rfl))) (fun _ _ _ _ _ => pts_nil) (fun _ _ _ _ _ => (pe_cmpR op_eq (pe_op op_and (pv 3) (pv 4)) (pv 4) (nomark _)))) pa_nil))))))) (pss_one (ps_expr (pe_bm PySem.F.plainAttrs_list PySem.F.slot_list_append PySem.F.type_list_append mt_append (pv 2) (pa_cons (pv 3) pa_nil)))) pss_nil)))
      (pss_one (ps_ret (pe_call (ok_sets_of T) (hr.mono (by decide)) (by rfl) T.m_sets_of T.F_sets_of.kp T.b_sets_of .nil pass0 (pa_cons (pv 2) (pa_cons (kf_fld K (pv 0)) pa_nil))))))))), fun D q => ?_⟩
  refine drop_ed (G := hid O H) (ev_call (C := T.C) ⟨g, bs, rfl, rfl⟩ (ex_cons (eo_var rfl m).ev ex_nil)).ed o (.refl _) fun H0 s0 => ?_
  have m1 := m.mono (hid_same (O := O) s0)
  refine asg_ed (G := hid O H0) (d := dInts n (lkI n (rkF g bs))) (ev_call (C := T.C) ⟨g, bs, rfl, M, by rw [hn]⟩ (ex_cons (eo_var rfl m1).ev ex_nil)).ed (o.mono s0) (.refl _) fun cv H1 s1 hcv => ?_
  have o1 := (o.mono s0).mono s1
  refine ⟨by show 0 ≤ sizeLine; decide, fun p np => ?_⟩
  have s2 := same_new (o := .lst []) np
  have nO : ¬ O p := o1.new np
  have hp2 : upd H1 p (.lst []) p = some (.lst []) := upd_same
  have hc2 := hcv.mono (hid_same (O := O) s2)
  have g2 : Le (hid O H1) (hid (plus O p) (upd H1 p (.lst []))) := hid_add (hid_same s2) (by rw [hid_out nO]; exact np)
  have o2 : Hid O (upd H1 p (.lst [])) := o1.mono s2
  generalize upd H1 p (.lst []) = H2 at s2 hp2 hc2 o2 g2
  have hb2 : Le (hid (plus O p) H2) (hid O H2) := hid_plus _ _ _
  have hcl : ((List.range (2 ^ n)).map fun m => PyData.int (lkI n (rkF g bs) m)).length = 2 ^ n := by rw [List.length_map, List.length_range]
  refine for_iw (xs := List.range (2 ^ n - 1)) (G := hid (plus O p) H2) (O := plus O p) (iw_range2 (a := 1) (n := 2 ^ n - 1) (by omega) (ea_cons ed_int (ea_one (Ed.of (congrArg PyData.int ?_) (ed_len (kd := false) (ed_var rfl (hcv.mono g2))))))) (o2.plus hp2) (.refl _) fun H3 s3 => ?_
  · rw [hcl]
    omega
  refine ⟨fun i σ H4 => ∃ x4, σ = [some (.ref pm), some cv, some (.ref p), x4, none] ∧ Le H0 H4 ∧ Le (hid (plus O p) H3) (hid (plus O p) H4) ∧ Le (hid O H1) (hid O H4) ∧ H4 p = some (.lst (vNats ((List.range (1 + i)).filter (minB (zB n (rkF g bs)))))), ⟨none, rfl, s1.trans (s2.trans s3), .refl _, hid_same (s2.trans s3), ?_⟩, fun i σ H4 _ h4 => by obtain ⟨_, _, _, h, _⟩ := h4; exact h, fun i x σ H4 hx h4 => ?_, fun σ H4 h4 => ?_⟩
  · rw [s3.lst hp2]
    show _ = some (HO.lst (vNats ([0].filter _)))
    rw [List.filter_cons, zB_zero]
    rfl
  · obtain ⟨x0, rfl, s4, g4, h4, hp4⟩ := h4
    have hi : i < 2 ^ n - 1 := by have := (List.getElem?_eq_some_iff.mp hx).1; rwa [List.length_range] at this
    have ex : x = i := by rw [List.getElem?_range hi] at hx; exact (Option.some.inj hx).symm
    subst ex
    have oP : Hid (plus O p) H4 := fun b hb => by
      rcases hb with hb | hb
      · exact ((o.mono s0).mono s4) b hb
      · subst hb; exact ⟨_, hp4⟩
    refine ⟨plus O p, oP, g4, fun σ5 H5 s5 hB => ?_⟩
    obtain ⟨xv, rfl, hxv⟩ := hB
    have exv := hxv.int_inv
    subst exv
    have hp5 := s5.lst hp4
    have o5 : Hid O H5 := ((o.mono s0).mono s4).mono s5
    have hc5 := hcv.mono (h4.trans (hid_same (O := O) s5))
    have vis : Dq (hid O H5) (.ref p) (dNats ((List.range (1 + x)).filter (minB (zB n (rkF g bs))))) := .lst (.inl (.inl (by rw [hid_out nO]; exact hp5))) (dq_nats _)
    have fl : ((List.range (1 + x)).filter (minB (zB n (rkF g bs)))).length ≤ 1024 := Nat.le_trans (List.length_filter_le _ _) (by rw [List.length_range]; omega)
    have snoc : (List.range (1 + (x + 1))).filter (minB (zB n (rkF g bs))) = (List.range (1 + x)).filter (minB (zB n (rkF g bs))) ++ if minB (zB n (rkF g bs)) (1 + x) then [1 + x] else [] := by
      rw [← Nat.add_assoc, List.range_succ, List.filter_append]
      congr 1
      by_cases e : minB (zB n (rkF g bs)) (1 + x) = true
      · simp [e]
      · simp [e]
    have key : minB (zB n (rkF g bs)) (1 + x) = (decide (lkI n (rkF g bs) (1 + x) = 0) && !(((List.range (1 + x)).filter (minB (zB n (rkF g bs)))).map fun k => decide ((1 + x) &&& k = k)).any id) := by
      have e0 : decide (0 < 1 + x) = true := decide_eq_true (by omega)
      cases hz : zB n (rkF g bs) (1 + x) with
      | true =>
        rw [min_new hz, List.any_map]
        unfold zB at hz
        rw [e0, Bool.true_and] at hz
        rw [hz, Bool.true_and]
        rfl
      | false =>
        have : decide (lkI n (rkF g bs) (1 + x) = 0) = false := by
          unfold zB at hz
          rwa [e0, Bool.true_and] at hz
        rw [this, Bool.false_and]
        unfold minB
        rw [hz]
        rfl
    refine if_eb (b := minB (zB n (rkF g bs)) (1 + x)) (G := hid O H5) (O := O) (Eb.of key.symm (eb_and (eb_test (ed_eqI (ed_ixL (n := 1 + x) (d := .int (lkI n (rkF g bs) (1 + x))) (ints_at (by omega)) (ed_var rfl hc5) (ed_var rfl (.int _))) ed_int)) fun _ => eb_not (eb_B (ed_any (Ed.of ?_ (ed_lc (fun _ => true) (fun k : Nat => .bool (decide ((1 + x) &&& k = k))) (xs := (List.range (1 + x)).filter (minB (zB n (rkF g bs)))) (by omega) (iw_list (φ := dNat) (ed_var rfl vis)) (fun x σ4 H4 ⟨v, e, _⟩ => by subst e; rfl) ?_)))))) o5 (.refl _) (fun e H6 s6 => ?_) fun e H6 s6 => ?_
    · rw [filt_t, List.map_map]
      rfl
    · rintro k hk σ2 Ha sa ⟨u, rfl, du⟩
      exact ⟨eb_yes, fun _ => Ed.of (congrArg PyData.bool (decide_eq_decide.mpr Int.ofNat_inj)) (ed_eqI (ed_andN (m := 1 + x) (k := k) (ed_var rfl (.int _)) (ed_var rfl du)) (ed_var rfl du))⟩
    · have hp6 := s6.lst hp5
      refine ⟨.ref p, rfl, .inl ⟨rfl, _, .inl (.inl hp6)⟩, .int ((1 + x : Nat) : Int), rfl, p, _, _, rfl, rfl, hp6, by rw [List.length_map]; exact Nat.lt_of_le_of_lt fl (by decide), ?_⟩
      refine ⟨_, rfl, (s4.trans (s5.trans s6)).updN ((s1.free np)) (nt_lst hp6), ?_, ?_, ?_⟩
      · rw [hid_upd _ (nt_lst hp6) (by first | rfl | exact .inr rfl)]
        exact g4.trans (hid_same (s5.trans s6))
      · rw [hid_upd_out nO]
        exact Le.updN (h4.trans (hid_same (s5.trans s6))) (by rw [hid_out nO]; exact np) (by rw [hid_out nO]; exact nt_lst hp6)
      · rw [upd_same, snoc, e, if_pos rfl]
        exact congrArg (fun z => some (HO.lst z)) (vNats_snoc _ _).symm
    · refine ⟨_, rfl, s4.trans (s5.trans s6), g4.trans (hid_same (s5.trans s6)), h4.trans (hid_same (s5.trans s6)), ?_⟩
      rw [s6.lst hp5, snoc, e, if_neg Bool.false_ne_true, List.append_nil]
  · obtain ⟨x0, rfl, s4, g4, h4, hp4⟩ := h4
    rw [List.length_range, show 1 + (2 ^ n - 1) = 2 ^ n by omega] at hp4
    have vis : Dq (hid O H4) (.ref p) (dNats (partsM n (rkF g bs))) := .lst (.inl (.inl (by rw [hid_out nO]; exact hp4))) (dq_nats _)
    refine ret_ed (G := hid O H4) (ed_call (R := R_sets_of) ⟨partsM n (rkF g bs), g, rfl, M.few, Nat.le_trans (parts_len _ _) (by omega), rfl⟩ (ea_cons (ed_var rfl vis) (ea_one (ed_ground T.cl T.na_ground (eo_var rfl (m1.mono (hid_same (O := O) s4))))))) ((o.mono s0).mono s4) (.refl _) fun v H5 s5 hv => q v H5 (s0.trans (s4.trans s5)) (.d hv)
def R_one (xs : List Vl) (x : Vl) : Prop := ∃ g bs, xs = [.m g bs] ∧ IsMat g bs ∧ (partsM g.length (rkF g bs)).length = 1 ∧ x = .d .none
theorem ok__check_one_part (T : Tx K mg) : FnOk P w K mg base CX0 7 T.f__check_one_part T.fd__check_one_part ["matroid"] (spX T.C R_one) := by
  refine okXN T.F__check_one_part sc__check_one_part (fun ds d ⟨g, bs, e, _, _, z⟩ => ⟨by rw [e]; rfl, z⟩) fun cdv A outer s H E O vs ds d hr o hv r => ?_
  obtain ⟨g, bs, rfl, M, one, rfl⟩ := r
  obtain ⟨v0, rfl, m0⟩ := vr1 hv
  obtain ⟨p, rfl, m⟩ := m0.mt
  refine ⟨_, (pss_one (ps_if (pt_cmpR op_ne (pe_callB (kc_len K) (by rfl) T.n_len PySem.boot_len (pa_cons (pe_call (ok_parts_of T) (hr.mono (by decide)) (by rfl) T.m_parts_of T.F_parts_of.kp T.b_parts_of .nil pass0 (pa_cons (pv 0) pa_nil)) pa_nil)) pe_int (nomark _)) pss_never pss_nil)), fun D q => ?_⟩
  refine if_eb (b := false) (G := hid O H) (Eb.of ?_ (eb_test (ed_neI (ed_len (kd := true) (ev_call (C := T.C) (R := R_parts) ⟨g, bs, rfl, M, rfl⟩ (ex_cons (eo_var rfl m).ev ex_nil)).ed) ed_int))) o (.refl _) (fun z => nomatch z) fun _ H1 s1 => q _ H1 s1
  rw [List.length_map, (bs_perm _ _).length_eq, List.length_map, one]
  rfl
def R_splM (xs : List Vl) (x : Vl) : Prop := ∃ g bs, xs = [.m g bs] ∧ IsMat g bs ∧ 0 < g.length ∧ x = .d (dNats (splM g.length (rkF g bs)))
theorem ok__split_masks (T : Tx K mg) : FnOk P w K mg base CX0 6 T.f__split_masks T.fd__split_masks ["matroid"] (spX T.C R_splM) := by
  refine okX T.F__split_masks sc__split_masks (fun ds d ⟨g, bs, e, _⟩ => by rw [e]; rfl) fun cdv A outer s H E O vs ds d hr o hv r => ?_
  obtain ⟨g, bs, rfl, M, h0, rfl⟩ := r
  obtain ⟨v0, rfl, m0⟩ := vr1 hv
  obtain ⟨pm, rfl, m⟩ := m0.mt
  have hp := pow10 M.few
  have few := M.few
  refine ⟨_, (pss_cons (ps_set (i := 1) sc__split_masks.nd rfl (by first | exact .inl rfl | exact .inr rfl) (pe_callB (kc_len K) (by rfl) T.n_len PySem.boot_len (pa_cons (kf_fld K (pv 0)) pa_nil)))
      (pss_cons (ps_set (i := 2) sc__split_masks.nd rfl (by first | exact .inl rfl | exact .inr rfl) (pe_call (ok__connectivity T) (hr.mono (by decide)) (by rfl) T.m__connectivity T.F__connectivity.kp T.b__connectivity .nil pass0 (pa_cons (pv 0) pa_nil)))
      (pss_cons (ps_set (i := 3) sc__split_masks.nd rfl (by first | exact .inl rfl | exact .inr rfl) (pe_call (ok_sizes_of_masks T) (hr.mono (by decide)) (by rfl) T.m_sizes_of_masks T.F_sizes_of_masks.kp T.b_sizes_of_masks .nil pass0 (pa_cons (pv 1) pa_nil)))
      (pss_one (ps_ret (pe_lc (own := [("mask", 4)]) (g := (gName 4)) rfl sc__split_masks.nd (pi_range3 (by rfl) T.n_range (pa_cons pe_int (pa_cons (pe_op op_shl pe_int (pv 1)) (pa_cons pe_int pa_nil)))) (blkOk_by (N := ["matroid", "many", "connectivity", "sizes", "mask"]) (sc := defScope s__split_masks) (by decide +kernel)) (fun _ _ _ _ _ => (pg_name (i := 4) sc__split_masks.nd rfl (by first | exact .inl rfl | exact .inr rfl))) (fun _ _ _ _ _ => (pts_one (PW.pt (pw_and (pt_chain op_le op_le pe_int (pe_ix (ki_list K) (pv 3) (pv 4) (fun _ _ => rfl)) (pe_op op_sub (pv 1) pe_int)) (pw_and1 (pt_cmpR op_eq (pe_ix (ki_list K) (pv 2) (pv 4) (fun _ _ => rfl)) pe_int (nomark _))))))) (fun _ _ _ _ _ => (pv 4)))))))), fun D q => ?_⟩
  refine asg_ed (G := hid O H) (d := dNat g.length) (Ed.of (by rw [List.length_map]) (ed_len (kd := true) (ed_ground T.cl T.na_ground (eo_var rfl m)))) o (.refl _) fun nv H1 s1 hnv => ?_
  have o1 := o.mono s1
  refine asg_ed (G := hid O H1) (d := dInts g.length (lkI g.length (rkF g bs))) (ev_call (C := T.C) ⟨g, bs, rfl, M, rfl⟩ (ex_cons (eo_var rfl (m.mono (hid_same (O := O) s1))).ev ex_nil)).ed o1 (.refl _) fun cv H2 s2 hcv => ?_
  have o2 := o1.mono s2
  have hn2 := hnv.mono (hid_same (O := O) s2)
  refine asg_ed (G := hid O H2) (d := dNats ((List.range (2 ^ g.length)).map (MB.cnt g.length))) (ed_call ⟨g.length, rfl, few, rfl⟩ (ea_one (ed_var rfl hn2))) o2 (.refl _) fun zv H3 s3 hzv => ?_
  have o3 := o2.mono s3
  have hn3 := hn2.mono (hid_same (O := O) s3)
  have hc3 := hcv.mono (hid_same (O := O) s3)
  have hb : 2 ^ g.length = 2 ^ (g.length - 1 + 1) := by rw [Nat.sub_add_cancel h0]
  have hlt : ∀ k, k ∈ List.range (2 ^ (g.length - 1)) → 2 * k + 1 < 2 ^ g.length := fun k hk => (odds_lt h0 (List.mem_map_of_mem hk)).1
  refine ret_ed (G := hid O H3) (Ed.of ?_ (ed_lc (fun k => splB g.length (rkF g bs) (2 * k + 1)) (fun k : Nat => dNat (2 * k + 1)) (xs := List.range (2 ^ (g.length - 1))) (by rw [List.length_range]; omega) (iw_rangeO (n := g.length - 1) (by omega) (ea_cons ed_int (ea_cons (Ed.of (by rw [hb]) (ed_bit (by omega) (ed_var rfl hn3))) (ea_one ed_int)))) (fun x σ4 H4 ⟨v, e, _⟩ => by subst e; rfl) ?_)) o3 (.refl _) fun v H4 s4 hv => q v H4 (s1.trans (s2.trans (s3.trans s4))) (.d hv)
  · show PyData.list _ = PyData.list _
    rw [show splM g.length (rkF g bs) = ((List.range (2 ^ (g.length - 1))).filter fun k => splB g.length (rkF g bs) (2 * k + 1)).map fun k => 2 * k + 1 from List.filter_map, List.map_map]
    rfl
  · rintro k hk σ2 Ha sa ⟨u, rfl, du⟩
    have hk := hlt k hk
    refine ⟨Eb.of ?_ (eb_and (eb_test (ed_chainI (g := fun i j => decide (i ≤ j)) (h := fun i j => decide (i ≤ j)) ed_int (ed_ixL (n := 2 * k + 1) (d := dNat (MB.cnt g.length (2 * k + 1))) (by rw [List.getElem?_map, List.getElem?_map, List.getElem?_range hk]; rfl) (ed_var rfl (hzv.mono sa)) (ed_var rfl du)) (ed_I0 (g := fun i j => i - j) (ed_var rfl (hn3.mono sa)) ed_int))) fun _ => eb_test (ed_eqI (ed_ixL (n := 2 * k + 1) (d := .int (lkI g.length (rkF g bs) (2 * k + 1))) (ints_at hk) (ed_var rfl (hc3.mono sa)) (ed_var rfl du)) ed_int)), fun _ => ed_var rfl du⟩
    unfold splB
    congr 2
    · exact decide_eq_decide.mpr (by omega)
    · exact decide_eq_decide.mpr (by omega)
def R_cross (ds : List PyData) (d : PyData) : Prop := ∃ (n a : Nat) (S : List Nat), ds = [dNat a, dNats S, dNat (2 ^ n - 1)] ∧ d = .bool (S.any (crsB n a))
theorem ok__crosses_one (T : Tx K mg) : FnOk P w K mg base CX0 1 T.f__crosses_one T.fd__crosses_one ["split", "splits", "full"] (spD K R_cross) := by
  refine okD T.F__crosses_one sc__crosses_one (fun ds d ⟨_, _, _, e, _⟩ => by rw [e]; rfl) fun cdv A outer s H E O vs ds d hr o hv r => ?_
  obtain ⟨n, a, S, rfl, rfl⟩ := r
  obtain ⟨v1, v2, v3, rfl, h1, h2, h3⟩ := dp3 hv
  refine ⟨_, (pss_cons (ps_for PassesOwn.never rfl (kp_list K (pv 1)) (pg_name (i := 3) sc__crosses_one.nd rfl (by first | exact .inl rfl | exact .inr rfl))
      (pss_one (ps_if (PW.pt (pw_and (pt_tru K (pe_op op_and (pv 0) (pe_un un_inv (pv 3)))) (pw_and (pt_tru K (pe_op op_and (pv 3) (pe_un un_inv (pv 0)))) (pw_and1 (pt_cmpR op_ne (pe_op op_or (pv 0) (pv 3)) (pv 2) (nomark _)))))) (pss_one (ps_ret pe_bl)) pss_nil)))
      (pss_one (ps_ret pe_bl))), fun D q => ?_⟩
  refine for_iw (xs := S) (G := hid O H) (O := O) (iw_list (φ := dNat) (ed_var rfl h2)) o (.refl _) fun H2 s2 => ?_
  refine ⟨fun i σ H3 => ∃ x, σ = [some v1, some v2, some v3, x] ∧ Le H2 H3 ∧ (S.take i).any (crsB n a) = false, ⟨none, rfl, .refl _, rfl⟩, fun i σ H3 _ h3 => by obtain ⟨_, _, h, _⟩ := h3; exact hid_same h, fun i x σ H3 hx h3 => ?_, fun σ H3 h3 => ?_⟩
  · obtain ⟨x0, rfl, s3, hf⟩ := h3
    refine ⟨O, o.mono (s2.trans s3), hid_same s3, fun σ4 H4 s4 hB => ?_⟩
    obtain ⟨xv, rfl, hxv⟩ := hB
    have s24 := s2.trans (s3.trans s4)
    have g4 := hid_same (O := O) s24
    have sub0 : ∀ a b : Nat, (((a - (a &&& b) : Nat) : Int) != 0) = decide (a &&& b ≠ a) := fun a b => by
      have : a &&& b ≤ a := Nat.and_le_left
      rw [Bool.eq_iff_iff, bne_iff_ne, decide_eq_true_eq]
      omega
    refine if_eb (b := crsB n a x) (G := hid O H4) (O := O) (Eb.of ?_ (eb_and (eb_tru (Ed.of (congrArg PyData.int (and_inv a x)) (ed_I0 (g := fun i j => Builtin.bitAnd i j) (ed_var rfl (h1.mono g4)) (ed_un (g := fun i => Builtin.bitNot i) (ed_var rfl hxv))))) fun _ => eb_and (eb_tru (Ed.of (congrArg PyData.int (and_inv x a)) (ed_I0 (g := fun i j => Builtin.bitAnd i j) (ed_var rfl hxv) (ed_un (g := fun i => Builtin.bitNot i) (ed_var rfl (h1.mono g4)))))) fun _ => eb_test (ed_neI (ed_orN (ed_var rfl (h1.mono g4)) (ed_var rfl hxv)) (ed_var rfl (h3.mono g4))))) (o.mono s24) (.refl _) (fun e H5 s5 => ?_) fun e H5 s5 => ?_
    · unfold crsB
      rw [sub0, sub0, Nat.and_comm x a, Bool.and_assoc]
      congr 2
      rw [Bool.eq_iff_iff, Bool.not_eq_true', decide_eq_false_iff_not, decide_eq_true_eq]
      exact not_congr Int.ofNat_inj
    · refine ret_ed (G := hid O H5) (Ed.of (congrArg PyData.bool ?_) ed_bl) (o.mono (s24.trans s5)) (.refl _) fun v H6 s6 hv => q v H6 (s24.trans (s5.trans s6)) hv
      exact (List.any_eq_true.mpr ⟨x, List.mem_of_getElem? hx, e⟩).symm
    · refine ⟨some xv, rfl, s3.trans (s4.trans s5), ?_⟩
      rw [List.take_add_one, hx, List.any_append, hf]
      simp [e]
  · obtain ⟨x0, rfl, s3, hf⟩ := h3
    rw [List.take_length] at hf
    exact ret_ed (σ := [some v1, some v2, some v3, x0]) (G := hid O H3) (Ed.of (congrArg PyData.bool hf.symm) ed_bl) (o.mono (s2.trans s3)) (.refl _) fun v H6 s6 hv => q v H6 (s2.trans (s3.trans s6)) hv
def R_splits (xs : List Vl) (x : Vl) : Prop := ∃ g bs, xs = [.m g bs] ∧ IsMat g bs ∧ 0 < g.length ∧ (partsM g.length (rkF g bs)).length = 1 ∧ x = .d (dSets (bsOf g (splM g.length (rkF g bs))))
theorem ok_splits_of (T : Tx K mg) : FnOk P w K mg base CX0 8 T.f_splits_of T.fd_splits_of ["matroid"] (spX T.C R_splits) := by
  refine okX T.F_splits_of sc_splits_of (fun ds d ⟨g, bs, e, _⟩ => by rw [e]; rfl) fun cdv A outer s H E O vs ds d hr o hv r => ?_
  obtain ⟨g, bs, rfl, M, h0, one, rfl⟩ := r
  obtain ⟨v0, rfl, m0⟩ := vr1 hv
  obtain ⟨pm, rfl, m⟩ := m0.mt
  have hp := pow10 M.few
  refine ⟨_, (pss_cons (ps_expr (pe_call (ok__check_one_part T) (hr.mono (by decide)) (by rfl) T.m__check_one_part T.F__check_one_part.kp T.b__check_one_part .nil pass0 (pa_cons (pv 0) pa_nil)))
      (pss_one (ps_ret (pe_call (ok_sets_of T) (hr.mono (by decide)) (by rfl) T.m_sets_of T.F_sets_of.kp T.b_sets_of .nil pass0 (pa_cons (pe_call (ok__split_masks T) (hr.mono (by decide)) (by rfl) T.m__split_masks T.F__split_masks.kp T.b__split_masks .nil pass0 (pa_cons (pv 0) pa_nil)) (pa_cons (kf_fld K (pv 0)) pa_nil)))))), fun D q => ?_⟩
  refine drop_ed (G := hid O H) (ev_call (C := T.C) ⟨g, bs, rfl, M, one, rfl⟩ (ex_cons (eo_var rfl m).ev ex_nil)).ed o (.refl _) fun H1 s1 => ?_
  have m1 := m.mono (hid_same (O := O) s1)
  exact ret_ed (G := hid O H1) (ed_call (R := R_sets_of) ⟨splM g.length (rkF g bs), g, rfl, M.few, Nat.le_trans (splM_len _ _) (by omega), rfl⟩ (ea_cons (ev_call (C := T.C) (R := R_splM) ⟨g, bs, rfl, M, h0, rfl⟩ (ex_cons (eo_var rfl m1).ev ex_nil)).ed (ea_one (ed_ground T.cl T.na_ground (eo_var rfl m1))))) (o.mono s1) (.refl _) fun v H5 s5 hv => q v H5 (s1.trans s5) (.d hv)
def R_good (xs : List Vl) (x : Vl) : Prop := ∃ g bs, xs = [.m g bs] ∧ IsMat g bs ∧ 0 < g.length ∧ (partsM g.length (rkF g bs)).length = 1 ∧ x = .d (dSets (bsOf g (goodM g.length (rkF g bs))))
theorem ok_good_splits_of (T : Tx K mg) : FnOk P w K mg base CX0 8 T.f_good_splits_of T.fd_good_splits_of ["matroid"] (spX T.C R_good) := by
  refine okX T.F_good_splits_of sc_good_splits_of (fun ds d ⟨g, bs, e, _⟩ => by rw [e]; rfl) fun cdv A outer s H E O vs ds d hr o hv r => ?_
  obtain ⟨g, bs, rfl, M, h0, one, rfl⟩ := r
  obtain ⟨v0, rfl, m0⟩ := vr1 hv
  obtain ⟨pm, rfl, m⟩ := m0.mt
  have hp := pow10 M.few
  have hpos := Nat.two_pow_pos g.length
  refine ⟨_, (pss_cons (ps_expr (pe_call (ok__check_one_part T) (hr.mono (by decide)) (by rfl) T.m__check_one_part T.F__check_one_part.kp T.b__check_one_part .nil pass0 (pa_cons (pv 0) pa_nil)))
      (pss_cons (ps_set (i := 1) sc_good_splits_of.nd rfl (by first | exact .inl rfl | exact .inr rfl) (pe_call (ok__split_masks T) (hr.mono (by decide)) (by rfl) T.m__split_masks T.F__split_masks.kp T.b__split_masks .nil pass0 (pa_cons (pv 0) pa_nil)))
      (pss_cons (ps_set (i := 2) sc_good_splits_of.nd rfl (by first | exact .inl rfl | exact .inr rfl) (pe_op op_sub (pe_callB (kc_len K) (by rfl) T.n_len PySem.boot_len (pa_cons (pe_prop (pv 0) T.cl T.pr_mask_ranks (ok_mask_ranks T) (hr.mono (by decide)) T.b_Matroid_mask_ranks .nil pass0 rfl) pa_nil)) pe_int))
      (pss_one (ps_ret (pe_call (ok_sets_of T) (hr.mono (by decide)) (by rfl) T.m_sets_of T.F_sets_of.kp T.b_sets_of .nil pass0 (pa_cons (pe_lc (own := [("split", 3)]) (g := (gName 3)) rfl sc_good_splits_of.nd (kp_list K (pv 1)) (blkOk_by (N := ["matroid", "splits", "full", "split"]) (sc := defScope s_good_splits_of) (by decide +kernel)) (fun _ _ _ _ _ => (pg_name (i := 3) sc_good_splits_of.nd rfl (by first | exact .inl rfl | exact .inr rfl))) (fun _ _ _ _ _ => (pts_one (pt_not (pt_val (pe_call (ok__crosses_one T) (hr.mono (by decide)) (by rfl) T.m__crosses_one T.F__crosses_one.kp T.b__crosses_one .nil pass0 (pa_cons (pv 3) (pa_cons (pv 1) (pa_cons (pv 2) pa_nil)))))))) (fun _ _ _ _ _ => (pv 3))) (pa_cons (kf_fld K (pv 0)) pa_nil)))))))), fun D q => ?_⟩
  refine drop_ed (G := hid O H) (ev_call (C := T.C) ⟨g, bs, rfl, M, one, rfl⟩ (ex_cons (eo_var rfl m).ev ex_nil)).ed o (.refl _) fun H1 s1 => ?_
  have m1 := m.mono (hid_same (O := O) s1)
  refine asg_ed (G := hid O H1) (d := dNats (splM g.length (rkF g bs))) (ev_call (C := T.C) (R := R_splM) ⟨g, bs, rfl, M, h0, rfl⟩ (ex_cons (eo_var rfl m1).ev ex_nil)).ed (o.mono s1) (.refl _) fun sv H2 s2 hsv => ?_
  have m2 := m1.mono (hid_same (O := O) s2)
  refine asg_ed (G := hid O H2) (d := dNat (2 ^ g.length - 1)) (Ed.of (congrArg PyData.int ?_) (ed_I0 (g := fun i j => i - j) (ed_len (kd := true) (ed_mranks M (eo_var rfl m2))) ed_int)) ((o.mono s1).mono s2) (.refl _) fun fv H3 s3 hfv => ?_
  · rw [List.length_map, rks_len]
    omega
  have s13 := s1.trans (s2.trans s3)
  have m3 := m2.mono (hid_same (O := O) s3)
  have hs3 := hsv.mono (hid_same (O := O) s3)
  refine ret_ed (G := hid O H3) (ed_call (R := R_sets_of) ⟨goodM g.length (rkF g bs), g, rfl, M.few, Nat.le_trans (goodM_len _ _) (by omega), rfl⟩ (ea_cons (ed_lc (fun k => !(splM g.length (rkF g bs)).any (crsB g.length k)) dNat (xs := splM g.length (rkF g bs)) (Nat.le_trans (splM_len _ _) (by omega)) (iw_list (φ := dNat) (ed_var rfl hs3)) (fun x σ4 H4 ⟨v, e, _⟩ => by subst e; rfl) ?_) (ea_one (ed_ground T.cl T.na_ground (eo_var rfl m3))))) (o.mono s13) (.refl _) fun v H5 s5 hv => q v H5 (s13.trans s5) (.d hv)
  rintro k hk σ2 Ha sa ⟨u, rfl, du⟩
  exact ⟨eb_not (eb_B (ed_call (R := R_cross) ⟨g.length, k, splM g.length (rkF g bs), rfl, rfl⟩ (ea_cons (ed_var rfl du) (ea_cons (ed_var rfl (hs3.mono sa)) (ea_one (ed_var rfl (hfv.mono sa))))))), fun _ => ed_var rfl du⟩
end
end K9

set_option Elab.async false
set_option linter.all false
set_option maxRecDepth 100000
set_option maxHeartbeats 2000000
/-! dict(d), d a dict whose keys are tuples: no two of them hash alike -/
namespace PySem
variable {prog : Program} {w : World} {K : Type} [DecidableEq K] {knd : HeapKind prog w K} {A : Around} {E : Value → Shared → Prop} {s : Shared}
theorem call_dict_copyT {d : Addr} {xs : List (K × Addr × Value)} {Q : Value → Shared → Prop} (hdS : (d == sysModules) = false) (hm : s.heap.DictOfH knd d xs) (hu : knd.room A.in1.in1) (hsz : xs.length ≤ sizeLine) (hty : ∀ x ∈ xs, s.TypeIs (.ref x.2.1) "tuple") (hap : (xs.map fun x => knd.hash x.1).Nodup)
    (hst : ∀ h', (∀ b o, s.heap.get? b = some o → h'.get? b = some o) → ∀ x ∈ xs, knd.is h' x.1 x.2.1)
    (h : ∀ h', h'.DictOfH knd s.heap.objs.size (storedAllH [] xs) → (∀ b o, s.heap.get? b = some o → h'.get? b = some o) → Q (.ref s.heap.objs.size) { s with heap := h' }) : wpAny (model prog w) A (call (.type "dict") [.ref d]) Q E s := by
  refine callType_codes (Q₁ := fun obj s₁ => obj = .ref s.heap.objs.size ∧ s₁ = { s with heap := s.heap.push { cls := .type "dict", data := .dict #[] } }) F.kt_called_dict (F.kt_typeCall_dict_1 _) F.entry_dict_init (kt_code_dict_new _ ⟨rfl, rfl⟩) ?_
  rintro obj s₁ ⟨rfl, rfl⟩
  have hnew : (s.heap.push { cls := .type "dict", data := .dict #[] }).DictOfH knd s.heap.objs.size [] := Heap.DictOfH.new s.heap
  have kp : ∀ b o, s.heap.get? b = some o → (s.heap.push { cls := .type "dict", data := .dict #[] }).get? b = some o := fun b o e => Heap.get?_push_of_some _ e
  have ho' : (s.heap.push { cls := .type "dict", data := .dict #[] }).DictOfH knd d xs := by
    obtain ⟨o, es, ep, ho, hx, hdt, he, his, hn⟩ := id hm
    exact ⟨o, es, ep, kp _ _ ho, hx, hdt, he, hst _ kp, hn⟩
  have hdo : s.heap.objs.size ≠ d := by
    obtain ⟨o, _, _, hg, _⟩ := hm
    exact fun e => absurd (Heap.lt_size hg) (by rw [e]; exact Nat.lt_irrefl _)
  refine ⟨hnew.typeIs, F.args_dict_init_2 _ _, ?_⟩
  unfold Builtin.«dict.__init__»
  refine wpAny_bind ?_
  unfold Builtin.Dict.selfAndRest
  refine wpAny_bind (wpAny_notOrdered_dict hnew.typeIs ?_)
  show wpAny _ _ (pure (s.heap.objs.size, [Value.ref d])) _ _ _
  refine wpAny_pure ?_
  show wpAny _ _ (Builtin.Dict.updateFrom "dict.__init__" s.heap.objs.size (.ref d) [] .none) _ _ _
  refine updateFrom_dictH (A := A.in1) (s := { s with heap := s.heap.push { cls := .type "dict", data := .dict #[] } }) (kvs := []) .none hu hdo hdS hnew ho' (.inr ⟨fun x hx => ?_, hap⟩) (by simpa using hsz) fun h' hd' _ hs => ?_
  · obtain ⟨o, ho, hc⟩ := hty x hx
    exact ⟨o, kp _ _ ho, hc⟩
  · exact ⟨rfl, h h' hd' fun b o e => (hs.2 b (Nat.ne_of_lt (Heap.lt_size e))).trans (kp b o e)⟩
end PySem
namespace L2
open PySem PySem.Spec PyProof.Rows PySem.W
/-- the keys' hashes: no two alike -/
def Apart (w : World) (kvs : List (List Key × V)) : Prop := (kvs.map fun x => PySem.reduceHash (Builtin.Tuple.tupleHashOf (x.1.map (keyH w)))).Nodup
def rDictC (w : World) : List V → Hp → VK → Prop := fun xs H Q => ∃ (a : Addr) (kvs : List (List Key × V)), xs = [.ref a] ∧ Rd H a (.dT kvs) ∧ Apart w kvs ∧ ∀ p, H p = none → Q (.ref p) (upd H p (.dT kvs))
theorem cr_dictC {X : Cx} (hu : X.A.units + 64 < cLine) : CallR X (.type "dict") (rDictC X.w) := by
  intro pins s σ H xs us Q I r q
  obtain ⟨a, kvs, ex, hd, hap, q⟩ := q
  subst ex
  obtain ⟨u, eu, rx⟩ := vals1 r
  subst eu
  cases rx
  obtain ⟨hlen, hS, ks, rel, hm⟩ := dt_rd I.hok hd
  have hk : ks.map (·.1) = kvs.map (·.1) := by
    clear hm hap q hlen hd
    induction rel with
    | nil => rfl
    | cons h _ ih => rw [List.map_cons, List.map_cons, ih, h.1]
  have hl : kvs.length = ks.length := Paired.length rel
  have key : ∀ x ∈ ks, ∃ ob items n, s.heap.get? x.2.1 = some ob ∧ ob.cls = .type "tuple" ∧ ob.data = .seq items n ∧ True := fun x hx => by
    obtain ⟨o, es, ep, _, _, _, _, his, _⟩ := hm
    obtain ⟨ob, items, n, h1, h2, h3, _⟩ := his x hx
    exact ⟨ob, items, n, h1, h2, h3, trivial⟩
  have nd : (ks.map (·.1)).Nodup := by
    obtain ⟨o, es, ep, _, _, _, _, _, hn⟩ := hm
    exact hn
  refine call_dict_copyT (knd := tupleKind (mixKind X.prog X.w)) hS hm ?_ (by omega) (fun x hx => ?_) ?_ (fun h' hk' x hx => ?_) fun h' hd' k' => ?_
  · show X.A.in1.in1.units < cLine
    show X.A.units + 2 < cLine
    omega
  · obtain ⟨ob, _, _, h1, h2, _⟩ := key x hx
    exact ⟨ob, h1, h2⟩
  · have : (ks.map fun x => (tupleKind (mixKind X.prog X.w)).hash x.1) = kvs.map fun x => PySem.reduceHash (Builtin.Tuple.tupleHashOf (x.1.map (keyH X.w))) := by
      have e1 : (ks.map fun x => (tupleKind (mixKind X.prog X.w)).hash x.1) = (ks.map (·.1)).map fun k => PySem.reduceHash (Builtin.Tuple.tupleHashOf (k.map (keyH X.w))) := by rw [List.map_map]; rfl
      rw [e1, hk, List.map_map]
      rfl
    rw [this]
    exact hap
  · obtain ⟨o, es, ep, _, _, _, _, his, _⟩ := hm
    obtain ⟨ob, items, n, h1, h2, h3, h4⟩ := his x hx
    exact ⟨ob, items, n, hk' _ _ h1, h2, h3, h4⟩
  · rw [storedAll_new ks [] (by rw [List.nil_append]; exact nd), List.nil_append] at hd'
    have hmm : (s.heap.objs.size == sysModules) = false := beq_eq_false_iff_ne.mpr (Nat.ne_of_gt I.big)
    obtain ⟨q', es, ep, hq', h2, h3, h4, _, h5⟩ := hd'
    have nH : H s.heap.objs.size = none := I.hok.fresh (Nat.le_refl _)
    exact ⟨.ref s.heap.objs.size, upd H s.heap.objs.size (.dT kvs), I.laid (t' := s.toks) k' (Nat.le_refl _) (show ObjOk X.prog X.w _ _ _ (.dT kvs) from ⟨hlen, hmm, ks, Paired.mapP rel fun p q z => ⟨z.1, by rw [upd_ne (ne_of_none z.2.1 nH)]; exact z.2.1, z.2.2⟩, q', es, ep, hq', h2, h3, h4, h5⟩), rfl, q _ nH⟩
end L2

set_option Elab.async false
set_option linter.all false
set_option maxRecDepth 100000
set_option maxHeartbeats 2000000
/-! a display of a dict with tuples for keys, no two of them alike -/
namespace L2
open PySem PySem.Spec PyProof.Rows PySem.W
abbrev KX3 := List (List Key × Addr × V)
def tDispT (trs : List (TE × TE)) : TE := fun σ H Q => ∀ p, H p = none → tPairs trs σ (upd H p (.dT [])) fun ps H2 => H2 p = some (.dT []) ∧ ∃ xs : KX3, ps = xs.map (fun x => (V.ref x.2.1, x.2.2)) ∧ (∀ x, x ∈ xs → H2 x.2.1 = some (.tup (x.1.map kV))) ∧ xs.length ≤ 15 ∧ (xs.map (·.1)).Nodup ∧ Q (.ref p) (upd H2 p (.dT (xs.map fun x => (x.1, x.2.2))))
theorem carriesH_of {P : Program} {w : World} {H : Hp} {h : Heap} (ok : HOk P w H h) : ∀ {xs : KX3} {ws : List (Value × Value)}, VV (xs.map fun x => (V.ref x.2.1, x.2.2)) ws → (∀ x, x ∈ xs → H x.2.1 = some (.tup (x.1.map kV))) → ∃ rs, CarriesH (tupleKind (mixKind P w)) h ws rs ∧ KT H (xs.map fun x => (x.1, x.2.2)) rs ∧ rs.map (·.1) = xs.map (·.1)
  | [], _, r, _ => by rw [List.map_nil] at r; cases r; exact ⟨[], True.intro, .nil, rfl⟩
  | x :: xs, _, r, hx => by
    rw [List.map_cons] at r
    cases r with
    | @cons a b as bs h t =>
      obtain ⟨rs, c, q, e⟩ := carriesH_of ok t fun y hy => hx y (List.mem_cons_of_mem _ hy)
      obtain ⟨b1, b2⟩ := b
      have hb : b1 = Value.ref x.2.1 := h.1
      have h0 := hx x List.mem_cons_self
      exact ⟨(x.1, x.2.1, b2) :: rs, ⟨hb, rfl, key_of ok h0, c⟩, .cons ⟨rfl, h0, h.2⟩ q, by rw [List.map_cons, List.map_cons, e]⟩
theorem pe_dispT {X : Cx} {pos : Pos} {keys : List (Option Expr)} {values : List Expr} {trs : List (TE × TE)} (hu : X.A.units + 64 < cLine) (h : PPs X pos keys values trs) (hall : keys.all (·.isSome) = true) (hl : keys.length = values.length) (h0 : keys ≠ [])
    (h15 : keys.length ≤ 15) : PE X (.Dict keys values pos) (tDispT trs) := by
  refine ⟨fun pins s σ H Q I q => ?_⟩
  have hn := I.hok.fresh (Nat.le_refl s.heap.objs.size)
  have I1 := I.laid (a := s.heap.objs.size) (o := .dT []) (h' := s.heap.push { cls := .type "dict", data := .dict #[] }) (t' := s.toks) (fun _ _ q => Heap.get?_push_of_some _ q) (Nat.le_refl _) (dt_empty s.heap I.big)
  have hlen := pairTrees_length keys values X.env pos hall hl
  have hne : pairTrees keys values X.env pos ≠ [] := fun e => by
    rw [e] at hlen
    exact h0 (List.length_eq_zero_iff.mp hlen.symm)
  rw [arm_eval_Dict, zip_pairTrees keys values X.env pos hall hl, dictDisplay_pairs _ hne (by rw [hlen]; omega)]
  refine wpAny_bind (wpAny_standAt (wpAny_bind (wpAny_subDictH (knd := tupleKind (mixKind X.prog X.w)) ?_ (by rw [hlen]; exact h15) (thn (h.run pins _ σ _ _ I1 (q _ hn)) fun ws s2 ⟨ps, H2, I2, rel, e, xs, ep, kt, hx, nd, q2⟩ => ?_))))
  · show X.A.units < cLine
    omega
  subst ep
  obtain ⟨rs, c, rk, ek⟩ := carriesH_of I2.hok rel kt
  obtain ⟨z, hd, vs0, r0, dd⟩ := dt_of I2.hok e
  cases r0
  refine ⟨rs, c, dd, fun h' tk dd' hs => wpAny_pure ⟨.ref s.heap.objs.size, _, ?_, rfl, q2⟩⟩
  rw [storedAll_new rs [] (by rw [List.nil_append, ek]; exact nd), List.nil_append] at dd'
  obtain ⟨q', es, ep, hq', h2, h3, h4, _, h5⟩ := dd'
  refine d_write I2 (by rw [e]; exact True.intro) hs ⟨q', hq'⟩ ⟨by rw [List.length_map, sizeLine_eq]; omega, hd, rs, rk.keeps fun b ys eb => ?_, q', es, ep, hq', h2, h3, h4, h5⟩
  rw [upd_ne (ne_of eb e (fun z => nomatch z))]
  exact eb
end L2

set_option Elab.async false
set_option linter.all false
set_option maxRecDepth 100000
set_option maxHeartbeats 2000000
/-! errors that are kept: except X as e: caught = e; later caught is None, caught.f, isinstance(caught, X) -/
namespace L2
open PySem PySem.Spec PyProof.Rows PySem.W
/-- an error at a, of the class cls, its dict at d, that is not under way -/
def exr (a : Addr) (cls : Value) (d : Option Addr) : HO := .ext fun h => ∃ (oe : Obj) (vs : Array Value), h.get? a = some oe ∧ Zc cls d oe ∧ oe.data = .fields vs
theorem exr_ok {P : Program} {w : World} {H : Hp} {h : Heap} {a : Addr} {cls : Value} {d : Option Addr} {oe : Obj} {vs : Array Value} (e : h.get? a = some oe) (z : Zc cls d oe) (dt : oe.data = .fields vs) : ObjOk P w H h a (exr a cls d) :=
  ⟨⟨oe, vs, e, z, dt⟩, ⟨oe, e⟩, fun _ _ ⟨o, v, q, r⟩ k => ⟨o, v, k o q, r⟩⟩
theorem exr_at {P : Program} {w : World} {H : Hp} {h : Heap} {a : Addr} {cls : Value} {d : Option Addr} (hok : HOk P w H h) (he : H a = some (exr a cls d)) : ∃ (oe : Obj) (vs : Array Value), h.get? a = some oe ∧ Zc cls d oe ∧ oe.data = .fields vs := by
  have x : ObjOk P w H h a (.ext fun h => ∃ (oe : Obj) (vs : Array Value), h.get? a = some oe ∧ Zc cls d oe ∧ oe.data = .fields vs) := hok a _ he
  exact x.1
section
variable {X : Cx} {pins : List (Addr × Obj)} {σ : St} {H : Hp} {s : Shared}
/-- an object of ours is known from now on -/
theorem Inv.track {a : Addr} {φ : Heap → Prop} (I : Inv X pins σ H s) (hn : H a = none) (n0 : X.s_0.heap.get? a = none) (hc : ∀ x c, X.env.cells.lookup x = some c → c ≠ a) (hl : a ≠ X.env.locals) (hp : ∀ p ∈ X.pn ++ pins, p.1 ≠ a) (new : ObjOk X.prog X.w (upd H a (.ext φ)) s.heap a (.ext φ)) :
    Inv X pins σ (upd H a (.ext φ)) s where
  ok := I.ok
  os := I.os
  bare := I.bare
  base := ⟨I.base.keep, I.base.slot, fun b o e n hx => by
      rw [upd_ne (fun z => by rw [z, n0] at e; cases e)]
      exact I.base.free b o e n hx, I.base.there,
    fun b xs e => by
      have q := I.base.tups b xs e
      rw [upd_ne (ne_of_none q hn)]; exact q,
    fun b o u e => by
      have q := I.base.frzs b o u e
      rw [upd_ne (ne_of_none q hn)]; exact q,
    fun b ps e => by
      obtain ⟨m, q⟩ := I.base.tbls b ps e
      exact ⟨m, by rw [upd_ne (ne_of_none q hn)]; exact q⟩⟩
  loc := I.loc
  cell := I.cell
  free := by rw [upd_ne (Ne.symm hl)]; exact I.free
  freeC := fun x c e => by rw [upd_ne (hc x c e)]; exact I.freeC x c e
  pin := fun p hq => by
    obtain ⟨e, n, r⟩ := I.pin p hq
    exact ⟨e, by rw [upd_ne (hp p hq)]; exact n, r⟩
  hok := fun b u e => by
    by_cases hb : b = a
    · subst hb
      rw [upd_same] at e
      cases e
      exact new
    · rw [upd_ne hb] at e
      exact (I.hok b u e).stay (fun c v _ q => q) (fun c q => by rw [upd_ne (ne_of_none q hn)]; exact q) fun c xs q => by rw [upd_ne (ne_of_none q hn)]; exact q
  len := I.len
end
/-! ### try with several clauses, some of them with a name -/
/-- behind a suite whose clause has the name in slot i: the name goes, the error is known -/
def keepE (a : Addr) (cls : Value) (d : Option Addr) (i : Nat) (D : Ends) : Ends where
  nx := fun σ H => H a = none → D.nx (σ.set i none) (upd H a (exr a cls d))
  rt := fun v H => H a = none → D.rt v (upd H a (exr a cls d))
  bk := fun σ H => H a = none → D.bk (σ.set i none) (upd H a (exr a cls d))
  ct := fun σ H => H a = none → D.ct (σ.set i none) (upd H a (exr a cls d))
abbrev Clause := Value × Option Nat × (Addr → Value → Option Addr → TS)
def wFewA (K : PySem.W.Frag) (D : Ends) : List Clause → WX
  | [] => fun _ _ _ _ => False
  | (c, none, ts) :: r => fun cls d σ H => ∃ b, PySem.W.exmOne K cls c = some b ∧ (b = true → ∀ a, H a = none → ts a cls d D σ H) ∧ (b = false → wFewA K D r cls d σ H)
  | (c, some i, ts) :: r => fun cls d σ H => ∃ b, PySem.W.exmOne K cls c = some b ∧ (b = true → ∀ a, H a = none → ts a cls d (keepE a cls d i D) (σ.set i (some (.ref a))) H) ∧ (b = false → wFewA K D r cls d σ H)
inductive FewA (X : Cx) : List ExceptHandler → List Clause → Prop
  | rest (hds : List ExceptHandler) : FewA X hds []
  | more {x : Str} {c : Value} {ts : Addr → Value → Option Addr → TS} {st : Stmt} {sts : List Stmt} {np pq : Pos} {hds : List ExceptHandler} {l : List Clause} (nc : Names X x c)
      (su : ∀ (a : Addr) (oe : Obj) (cls : Value) (d : Option Addr) (pn : List (Addr × Obj)), Zc cls d oe → (∃ vs, oe.data = .fields vs) → PSs (X.suite a ((a, oe) :: pn)) (st :: sts) (ts a cls d)) (r : FewA X hds l) :
      FewA X (.ExceptHandler (some (.Name x np)) none (st :: sts) pq :: hds) ((c, none, ts) :: l)
  | moreAs {x n : Str} {c : Value} {i : Nat} {ts : Addr → Value → Option Addr → TS} {st : Stmt} {sts : List Stmt} {np pq : Pos} {hds : List ExceptHandler} {l : List Clause} (nc : Names X x c) (hi : X.N[i]? = some n) (hln : X.env.kindOf n = some .local)
      (su : ∀ (a : Addr) (oe : Obj) (cls : Value) (d : Option Addr) (pn : List (Addr × Obj)), Zc cls d oe → (∃ vs, oe.data = .fields vs) → PSs (X.suite a ((a, oe) :: pn)) (st :: sts) (ts a cls d)) (r : FewA X hds l) :
      FewA X (.ExceptHandler (some (.Name x np)) (some n) (st :: sts) pq :: hds) ((c, some i, ts) :: l)
section
variable {X : Cx} {body : List Stmt} {hd0 : ExceptHandler} {hds : List ExceptHandler} {l : List Clause} {pos : Pos} {tb : WX → TS}
theorem ps_tryA (st0 : X.stack = X.env :: X.outer) (fr0 : X.env.frame = some X.env.locals) (hex : X.ex = []) (hN : X.N.Nodup)
    (hb : ∀ (W : WX) (pn : List (Addr × Obj)) (xe : Value → Shared → Prop), Takes (X.tr pn xe) W → PassesOwn (model X.prog X.w) X.A X.env xe → PSs (X.tr pn xe) body (tb W))
    (few : FewA X (hd0 :: hds) l) : PS X (.Try body (hd0 :: hds) [] [] pos) (fun D σ H => tb (wFewA X.K D l) D σ H) := by
  refine ⟨fun pins s σ H D I hh => ?_⟩
  have okX := I.ok
  have frs0 : X.A.frames = some (X.env :: X.outer) := by rw [okX.frames, st0]
  refine wpAny_Try_except (wpAny_mono ((hb (wFewA X.K D l) (X.pn ++ pins) (fun u s₁ => wpAny (model X.prog X.w) X.A (noteFrame u X.env) (fun _ s₂ => wpAny (model X.prog X.w) X.A (setFlight u none) (fun _ s₃ =>
    wpAny (model X.prog X.w) X.A (handleBy u X.env (hd0 :: hds)) (SP X pins D) X.xe s₃) X.xe s₂) X.xe s₁) (fun u t xx => ?caught) PassesOwn.looking).run [] s σ H D (I.toTry _) hh) (fun fl t sp => ?ended) (fun _ _ z => z))
  case caught =>
    obtain ⟨a, B, sI, pq, σ1, Hx, cls, d, rfl, Jt, nb, up0, skyX, na, os, ag, wish⟩ := xx
    have J : Inv X pins σ1 Hx sI := Jt.ofTry okX
    have sky1 : Sky B (X.env :: X.outer) a (Zc cls d) X.env.locals t.heap := by rw [← st0]; exact skyX
    show wpAny (model X.prog X.w) X.A (noteFrame (.ref a) X.env) _ _ _
    refine Sky.land Zc.steady frs0 fr0 sky1 fun h3 fl3 up3 => ?_
    have J3 : Inv X pins σ1 Hx { t with heap := h3 } := J.landed nb fl3.1 (up0.trans up3) os ag
    obtain ⟨o3, vs3, at3, z3, dat3⟩ := fl3.there
    have apart : ∀ {hp : Heap} {ob : Obj} {vv : Array Value}, hp.FunFrames B (X.env :: X.outer) → hp.get? a = some ob → ob.data = .fields vv → a ∉ frs (X.env :: X.outer) := fun {hp ob vv} ff e1 e2 hin => by
      obtain ⟨_, ob', e3, nof⟩ := ff.mem hin
      rw [e1] at e3
      cases e3
      exact nof _ e2
    have away := apart fl3.2.2.1 at3 dat3
    have aL : a ≠ X.env.locals := fun z => away (List.mem_filterMap.mpr ⟨X.env, List.mem_cons_self, by rw [fr0, z]⟩)
    have aF : a ∉ X.fs := fun hin => by
      obtain ⟨en, h1, h2⟩ := List.mem_filterMap.mp hin
      exact away (List.mem_filterMap.mpr ⟨en, List.mem_cons_of_mem _ h1, h2⟩)
    have S3 := J3.suite at3 dat3 na aL aF
    have aI : sI.heap.get? a = none := by
      cases e : sI.heap.get? a with
      | none => rfl
      | some o =>
        have q := nb a o e (by rw [st0]; exact away)
        have q2 : B.get? a = none := fl3.2.1
        rw [q2] at q
        cases q
    have a0 : X.s_0.heap.get? a = none := by
      cases e : X.s_0.heap.get? a with
      | none => rfl
      | some o =>
        obtain ⟨o', q⟩ := J.base.there a o e (by rw [hex]; exact fun z => nomatch z)
        rw [aI] at q
        cases q
    have aC : ∀ x c, X.env.cells.lookup x = some c → c ≠ a := fun x c e z => by
      obtain ⟨v, o, ho, _⟩ := J.cell x c e
      rw [z, aI] at ho
      cases ho
    have aP : ∀ p ∈ X.pn ++ pins, p.1 ≠ a := fun p hq z => by
      have := (J.pin p hq).1
      rw [z, aI] at this
      cases this
    have each : ∀ {hs' : List ExceptHandler} {l' : List Clause}, FewA X hs' l' → wFewA X.K D l' cls d σ1 Hx →
        wpAny (model X.prog X.w) X.A (handleBy (.ref a) X.env hs') (SP X pins D) X.xe { t with heap := h3 } := by
      intro hs' l' few'
      induction few' with
      | rest hds => exact fun z => z.elim
      | @more x c ts st sts np pq hs2 l2 nc su r ih =>
        rintro ⟨b, hb1, yes, no⟩
        refine wpAny_handleBy_cons (codeAny_handlers_test ?_) (by intro z; cases z)
        have lt : PySem.W.Looks (model X.prog X.w) h3 (typeOf (.ref a)) cls := fun A Q E s kk q => wpAny_typeOf_ref (kk _ _ at3) (by rw [z3.1]; exact q)
        have lm := PySem.W.exm_one (M := model X.prog X.w) (J3.kIn) lt hb1
        have ask : ∀ {Q : Value → Shared → Prop} {E : Value → Shared → Prop}, Q c { t with heap := h3 } → wpAny (model X.prog X.w) (X.A.mark (some (.ref a))) (eval (.Name x np) X.env) Q E { t with heap := h3 } := fun {Q E} q => by
          obtain ⟨g1, g2, m1 | ⟨m1, m2, m3⟩⟩ := nc
          · exact ld_glob (X := X.suite a ((a, o3) :: (X.pn ++ pins))) S3 g1 m1 q g2
          · exact ld_blt (X := X.suite a ((a, o3) :: (X.pn ++ pins))) S3 g1 m1 m2 q m3 g2
        refine ask (lm.here ?_)
        cases b with
        | false =>
          show wpAny _ X.A (handleBy (.ref a) X.env hs2) _ _ _
          exact ih (no rfl)
        | true =>
          refine codeAny_handlers_suite (HandSPX.lands_againZ fl3 fun h4 fl4 up4 => ?_)
          have J4 : Inv X pins σ1 Hx { t with heap := h4 } := J.landed nb fl4.1 ((up0.trans up3).trans up4) os ag
          obtain ⟨o4, vs4, at4, z4, dat4⟩ := fl4.there
          have S4 := J4.suite at4 dat4 na aL aF
          refine wpAny_mono ((su a o4 cls d (X.pn ++ pins) z4 ⟨_, dat4⟩).run [] _ _ Hx _ S4 (yes rfl a na)) (fun fl t6 sp6 => ?_) (fun _ _ z => False.elim z)
          cases fl with
          | ret u =>
            obtain ⟨v6, σ6, H6, S6, r6, q6⟩ := sp6
            exact ⟨_, _, _, S6.unsuite okX, r6, q6⟩
          | next =>
            obtain ⟨σ6, H6, S6, q6⟩ := sp6
            exact ⟨_, _, S6.unsuite okX, q6⟩
          | brk =>
            obtain ⟨σ6, H6, S6, q6⟩ := sp6
            exact ⟨_, _, S6.unsuite okX, q6⟩
          | cont =>
            obtain ⟨σ6, H6, S6, q6⟩ := sp6
            exact ⟨_, _, S6.unsuite okX, q6⟩
      | @moreAs x n c i ts st sts np pq hs2 l2 nc hi hln su r ih =>
        rintro ⟨b, hb1, yes, no⟩
        have hloc : Loc X.env.scope n := .inl hln
        refine wpAny_handleBy_cons (codeAny_handlers_test ?_) (by intro z; cases z)
        have lt : PySem.W.Looks (model X.prog X.w) h3 (typeOf (.ref a)) cls := fun A Q E s kk q => wpAny_typeOf_ref (kk _ _ at3) (by rw [z3.1]; exact q)
        have lm := PySem.W.exm_one (M := model X.prog X.w) (J3.kIn) lt hb1
        have ask : ∀ {Q : Value → Shared → Prop} {E : Value → Shared → Prop}, Q c { t with heap := h3 } → wpAny (model X.prog X.w) (X.A.mark (some (.ref a))) (eval (.Name x np) X.env) Q E { t with heap := h3 } := fun {Q E} q => by
          obtain ⟨g1, g2, m1 | ⟨m1, m2, m3⟩⟩ := nc
          · exact ld_glob (X := X.suite a ((a, o3) :: (X.pn ++ pins))) S3 g1 m1 q g2
          · exact ld_blt (X := X.suite a ((a, o3) :: (X.pn ++ pins))) S3 g1 m1 m2 q m3 g2
        refine ask (lm.here ?_)
        cases b with
        | false =>
          show wpAny _ X.A (handleBy (.ref a) X.env hs2) _ _ _
          exact ih (no rfl)
        | true =>
          refine codeAny_handlers_suite_as ?_
          refine HandSPX.lands_againZ fl3 fun h4 fl4 up4 => ?_
          have J4 : Inv X pins σ1 Hx { t with heap := h4 } := J.landed nb fl4.1 ((up0.trans up3).trans up4) os ag
          obtain ⟨o4, vs4, at4, z4, dat4⟩ := fl4.there
          have S4 := J4.suite at4 dat4 na aL aF
          refine store_ok (X := X.suite a ((a, o4) :: (X.pn ++ pins))) (v := .ref a) S4 hN hi hloc rfl (fun s5 S5 => ?_) (.inr hln)
          refine wpAny_mono ((su a o4 cls d (X.pn ++ pins) z4 ⟨_, dat4⟩).run [] s5 _ Hx _ S5 (yes rfl a na)) (fun f t6 sp6 => ?_) (fun _ _ z => False.elim z)
          have end_ : ∀ {σ6 : St} {H6 : Hp} {Q : Shared → Prop}, Inv (X.suite a ((a, o4) :: (X.pn ++ pins))) [] σ6 H6 t6 → (H6 a = none → ∀ s7, Inv X pins (σ6.set i none) (upd H6 a (exr a cls d)) s7 → Q s7) →
              wpAny (model X.prog X.w) X.A (do bindName X.env n .none; unbindBehindTheSuite X.env n pq) (fun _ s7 => Q s7) X.xe t6 := fun {σ6 H6 Q} S6 hq => by
            obtain ⟨ha6, hn6, _⟩ := S6.pin (a, o4) (List.mem_append_left _ List.mem_cons_self)
            have J6 : Inv X pins σ6 H6 t6 := S6.unsuite okX
            have J7 : Inv X pins σ6 (upd H6 a (exr a cls d)) t6 := J6.track hn6 a0 aC aL aP (exr_ok ha6 z4 dat4)
            exact gone_ok J7 hN hi hln (hq hn6)
          cases f with
          | next =>
            obtain ⟨σ6, H6, S6, q6⟩ := sp6
            exact end_ S6 fun n6 s7 J7 => ⟨_, _, J7, q6 n6⟩
          | brk =>
            obtain ⟨σ6, H6, S6, q6⟩ := sp6
            exact end_ S6 fun n6 s7 J7 => ⟨_, _, J7, q6 n6⟩
          | cont =>
            obtain ⟨σ6, H6, S6, q6⟩ := sp6
            exact end_ S6 fun n6 s7 J7 => ⟨_, _, J7, q6 n6⟩
          | ret u =>
            obtain ⟨v6, σ6, H6, S6, r6, q6⟩ := sp6
            exact end_ S6 fun n6 s7 J7 => ⟨_, _, _, J7, r6, q6 n6⟩
    exact each few wish
  case ended =>
    cases fl with
    | ret u =>
      obtain ⟨v, σ1, H1, J1, rv, q⟩ := sp
      exact ⟨v, σ1, H1, J1.ofTry okX, rv, q⟩
    | next =>
      obtain ⟨σ1, H1, J1, q⟩ := sp
      exact wpAny_execs_nil ⟨σ1, H1, J1.ofTry okX, q⟩
    | brk =>
      obtain ⟨σ1, H1, J1, q⟩ := sp
      exact ⟨σ1, H1, J1.ofTry okX, q⟩
    | cont =>
      obtain ⟨σ1, H1, J1, q⟩ := sp
      exact ⟨σ1, H1, J1.ofTry okX, q⟩
end
/-! ### what a kept error tells -/
/-- e.f, e a kept error of the class at C -/
def tXo (C : Addr) (f : Str) (te : TE) : TE := fun σ H Q => te σ H fun x H1 => ∃ (a dd : Addr) (fs : List (Str × V)) (v : V), x = .ref a ∧ H1 a = some (exr a (.ref C) (some dd)) ∧ H1 dd = some (.xd fs) ∧ fs.lookup f = some v ∧ Q v H1
theorem pe_xo {X : Cx} {C : Addr} {e : Expr} {te : TE} {pos : Pos} {n : Str} (T : XfC X.K C) (hno : PySem.W.findIn X.K (.ref C) n = some none) (he : PE X e te) (hb : attributeBase e n X.env (eval e X.env) = eval e X.env := by rfl) :
    PE X (.Attribute e n pos) (tXo C n te) := by
  refine ⟨fun pins s σ H Q I h => ?_⟩
  refine attr_of hb (thn (he.run pins s σ H _ I h) fun u s1 hh => ?_)
  obtain ⟨x, H1, I1, rx, a, dd, fs, v, ex, ha, ed, l, q⟩ := hh
  subst ex
  obtain rfl : u = Value.ref a := rx
  obtain ⟨oe, vs, he, hz, hd⟩ := exr_at I1.hok ha
  have hx : ObjOk X.prog X.w H1 s1.heap dd (.xd fs) := I1.hok dd _ ed
  obtain ⟨mA, hns, hr⟩ := hx
  obtain ⟨od, ho, hl⟩ := lookIn_ns hns
  obtain ⟨u, hu, ru⟩ := RelO.some_of (v := v) (o := mA n) (by rw [← l]; exact hr n)
  have J : PySem.W.InstAt s1.heap a oe C (some od) := ⟨he, hz.1, by unfold PySem.W.notCls; rw [hd] <;> rfl, by rw [hz.2]; exact ho⟩
  exact HandSPX.exc_get I1.kIn J T.ga T.gg T.exC (PySem.W.findObj_own T.hdC hno rfl (by rw [hl, hu])) (handed_of ru) ⟨v, H1, I1.tok _, ru, q⟩
end L2

set_option Elab.async false
set_option linter.all false
set_option maxRecDepth 100000
namespace L2
open PySem PySem.Spec PyProof.Rows PySem.W
theorem dq_rep {H : Hp} {v : V} {d : PyData} (h : Dq H v d) : ∀ k : Nat, DqAll H (List.replicate k [v]).flatten (List.replicate k d)
  | 0 => .nil
  | k + 1 => .cons h (dq_rep h k)
/-- [x] * k -/
theorem ed_rep1 {te tb : TE} {σ : L2.St} {G : Hp} {d : PyData} {k : Nat} (hk : k ≤ 1000) (he : Ed te σ G d) (hb : Ed tb σ G (.int (k : Int))) : Ed (tOp rRep (tLst (tCons te tNil)) tb) σ G (.list (List.replicate k d)) := fun O H1 o s Q q =>
  he O H1 o s _ fun v H2 s2 hv => ⟨by show 1 ≤ sizeLine; decide, fun p np => hb O _ (o.mono (s2.trans (same_new np))) (s.trans (hid_same (s2.trans (same_new np)))) _ fun y H3 s3 hy => ⟨p, k, [v], rfl, hy.int_inv, s3.lst upd_same, by omega, by omega, by rw [Int.toNat_natCast]; exact Nat.le_trans (show [v].length * k ≤ 1000 by simpa using hk) (by decide), fun p2 n2 => by
    have s4 := s2.trans ((same_new np).trans s3)
    refine q (.ref p2) _ (s4.trans (same_new n2)) (.lst (.inl (.inl (by
      rw [hid_out ((o.mono s4).new n2)]
      exact upd_same))) ?_)
    rw [Int.toNat_natCast]
    exact dq_rep (hv.mono (hid_same ((same_new np).trans (s3.trans (same_new n2))))) k⟩⟩
theorem ed_intB {te : TE} {σ : L2.St} {G : Hp} {b : Bool} (h : Ed te σ G (.bool b)) : Ed (tCB (fun xs H Q => (∃ i, xs = [V.int i] ∧ Q (V.int i) H) ∨ ∃ k, xs = [V.bl k] ∧ Q (V.int (if k = true then 1 else 0)) H) (tCons te tNil)) σ G (.int (b.toNat : Int)) := fun O H1 o s Q q =>
  h O H1 o s _ fun v H2 s2 hv => .inr ⟨b, by rw [hv.bl_inv], by
    have := q (.int (b.toNat : Int)) H2 s2 (.int _)
    cases b <;> exact this⟩
end L2
namespace K9
open PySem PySem.Spec PyProof.Rows L2 PySem.W MB
theorem tail_range (n : Nat) : List.range (2 ^ n) = 0 :: (List.range (2 ^ n - 1)).map (1 + ·) := by
  have := Nat.two_pow_pos n
  obtain ⟨k, hk⟩ : ∃ k, 2 ^ n = k + 1 := ⟨2 ^ n - 1, by omega⟩
  rw [hk, List.range_succ_eq_map, Nat.add_sub_cancel]
  congr 1
  exact List.map_congr_left fun a _ => by show a + 1 = 1 + a; omega
theorem some_eq (n : Nat) (r : Nat → Nat) : (List.range (2 ^ n)).filter (zB n r) = ((List.range (2 ^ n - 1)).filter fun k => decide (lkI n r (1 + k) = 0)).map (1 + ·) := by
  rw [tail_range, List.filter_cons_of_neg (by unfold zB; simp), List.filter_map]
  congr 1
  refine List.filter_congr fun k _ => ?_
  show zB n r (1 + k) = _
  unfold zB
  rw [decide_eq_true (show 0 < 1 + k by omega), Bool.true_and]
theorem parts_eq (n : Nat) (r : Nat → Nat) : partsM n r = ((List.range (2 ^ n)).filter (zB n r)).filter fun m => (((List.range (2 ^ n)).filter (zB n r)).filter fun k => decide (k ≠ m) && decide (k &&& m = k)).isEmpty := by
  rw [List.filter_filter]
  refine List.filter_congr fun m hm => ?_
  rw [min_all (List.mem_range.mp hm), Bool.and_comm]
theorem rkl_at {n m : Nat} {r : Nat → Nat} (h : m < 2 ^ n) : (((List.range (2 ^ n)).map r).map dNat)[m]? = some (dNat (r m)) := by
  rw [List.getElem?_map, List.getElem?_map, List.getElem?_range h]
  rfl
theorem rkl_len (n : Nat) (r : Nat → Nat) : (((List.range (2 ^ n)).map r).map dNat).length = 2 ^ n := by rw [List.length_map, List.length_map, List.length_range]
theorem shapedOnes {α : Type} (l : List α) : SeqAt.shaped (.list (l.map fun _ => PyData.int 1)) = true := by
  have e : (l.map fun _ => PyData.int 1) = (l.map fun _ => (1 : Int)).map PyData.int := by rw [List.map_map]; rfl
  rw [e]
  exact shapedInts _
theorem cross_eq {n a b : Nat} (ha : a < 2 ^ n) (hb : b < 2 ^ n) (a0 : a.testBit 0 = true) (b0 : b.testBit 0 = true) : crsB n a b = !decide ((0 : Int) ∈ [((a &&& b : Nat) : Int), ((a &&& cmpl n b : Nat) : Int), ((cmpl n a &&& b : Nat) : Int), ((cmpl n a &&& cmpl n b : Nat) : Int)]) := by
  have h0 : a &&& b ≠ 0 := fun e => by
    have := congrArg (fun z => Nat.testBit z 0) e
    simp only [Nat.testBit_and, a0, b0, Nat.zero_testBit, Bool.and_self] at this
    cases this
  have h1 := and_cmpl (b := b) ha
  have h2 := and_cmpl (b := a) hb
  have h3 := cmpl_or ha hb
  rw [Nat.and_comm b a] at h2
  rw [Nat.and_comm b (cmpl n a)] at h2
  have z : ∀ k : Nat, (0 : Int) = (k : Int) ↔ k = 0 := fun k => by omega
  unfold crsB
  rw [Bool.eq_iff_iff, Bool.not_eq_true', decide_eq_false_iff_not, Bool.and_eq_true, Bool.and_eq_true, decide_eq_true_eq, decide_eq_true_eq, decide_eq_true_eq]
  simp only [List.mem_cons, List.not_mem_nil, or_false, z]
  constructor
  · rintro ⟨⟨x, y⟩, t⟩ h
    rcases h with h | h | h | h
    · exact h0 h
    · exact x (h1.mp h)
    · exact y (h2.mp h)
    · exact t (h3.mp h)
  · intro h
    exact ⟨⟨fun e => h (.inr (.inl (h1.mpr e))), fun e => h (.inr (.inr (.inl (h2.mpr e))))⟩, fun e => h (.inr (.inr (.inr (h3.mpr e))))⟩
section
variable {P : Program} {w : World} {K : PySem.W.Frag} {mg : Str → Option Value} {base : Heap}
def R_link (ds : List PyData) (d : PyData) : Prop := ∃ (n m : Nat) (r : Nat → Nat), ds = [dNats ((List.range (2 ^ n)).map r), dNat m] ∧ m < 2 ^ n ∧ d = .int (lkI n r m)
theorem ok__law_link (T : Tx K mg) : FnOk P w K mg base CX0 1 T.f__law_link T.fd__law_link ["ranks", "mask"] (spD K R_link) := by
  refine okD T.F__law_link sc__law_link (fun ds d ⟨_, _, _, e, _⟩ => by rw [e]; rfl) fun cdv A outer s H E O vs ds d hr o hv r => ?_
  obtain ⟨n, m, r, rfl, hm, rfl⟩ := r
  obtain ⟨v1, v2, rfl, h1, h2⟩ := dp2 hv
  have hpos := Nat.two_pow_pos n
  refine ⟨_, (pss_cons (ps_set (i := 2) sc__law_link.nd rfl (by first | exact .inl rfl | exact .inr rfl) (pe_op op_sub (pe_callB (kc_len K) (by rfl) T.n_len PySem.boot_len (pa_cons (pv 0) pa_nil)) pe_int))
      (pss_one (ps_ret (pe_op op_sub (pe_op op_add (pe_ix (ki_list K) (pv 0) (pv 1) (fun _ _ => rfl)) (pe_ix (ki_list K) (pv 0) (pe_op op_xor (pv 2) (pv 1)) (fun _ _ => rfl))) (pe_ix (ki_list K) (pv 0) (pv 2) (fun _ _ => rfl)))))), fun D q => ?_⟩
  refine asg_ed (G := hid O H) (d := dNat (2 ^ n - 1)) (Ed.of (congrArg PyData.int ?_) (ed_I0 (g := fun i j => i - j) (ed_len (kd := false) (ed_var rfl h1)) ed_int)) o (.refl _) fun fv H1 s1 hfv => ?_
  · rw [rkl_len]
    omega
  have h1' := h1.mono (hid_same (O := O) s1)
  have h2' := h2.mono (hid_same (O := O) s1)
  exact ret_ed (G := hid O H1) (ed_I0 (g := fun i j => i - j) (ed_I0 (g := fun i j => i + j) (ed_ixL (n := m) (rkl_at hm) (ed_var rfl h1') (ed_var rfl h2')) (ed_ixL (n := cmpl n m) (rkl_at (cmpl_lt hm)) (ed_var rfl h1') (ed_xor (ed_var rfl hfv) (ed_var rfl h2')))) (ed_ixL (n := 2 ^ n - 1) (rkl_at (r := r) (by omega)) (ed_var rfl h1') (ed_var rfl hfv))) (o.mono s1) (.refl _) fun v H2 s2 hv => q v H2 (s1.trans s2) hv
def R_pm (ds : List PyData) (d : PyData) : Prop := ∃ (n : Nat) (r : Nat → Nat), ds = [dNats ((List.range (2 ^ n)).map r)] ∧ n ≤ 10 ∧ d = dNats (partsM n r)
theorem ok__law_part_masks (T : Tx K mg) : FnOk P w K mg base CX0 2 T.f__law_part_masks T.fd__law_part_masks ["ranks"] (spD K R_pm) := by
  refine okD T.F__law_part_masks sc__law_part_masks (fun ds d ⟨_, _, e, _⟩ => by rw [e]; rfl) fun cdv A outer s H E O vs ds d hr o hv r => ?_
  obtain ⟨n, r, rfl, n10, rfl⟩ := r
  obtain ⟨v1, rfl, h1⟩ := dp1 hv
  have hp := pow10 n10
  have hpos := Nat.two_pow_pos n
  have hu := hu_of hr
  refine ⟨_, (pss_cons (ps_set (i := 1) sc__law_part_masks.nd rfl (by first | exact .inl rfl | exact .inr rfl) (pe_lc (own := [("mask", 2)]) (g := (gName 2)) rfl sc__law_part_masks.nd (pi_range2 (by rfl) T.n_range (pa_cons pe_int (pa_cons (pe_callB (kc_len K) (by rfl) T.n_len PySem.boot_len (pa_cons (pv 0) pa_nil)) pa_nil))) (blkOk_by (N := ["ranks", "some", "mask", "mate"]) (sc := defScope s__law_part_masks) (by decide +kernel)) (fun _ _ _ _ _ => (pg_name (i := 2) sc__law_part_masks.nd rfl (by first | exact .inl rfl | exact .inr rfl))) (fun _ _ _ _ _ => (pts_one (pt_cmpR op_eq (pe_call (ok__law_link T) (hr.mono (by decide)) (by rfl) T.m__law_link T.F__law_link.kp T.b__law_link .nil pass0 (pa_cons (pv 0) (pa_cons (pv 2) pa_nil))) pe_int (nomark _)))) (fun _ _ _ _ _ => (pv 2))))
      (pss_one (ps_ret (pe_lc (own := [("mask", 2)]) (g := (gName 2)) rfl sc__law_part_masks.nd (kp_list K (pv 1)) (blkOk_by (N := ["ranks", "some", "mask", "mate"]) (sc := defScope s__law_part_masks) (by decide +kernel)) (fun _ _ _ _ _ => (pg_name (i := 2) sc__law_part_masks.nd rfl (by first | exact .inl rfl | exact .inr rfl))) (fun _ _ _ _ _ => (pts_one (pt_cmpR (ko_eqD K (hu64 hr)) (pe_lc (own := [("mate", 3)]) (g := (gName 3)) rfl sc__law_part_masks.nd (kp_list K (pv 1)) (blkOk_by (by kernel_rfl)) (fun _ _ _ _ _ => (pg_name (i := 3) sc__law_part_masks.nd rfl (by first | exact .inl rfl | exact .inr rfl))) (fun _ _ _ _ _ => (pts_one (PW.pt (pw_and (pt_cmpR op_ne (pv 3) (pv 2) (nomark _)) (pw_and1 (pt_cmpR op_eq (pe_op op_and (pv 3) (pv 2)) (pv 3) (nomark _))))))) (fun _ _ _ _ _ => pe_int)) (pe_lst pa_nil) (nomark _)))) (fun _ _ _ _ _ => (pv 2)))))), fun D q => ?_⟩
  have sl : ((List.range (2 ^ n)).filter (zB n r)).length ≤ 1024 := Nat.le_trans (List.length_filter_le _ _) (by rw [List.length_range]; omega)
  refine asg_ed (G := hid O H) (d := dNats ((List.range (2 ^ n)).filter (zB n r))) (Ed.of ?_ (ed_lc (fun k => decide (lkI n r (1 + k) = 0)) (fun k : Nat => dNat (1 + k)) (xs := List.range (2 ^ n - 1)) (by rw [List.length_range]; omega) (iw_range2 (a := 1) (n := 2 ^ n - 1) (by omega) (ea_cons ed_int (ea_one (Ed.of (congrArg PyData.int ?_) (ed_len (kd := false) (ed_var rfl h1)))))) (fun x σ4 H4 ⟨v, e, _⟩ => by subst e; rfl) ?_)) o (.refl _) fun sv H1 s1 hsv => ?_
  · rw [some_eq]
    show PyData.list _ = PyData.list _
    rw [List.map_map]
    rfl
  · rw [rkl_len]
    omega
  · rintro k hk σ2 Ha sa ⟨u, rfl, du⟩
    have hk := List.mem_range.mp hk
    exact ⟨eb_test (ed_eqI (ed_call (R := R_link) ⟨n, 1 + k, r, rfl, by omega, rfl⟩ (ea_cons (ed_var rfl (h1.mono sa)) (ea_one (ed_var rfl du)))) ed_int), fun _ => ed_var rfl du⟩
  refine ret_ed (G := hid O H1) (Ed.of (congrArg dNats (parts_eq n r).symm) (ed_lc (fun m => (((List.range (2 ^ n)).filter (zB n r)).filter fun k => decide (k ≠ m) && decide (k &&& m = k)).isEmpty) dNat (xs := (List.range (2 ^ n)).filter (zB n r)) (by omega) (iw_list (φ := dNat) (ed_var rfl hsv)) (fun x σ4 H4 ⟨v, e, _⟩ => by subst e; rfl) ?_)) (o.mono s1) (.refl _) fun v H2 s2 hv => q v H2 (s1.trans s2) hv
  rintro m hm σ2 Ha sa ⟨u, rfl, du⟩
  refine ⟨Eb.of ?_ (eb_test (ed_eqD (shapedOnes _) rfl (ed_lc (fun k => decide (k ≠ m) && decide (k &&& m = k)) (fun _ : Nat => .int 1) (xs := (List.range (2 ^ n)).filter (zB n r)) (by omega) (iw_list (φ := dNat) (ed_var rfl (hsv.mono sa))) (fun x σ4 H4 ⟨v, e, _⟩ => by subst e; rfl) ?_) (ed_lst (by decide) ea_nil))), fun _ => ed_var rfl du⟩
  · rw [eqvNil', List.isEmpty_map]
  · rintro k hk σ3 Hb sb ⟨t, rfl, dt⟩
    refine ⟨Eb.of ?_ (eb_and (eb_test (ed_neI (ed_var rfl dt) (ed_var rfl (du.mono sb)))) fun _ => eb_test (ed_eqI (ed_andN (m := k) (k := m) (ed_var rfl dt) (ed_var rfl (du.mono sb))) (ed_var rfl dt))), fun _ => ed_int⟩
    congr 1
    · rw [Bool.eq_iff_iff, Bool.not_eq_true', decide_eq_false_iff_not, decide_eq_true_eq]
      exact not_congr Int.ofNat_inj
    · exact decide_eq_decide.mpr Int.ofNat_inj
def R_sm (ds : List PyData) (d : PyData) : Prop := ∃ (n : Nat) (r : Nat → Nat), ds = [dNat n, dNats ((List.range (2 ^ n)).map r)] ∧ 0 < n ∧ n ≤ 10 ∧ d = dNats (splM n r)
theorem ok__law_split_masks (T : Tx K mg) : FnOk P w K mg base CX0 2 T.f__law_split_masks T.fd__law_split_masks ["many", "ranks"] (spD K R_sm) := by
  refine okD T.F__law_split_masks sc__law_split_masks (fun ds d ⟨_, _, e, _⟩ => by rw [e]; rfl) fun cdv A outer s H E O vs ds d hr o hv r => ?_
  obtain ⟨n, r, rfl, n0, n10, rfl⟩ := r
  obtain ⟨v1, v2, rfl, h1, h2⟩ := dp2 hv
  have hp := pow10 n10
  have hpos := Nat.two_pow_pos n
  have hb : 2 ^ n = 2 ^ (n - 1 + 1) := by rw [Nat.sub_add_cancel n0]
  have hlt : ∀ k, k < 2 ^ (n - 1) → 2 * k + 1 < 2 ^ n := fun k hk => (odds_lt n0 (List.mem_map_of_mem (List.mem_range.mpr hk))).1
  refine ⟨_, (pss_cons (ps_set (i := 2) sc__law_split_masks.nd rfl (by first | exact .inl rfl | exact .inr rfl) (pe_lst pa_nil))
      (pss_cons (ps_for PassesOwn.never rfl (pi_range3 (by rfl) T.n_range (pa_cons pe_int (pa_cons (pe_callB (kc_len K) (by rfl) T.n_len PySem.boot_len (pa_cons (pv 1) pa_nil)) (pa_cons pe_int pa_nil)))) (pg_name (i := 3) sc__law_split_masks.nd rfl (by first | exact .inl rfl | exact .inr rfl))
      (pss_one (ps_if (PW.pt (pw_and (pt_chain op_lt op_lt pe_int (pe_call (ok__law_count T) (hr.mono (by decide)) (by rfl) T.m__law_count T.F__law_count.kp T.b__law_count .nil pass0 (pa_cons (pv 3) pa_nil)) (pe_op op_sub (pv 0) pe_int)) (pw_and1 (pt_cmpR op_eq (pe_call (ok__law_link T) (hr.mono (by decide)) (by rfl) T.m__law_link T.F__law_link.kp T.b__law_link .nil pass0 (pa_cons (pv 1) (pa_cons (pv 3) pa_nil))) pe_int (nomark _))))) (pss_one (ps_expr (pe_bm PySem.F.plainAttrs_list PySem.F.slot_list_append PySem.F.type_list_append mt_append (pv 2) (pa_cons (pv 3) pa_nil)))) pss_nil)))
      (pss_one (ps_ret (pv 2))))), fun D q => ?_⟩
  refine ⟨by show 0 ≤ sizeLine; decide, fun p np => ?_⟩
  have s1 := same_new (o := .lst []) np
  have nO : ¬ O p := o.new np
  have hp1 : upd H p (.lst []) p = some (.lst []) := upd_same
  have g1 : Le (hid O H) (hid (plus O p) (upd H p (.lst []))) := hid_add (hid_same s1) (by rw [hid_out nO]; exact np)
  have k1 : Le (hid O H) (hid O (upd H p (.lst []))) := hid_same s1
  have o1 : Hid O (upd H p (.lst [])) := o.mono s1
  generalize upd H p (.lst []) = H1 at s1 hp1 g1 o1 k1
  refine for_iw (xs := List.range (2 ^ (n - 1))) (G := hid (plus O p) H1) (O := plus O p) (iw_rangeO (n := n - 1) (by omega) (ea_cons ed_int (ea_cons (Ed.of (congrArg PyData.int ?_) (ed_len (kd := false) (ed_var rfl (h2.mono g1)))) (ea_one ed_int)))) (o1.plus hp1) (.refl _) fun H2 s2 => ?_
  · rw [rkl_len, ← hb]
  refine ⟨fun i σ H3 => ∃ x, σ = [some v1, some v2, some (.ref p), x] ∧ Le H H3 ∧ Le (hid (plus O p) H2) (hid (plus O p) H3) ∧ H3 p = some (.lst (vNats ((((List.range (2 ^ (n - 1))).take i).map fun k => 2 * k + 1).filter (splB n r)))), ⟨none, rfl, s1.trans s2, .refl _, s2.lst hp1⟩, fun i σ H4 _ h4 => by obtain ⟨_, _, _, h, _⟩ := h4; exact h, fun i x σ H3 hx h3 => ?_, fun σ H3 h3 => ?_⟩
  · obtain ⟨x0, rfl, s3, g3, hp3⟩ := h3
    have hi : i < 2 ^ (n - 1) := by have := (List.getElem?_eq_some_iff.mp hx).1; rwa [List.length_range] at this
    have ex : x = i := by rw [List.getElem?_range hi] at hx; exact (Option.some.inj hx).symm
    subst ex
    have hxl := hlt x hi
    refine ⟨plus O p, (o.mono s3).plus hp3, g3, fun σ4 H4 s4 hB => ?_⟩
    obtain ⟨xv, rfl, hxv⟩ := hB
    have exv := hxv.int_inv
    subst exv
    have hp4 := s4.lst hp3
    have g4 := hid_same (O := O) (s3.trans s4)
    have o4 := o.mono (s3.trans s4)
    have snoc : (((List.range (2 ^ (n - 1))).take (x + 1)).map fun k => 2 * k + 1).filter (splB n r) = ((((List.range (2 ^ (n - 1))).take x).map fun k => 2 * k + 1).filter (splB n r)) ++ if splB n r (2 * x + 1) then [2 * x + 1] else [] := by
      rw [List.take_add_one, hx, List.map_append, List.filter_append]
      congr 1
      by_cases e : splB n r (2 * x + 1) = true
      · simp [e]
      · simp [e]
    have fl : ((((List.range (2 ^ (n - 1))).take x).map fun k => 2 * k + 1).filter (splB n r)).length ≤ 1024 := Nat.le_trans (List.length_filter_le _ _) (by rw [List.length_map]; exact Nat.le_trans (List.length_take_le' _ _) (by rw [List.length_range]; exact Nat.le_trans (Nat.pow_le_pow_right (by decide) (Nat.sub_le n 1)) hp))
    refine if_eb (b := splB n r (2 * x + 1)) (G := hid O H4) (O := O) (Eb.of ?_ (eb_and (eb_test (ed_chainI (g := fun i j => decide (i < j)) (h := fun i j => decide (i < j)) ed_int (ed_call (R := R_count) ⟨n, 2 * x + 1, rfl, hxl, rfl⟩ (ea_one (ed_var rfl (.int _)))) (ed_I0 (g := fun i j => i - j) (ed_var rfl (h1.mono g4)) ed_int))) fun _ => eb_test (ed_eqI (ed_call (R := R_link) ⟨n, 2 * x + 1, r, rfl, hxl, rfl⟩ (ea_cons (ed_var rfl (h2.mono g4)) (ea_one (ed_var rfl (.int _))))) ed_int))) o4 (.refl _) (fun e H5 s5 => ?_) fun e H5 s5 => ?_
    · unfold splB
      congr 2
      · exact decide_eq_decide.mpr (by omega)
      · exact decide_eq_decide.mpr (by omega)
    · have hp5 := s5.lst hp4
      refine ⟨.ref p, rfl, .inl ⟨rfl, _, .inl (.inl hp5)⟩, .int ((2 * x + 1 : Nat) : Int), rfl, p, _, _, rfl, rfl, hp5, by rw [List.length_map]; exact Nat.lt_of_le_of_lt fl (by decide), ?_⟩
      refine ⟨_, rfl, (s3.trans (s4.trans s5)).updN np (nt_lst hp5), ?_, ?_⟩
      · rw [hid_upd _ (nt_lst hp5) (by first | rfl | exact .inr rfl)]
        exact g3.trans (hid_same (s4.trans s5))
      · rw [upd_same, snoc, e, if_pos rfl]
        exact congrArg (fun z => some (HO.lst z)) (vNats_snoc _ _).symm
    · refine ⟨_, rfl, s3.trans (s4.trans s5), g3.trans (hid_same (s4.trans s5)), ?_⟩
      rw [s5.lst hp4, snoc, e, if_neg Bool.false_ne_true, List.append_nil]
  · obtain ⟨x0, rfl, s3, g3, hp3⟩ := h3
    rw [List.length_range, List.take_of_length_le (by rw [List.length_range]; omega)] at hp3
    exact ⟨.ref p, rfl, q _ H3 s3 (.lst (.inl (.inl (by rw [hid_out nO]; exact hp3))) (dq_nats _))⟩
end
end K9

set_option Elab.async false
set_option linter.all false
set_option maxRecDepth 100000
namespace K9
open PySem PySem.Spec PyProof.Rows L2 PySem.W MB
theorem ring_one {n : Nat} (h : 3 ≤ n) (h7 : n ≤ 7) : (partsM n (rankOf n (sized n (n - 1)))).length = 1 := by
  have : n = 3 ∨ n = 4 ∨ n = 5 ∨ n = 6 ∨ n = 7 := by omega
  rcases this with rfl | rfl | rfl | rfl | rfl
  · rw [show sized 3 (3 - 1) = [3, 5, 6] by decide +kernel]
    decide +kernel
  · rw [show sized 4 (4 - 1) = [7, 11, 13, 14] by decide +kernel]
    decide +kernel
  · rw [show sized 5 (5 - 1) = [15, 23, 27, 29, 30] by decide +kernel]
    decide +kernel
  · rw [show sized 6 (6 - 1) = [31, 47, 55, 59, 61, 62] by decide +kernel]
    decide +kernel
  · rw [show sized 7 (7 - 1) = [63, 95, 111, 119, 123, 125, 126] by decide +kernel]
    decide +kernel
section
variable {P : Program} {w : World} {K : PySem.W.Frag} {mg : Str → Option Value} {base : Heap}
def R_gm (ds : List PyData) (d : PyData) : Prop := ∃ (n : Nat) (r : Nat → Nat), ds = [dNat n, dNats ((List.range (2 ^ n)).map r)] ∧ 0 < n ∧ n ≤ 10 ∧ d = dNats (goodM n r)
theorem ok__law_good_masks (T : Tx K mg) : FnOk P w K mg base CX0 3 T.f__law_good_masks T.fd__law_good_masks ["many", "ranks"] (spD K R_gm) := by
  refine okD T.F__law_good_masks sc__law_good_masks (fun ds d ⟨_, _, e, _⟩ => by rw [e]; rfl) fun cdv A outer s H E O vs ds d hr o hv r => ?_
  obtain ⟨n, r, rfl, n0, n10, rfl⟩ := r
  obtain ⟨v1, v2, rfl, h1, h2⟩ := dp2 hv
  have hp := pow10 n10
  have hpos := Nat.two_pow_pos n
  have hu := hu_of hr
  refine ⟨_, (pss_cons (ps_par3 (i := 2) (j := 3) (l := 4) rfl sc__law_good_masks.nd rfl rfl rfl (by decide) (by decide) (by decide) rfl rfl rfl (pa_cons (pe_call (ok__law_split_masks T) (hr.mono (by decide)) (by rfl) T.m__law_split_masks T.F__law_split_masks.kp T.b__law_split_masks .nil pass0 (pa_cons (pv 0) (pa_cons (pv 1) pa_nil))) (pa_cons (pe_op op_sub (pe_callB (kc_len K) (by rfl) T.n_len PySem.boot_len (pa_cons (pv 1) pa_nil)) pe_int) (pa_cons (pe_lst pa_nil) pa_nil))) (by rfl))
      (pss_cons (ps_for PassesOwn.never rfl (kp_list K (pv 2)) (pg_name (i := 5) sc__law_good_masks.nd rfl (by first | exact .inl rfl | exact .inr rfl))
      (pss_cons (ps_set (i := 6) sc__law_good_masks.nd rfl (by first | exact .inl rfl | exact .inr rfl) (pe_lst pa_nil))
      (pss_cons (ps_for PassesOwn.never rfl (kp_list K (pv 2)) (pg_name (i := 7) sc__law_good_masks.nd rfl (by first | exact .inl rfl | exact .inr rfl))
      (pss_cons (ps_set (i := 8) sc__law_good_masks.nd rfl (by first | exact .inl rfl | exact .inr rfl) (pe_lst (pa_cons (pe_op op_and (pv 5) (pv 7)) (pa_cons (pe_op op_and (pv 5) (pe_op op_xor (pv 3) (pv 7))) (pa_cons (pe_op op_and (pe_op op_xor (pv 3) (pv 5)) (pv 7)) (pa_cons (pe_op op_and (pe_op op_xor (pv 3) (pv 5)) (pe_op op_xor (pv 3) (pv 7))) pa_nil))))))
      (pss_one (ps_set (i := 6) sc__law_good_masks.nd rfl (by first | exact .inl rfl | exact .inr rfl) (pe_op (ko_catL K) (pv 6) (pe_op op_rep (pe_lst (pa_cons (pv 7) pa_nil)) (pe_callTy call_int1 (by rfl) T.n_int boot_int (pa_cons (pe_cmpR (ko_notIn K) pe_int (pv 8) rfl) pa_nil))))))))
      (pss_one (ps_if (pt_cmpR (ko_eqD K (hu64 hr)) (pv 6) (pe_lst pa_nil) (nomark _)) (pss_one (ps_expr (pe_bm PySem.F.plainAttrs_list PySem.F.slot_list_append PySem.F.type_list_append mt_append (pv 4) (pa_cons (pv 5) pa_nil)))) pss_nil)))))
      (pss_one (ps_ret (pv 4))))), fun D q => ?_⟩
  refine asg1 (G := hid O H) (O := O) (d := dNats (splM n r)) (ed_call (R := R_sm) ⟨n, r, rfl, n0, n10, rfl⟩ (ea_cons (ed_var rfl h1) (ea_one (ed_var rfl h2)))) o (.refl _) fun sv H1 s1 hsv => ?_
  have o1 := o.mono s1
  refine asg1 (G := hid O H1) (O := O) (d := dNat (2 ^ n - 1)) (Ed.of (congrArg PyData.int ?_) (ed_I0 (g := fun i j => i - j) (ed_len (kd := false) (ed_var rfl (h2.mono (hid_same (O := O) s1)))) ed_int)) o1 (.refl _) fun fv H2 s2 hfv => ?_
  · rw [rkl_len]
    omega
  have efv := hfv.int_inv
  subst efv
  have hS : ∀ k, k ∈ splM n r → k < 2 ^ n ∧ k.testBit 0 = true := fun k hk => odds_lt n0 (List.mem_filter.mp hk).1
  have hSl : (splM n r).length ≤ 1024 := Nat.le_trans (splM_len n r) hp
  refine ⟨by show 0 ≤ sizeLine; decide, fun p np => ⟨_, _, _, rfl, ?_⟩⟩
  have s3 := same_new (o := .lst []) np
  have o2 := o1.mono s2
  have nO : ¬ O p := o2.new np
  have hp3 : upd H2 p (.lst []) p = some (.lst []) := upd_same
  have hsv3 : Dq (hid (plus O p) (upd H2 p (.lst []))) sv (dNats (splM n r)) := (hsv.mono (hid_same (O := O) s2)).mono (hid_add (hid_same s3) (by rw [hid_out nO]; exact np))
  have o3 : Hid (plus O p) (upd H2 p (.lst [])) := (o2.mono s3).plus hp3
  have s13 := s1.trans (s2.trans s3)
  have npH : H p = none := s1.free (s2.free np)
  generalize upd H2 p (.lst []) = H3 at s3 hp3 hsv3 o3 s13
  dsimp only [gName]
  generalize hSS : splM n r = S at hsv3 hS hSl
  refine for_iw (xs := S) (G := hid (plus O p) H3) (O := plus O p) (iw_list (φ := dNat) (ed_var rfl hsv3)) o3 (.refl _) fun H4 s4 => ?_
  refine ⟨fun i σ H5 => ∃ x5 x6 x7 x8, σ = [some v1, some v2, some sv, some (.int ((2 ^ n - 1 : Nat) : Int)), some (.ref p), x5, x6, x7, x8] ∧ Le H H5 ∧ Le (hid (plus O p) H4) (hid (plus O p) H5) ∧ H5 p = some (.lst (vNats ((S.take i).filter fun a => !S.any (crsB n a)))), ⟨none, none, none, none, rfl, s13.trans s4, .refl _, s4.lst hp3⟩, fun i σ H5 _ h5 => by obtain ⟨_, _, _, _, _, _, h, _⟩ := h5; exact h, fun i x σ H5 hx h5 => ?_, fun σ H5 h5 => ?_⟩
  · obtain ⟨x5, x6, x7, x8, rfl, s5, g5, hp5⟩ := h5
    have hxS := hS x (List.mem_of_getElem? hx)
    refine ⟨plus O p, (o.mono s5).plus hp5, g5, fun σ6 H6 s6 hB => ?_⟩
    obtain ⟨xv, rfl, hxv⟩ := hB
    have exv := hxv.int_inv
    subst exv
    have o6 : Hid (plus O p) H6 := (o.mono (s5.trans s6)).plus (s6.lst hp5)
    have g6 : Le (hid (plus O p) H3) (hid (plus O p) H6) := (hid_same s4).trans (g5.trans (hid_same s6))
    refine asg_ed (G := hid (plus O p) H6) (d := dNats []) (ed_lst (by decide) ea_nil) o6 (.refl _) fun cv H7 s7 hcv => ?_
    have o7 := o6.mono s7
    have hsv7 := hsv3.mono (g6.trans (hid_same s7))
    refine for_iw (xs := S) (G := hid (plus O p) H7) (O := plus O p) (iw_list (φ := dNat) (ed_var rfl hsv7)) o7 (.refl _) fun H8 s8 => ?_
    refine ⟨fun j σ H9 => ∃ c y7 y8, σ = [some v1, some v2, some sv, some (.int ((2 ^ n - 1 : Nat) : Int)), some (.ref p), some (.int ((x : Nat) : Int)), some c, y7, y8] ∧ Le H8 H9 ∧ Dq (hid (plus O p) H9) c (dNats ((S.take j).filter (crsB n x))), ⟨cv, _, _, rfl, .refl _, hcv.mono (hid_same s8)⟩, fun j σ H9 _ h9 => by obtain ⟨_, _, _, _, h, _⟩ := h9; exact hid_same h, fun j y σ H9 hy h9 => ?_, fun σ H9 h9 => ?_⟩
    · obtain ⟨c, y7, y8, rfl, s9, hc9⟩ := h9
      have hyS := hS y (List.mem_of_getElem? hy)
      have o9 := o7.mono (s8.trans s9)
      refine ⟨plus O p, o9, hid_same s9, fun σa Ha sa hBa => ?_⟩
      obtain ⟨yv, rfl, hyv⟩ := hBa
      have eyv := hyv.int_inv
      subst eyv
      have oa := o9.mono sa
      refine asg_ed (G := hid (plus O p) Ha) (d := .list ([((x &&& y : Nat) : Int), ((x &&& cmpl n y : Nat) : Int), ((cmpl n x &&& y : Nat) : Int), ((cmpl n x &&& cmpl n y : Nat) : Int)].map .int)) (ed_lst (by show 4 ≤ 1000; decide) (ea_cons (ed_andN (m := x) (k := y) (ed_var rfl (.int _)) (ed_var rfl (.int _))) (ea_cons (ed_andN (m := x) (k := cmpl n y) (ed_var rfl (.int _)) (ed_xor (m := 2 ^ n - 1) (k := y) (ed_var rfl (.int _)) (ed_var rfl (.int _)))) (ea_cons (ed_andN (m := cmpl n x) (k := y) (ed_xor (m := 2 ^ n - 1) (k := x) (ed_var rfl (.int _)) (ed_var rfl (.int _))) (ed_var rfl (.int _))) (ea_one (ed_andN (m := cmpl n x) (k := cmpl n y) (ed_xor (m := 2 ^ n - 1) (k := x) (ed_var rfl (.int _)) (ed_var rfl (.int _))) (ed_xor (m := 2 ^ n - 1) (k := y) (ed_var rfl (.int _)) (ed_var rfl (.int _))))))))) oa (.refl _) fun zv Hb sb hzv => ?_
      have hcb := hc9.mono (hid_same (sa.trans sb))
      refine asg_ed (G := hid (plus O p) Hb) (d := dNats ((S.take (j + 1)).filter (crsB n x))) (Ed.of ?_ (ed_catL ?_ (ed_var rfl hcb) (ed_rep1 (d := dNat y) (k := (crsB n x y).toNat) (by have := Bool.toNat_le (crsB n x y); omega) (ed_var rfl (.int _)) (ed_intB (Ed.of (congrArg PyData.bool (cross_eq hxS.1 hyS.1 hxS.2 hyS.2).symm) (ed_inI (neg := true) ed_int (.inr (ed_var rfl hzv)))))))) (oa.mono sb) (.refl _) fun c' Hc sc hc' => ?_
      · rw [List.take_add_one, hy, List.filter_append]
        show PyData.list _ = PyData.list (List.map dNat _)
        rw [List.map_append]
        congr 2
        cases e : crsB n x y
        · simp [e]
        · simp [e]
      · have := Bool.toNat_le (crsB n x y)
        have h1 : ((S.take j).filter (crsB n x)).length ≤ 1024 := Nat.le_trans (List.length_filter_le _ _) (Nat.le_trans (List.length_take_le' _ _) hSl)
        simp only [List.length_map, List.length_replicate]
        omega
      · exact ⟨c', _, _, rfl, s9.trans (sa.trans (sb.trans sc)), hc'⟩
    · obtain ⟨c, y7, y8, rfl, s9, hc9⟩ := h9
      rw [List.take_length] at hc9
      have s69 := s6.trans (s7.trans (s8.trans s9))
      have o9 := o7.mono (s8.trans s9)
      have key : (S.filter (crsB n x)).isEmpty = !S.any (crsB n x) := by
        rw [Bool.eq_iff_iff, List.isEmpty_iff, List.filter_eq_nil_iff, Bool.not_eq_true', List.any_eq_false]
      refine if_eb (b := !S.any (crsB n x)) (G := hid (plus O p) H9) (O := plus O p) (Eb.of ?_ (eb_test (ed_eqD (shapedNats _) rfl (ed_var rfl hc9) (ed_lst (by decide) ea_nil)))) o9 (.refl _) (fun e Ha sa => ?_) fun e Ha sa => ?_
      · rw [eqvNil', List.isEmpty_map, key]
      · have hpa := sa.lst (s69.lst hp5)
        have snoc : (S.take (i + 1)).filter (fun a => !S.any (crsB n a)) = ((S.take i).filter fun a => !S.any (crsB n a)) ++ [x] := by
          rw [List.take_add_one, hx, List.filter_append]
          congr 1
          show List.filter _ [x] = _
          rw [List.filter_cons, if_pos e]
          rfl
        refine ⟨.ref p, rfl, .inl ⟨rfl, _, .inl (.inl hpa)⟩, .int ((x : Nat) : Int), rfl, p, _, _, rfl, rfl, hpa, by rw [List.length_map]; exact Nat.lt_of_le_of_lt (Nat.le_trans (List.length_filter_le _ _) (Nat.le_trans (List.length_take_le' _ _) hSl)) (by decide), ?_⟩
        refine ⟨_, _, _, _, rfl, (s5.trans (s69.trans sa)).updN npH (nt_lst hpa), ?_, ?_⟩
        · rw [hid_upd _ (nt_lst hpa) (by first | rfl | exact .inr rfl)]
          exact g5.trans (hid_same (s69.trans sa))
        · rw [upd_same, snoc]
          exact congrArg (fun z => some (HO.lst z)) (vNats_snoc _ _).symm
      · have snoc : (S.take (i + 1)).filter (fun a => !S.any (crsB n a)) = ((S.take i).filter fun a => !S.any (crsB n a)) := by
          rw [List.take_add_one, hx, List.filter_append]
          show _ ++ List.filter _ [x] = _
          rw [List.filter_cons, if_neg (by rw [e]; exact Bool.false_ne_true)]
          exact List.append_nil _
        exact ⟨_, _, _, _, rfl, s5.trans (s69.trans sa), g5.trans (hid_same (s69.trans sa)), by rw [snoc]; exact sa.lst (s69.lst hp5)⟩
  · obtain ⟨x5, x6, x7, x8, rfl, s5, g5, hp5⟩ := h5
    rw [List.take_length] at hp5
    refine ⟨.ref p, rfl, q _ H5 s5 (.lst (.inl (.inl (by rw [hid_out nO]; exact hp5))) ?_)⟩
    unfold goodM
    rw [hSS]
    exact dq_nats _
def spWhole : Sp := fun vs H Q _ => ∃ (m : Addr) (n : Nat) (N : Int), vs = [.ref m, .int n] ∧ 3 ≤ n ∧ n ≤ 7 ∧ Src H m N ∧ N < 500000 ∧ ∀ v B H', KS m H H' → Src H' m (N + 5000) → MatM n B → (partsM n (rankOf n B)).length = 1 → Dq (hid (XM m) H') v (dNats B) → Q v H'
theorem ok__law_whole_bases (T : Tx K mg) : FnOk P w K mg base CX0 5 T.f__law_whole_bases T.fd__law_whole_bases ["source", "many"] spWhole := by
  refine T.F__law_whole_bases.ok sc__law_whole_bases (fun vs H Q E h => ?_) (fun cdv A outer s H vs Q E hr h => ?_)
  · obtain ⟨m, n, N, rfl, _⟩ := h
    rfl
  obtain ⟨m, n, N, rfl, n3, n7, hS, hN, q⟩ := h
  have hp := pow10 (show n ≤ 10 by omega)
  refine ⟨_, (pss_cons (ps_for PassesOwn.never rfl (pi_range1 (by rfl) T.n_range (pa_cons pe_int pa_nil)) (pg_name (i := 2) sc__law_whole_bases.nd rfl (by first | exact .inl rfl | exact .inr rfl))
      (pss_cons (ps_set (i := 3) sc__law_whole_bases.nd rfl (by first | exact .inl rfl | exact .inr rfl) (pe_call (ok__law_drawn_bases T) (hr.mono (by decide)) (by rfl) T.m__law_drawn_bases T.F__law_drawn_bases.kp T.b__law_drawn_bases .nil pass0 (pa_cons (pv 0) (pa_cons (pv 1) pa_nil))))
      (pss_one (ps_if (pt_cmpR op_eq (pe_callB (kc_len K) (by rfl) T.n_len PySem.boot_len (pa_cons (pe_call (ok__law_part_masks T) (hr.mono (by decide)) (by rfl) T.m__law_part_masks T.F__law_part_masks.kp T.b__law_part_masks .nil pass0 (pa_cons (pe_call (ok__law_ranks T) (hr.mono (by decide)) (by rfl) T.m__law_ranks T.F__law_ranks.kp T.b__law_ranks .nil pass0 (pa_cons (pv 1) (pa_cons (pv 3) pa_nil))) pa_nil)) pa_nil)) pe_int (nomark _)) (pss_one (ps_ret (pv 3))) pss_nil))))
      (pss_one (ps_ret (pe_call (ok__law_sized T) (hr.mono (by decide)) (by rfl) T.m__law_sized T.F__law_sized.kp T.b__law_sized .nil pass0 (pa_cons (pv 1) (pa_cons (pe_op op_sub (pv 1) pe_int) pa_nil)))))), ?_⟩
  refine for_iw (xs := List.range 3) (G := hid (XM m) H) (O := XM m) (iw_range1 (by decide) (ea_one ed_int)) hS.hid (.refl _) fun H1 s1 => ?_
  refine ⟨fun i σ H2 => ∃ x2 x3, σ = [some (.ref m), some (.int n), x2, x3] ∧ KS m H1 H2 ∧ Src H2 m (N + 1600 * i), ⟨none, none, rfl, .refl _, (hS.mono s1).le (by omega)⟩, fun i σ H2 _ h2 => by obtain ⟨_, _, _, h, _⟩ := h2; exact h, fun i x σ H2 hx h2 => ?_, fun σ H2 h2 => ?_⟩
  · obtain ⟨x2, x3, rfl, k2, S2⟩ := h2
    have hi : i < 3 := by have := (List.getElem?_eq_some_iff.mp hx).1; rwa [List.length_range] at this
    refine ⟨XM m, S2.hid, k2, fun σ3 H3 s3 hB => ?_⟩
    obtain ⟨xv, rfl, hxv⟩ := hB
    refine ⟨.ref m, rfl, .int n, rfl, m, n, _, rfl, Nat.zero_le _, by omega, S2.mono s3, by omega, fun v B H4 k4 S4 hM hv => ?_⟩
    have k14 : KS m H1 H4 := k2.trans ((KS.of s3).trans k4)
    have hBl := hM.len
    dsimp only [gName]
    refine if_eb (b := decide ((partsM n (rankOf n B)).length = 1)) (G := hid (XM m) H4) (O := XM m) (Eb.of ?_ (eb_test (ed_eqI (ed_len (ds := (partsM n (rankOf n B)).map dNat) (kd := false) (ed_call (R := R_pm) ⟨n, rankOf n B, rfl, by omega, rfl⟩ (ea_one (ed_call (R := R_ranks) ⟨n, B, rfl, by omega, hM.ne, by omega, hM.lt, rfl⟩ (ea_cons (ed_var rfl (.int _)) (ea_one (ed_var rfl hv))))))) ed_int))) S4.hid (.refl _) (fun e H5 s5 => ?_) fun e H5 s5 => ?_
    · rw [List.length_map]
      exact decide_eq_decide.mpr (by omega)
    · refine ⟨v, rfl, q v B H5 ((KS.of s1).trans (k14.trans (KS.of s5))) ((S4.mono s5).le (by omega)) hM (of_decide_eq_true e) (hv.mono (KS.of s5))⟩
    · exact ⟨_, _, rfl, k14.trans (KS.of s5), (S4.mono s5).le (by push_cast; omega)⟩
  · obtain ⟨x2, x3, rfl, k2, S2⟩ := h2
    rw [List.length_range] at S2
    refine ret_ed (G := hid (XM m) H2) (O := XM m) (d := dNats (sized n (n - 1))) (ed_call (R := R_sized) ⟨n, n - 1, rfl, by omega, rfl⟩ (ea_cons (ed_var rfl (.int _)) (ea_one (Ed.of (congrArg PyData.int ?_) (ed_I0 (g := fun i j => i - j) (ed_var rfl (.int _)) ed_int))))) S2.hid (.refl _) fun v H3 s3 hv => q v _ H3 ((KS.of s1).trans (k2.trans (KS.of s3))) ((S2.mono s3).le (by omega)) (mat_sized (Nat.sub_le _ _)) (ring_one n3 n7) hv
    omega
end
end K9

set_option Elab.async false
set_option linter.all false
set_option maxRecDepth 100000
namespace K9
open PySem PySem.Spec PyProof.Rows L2 PySem.W MB
section
variable {P : Program} {w : World} {K : PySem.W.Frag} {mg : Str → Option Value} {base : Heap}
def R_forestT (ds : List PyData) (d : PyData) : Prop := ∃ (n : Nat) (ps : List (Nat × Nat)) (k : Nat), ds = [dNat n, PyData.tuple (ps.map dEdge)] ∧ n ≤ 10 ∧ ps.length = n ∧ (∀ p, p ∈ ps → p.1 < 12 ∧ p.2 < 12) ∧ k ∈ (gM (edAt ps) n).map (MB.cnt n) ∧ (∀ y, y ∈ (gM (edAt ps) n).map (MB.cnt n) → y ≤ k) ∧ d = dNats ((gM (edAt ps) n).filter fun m => decide (MB.cnt n m = k))
theorem okT__law_forest_bases (T : Tx K mg) : FnOk P w K mg base CX0 2 T.f__law_forest_bases T.fd__law_forest_bases ["many", "lines"] (spD K R_forestT) := by
  refine okD T.F__law_forest_bases sc__law_forest_bases (fun ds d ⟨_, _, _, e, _⟩ => by rw [e]; rfl) fun cdv A outer s H E0 O vs ds d hr o hv r => ?_
  obtain ⟨n, ps, most, rfl, hn, hcl, hc12, hm1, hm2, rfl⟩ := r
  obtain ⟨v1, v2, rfl, h1, h2⟩ := dp2 hv
  have hu := hu_of hr
  have hp := pow10 hn
  have get : ∀ k, k < n → (ps.map dEdge)[k]? = some (dEdge (edAt ps k)) ∧ (edAt ps k).1 < 12 ∧ (edAt ps k).2 < 12 := fun k hk => by
    have e : edAt ps k = ps[k]'(by omega) := by simp [edAt, List.getD, List.getElem?_eq_getElem (show k < ps.length by omega)]
    rw [List.getElem?_map, List.getElem?_eq_getElem (show k < ps.length by omega), e]
    exact ⟨rfl, hc12 _ (List.getElem_mem _)⟩
  generalize edAt ps = E at *
  refine ⟨_, (pss_cons (ps_set (i := 2) sc__law_forest_bases.nd rfl (by first | exact .inl rfl | exact .inr rfl) (pe_disp (pps_cons pe_int (pe_listRg rfl (by rfl) T.n_list (prg_1 (by rfl) T.n_range pe_int)) pps_nil) rfl rfl (by intro z; cases z) (by decide)))
      (pss_cons (ps_for PassesOwn.never rfl (pi_range2 (by rfl) T.n_range (pa_cons pe_int (pa_cons (pe_op op_shl pe_int (pv 0)) pa_nil))) (pg_name (i := 3) sc__law_forest_bases.nd rfl (by first | exact .inl rfl | exact .inr rfl))
      (pss_cons (ps_set (i := 4) sc__law_forest_bases.nd rfl (by first | exact .inl rfl | exact .inr rfl) (pe_op op_and (pv 3) (pe_op op_sub pe_int (pv 3))))
      (pss_cons (ps_set (i := 5) sc__law_forest_bases.nd rfl (by first | exact .inl rfl | exact .inr rfl) (pe_dget2 hu (pv 2) (pe_op op_xor (pv 3) (pv 4)) pe_non ⟨by rfl, by rfl, by rfl, by rfl⟩))
      (pss_one (ps_if (pt_cmpR op_notN (pv 5) pe_non (nomark _)) (pss_cons (ps_set (i := 6) sc__law_forest_bases.nd rfl (by first | exact .inl rfl | exact .inr rfl) (pe_ix (ki_tup K) (pv 1) (pe_op op_sub (pe_bits (pv 4)) pe_int) (fun _ _ => rfl)))
      (pss_cons (ps_asg (pe_tup (pa_cons (pe_ix (ki_list K) (pv 5) (pe_ix (ki_tup K) (pv 6) pe_int (fun _ _ => rfl)) (fun _ _ => rfl)) (pa_cons (pe_ix (ki_list K) (pv 5) (pe_ix (ki_tup K) (pv 6) pe_int (fun _ _ => rfl)) (fun _ _ => rfl)) pa_nil))) (kg_tup K (pgs_cons (pg_name (i := 7) sc__law_forest_bases.nd rfl (by first | exact .inl rfl | exact .inr rfl)) (pgs_cons (pg_name (i := 8) sc__law_forest_bases.nd rfl (by first | exact .inl rfl | exact .inr rfl)) pgs_nil))))
      (pss_one (ps_if (pt_cmpR op_ne (pv 7) (pv 8) (nomark _)) (pss_one (ps_dput hu (pv 2) (pv 3) (pe_lc (own := [("spot", 10)]) (g := (gName 10)) (tt := tYes) rfl sc__law_forest_bases.nd (kp_list K (pv 5)) (blkOk_by (N := ["many", "lines", "kept", "mask", "low", "where", "line", "first", "last", "most", "spot"]) (sc := defScope s__law_forest_bases) (by decide +kernel)) (fun _ _ _ _ _ => (pg_name (i := 10) sc__law_forest_bases.nd rfl (by first | exact .inl rfl | exact .inr rfl))) (fun _ _ _ _ _ => pts_nil) (fun _ _ _ _ _ => (pe_ifExp (pt_cmpR op_eq (pv 10) (pv 8) (nomark _)) (pv 7) (pv 10)))) rfl)) pss_nil)))) pss_nil)))))
      (pss_cons (ps_set (i := 9) sc__law_forest_bases.nd rfl (by first | exact .inl rfl | exact .inr rfl) (pe_callB (kc_max K) (by rfl) T.n_max boot_max (pa_cons (pe_lock (pe_lc (own := [("mask", 3)]) (g := (gName 3)) (tt := tYes) rfl sc__law_forest_bases.nd (pi_keys (pv 2)) (blkOk_by (N := ["many", "lines", "kept", "mask", "low", "where", "line", "first", "last", "most", "spot"]) (sc := defScope s__law_forest_bases) (by decide +kernel)) (fun _ _ _ _ _ => (pg_name (i := 3) sc__law_forest_bases.nd rfl (by first | exact .inl rfl | exact .inr rfl))) (fun _ _ _ _ _ => pts_nil) (fun _ _ _ _ _ => (pe_call (ok__law_count T) (hr.mono (by decide)) (by rfl) T.m__law_count T.F__law_count.kp T.b__law_count .nil pass0 (pa_cons (pv 3) pa_nil))))) pa_nil)))
      (pss_one (ps_ret (pe_lock (pe_lc (own := [("mask", 3)]) (g := (gName 3)) rfl sc__law_forest_bases.nd (pi_keys (pv 2)) (blkOk_by (N := ["many", "lines", "kept", "mask", "low", "where", "line", "first", "last", "most", "spot"]) (sc := defScope s__law_forest_bases) (by decide +kernel)) (fun _ _ _ _ _ => (pg_name (i := 3) sc__law_forest_bases.nd rfl (by first | exact .inl rfl | exact .inr rfl))) (fun _ _ _ _ _ => (pts_one (pt_cmpR op_eq (pe_call (ok__law_count T) (hr.mono (by decide)) (by rfl) T.m__law_count T.F__law_count.kp T.b__law_count .nil pass0 (pa_cons (pv 3) pa_nil)) (pv 9) (nomark _)))) (fun _ _ _ _ _ => (pv 3))))))))), fun D q => ?_⟩
  -- kept = {0: list(range(12))}
  refine fun p np => ⟨12, rfl, RgOk.of_le (by decide) (by decide) (by decide) (by decide), fun l nl => ?_⟩
  have sp := same_new (o := .dK []) np
  have sl := same_new (o := .lst (rgV 0 12)) nl
  have pl : p ≠ l := fun e => by subst e; rw [upd_same] at nl; cases nl
  have hp0 : upd (upd H p (.dK [])) l (.lst (rgV 0 12)) p = some (.dK []) := sl.dK upd_same
  refine ⟨hp0, [(Sum.inl 0, .ref l)], rfl, by show 1 ≤ 15; decide, ?_⟩
  have s1 : Le H (upd (upd (upd H p (.dK [])) l (.lst (rgV 0 12))) p (.dK (mergeK [] [((Sum.inl 0 : Key), V.ref l)]))) := (sp.trans sl).updN np (nt_dK hp0)
  have hp1 : (upd (upd (upd H p (.dK [])) l (.lst (rgV 0 12))) p (.dK (mergeK [] [((Sum.inl 0 : Key), V.ref l)]))) p = some (.dK [((Sum.inl 0 : Key), V.ref l)]) := upd_same
  have hl1 : (upd (upd (upd H p (.dK [])) l (.lst (rgV 0 12))) p (.dK (mergeK [] [((Sum.inl 0 : Key), V.ref l)]))) l = some (.lst (rgV 0 12)) := by rw [upd_ne pl.symm, upd_same]
  generalize (upd (upd (upd H p (.dK [])) l (.lst (rgV 0 12))) p (.dK (mergeK [] [((Sum.inl 0 : Key), V.ref l)]))) = H1 at s1 hp1 hl1
  have nO : ¬ O p := o.new np
  have nOl : ¬ O l := o.new (sp.free nl)
  have g1 : Le (hid O H) (hid (L2.plus O p) H1) := hid_add (hid_same s1) (by rw [hid_out nO]; exact np)
  have hX : ∀ {H' : Hp} {o' : HO}, Le H H' → H' p = some o' → Hid (L2.plus O p) H' := fun s e => (o.mono s).plus e
  have gk1 : gK E n 1 = [(0, labD E n 0)] := by
    show ((List.range 1).filter _).map _ = _
    have : gB E n 0 = true := by rw [gB, g_zero]; rfl
    rw [show List.range 1 = [0] from rfl, List.filter_cons, if_pos this]
    rfl
  have kv1 : KvAll (hid (L2.plus O p) H1) [((Sum.inl 0 : Key), V.ref l)] (gK E n 1) := by
    rw [gk1]
    refine .cons ?_ .nil
    have : labD E n 0 = dNats (List.range 12) := by
      unfold labD
      rw [g_zero]
      rfl
    rw [this]
    refine .lst (xs := vNats (List.range 12)) (.inl (.inl ?_)) (dq_nats _)
    rw [hid_out fun z => z.elim nOl pl.symm, hl1]
    rfl
  have e1 : 2 ^ n = 1 + (2 ^ n - 1) := by have := Nat.two_pow_pos n; omega
  have ebits : ∀ {te : TE} {σ : L2.St} {G : Hp} {i : Int}, Ed te σ G (.int i) → Ed (tBits te) σ G (.int (Builtin.Int.intBits i : Nat)) := fun {te σ G i} h O H1 o s Q q => h O H1 o s _ fun v H2 s2 hv => ⟨i, hv.int_inv, q _ H2 s2 (.int _)⟩
  refine for_iw (xs := List.range (2 ^ n - 1)) (G := hid (L2.plus O p) H1) (O := L2.plus O p) (iw_range2 (a := 1) (n := 2 ^ n - 1) (by omega) (ea_cons ed_int (ea_one (Ed.of (by rw [← e1]) (ed_bit (by omega) (ed_var rfl (h1.mono g1))))))) (hX s1 hp1) (.refl _) fun H2 s2 => ?_
  refine ⟨fun i σ H3 => ∃ x3 x4 x5 x6 x7 x8 ks, σ = [some v1, some v2, some (.ref p), x3, x4, x5, x6, x7, x8, none, none] ∧ Le H H3 ∧ Le (hid (L2.plus O p) H2) (hid (L2.plus O p) H3) ∧ H3 p = some (.dK ks) ∧ KvAll (hid (L2.plus O p) H3) ks (gK E n (1 + i)), ⟨none, none, none, none, none, none, _, rfl, s1.trans s2, .refl _, s2.dK hp1, kv1.mono (hid_same s2)⟩, fun i σ H4 _ h4 => by obtain ⟨_, _, _, _, _, _, _, _, _, h, _⟩ := h4; exact h, fun i x σ H3 hx h3 => ?_, fun σ H3 h3 => ?_⟩
  · obtain ⟨x3, x4, x5, x6, x7, x8, ks, rfl, s3, g3, hp3, kv3⟩ := h3
    refine ⟨L2.plus O p, hX s3 hp3, g3, fun σ4 H4 s4 hB => ?_⟩
    obtain ⟨xv, rfl, hxv⟩ := hB
    have hi : i < 2 ^ n - 1 := by have := (List.getElem?_eq_some_iff.mp hx).1; rwa [List.length_range] at this
    have ex : x = i := by rw [List.getElem?_range hi] at hx; exact (Option.some.inj hx).symm
    subst ex
    have exv := hxv.int_inv
    subst exv
    have ey : 1 + (x + 1) = 1 + x + 1 := by omega
    generalize hy : 1 + x = y at *
    have y0 : 0 < y := by omega
    have yl : y < 2 ^ n := by omega
    obtain ⟨b, hb, hlow, lo⟩ := low_bit2 y y0
    have hbn := lt_bit yl hb
    have es := eds_low (E := E) yl hb lo
    have cl := clr_lt hb
    have klen : ks.length ≤ y := by
      have := kv3.len'
      rw [List.length_map] at this
      have := gL_len E n y
      omega
    -- no turn changes anything
    have skip : ∀ (x4 x5 x6 x7 x8 : Option V) (H' : Hp), Le H4 H' → gB E n y = false → ∃ x3 x4' x5' x6' x7' x8' ks, [some v1, some v2, some (.ref p), some (.int (y : Nat)), x4, x5, x6, x7, x8, none, none] = [some v1, some v2, some (.ref p), x3, x4', x5', x6', x7', x8', none, none] ∧ Le H H' ∧ Le (hid (L2.plus O p) H2) (hid (L2.plus O p) H') ∧ H' p = some (.dK ks) ∧ KvAll (hid (L2.plus O p) H') ks (gK E n (1 + (x + 1))) := fun x4 x5 x6 x7 x8 H' s' e => by
      refine ⟨_, _, _, _, _, _, ks, rfl, s3.trans (s4.trans s'), g3.trans (hid_same (s4.trans s')), s'.dK (s4.dK hp3), ?_⟩
      rw [ey]
      unfold gK
      rw [gL_succ, if_neg (by rw [e]; exact Bool.false_ne_true), List.append_nil]
      exact kv3.mono (hid_same (s4.trans s'))
    have hp4 := s4.dK hp3
    have o4 := hX (s3.trans s4) hp4
    -- low
    refine asg_ed (G := hid (L2.plus O p) H4) (O := L2.plus O p) (d := dNat (2 ^ b)) (Ed.of (congrArg PyData.int (low_and y0 hb hlow)) (ed_I0 (ed_var rfl (.int _)) (ed_I0 (g := fun i j => i - j) ed_int (ed_var rfl (.int _))))) o4 (.refl _) fun lv H5 s5 hlv => ?_
    have elv := hlv.int_inv
    subst elv
    have hp5 := s5.dK hp4
    have o5 := hX ((s3.trans s4).trans s5) hp5
    -- where
    dsimp only [gName, tSeq]
    refine asg_raw ?_
    refine ⟨.ref p, rfl, p, rfl, .inl ⟨ks, .inl hp5⟩, ?_⟩
    refine asg1 (G := hid (L2.plus O p) H5) (O := L2.plus O p) (d := dNat (y ^^^ 2 ^ b)) (ed_xor (ed_var rfl (.int _)) (ed_var rfl (.int _))) o5 (.refl _) fun yv H6 s6 hyv => ?_
    have eyv := hyv.int_inv
    subst eyv
    rw [xor_clr hb]
    have hp6 := s6.dK hp5
    have s46 := s5.trans s6
    have s06 := (s3.trans s4).trans s46
    have o6 := hX s06 hp6
    have kv6 := kv3.mono (hid_same (s4.trans s46))
    refine ⟨_, DGet.k (k := Sum.inl ((clr y b : Nat) : Int)) hp6, ?_⟩
    rcases kv6.look ((clr y b : Nat) : Int) with ⟨e, nk⟩ | ⟨u, d', e, du, mm⟩
    · rw [e]
      have gf : gB E n (clr y b) = false := by
        cases q : gB E n (clr y b) with
        | false => rfl
        | true => exact absurd (List.mem_map.mpr ⟨_, List.mem_map.mpr ⟨clr y b, mem_gL.mpr ⟨cl, q⟩, rfl⟩, rfl⟩) nk
      refine if_eb (b := false) (G := hid (L2.plus O p) H6) (O := L2.plus O p) (eb_test (ed_notN (d := .none) (ed_var rfl .non) ed_non)) o6 (.refl _) (fun z => nomatch z) fun _ H7 s7 => ?_
      exact skip _ _ _ _ _ H7 (s46.trans s7) (by rw [gB, es, XM.okOf]; show (gB E n (clr y b) && _) = false; rw [gf]; rfl)
    · rw [e]
      obtain ⟨m', hm', e'⟩ := List.mem_map.mp mm
      have em : m' = clr y b := by
        have := (Prod.mk.inj e').1
        omega
      subst em
      have ed : labD E n (clr y b) = d' := (Prod.mk.inj e').2
      subst ed
      have gt := (mem_gL.mp hm').2
      generalize hL : XM.labOf (XM.eds E n (clr y b)) = L at *
      have du : Dq (hid (L2.plus O p) H6) u (dNats ((List.range 12).map L)) := by rw [← hL]; exact du
      refine if_eb (b := true) (G := hid (L2.plus O p) H6) (O := L2.plus O p) (eb_test (ed_notN (d := dNats ((List.range 12).map L)) (ed_var rfl du) ed_non)) o6 (.refl _) (fun _ H7 s7 => ?_) fun z => nomatch z
      obtain ⟨gb1, gb2, gb3⟩ := get b hbn
      have s07 := s06.trans s7
      have o7 := hX s07 (s7.dK hp6)
      have g17 : Le (hid O H) (hid (L2.plus O p) H7) := g1.trans ((hid_same s2).trans (g3.trans (hid_same (s4.trans (s46.trans s7)))))
      -- line
      refine asg_ed (G := hid (L2.plus O p) H7) (O := L2.plus O p) (d := dEdge (E b)) (ed_ixT (n := b) gb1 (ed_var rfl (h2.mono g17)) (Ed.of (congrArg PyData.int (bits_pow b)) (ed_I0 (g := fun i j => i - j) (ebits (ed_var rfl (.int _))) ed_int))) o7 (.refl _) fun ev H8 s8 hev => ?_
      have du8 := du.mono (hid_same (s7.trans s8))
      have o8 := hX (s07.trans s8) (s8.dK (s7.dK hp6))
      have lab : ∀ k : Nat, k < 12 → (((List.range 12).map L).map dNat)[k]? = some (dNat (L k)) := fun k hk => by
        rw [List.getElem?_map, List.getElem?_map, List.getElem?_range hk]
        rfl
      -- first, last
      dsimp only [gName, tSeq]
      refine pairA_seq ?_
      refine asg1 (G := hid (L2.plus O p) H8) (O := L2.plus O p) (d := dNat (L (E b).1)) (ed_ixL (n := (E b).1) (lab _ gb2) (ed_var rfl du8) (ed_ixT (n := 0) (ds := [dNat (E b).1, dNat (E b).2]) rfl (ed_var rfl hev) ed_int)) o8 (.refl _) fun fv H9 s9 hfv => ?_
      have efv := hfv.int_inv
      subst efv
      have o9 := hX ((s07.trans s8).trans s9) (s9.dK (s8.dK (s7.dK hp6)))
      refine asg1 (G := hid (L2.plus O p) H9) (O := L2.plus O p) (d := dNat (L (E b).2)) (ed_ixL (n := (E b).2) (lab _ gb3) (ed_var rfl (du8.mono (hid_same s9))) (ed_ixT (n := 1) (ds := [dNat (E b).1, dNat (E b).2]) rfl (ed_var rfl (hev.mono (hid_same s9))) ed_int)) o9 (.refl _) fun gv Ha sa hgv => pairA_fin fun Hb sb => ?_
      have egv := hgv.int_inv
      subst egv
      have s8b := s9.trans (sa.trans sb)
      have s7b := s8.trans s8b
      have s0b := s07.trans s7b
      have hpb := s7b.dK (s7.dK hp6)
      have ob := hX s0b hpb
      refine if_eb (b := !decide (((L (E b).1 : Nat) : Int) = ((L (E b).2 : Nat) : Int))) (G := hid (L2.plus O p) Hb) (O := L2.plus O p) (eb_test (ed_neI (ed_var rfl (.int _)) (ed_var rfl (.int _)))) ob (.refl _) (fun z Hc sc => ?_) fun z Hc sc => ?_
      · have ne : L (E b).1 ≠ L (E b).2 := fun w => by rw [w] at z; simp at z
        have sbc := s7b.trans sc
        have hpc := sc.dK hpb
        have oc := hX (s0b.trans sc) hpc
        have duc := du.mono (hid_same (s7.trans sbc))
        refine asg1 (G := hid (L2.plus O p) Hc) (O := L2.plus O p) (d := dNats ((List.range 12).map (XM.mrg L (L (E b).1) (L (E b).2)))) (Ed.of ?_ (ed_lc (fun _ => true) (fun k : Nat => dNat (if k = L (E b).2 then L (E b).1 else k)) (xs := (List.range 12).map L) (by rw [List.length_map, List.length_range]; decide) (iw_list (φ := dNat) (ed_var rfl duc)) (fun x σ4 H4 ⟨v, e, _⟩ => by subst e; rfl) ?_)) oc (.refl _) fun nv Hd sd hnv => ?_
        · rw [filt_t, dNats, List.map_map, List.map_map]
          rfl
        · rintro k hk σ2 Hx sx ⟨w, rfl, dw⟩
          refine ⟨eb_yes, fun _ => ?_⟩
          refine ed_if (c := decide (k = L (E b).2)) (Eb.of (decide_eq_decide.mpr Int.ofNat_inj) (eb_test (ed_eqI (ed_var rfl dw) (ed_var rfl (.int _))))) (fun e => ?_) fun e => ?_
          · rw [if_pos (of_decide_eq_true e)]
            exact ed_var rfl (.int _)
          · rw [if_neg (of_decide_eq_false e)]
            exact ed_var rfl dw
        · have hpd := sd.dK hpc
          have s4d := s46.trans (s7.trans (sbc.trans sd))
          refine ⟨.ref p, rfl, .int (y : Nat), rfl, p, _, rfl, DPut.k (k := Sum.inl ((y : Nat) : Int)) hpd (Nat.lt_of_le_of_lt klen (Nat.lt_of_lt_of_le (show y < 2000 by omega) (by decide))), ?_⟩
          have new : valV ks (Sum.inl ((y : Nat) : Int)) = none := by
            rcases kv6.look ((y : Nat) : Int) with ⟨e, _⟩ | ⟨_, d', _, _, mm⟩
            · exact e
            · obtain ⟨m', hm', e'⟩ := List.mem_map.mp mm
              have := (Prod.mk.inj e').1
              have := (mem_gL.mp hm').1
              omega
          rw [putK_new _ new]
          refine ⟨_, _, _, _, _, _, ks ++ [(Sum.inl ((y : Nat) : Int), nv)], rfl, ?_, ?_, upd_same, ?_⟩
          · exact (s06.trans (s7.trans (sbc.trans sd))).updN np (nt_dK hpd)
          · rw [hid_upd O (nt_dK hpd) rfl]
            exact g3.trans (hid_same (s4.trans s4d))
          · rw [hid_upd O (nt_dK hpd) rfl]
            have gy : gB E n y = true := by
              rw [gB, es, XM.okOf, Bool.and_eq_true, decide_eq_true_eq, hL]
              exact ⟨gt, ne⟩
            have lv : labD E n y = dNats ((List.range 12).map (XM.mrg L (L (E b).1) (L (E b).2))) := by
              unfold labD
              rw [es]
              show dNats ((List.range 12).map (XM.mrg (XM.labOf (XM.eds E n (clr y b))) _ _)) = _
              rw [hL]
            rw [ey]
            unfold gK
            rw [gL_succ, if_pos gy, List.map_append]
            refine KvAll.snoc (kv3.mono (hid_same (s4.trans s4d))) ?_
            rw [lv]
            exact hnv
      · have eq : L (E b).1 = L (E b).2 := by
          have : ((L (E b).1 : Nat) : Int) = ((L (E b).2 : Nat) : Int) := by simpa using z
          omega
        exact skip _ _ _ _ _ Hc (s46.trans (s7.trans (s7b.trans sc))) (by rw [gB, es, XM.okOf, hL, eq]; simp)
  · obtain ⟨x3, x4, x5, x6, x7, x8, ks, rfl, s3, g3, hp3, kv3⟩ := h3
    rw [List.length_range, ← e1] at kv3
    have o3 := o.mono s3
    have vis : hid O H3 p = some (.dK ks) := by rw [hid_out nO]; exact hp3
    have kvo : KvAll (hid O H3) ks (gK E n (2 ^ n)) := kv3.mono (hid_plus _ _ _)
    have keys : (gK E n (2 ^ n)).map (·.1) = (gM E n).map fun m : Nat => (m : Int) := by
      show ((gM E n).map _).map _ = _
      rw [List.map_map]
      rfl
    have fl : (gM E n).length ≤ 2 ^ n := gL_len E n (2 ^ n)
    have walk : ∀ {σ : L2.St} {G : Hp} {od : Obj} {j : Nat}, σ[2]? = some (some (.ref p)) → G p = some (.dK ks) → KvAll G ks (gK E n (2 ^ n)) → Iw (iKeys (tVar 2)) (gName j) σ (lockK G p od ks) (gM E n) (B1 j dNat) := fun {σ G od j} hs hg hk => by
      have := iw_keysI (j := j) (od := od) hs (upd_same (H := G) (a := p)) (hk.but (nosq_dK hg) (fun xs z => by rw [hg] at z; cases z) fun b ne => upd_ne ne)
      rw [keys] at this
      exact iw_map (f := fun m : Nat => (m : Int)) (φ := PyData.int) this
    refine asg_ed (G := hid O H3) (O := O) (d := dNat most) (ed_max (ns := (gM E n).map fun m => ((MB.cnt n m : Nat) : Int)) (m := ((most : Nat) : Int)) ?_ (fun z hz => ?_) (ed_lockK vis fun od => Ed.of ?_ (ed_lc (fun _ => true) (fun m : Nat => dNat (MB.cnt n m)) (xs := gM E n) (by omega) (walk rfl vis kvo) (fun x σ4 H4 ⟨v, e, _⟩ => by subst e; rfl) ?_))) o3 (.refl _) fun mv H4 s4 hmv => ?_
    · obtain ⟨m, hm, e⟩ := List.mem_map.mp hm1
      exact List.mem_map.mpr ⟨m, hm, by rw [e]⟩
    · obtain ⟨m, hm, rfl⟩ := List.mem_map.mp hz
      exact Int.ofNat_le.mpr (hm2 _ (List.mem_map.mpr ⟨m, hm, rfl⟩))
    · rw [filt_t, List.map_map]
      rfl
    · rintro m hm σ2 Ha sa ⟨u, rfl, du⟩
      exact ⟨eb_yes, fun _ => ed_call ⟨n, m, rfl, (mem_gL.mp hm).1, rfl⟩ (ea_one (ed_var rfl du))⟩
    have emv := hmv.int_inv
    subst emv
    have vis4 : hid O H4 p = some (.dK ks) := by rw [hid_out nO]; exact s4.dK hp3
    refine ret_ed (G := hid O H4) (O := O) (ed_lockK vis4 fun od => ed_lc (fun m => decide (MB.cnt n m = most)) dNat (xs := gM E n) (by omega) (walk rfl vis4 (kvo.mono (hid_same s4))) (fun x σ4 H4 ⟨v, e, _⟩ => by subst e; rfl) ?_) (o3.mono s4) (.refl _) fun v H5 s5 hv => q v H5 (s3.trans (s4.trans s5)) hv
    rintro m hm σ2 Ha sa ⟨u, rfl, du⟩
    exact ⟨Eb.of (decide_eq_decide.mpr Int.ofNat_inj) (eb_test (ed_eqI (ed_call (d := dNat (MB.cnt n m)) ⟨n, m, rfl, (mem_gL.mp hm).1, rfl⟩ (ea_one (ed_var rfl du))) (ed_var rfl (.int _)))), fun _ => ed_var rfl du⟩
end
end K9

set_option Elab.async false
set_option linter.all false
set_option maxRecDepth 100000
namespace K9
open PySem PySem.Spec PyProof.Rows L2 PySem.W MB
/-- elements as a ground has them, few of them -/
structure Els (l : List Int) : Prop where
  len : l.length ≤ 10
  els : ∀ x, x ∈ l → 0 ≤ x ∧ x ≤ 199
theorem toStr_len (n : Nat) (h : n < 200) : ((toString (n : Int) : String) : Str).length ≤ 3 := by
  have : ∀ n : Fin 200, ((toString ((n.val : Nat) : Int) : String) : Str).length ≤ 3 := by decide +kernel
  exact this ⟨n, h⟩
theorem shown_int {x : Int} (h : 0 ≤ x ∧ x ≤ 199) : (PyData.shown (.int x)).length ≤ 3 := by
  obtain ⟨n, rfl⟩ : ∃ n : Nat, x = (n : Int) := ⟨x.toNat, by omega⟩
  exact toStr_len n (by omega)
theorem piled_le (c : Nat) : ∀ ts : List Str, (∀ t, t ∈ ts → t.length ≤ c) → piled ts ≤ (c + 2) * ts.length
  | [], _ => by simp [piled]
  | t :: ts, h => by
    have := piled_le c ts fun x hx => h x (List.mem_cons_of_mem _ hx)
    have := h t List.mem_cons_self
    rw [piled_cons, List.length_cons, Nat.mul_succ]
    omega
theorem tup_len (ts : List Str) (c : Nat) (h : ∀ t, t ∈ ts → t.length ≤ c) : (tupleText ts).length ≤ 3 + (c + 2) * ts.length := by
  have hp := piled_le c ts h
  have hj : (Str.join ", " ts).length ≤ piled ts := by
    by_cases e : ts = []
    · subst e; simp [piled]; rfl
    · have := join_length_add ts e
      omega
  have he : ((if ts.length == 1 then ",)" else ")" : String) : Str).length ≤ 2 := by
    split <;> decide +kernel
  have ho : (("(" : String) : Str).length = 1 := by decide +kernel
  unfold tupleText
  simp only [Str.length_append]
  omega
theorem shownAll_map : ∀ ds : List PyData, PyData.shownAll ds = ds.map PyData.shown
  | [] => rfl
  | d :: r => by rw [PyData.shownAll, shownAll_map r]; rfl
theorem show_ints {l : List Int} (h : Els l) : (PyData.shown (dSet l)).length ≤ 60 := by
  show (PyData.shown (.tuple (l.map .int))).length ≤ 60
  rw [PyData.shown, shownAll_map]
  refine Nat.le_trans (tup_len _ 3 fun t ht => ?_) (by rw [List.length_map, List.length_map]; have := h.len; omega)
  rw [List.map_map] at ht
  obtain ⟨x, hx, rfl⟩ := List.mem_map.mp ht
  exact shown_int (h.els x hx)
theorem show_sets {ls : List (List Int)} (h : ∀ l, l ∈ ls → Els l) (hn : ls.length ≤ 5000) : (PyData.shown (dSets ls)).length ≤ sizeLine := by
  show (PyData.shown (.tuple (ls.map dSet))).length ≤ sizeLine
  rw [PyData.shown, shownAll_map]
  refine Nat.le_trans (tup_len _ 60 fun t ht => ?_) (by rw [List.length_map, List.length_map]; refine Nat.le_trans (m := 400000) (by omega) (by decide))
  rw [List.map_map] at ht
  obtain ⟨x, hx, rfl⟩ := List.mem_map.mp ht
  exact show_ints (h x hx)
theorem showable_ints : ∀ {l : List Int}, (∀ x, x ∈ l → 0 ≤ x ∧ x ≤ 199) → PyData.showableAll (l.map .int) = true
  | [], _ => rfl
  | x :: l, h => by
    rw [List.map_cons, PyData.showableAll, showable_ints fun y hy => h y (List.mem_cons_of_mem _ hy), Bool.and_true]
    have hx := h x List.mem_cons_self
    show decide (x.natAbs.log2 < 1920) = true
    rw [decide_eq_true_eq]
    refine Nat.lt_of_le_of_lt (Nat.log2_le_self _) ?_
    omega
theorem showable_sets : ∀ {ls : List (List Int)}, (∀ l, l ∈ ls → Els l) → PyData.showableAll (ls.map dSet) = true
  | [], _ => rfl
  | l :: ls, h => by
    rw [List.map_cons, PyData.showableAll, showable_sets fun y hy => h y (List.mem_cons_of_mem _ hy), Bool.and_true]
    show PyData.showable (.tuple (l.map .int)) = true
    rw [PyData.showable]
    exact showable_ints (h l List.mem_cons_self).els
theorem showNone : ShowD .none := ⟨.inl rfl, rfl, rfl, by decide, by show (("None" : String) : Str).length ≤ sizeLine; decide +kernel⟩
theorem showSet {l : List Int} (h : Els l) : ShowD (dSet l) where
  kd := .inr (.inl ⟨_, rfl⟩)
  sh := by
    show PyData.showable (.tuple (l.map .int)) = true
    rw [PyData.showable]
    exact showable_ints h.els
  nd := PyData.hasDict_of_canLay _ (by
    show PyData.canLay0 (.tuple (l.map .int)) = true
    rw [PyData.canLay0, canInts])
  dp := by
    show (PyData.tuple (l.map .int)).depth ≤ 60
    have := depthInts l
    rw [PyData.depth]
    omega
  ln := Nat.le_trans (show_ints h) (by decide)
theorem showSets {ls : List (List Int)} (h : ∀ l, l ∈ ls → Els l) (hn : ls.length ≤ 5000) : ShowD (dSets ls) where
  kd := .inr (.inl ⟨_, rfl⟩)
  sh := by
    show PyData.showable (.tuple (ls.map dSet)) = true
    rw [PyData.showable]
    exact showable_sets h
  nd := PyData.hasDict_of_canLay _ (by
    show PyData.canLay0 (.tuple (ls.map dSet)) = true
    rw [PyData.canLay0, canSets])
  dp := by
    show (PyData.tuple (ls.map dSet)).depth ≤ 60
    have := depthSets ls
    rw [PyData.depth]
    omega
  ln := show_sets h hn
/-- what repr tells, and how much -/
structure Shw (c k : Nat) (d : PyData) : Prop where
  ln : d.shown.length ≤ c
  sh : d.showable = true
  cl : d.canLay0 = true
  dp : d.depth ≤ k
theorem Shw.le {c c' k k' : Nat} {d : PyData} (h : Shw c k d) (hc : c ≤ c') (hk : k ≤ k') : Shw c' k' d := ⟨Nat.le_trans h.ln hc, h.sh, h.cl, Nat.le_trans h.dp hk⟩
theorem ShowD.of {c k : Nat} {d : PyData} (h : Shw c k d) (hc : c ≤ sizeLine) (hk : k ≤ 60) (kd : d = .none ∨ (∃ ds, d = .tuple ds) ∨ ∃ ds, d = .list ds) : ShowD d :=
  ⟨kd, h.sh, PyData.hasDict_of_canLay _ h.cl, Nat.le_trans h.dp hk, Nat.le_trans h.ln hc⟩
theorem shw_nat {n : Nat} (h : n < 200) : Shw 3 1 (dNat n) where
  ln := toStr_len n h
  sh := by
    show decide ((n : Int).natAbs.log2 < 1920) = true
    rw [decide_eq_true_eq]
    refine Nat.lt_of_le_of_lt (Nat.log2_le_self _) ?_
    omega
  cl := rfl
  dp := by show (PyData.int _).depth ≤ 1; simp [PyData.depth]
theorem shw_bool (b : Bool) : Shw 5 1 (.bool b) where
  ln := by cases b <;> decide +kernel
  sh := rfl
  cl := rfl
  dp := by simp [PyData.depth]
theorem shw_none : Shw 5 1 .none where
  ln := by decide +kernel
  sh := rfl
  cl := rfl
  dp := by simp [PyData.depth]
theorem shw_set {l : List Int} (h : Els l) : Shw 60 3 (dSet l) where
  ln := show_ints h
  sh := (showSet h).sh
  cl := by
    show PyData.canLay0 (.tuple (l.map .int)) = true
    rw [PyData.canLay0, canInts]
  dp := by
    show (PyData.tuple (l.map .int)).depth ≤ 3
    have := depthInts l
    rw [PyData.depth]
    omega
theorem shw_sets {ls : List (List Int)} (h : ∀ l, l ∈ ls → Els l) (hn : ls.length ≤ 5000) : Shw 400000 3 (dSets ls) where
  ln := by
    show (PyData.shown (.tuple (ls.map dSet))).length ≤ 400000
    rw [PyData.shown, shownAll_map]
    refine Nat.le_trans (tup_len _ 60 fun t ht => ?_) (by rw [List.length_map, List.length_map]; omega)
    rw [List.map_map] at ht
    obtain ⟨x, hx, rfl⟩ := List.mem_map.mp ht
    exact show_ints (h x hx)
  sh := (showSets h hn).sh
  cl := by
    show PyData.canLay0 (.tuple (ls.map dSet)) = true
    rw [PyData.canLay0, canSets]
  dp := by
    show (PyData.tuple (ls.map dSet)).depth ≤ 3
    have := depthSets ls
    rw [PyData.depth]
    omega
theorem from_len (c : Nat) : ∀ (ts : List Str) (k : Nat) (acc : Str), (∀ t, t ∈ ts → t.length ≤ c) → (textFrom k acc ts).length ≤ acc.length + (c + 2) * ts.length
  | [], _, _, _ => Nat.le_refl _
  | t :: ts, k, acc, h => by
    have h1 := h t List.mem_cons_self
    refine Nat.le_trans (from_len c ts _ _ fun x hx => h x (List.mem_cons_of_mem _ hx)) ?_
    have h2 : ((", " : String) : Str).length = 2 := by decide +kernel
    have h3 : (("" : String) : Str).length = 0 := by decide +kernel
    rw [List.length_cons, Nat.mul_succ]
    split
    all_goals
      simp only [Str.length_append, h2, h3]
      omega
theorem showAll {ds : List PyData} : (∀ d, d ∈ ds → d.showable = true) → PyData.showableAll ds = true := by
  induction ds with
  | nil => exact fun _ => rfl
  | cons d r ih => exact fun h => by rw [PyData.showableAll, h d List.mem_cons_self, ih fun x hx => h x (List.mem_cons_of_mem _ hx)]; rfl
theorem layAll {ds : List PyData} : (∀ d, d ∈ ds → d.canLay0 = true) → PyData.canLayAll0 ds = true := by
  induction ds with
  | nil => exact fun _ => rfl
  | cons d r ih => exact fun h => by rw [PyData.canLayAll0, h d List.mem_cons_self, ih fun x hx => h x (List.mem_cons_of_mem _ hx)]; rfl
theorem depAll {k : Nat} {ds : List PyData} : (∀ d, d ∈ ds → d.depth ≤ k) → PyData.depthAll ds ≤ k := by
  induction ds with
  | nil => exact fun _ => by simp [PyData.depthAll]
  | cons d r ih =>
    intro h
    have h1 := h d List.mem_cons_self
    have h2 := ih fun x hx => h x (List.mem_cons_of_mem _ hx)
    simp only [PyData.depthAll]
    omega
theorem shw_list {c k n : Nat} {ds : List PyData} (h : ∀ d, d ∈ ds → Shw c k d) (hn : ds.length ≤ n) : Shw (4 + (c + 2) * n) (k + 1) (.list ds) where
  ln := by
    rw [PyData.shown, shownAll_map]
    unfold listText
    have h1 := from_len c (ds.map PyData.shown) 0 "[" (fun t ht => by
      obtain ⟨x, hx, rfl⟩ := List.mem_map.mp ht
      exact (h x hx).ln)
    have h2 : (("[" : String) : Str).length = 1 := by decide +kernel
    have h3 : (("]" : String) : Str).length = 1 := by decide +kernel
    have h4 := Nat.mul_le_mul_left (c + 2) hn
    rw [List.length_map] at h1
    simp only [Str.length_append]
    omega
  sh := by rw [PyData.showable]; exact showAll fun d hd => (h d hd).sh
  cl := by rw [PyData.canLay0]; exact layAll fun d hd => (h d hd).cl
  dp := by
    have := depAll fun d hd => (h d hd).dp
    rw [PyData.depth]
    omega
end K9

set_option Elab.async false
set_option linter.all false
set_option maxRecDepth 100000
/-! o.m(k = v, ..), all by name -/
namespace L2
open PySem PySem.Spec PyProof.Rows PySem.W
def tMethN (C : Addr) (m : Str) (k : Nat) (sp : Sp) (gV : List V → List V → List V) (E : XK) (ta : TE) (tk : TA) : TE := fun σ H Q => ta σ H fun x H1 => ∃ a dx fs, x = .ref a ∧ H1 a = some (.ins C dx fs) ∧ fs.lookup m = none ∧
  tk σ H1 fun zs H2 => zs.length = k ∧ sp (gV [x] zs) H2 Q E
section
variable {X : Cx} {CX : CXT} {k : Nat} {f C : Addr} {fd : FuncData} {ps ks : List Str} {sp : Sp} {E : XK} {m : Str} {pos apos : Pos} {o : Expr} {kws : List Keyword} {ta : TE} {tk : TA} {g : List Value → List Value → List Value} {gV : List V → List V → List V}
theorem pe_methN0 {pl : Sem Bool} (he : PE X o ta) (c : Cls X.K C) (hm : Meth X.K C m f) (F : FnOk X.prog X.w X.K X.mg X.base CX k f fd ps sp) (hr : Room k X.A) (hb : KBn X.K fd ps 1 ks g gV) (hx : Passes CX X E) (hkw : PK X kws tk)
    (hall : (backToKw pos (keywordEach kws X.env)).all (·.1.isSome) = true := by rfl) (hks : (backToKw pos (keywordEach kws X.env)).filterMap (·.1) = ks := by rfl)
    (hpl : ((backTo pos (starEach [] X.env)).any (·.1) || (backToKw pos (keywordEach kws X.env)).any (·.1.isNone)) = false := by rfl)
    (ht : eval (.Call (.Attribute o m apos) [] kws pos) X.env = (do
      let own ← eval o X.env
      standAt apos.atName
      let (g, front) ← holding [own] (getMethod own m pl)
      callWith pos g front (backTo pos (starEach [] X.env)) (backToKw pos (keywordEach kws X.env))) := by rfl) :
    PE X (.Call (.Attribute o m apos) [] kws pos) (tMethN C m ks.length sp gV E ta tk) := by
  refine ⟨fun pins s σ H Q I hh => ?_⟩
  refine PySem.W.methodCall_KW (pl := pl) (thn (he.run pins s σ H _ I hh) fun u s1 ⟨x, H1, I1, rx, a, dx, fs, ex, ea, nl, q⟩ => ?_) ht
  subst ex
  obtain rfl : u = Value.ref a := rx
  refine getmeth_ok I1 ea c hm nl (PySem.W.callWith_KW0 (first := [.ref a]) (h₀ := X.base) I.ok.mod.kin hm.kp hall (thn (hkw.run pos pins s1 σ H1 _ I1 q) fun ws s2 ⟨zs, H2, I2, rz, l2, q2⟩ => ⟨I2.kIn, ?_⟩) hpl)
  rw [hks]
  exact run_fnN (us := [.ref a]) (vs := [.ref a]) F hr hb hx I2 (.cons rfl .nil) rz rfl l2 q2
end
theorem kbn_all {K : PySem.W.Frag} {x qual a b c : Str} {st : Stmt} {f : Addr} {fd : FuncData} (F : Fun K x qual st f fd)
    (h : ∀ (kV doc pm : Value) (an : Option Addr) (cdv ct : Value) (u v w : Value), bindArgs (PySem.W.fnOf x qual (defArgs st) (defBody st) (defScope st) .none kV doc pm an cdv ct) ⟨[u], [b, c].zip [v, w]⟩ = pure ([a, b, c].zip [u, v, w])) :
    KBn K fd [a, b, c] 1 [b, c] (fun us ws => us ++ ws) (fun vs zs => vs ++ zs) := by
  obtain ⟨oc, od, kV, doc, pm, an, cdv, ct, osl, rfl, lk, hcd⟩ := F.ex
  exact ⟨fun s us ws _ l1 l2 => match us, ws, l1, l2 with | [u], [v, w], _, _ => .of_eq (h kV doc pm an cdv ct u v w), fun r1 r2 => r1.append r2⟩
theorem ev_methN {C : Addr} {σ : L2.St} {G : Hp} {to : TE} {g : List Int} {bs : List (List Int)} {m : Str} {k : Nat} {R : List Vl → Vl → Prop} {E : XK} {a : TA} {xs : List Vl} {x : Vl} (hm : ∀ a b c d e, (flds5 a b c d e).lookup m = none) (ho : Eo C to σ G g bs) (ha : Ex C a σ G xs) (hk : xs.length = k) (hr : R (.m g bs :: xs) x) : Ev C (tMethN C m k (spX C R) (fun vs zs => vs ++ zs) E to a) σ G x := fun O H1 o s Q q =>
  ho O H1 o s _ fun p H2 s2 hm2 => by
    obtain ⟨dx, v1, v2, v3, v4, v5, hp, _⟩ := id hm2
    refine ⟨p, dx, _, rfl, (hid_some hp).1, hm _ _ _ _ _, ha O H2 (o.mono s2) (s.trans (hid_same s2)) _ fun vs H3 s3 hv => ⟨hv.len.trans hk, ?_⟩⟩
    exact ⟨O, _, x, o.mono (s2.trans s3), .cons (.m (hm2.mono (hid_same s3))) hv, hr, fun v H4 s4 dv => q v H4 ((s2.trans s3).trans s4) dv⟩
end L2

set_option Elab.async false
set_option linter.all false
set_option maxRecDepth 100000
/-! f(k = v, ..), all by name -/
namespace L2
open PySem PySem.Spec PyProof.Rows PySem.W
def tCallN0 (k : Nat) (sp : Sp) (gV : List V → List V → List V) (E : XK) (tk : TA) : TE := fun σ H Q => tk σ H fun zs H1 => zs.length = k ∧ sp (gV [] zs) H1 Q E
section
variable {X : Cx} {CX : CXT} {k : Nat} {f : Addr} {fd : FuncData} {ps ks : List Str} {sp : Sp} {E : XK} {x : Str} {pos p : Pos} {kws : List Keyword} {tk : TA} {g : List Value → List Value → List Value} {gV : List V → List V → List V}
theorem pe_callN0 (F : FnOk X.prog X.w X.K X.mg X.base CX k f fd ps sp) (hr : Room k X.A) (hg : Gl X x) (hm : X.mg x = some (.ref f)) (hk : PySem.W.keepIn X.K (.ref f) = true) (hb : KBn X.K fd ps 0 ks g gV) (hx : Passes CX X E) (hkw : PK X kws tk)
    (hall : (backToKw pos (keywordEach kws X.env)).all (·.1.isSome) = true := by rfl) (hks : (backToKw pos (keywordEach kws X.env)).filterMap (·.1) = ks := by rfl)
    (hdb : (x == ("__debug__" : Str)) = false := by decide)
    (hpl : ((backTo pos (starEach [] X.env)).any (·.1) || (backToKw pos (keywordEach kws X.env)).any (·.1.isNone)) = false := by rfl) :
    PE X (.Call (.Name x p) [] kws pos) (tCallN0 ks.length sp gV E tk) := by
  refine ⟨fun pins s σ H Q I h => ?_⟩
  refine wpAny_Call_Name_kw (ld_glob I hg hm ?_ hdb)
  refine PySem.W.callWith_KW0 (first := []) (h₀ := X.base) I.ok.mod.kin hk hall (thn (hkw.run pos pins s σ H _ I h) fun ws s2 ⟨zs, H2, I2, rz, l2, q2⟩ => ⟨I2.kIn, ?_⟩) hpl
  rw [hks]
  exact run_fnN (us := []) (vs := []) F hr hb hx I2 .nil rz rfl l2 q2
end
theorem kbf1 {K : PySem.W.Frag} {x qual a : Str} {st : Stmt} {f : Addr} {fd : FuncData} (F : Fun K x qual st f fd)
    (h : ∀ (kV doc pm : Value) (an : Option Addr) (cdv ct : Value) (v : Value), bindArgs (PySem.W.fnOf x qual (defArgs st) (defBody st) (defScope st) .none kV doc pm an cdv ct) ⟨[], [a].zip [v]⟩ = pure ([a].zip [v])) :
    KBn K fd [a] 0 [a] (fun us ws => us ++ ws) (fun vs zs => vs ++ zs) := by
  obtain ⟨oc, od, kV, doc, pm, an, cdv, ct, osl, rfl, lk, hcd⟩ := F.ex
  exact ⟨fun s us ws _ l1 l2 => match us, ws, l1, l2 with | [], [v], _, _ => .of_eq (h kV doc pm an cdv ct v), fun r1 r2 => r1.append r2⟩
theorem ev_callN0 {C : Addr} {σ : L2.St} {G : Hp} {k : Nat} {R : List Vl → Vl → Prop} {E : XK} {a : TA} {xs : List Vl} {x : Vl} (ha : Ex C a σ G xs) (hk : xs.length = k) (hr : R xs x) : Ev C (tCallN0 k (spX C R) (fun vs zs => vs ++ zs) E a) σ G x := fun O H1 o s Q q =>
  ha O H1 o s _ fun vs H3 s3 hv => ⟨hv.len.trans hk, O, _, x, o.mono s3, hv, hr, fun v H4 s4 dv => q v H4 (s3.trans s4) dv⟩
end L2

set_option Elab.async false
set_option linter.all false
set_option maxRecDepth 100000
namespace K9
open PySem PySem.Spec PyProof.Rows L2 PySem.W MB
/-! ### drawn on a source made within -/
theorem hid_xm {m : Addr} {H : Hp} : hid (plus N0 m) H = hid (XM m) H := by
  have : plus N0 m = XM m := funext fun b => propext ⟨fun h => h.elim (fun z => z.elim) id, .inr⟩
  rw [this]
theorem ks_new {m : Addr} {H H2 H3 : Hp} (s : Le H H2) (nm : H m = none) (k : KS m H2 H3) : Le H H3 := by
  have h : Le H (hid (plus N0 m) H2) := hid_add (by rw [show hid N0 H2 = H2 from hid_no H2]; exact s) nm
  rw [hid_xm] at h
  exact (h.trans k).trans (hid_sub _ _)
theorem sort_done {l : List (List Int)} (h : l.Pairwise fun a b => HT.lexLt b a = false) : sortS l = l := by
  unfold sortS
  exact List.mergeSort_of_pairwise (h.imp fun {a b} e => by rw [leS_le, e]; rfl)
theorem bs_done {g : List Int} {B : List Nat} {ls : List (List Int)} (e : B.map (setOf · g) = ls) (h : ascB HT.lexLt ls = true) : bsOf g B = ls := by
  unfold bsOf
  rw [e]
  exact sort_done (((ascB_iff lt_tr _).mp h).imp fun {a b} h => by
    cases z : HT.lexLt b a with
    | false => rfl
    | true =>
      have := lt_tr _ _ _ h z
      rw [lt_irr] at this
      cases this)
theorem rkF_given {g : List Int} {n : Nat} {B : List Nat} (hg : IsGrd g n) (M : MatM n B) : rkF g (bsOf g B) = rankOf n B := by
  have lt : ∀ b, b ∈ B → b < 2 ^ g.length := by rw [hg.len]; exact M.lt
  funext m
  show rankOf g.length _ m = _
  rw [hg.len]
  exact rank_same (fun b => (msks_perm hg.nd lt).mem_iff) m
theorem show_bs {g : List Int} {n : Nat} {B : List Nat} (hg : IsGrd g n) (hB : B.length ≤ 5000) : ShowD (dSets (bsOf g B)) := ShowD.of (shw_sets (fun l hl => by
  obtain ⟨m, _, rfl⟩ := List.mem_map.mp ((bs_perm g B).mem_iff.mp hl)
  have few := hg.few
  have len := hg.len
  exact ⟨Nat.le_trans (set_sub m g).length_le (by omega), fun x hx => by have := hg.els x ((set_sub m g).subset hx); omega⟩) (by rw [(bs_perm g B).length_eq, List.length_map]; exact hB)) (by decide) (by decide) (.inr (.inl ⟨_, rfl⟩))
abbrev ps5 : List (Nat × Nat) := [(0, 1), (1, 2), (2, 3), (0, 3), (0, 2)]
theorem chord_b : ((gM (edAt ps5) 5).filter fun m => decide (MB.cnt 5 m = 3)) = [7, 11, 13, 14, 21, 22, 25, 26] := by decide +kernel
theorem grd4 : IsGrd [0, 1, 2, 3] 4 := ⟨rfl, by decide, by decide, by decide⟩
theorem grd5 : IsGrd [0, 1, 2, 3, 4] 5 := ⟨rfl, by decide, by decide, by decide⟩
theorem ring_b : sized 4 3 = [7, 11, 13, 14] := by decide +kernel
theorem ring_m : MatM 4 [7, 11, 13, 14] := ring_b ▸ mat_sized (by decide)
theorem chord_m : MatM 5 [7, 11, 13, 14, 21, 22, 25, 26] := chord_b ▸ mat_edges (n := 5) (ps := ps5) (k := 3) rfl (by decide) (by decide +kernel)
section
variable {P : Program} {w : World} {K : PySem.W.Frag} {mg : Str → Option Value} {base : Heap}
theorem par_do {A B : TE} {i j : Nat} {rest : TS} {D : Ends} {σ : L2.St} {H : Hp} (h : A σ H (fun x H1 => B σ H1 (fun y H2 => rest D ((σ.set i (some x)).set j (some y)) H2))) : tSeq (tPar i j (tCons A (tCons B tNil))) rest D σ H := by
  show A σ H (fun x H1 => B σ H1 (fun y H2 => ∃ v w, [x, y] = [v, w] ∧ rest D ((σ.set i (some v)).set j (some w)) H2))
  have e : (fun x H1 => B σ H1 (fun y H2 => ∃ v w, [x, y] = [v, w] ∧ rest D ((σ.set i (some v)).set j (some w)) H2)) = (fun x H1 => B σ H1 (fun y H2 => rest D ((σ.set i (some x)).set j (some y)) H2)) := by
    funext x H1
    congr 1
    funext y H2
    refine propext ⟨fun ⟨v, w, e, h⟩ => ?_, fun h => ⟨x, y, rfl, h⟩⟩
    cases e
    exact h
  rw [e]
  exact h
theorem asgO {te : TE} {C : Addr} {σ : L2.St} {H G : Hp} {Q : VK} {O : Addr → Prop} {g : List Int} {bs : List (List Int)} (h : Eo C te σ G g bs) (o : Hid O H) (s : Le G (hid O H)) (k : ∀ p H2, Le H H2 → MatV C (hid O H2) p g bs → Q (.ref p) H2) : te σ H Q := h _ _ o s _ k
theorem ed_neSame {σ : L2.St} {G : Hp} {ta tb : TE} {x : Str} (ha : Ed ta σ G (.str x)) (hb : Ed tb σ G (.str x)) : Ed (tOp rNe ta tb) σ G (.bool false) := Ed.of (by simp) (ed_neS ha hb)
theorem kbf_good_splits_of (T : Tx K mg) : KBn K T.fd_good_splits_of ["matroid"] 0 ["matroid"] (fun us ws => us ++ ws) (fun vs zs => vs ++ zs) := kbf1 T.F_good_splits_of fun _ _ _ _ _ _ v => by rfl
theorem kbf_splits_of (T : Tx K mg) : KBn K T.fd_splits_of ["matroid"] 0 ["matroid"] (fun us ws => us ++ ws) (fun vs zs => vs ++ zs) := kbf1 T.F_splits_of fun _ _ _ _ _ _ v => by rfl
def spLaw (K : PySem.W.Frag) : Sp := fun vs H Q _ => ∃ (a : Addr) (ns : List Int), vs = [.ref a] ∧ SqL K H a (ns.map V.int) ∧ ns.length ≤ 63 ∧ ∀ H', Q (.bl true) H'
theorem ok_law (T : Tx K mg) : FnG P w K mg base 11 T.f_law T.fd_law ["script"] (spLaw K) := by
  refine fnG_of T.F_law sc_law (fun vs H Q E h => ?_) (fun cdv A outer s H vs Q E gd hr h => ?_)
  · obtain ⟨a, ns, rfl, _⟩ := h
    rfl
  obtain ⟨a, ns, rfl, hS, hlen, q⟩ := h
  have hu := hu_of hr
  have hn0 : ∀ H : Hp, Le H (hid N0 H) := fun H => by rw [show hid N0 H = H from hid_no H]; exact .refl H
  have o0 : ∀ H : Hp, Hid N0 H := fun H b hb => hb.elim
  refine ⟨_, (pss_cons (ps_for PassesOwn.never rfl (pi_range1 (by rfl) T.n_range (pa_cons (pe_callB (call_max2 rfl) (by rfl) T.n_max boot_max (pa_cons pe_int (pa_cons (pe_callB (call_min2 rfl) (by rfl) T.n_min boot_min (pa_cons pe_int (pa_cons (pe_callB (kc_len K) (by rfl) T.n_len PySem.boot_len (pa_cons (pv 0) pa_nil)) pa_nil))) pa_nil))) pa_nil)) (pg_name (i := 1) sc_law.nd rfl (by first | exact .inl rfl | exact .inr rfl))
      (pss_cons (ps_set (i := 2) sc_law.nd rfl (by first | exact .inl rfl | exact .inr rfl) (pe_call (ok__law_source T) (hr.mono (by decide)) (by rfl) T.m__law_source T.F__law_source.kp T.b__law_source .nil pass0 (pa_cons (pv 0) (pa_cons (pv 1) pa_nil))))
      (pss_cons (ps_set (i := 3) sc_law.nd rfl (by first | exact .inl rfl | exact .inr rfl) (pe_op op_add pe_int (pe_call (ok__law_next T) (hr.mono (by decide)) (by rfl) T.m__law_next T.F__law_next.kp T.b__law_next .nil pass0 (pa_cons (pv 2) (pa_cons pe_int pa_nil)))))
      (pss_cons (ps_set (i := 4) sc_law.nd rfl (by first | exact .inl rfl | exact .inr rfl) (pe_call (ok__law_drawn_ground T) (hr.mono (by decide)) (by rfl) T.m__law_drawn_ground T.F__law_drawn_ground.kp T.b__law_drawn_ground .nil pass0 (pa_cons (pv 2) (pa_cons (pv 3) pa_nil))))
      (pss_one (ps_for PassesOwn.never rfl (pi_range1 (by rfl) T.n_range (pa_cons pe_int pa_nil)) (pg_name (i := 5) sc_law.nd rfl (by first | exact .inl rfl | exact .inr rfl))
      (pss_cons (ps_set (i := 6) sc_law.nd rfl (by first | exact .inl rfl | exact .inr rfl) (pe_call (ok__law_whole_bases T) (hr.mono (by decide)) (by rfl) T.m__law_whole_bases T.F__law_whole_bases.kp T.b__law_whole_bases .nil pass0 (pa_cons (pv 2) (pa_cons (pv 3) pa_nil))))
      (pss_cons (ps_par (i := 7) (j := 8) rfl sc_law.nd rfl rfl (by decide) rfl rfl (pa_cons (pe_call (ok__law_given T) (hr.mono (by decide)) (by rfl) T.m__law_given T.F__law_given.kp T.b__law_given .nil pass0 (pa_cons (pv 4) (pa_cons (pv 6) pa_nil))) (pa_cons (pe_call (ok__law_ranks T) (hr.mono (by decide)) (by rfl) T.m__law_ranks T.F__law_ranks.kp T.b__law_ranks .nil pass0 (pa_cons (pv 3) (pa_cons (pv 6) pa_nil))) pa_nil)) (by rfl))
      (pss_cons (ps_set (i := 9) sc_law.nd rfl (by first | exact .inl rfl | exact .inr rfl) (pe_call (ok_good_splits_of T) (hr.mono (by decide)) (by rfl) T.m_good_splits_of T.F_good_splits_of.kp T.b_good_splits_of .nil pass0 (pa_cons (pv 7) pa_nil)))
      (pss_cons (ps_if (pt_cmpR op_ne (pe_callB (kc_repr K gd (hu64 hr)) (by rfl) T.n_repr (by rfl) (pa_cons (pv 9) pa_nil)) (pe_callB (kc_repr K gd (hu64 hr)) (by rfl) T.n_repr (by rfl) (pa_cons (pe_call (ok__law_sorted_sets T) (hr.mono (by decide)) (by rfl) T.m__law_sorted_sets T.F__law_sorted_sets.kp T.b__law_sorted_sets .nil pass0 (pa_cons (pv 4) (pa_cons (pe_call (ok__law_good_masks T) (hr.mono (by decide)) (by rfl) T.m__law_good_masks T.F__law_good_masks.kp T.b__law_good_masks .nil pass0 (pa_cons (pv 3) (pa_cons (pv 8) pa_nil))) pa_nil))) pa_nil)) (nomark _)) (pss_one (ps_ret pe_bl)) pss_nil)
      (pss_one (ps_if (pt_cmpR (ko_neD K (hu64 hr)) (pe_call (ok_good_splits_of T) (hr.mono (by decide)) (by rfl) T.m_good_splits_of T.F_good_splits_of.kp T.b_good_splits_of .nil pass0 (pa_cons (pe_meth0 (pv 7) T.cl T.me_dual (ok_dual T) (hr.mono (by decide)) T.b_Matroid_dual .nil pass0) pa_nil)) (pv 9) (nomark _)) (pss_one (ps_ret pe_bl)) pss_nil))))))))))))
      (pss_cons (ps_set (i := 10) sc_law.nd rfl (by first | exact .inl rfl | exact .inr rfl) (pe_call (ok__law_given T) (hr.mono (by decide)) (by rfl) T.m__law_given T.F__law_given.kp T.b__law_given .nil pass0 (pa_cons (pe_tup (pa_cons pe_int (pa_cons pe_int (pa_cons pe_int (pa_cons pe_int pa_nil))))) (pa_cons (pe_call (ok__law_sized T) (hr.mono (by decide)) (by rfl) T.m__law_sized T.F__law_sized.kp T.b__law_sized .nil pass0 (pa_cons pe_int (pa_cons pe_int pa_nil))) pa_nil))))
      (pss_cons (ps_set (i := 11) sc_law.nd rfl (by first | exact .inl rfl | exact .inr rfl) (pe_call (ok__law_given T) (hr.mono (by decide)) (by rfl) T.m__law_given T.F__law_given.kp T.b__law_given .nil pass0 (pa_cons (pe_tup (pa_cons pe_int (pa_cons pe_int (pa_cons pe_int (pa_cons pe_int (pa_cons pe_int pa_nil)))))) (pa_cons (pe_call (okT__law_forest_bases T) (hr.mono (by decide)) (by rfl) T.m__law_forest_bases T.F__law_forest_bases.kp T.b__law_forest_bases .nil pass0 (pa_cons pe_int (pa_cons (pe_tup (pa_cons (pe_tup (pa_cons pe_int (pa_cons pe_int pa_nil))) (pa_cons (pe_tup (pa_cons pe_int (pa_cons pe_int pa_nil))) (pa_cons (pe_tup (pa_cons pe_int (pa_cons pe_int pa_nil))) (pa_cons (pe_tup (pa_cons pe_int (pa_cons pe_int pa_nil))) (pa_cons (pe_tup (pa_cons pe_int (pa_cons pe_int pa_nil))) pa_nil)))))) pa_nil))) pa_nil))))
      (pss_cons (ps_if (PW.pt (pw_or (pt_cmpR (ko_neD K (hu64 hr)) (pe_call (ok_splits_of T) (hr.mono (by decide)) (by rfl) T.m_splits_of T.F_splits_of.kp T.b_splits_of .nil pass0 (pa_cons (pv 10) pa_nil)) (pe_tup (pa_cons (pe_tup (pa_cons pe_int (pa_cons pe_int pa_nil))) (pa_cons (pe_tup (pa_cons pe_int (pa_cons pe_int pa_nil))) (pa_cons (pe_tup (pa_cons pe_int (pa_cons pe_int pa_nil))) pa_nil)))) (nomark _)) (pw_or1 (pt_cmpR (ko_neD K (hu64 hr)) (pe_call (ok_good_splits_of T) (hr.mono (by decide)) (by rfl) T.m_good_splits_of T.F_good_splits_of.kp T.b_good_splits_of .nil pass0 (pa_cons (pv 10) pa_nil)) (pe_tup pa_nil) (nomark _))))) (pss_one (ps_ret pe_bl)) pss_nil)
      (pss_one (ps_ret (pe_chain (ko_eqD K (hu64 hr)) (ko_eqD K (hu64 hr)) (pe_callN0 (ok_good_splits_of T) (hr.mono (by decide)) (by rfl) T.m_good_splits_of T.F_good_splits_of.kp (kbf_good_splits_of T) pass0 (pk_cons (pv 11) pk_nil)) (pe_callN0 (ok_splits_of T) (hr.mono (by decide)) (by rfl) T.m_splits_of T.F_splits_of.kp (kbf_splits_of T) pass0 (pk_cons (pv 11) pk_nil)) (pe_tup (pa_cons (pe_tup (pa_cons pe_int (pa_cons pe_int pa_nil))) (pa_cons (pe_tup (pa_cons pe_int (pa_cons pe_int (pa_cons pe_int pa_nil)))) pa_nil)))))))))), ?_⟩
  refine ⟨.ref a, rfl, a, _, rfl, .inl hS, _, _, rfl, _, _, rfl, _, rfl, ?_, ?_, for_range (lo := 0) (fun i σ H2 => ∃ x1 x2 x3 x4 x5 x6 x7 x8 x9, σ = [some (.ref a), x1, x2, x3, x4, x5, x6, x7, x8, x9, none, none] ∧ Le H H2) ⟨none, none, none, none, none, none, none, none, none, rfl, .refl _⟩ (fun i σ H2 hi h2 => ?_) fun σ H2 h2 => ?_⟩
  · split <;> split <;> omega
  · split <;> split <;> omega
  · obtain ⟨x1, x2, x3, x4, x5, x6, x7, x8, x9, rfl, s2⟩ := h2
    have hi2 : i < 2 := by
      rw [List.length_map] at hi
      split at hi <;> split at hi <;> omega
    have hS2 := Le.seqK s2 hS
    refine ⟨.ref a, rfl, .int (0 + (i : Int)), rfl, a, ns, 0 + (i : Int), rfl, hS2, hlen, by omega, by omega, fun m H3 nm s3 S3 => ?_⟩
    refine ⟨.ref m, rfl, m, 5, _, rfl, S3, by omega, by decide, by decide, fun r H4 r0 r1 k4 S4 => ⟨3, r, rfl, rfl, ?_⟩⟩
    obtain ⟨n, hn⟩ : ∃ n : Nat, 3 + r = (n : Int) := ⟨(3 + r).toNat, by omega⟩
    dsimp only [gName]
    rw [hn]
    refine ⟨.ref m, rfl, .int n, rfl, m, n, _, rfl, by omega, S4, by omega, fun gv g H5 k5 S5 hG hgv => ?_⟩
    have n3 : 3 ≤ n := by omega
    have n7 : n ≤ 7 := by omega
    have gl := hG.len
    have hp := pow10 (show n ≤ 10 by omega)
    refine for_iw (xs := List.range 2) (G := hid (XM m) H5) (O := XM m) (iw_range1 (by decide) (ea_one ed_int)) S5.hid (.refl _) fun H6 s6 => ?_
    refine ⟨fun j σ H7 => ∃ x5 x6 x7 x8 x9, σ = [some (.ref a), some (.int (0 + (i : Int))), some (.ref m), some (.int n), some gv, x5, x6, x7, x8, x9, none, none] ∧ KS m H6 H7 ∧ Src H7 m (100 + 5000 * j), ⟨_, _, _, _, _, rfl, .refl _, (S5.mono s6).le (by omega)⟩, fun j σ H7 _ h7 => by obtain ⟨_, _, _, _, _, _, h, _⟩ := h7; exact h, fun j x σ H7 hx h7 => ?_, fun σ H7 h7 => ?_⟩
    · obtain ⟨y5, y6, y7, y8, y9, rfl, k7, S7⟩ := h7
      have hj : j < 2 := by have := (List.getElem?_eq_some_iff.mp hx).1; rwa [List.length_range] at this
      refine ⟨XM m, S7.hid, k7, fun σ8 H8 s8 hB => ?_⟩
      obtain ⟨xv, rfl, hxv⟩ := hB
      -- bases
      refine ⟨.ref m, rfl, .int n, rfl, m, n, _, rfl, n3, n7, S7.mono s8, by omega, fun bv B H9 k9 S9 hM one hbv => ?_⟩
      have k69 : KS m H6 H9 := k7.trans ((KS.of s8).trans k9)
      have hg9 := hgv.mono ((KS.of s6 : KS m H5 H6).trans k69)
      have M := given_mat hG hM
      have Md := matM_dual hM
      have ed := dual_given hG hM
      have M' : IsMat g (dualB g (bsOf g B)) := by rw [ed]; exact given_mat hG Md
      have rk := rkF_given hG hM
      have rk' : rkF g (dualB g (bsOf g B)) = rankOf n (B.map (cmpl n)) := by rw [ed]; exact rkF_given hG Md
      have lkd : ∀ z, z < 2 ^ n → lkI n (rankOf n (B.map (cmpl n))) z = lkI n (rankOf n B) z := fun z hz => lk_dual hM hz
      have hBl := hM.len
      have o9 := S9.hid
      have gml := goodM_len n (rankOf n B)
      dsimp only [gName]
      -- whole, ranks
      refine par_do ?_
      refine asgO (G := hid (XM m) H9) (O := XM m) (ev_call (C := T.C) (R := R_given) ⟨g, B, rfl, by omega, by omega, M, rfl⟩ (ex_cons (ed_var rfl hg9).ev (ex_cons (ed_var rfl hbv).ev ex_nil))).eo o9 (.refl _) fun p Ha sa mm => ?_
      refine asg1 (G := hid (XM m) Ha) (O := XM m) (d := dNats ((List.range (2 ^ n)).map (rankOf n B))) (ed_call (R := R_ranks) ⟨n, B, rfl, by omega, hM.ne, by omega, hM.lt, rfl⟩ (ea_cons (ed_var rfl (.int _)) (ea_one (ed_var rfl (hbv.mono (hid_same sa)))))) (o9.mono sa) (.refl _) fun rv Hb sb hrv => ?_
      have sab := sa.trans sb
      have gab := hid_same (O := XM m) sab
      have mm := mm.mono (hid_same (O := XM m) sb)
      have hgb := hg9.mono gab
      -- told
      refine asg_ed (G := hid (XM m) Hb) (O := XM m) (d := dSets (bsOf g (goodM n (rankOf n B)))) (ev_call (C := T.C) (R := R_good) ⟨g, bsOf g B, rfl, M, by omega, by rw [rk, gl]; exact one, by rw [rk, gl]⟩ (ex_cons (eo_var rfl mm).ev ex_nil)).ed (o9.mono sab) (.refl _) fun tv Hc sc htv => ?_
      have gc := hid_same (O := XM m) sc
      have oc := (o9.mono sab).mono sc
      have mm := mm.mono gc
      have hgc := hgb.mono gc
      have hrc := hrv.mono gc
      have sh := show_bs hG (B := goodM n (rankOf n B)) (by omega)
      refine if_eb (b := false) (G := hid (XM m) Hc) (O := XM m) (eb_test (ed_neSame (ed_repr sh (ed_var rfl htv)) (ed_repr sh (ed_call (R := R_lsort) ⟨g, goodM n (rankOf n B), rfl, by omega, by omega, rfl⟩ (ea_cons (ed_var rfl hgc) (ea_one (ed_call (R := R_gm) ⟨n, rankOf n B, rfl, by omega, by omega, rfl⟩ (ea_cons (ed_var rfl (.int _)) (ea_one (ed_var rfl hrc)))))))))) oc (.refl _) (fun z => nomatch z) fun _ Hd sd => ?_
      have gd' := hid_same (O := XM m) sd
      refine if_eb (b := false) (G := hid (XM m) Hd) (O := XM m) (Eb.of ?_ (eb_test (ed_neD (shapedSetsT _) (shapedSetsT _) (ev_call (C := T.C) (R := R_good) ⟨g, dualB g (bsOf g B), rfl, M', by omega, by rw [rk', gl, parts_same lkd]; exact one, rfl⟩ (ex_cons (ev_meth (fun _ _ _ _ _ => by kernel_rfl) (eo_var rfl (mm.mono gd')) ex_nil ⟨g, bsOf g B, rfl, M, M', rfl⟩) ex_nil)).ed (ed_var rfl (htv.mono gd'))))) (oc.mono sd) (.refl _) (fun z => nomatch z) fun _ He se => ?_
      · rw [eqvSets, rk', gl, good_same (by omega) lkd]
        simp
      have s9e := sab.trans (sc.trans (sd.trans se))
      exact ⟨_, _, _, _, _, rfl, k69.trans (KS.of s9e), (S9.mono s9e).le (by push_cast; omega)⟩
    · obtain ⟨y5, y6, y7, y8, y9, rfl, k7, S7⟩ := h7
      exact ⟨_, _, _, _, _, _, _, _, _, rfl, s2.trans (ks_new s3 nm (k4.trans (k5.trans ((KS.of s6).trans k7))))⟩
  · obtain ⟨x1, x2, x3, x4, x5, x6, x7, x8, x9, rfl, s2⟩ := h2
    have Mr := given_mat grd4 ring_m
    have Mc := given_mat grd5 chord_m
    have rkr := rkF_given grd4 ring_m
    have rkc := rkF_given grd5 chord_m
    dsimp only
    refine asg_eo (G := H2) (O := N0) (g := [0, 1, 2, 3]) (bs := bsOf [0, 1, 2, 3] [7, 11, 13, 14]) (ev_call (C := T.C) (R := R_given) ⟨[0, 1, 2, 3], [7, 11, 13, 14], rfl, by decide, by decide, Mr, rfl⟩ (ex_cons (Ed.ev (ed_tup (by decide) (ea_cons ed_int (ea_cons ed_int (ea_cons ed_int (ea_one ed_int)))))) (ex_cons (Ed.ev (ed_call (R := R_sized) ⟨4, 3, rfl, by decide, by rw [ring_b]⟩ (ea_cons ed_int (ea_one ed_int)))) ex_nil))).eo (o0 _) (hn0 _) fun pr H3 s3 mr => ?_
    have e2 : ∀ {x y : Int} {σ : L2.St} {G : Hp}, Ed (tTup (tCons (tC (.int x)) (tCons (tC (.int y)) tNil))) σ G (.tuple [.int x, .int y]) := ed_tup (by show 2 ≤ 1000; decide) (ea_cons ed_int (ea_one ed_int))
    refine asg_eo (G := hid N0 H3) (O := N0) (g := [0, 1, 2, 3, 4]) (bs := bsOf [0, 1, 2, 3, 4] [7, 11, 13, 14, 21, 22, 25, 26]) (ev_call (C := T.C) (R := R_given) ⟨[0, 1, 2, 3, 4], [7, 11, 13, 14, 21, 22, 25, 26], rfl, by decide, by decide, Mc, rfl⟩ (ex_cons (Ed.ev (ed_tup (by decide) (ea_cons ed_int (ea_cons ed_int (ea_cons ed_int (ea_cons ed_int (ea_one ed_int))))))) (ex_cons (Ed.ev (ed_call (R := R_forestT) ⟨5, ps5, 3, rfl, by decide, rfl, by decide, by decide +kernel, by decide +kernel, by rw [chord_b]⟩ (ea_cons ed_int (ea_one (ed_tup (by decide) (ea_cons e2 (ea_cons e2 (ea_cons e2 (ea_cons e2 (ea_one e2))))))))))  ex_nil))).eo (o0 _) (.refl _) fun pc H4 s4 mc => ?_
    have mr4 := mr.mono (hid_same (O := N0) s4)
    have sp4 : bsOf [0, 1, 2, 3] (splM 4 (rankOf 4 [7, 11, 13, 14])) = [[0, 1], [0, 2], [0, 3]] := bs_done (by decide +kernel) (by decide +kernel)
    have gd4 : bsOf [0, 1, 2, 3] (goodM 4 (rankOf 4 [7, 11, 13, 14])) = [] := bs_done (by decide +kernel) (by decide +kernel)
    have sp5 : bsOf [0, 1, 2, 3, 4] (splM 5 (rankOf 5 [7, 11, 13, 14, 21, 22, 25, 26])) = [[0, 1], [0, 1, 4]] := bs_done (by decide +kernel) (by decide +kernel)
    have gd5 : bsOf [0, 1, 2, 3, 4] (goodM 5 (rankOf 5 [7, 11, 13, 14, 21, 22, 25, 26])) = [[0, 1], [0, 1, 4]] := bs_done (by decide +kernel) (by decide +kernel)
    have on4 : (partsM 4 (rankOf 4 [7, 11, 13, 14])).length = 1 := by decide +kernel
    have on5 : (partsM 5 (rankOf 5 [7, 11, 13, 14, 21, 22, 25, 26])).length = 1 := by decide +kernel
    have d2 : ∀ {σ : L2.St} {G : Hp} {x y z t u : Int}, Ed (tTup (tCons (tTup (tCons (tC (.int x)) (tCons (tC (.int y)) tNil))) (tCons (tTup (tCons (tC (.int z)) (tCons (tC (.int t)) (tCons (tC (.int u)) tNil)))) tNil))) σ G (dSets [[x, y], [z, t, u]]) := ed_tup (by show 2 ≤ 1000; decide) (ea_cons e2 (ea_one (ed_tup (by show 3 ≤ 1000; decide) (ea_cons ed_int (ea_cons ed_int (ea_one ed_int))))))
    have a1 : ∀ {σ : L2.St} {E : XK}, σ[10]? = some (some (.ref pr)) → Ed (tCall (spX T.C R_splits) [] E (tCons (tVar 10) tNil)) σ (hid N0 H4) (dSets [[0, 1], [0, 2], [0, 3]]) := fun h => (ev_call (C := T.C) (R := R_splits) ⟨_, _, rfl, Mr, by decide, by rw [rkr]; exact on4, by rw [rkr]; exact congrArg (fun z => Vl.d (dSets z)) sp4.symm⟩ (ex_cons (eo_var h mr4).ev ex_nil)).ed
    refine if_eb (b := false) (G := hid N0 H4) (O := N0) (Eb.of ?_ (eb_or (a := false) (b := false) (Eb.of ?_ (eb_test (ed_neD (shapedSetsT _) (shapedSetsT [[0, 1], [0, 2], [0, 3]]) (a1 rfl) (ed_tup (by show 3 ≤ 1000; decide) (ea_cons e2 (ea_cons e2 (ea_one e2))))))) fun _ => Eb.of ?_ (eb_test (ed_neD (shapedSetsT []) (shapedSetsT []) (ev_call (C := T.C) (R := R_good) ⟨_, _, rfl, Mr, by decide, by rw [rkr]; exact on4, by rw [rkr]; exact congrArg (fun z => Vl.d (dSets z)) gd4.symm⟩ (ex_cons (eo_var rfl mr4).ev ex_nil)).ed (ed_tup (by decide) ea_nil))))) (o0 _) (.refl _) (fun z => nomatch z) fun _ H5 s5 => ?_
    · rfl
    · rw [eqvSets]
      decide +kernel
    · rw [eqvSets]
      decide +kernel
    have mc5 := mc.mono (hid_same (O := N0) s5)
    refine ret_ed (G := hid N0 H5) (O := N0) (d := .bool true) (Ed.of ?_ (ed_chainD (shapedSetsT [[0, 1], [0, 1, 4]]) (shapedSetsT [[0, 1], [0, 1, 4]]) (shapedSetsT [[0, 1], [0, 1, 4]]) (ev_callN0 (C := T.C) (R := R_good) (ex_cons (eo_var rfl mc5).ev ex_nil) rfl ⟨_, _, rfl, Mc, by decide, by rw [rkc]; exact on5, by rw [rkc]; exact congrArg (fun z => Vl.d (dSets z)) gd5.symm⟩).ed (ev_callN0 (C := T.C) (R := R_splits) (ex_cons (eo_var rfl mc5).ev ex_nil) rfl ⟨_, _, rfl, Mc, by decide, by rw [rkc]; exact on5, by rw [rkc]; exact congrArg (fun z => Vl.d (dSets z)) sp5.symm⟩).ed d2)) (o0 _) (.refl _) fun v H6 s6 hv => ?_
    · rw [eqvSets]
      simp
    · rw [hv.bl_inv]
      exact q H6
end
end K9

set_option Elab.async false
set_option linter.all false
set_option maxRecDepth 100000
namespace K9
open PySem PySem.Spec PyProof.Rows L2 PySem.W
set_option maxHeartbeats 4000000 in
theorem all_mk {l : PySem.W.OpenLaw} {w : World} {K : PySem.W.Frag} {h : Heap} {mg : Str → Option Value} {fa : Addr} (X : K.In h) (G : h.Ns mainGlobals mg) (hfa : mg "law" = some (.ref fa))
    {t_MAX_ELEMENT : Tok}
    {t_MAX_GROUND : Tok}
    {C : Addr}
    {f_is_integer : Addr} {od_is_integer an_is_integer : Option Addr} {sl_is_integer : Array (Option Value)} {oc_is_integer kV_is_integer dc_is_integer pm_is_integer cd_is_integer ct_is_integer : Value}
    {f_is_element : Addr} {od_is_element an_is_element : Option Addr} {sl_is_element : Array (Option Value)} {oc_is_element kV_is_element dc_is_element pm_is_element cd_is_element ct_is_element : Value}
    {f_is_ascending : Addr} {od_is_ascending an_is_ascending : Option Addr} {sl_is_ascending : Array (Option Value)} {oc_is_ascending kV_is_ascending dc_is_ascending pm_is_ascending cd_is_ascending ct_is_ascending : Value}
    {f_is_set : Addr} {od_is_set an_is_set : Option Addr} {sl_is_set : Array (Option Value)} {oc_is_set kV_is_set dc_is_set pm_is_set cd_is_set ct_is_set : Value}
    {f_is_set_within : Addr} {od_is_set_within an_is_set_within : Option Addr} {sl_is_set_within : Array (Option Value)} {oc_is_set_within kV_is_set_within dc_is_set_within pm_is_set_within cd_is_set_within ct_is_set_within : Value}
    {f_are_sets_within : Addr} {od_are_sets_within an_are_sets_within : Option Addr} {sl_are_sets_within : Array (Option Value)} {oc_are_sets_within kV_are_sets_within dc_are_sets_within pm_are_sets_within cd_are_sets_within ct_are_sets_within : Value}
    {f_check_ground : Addr} {od_check_ground an_check_ground : Option Addr} {sl_check_ground : Array (Option Value)} {oc_check_ground kV_check_ground dc_check_ground pm_check_ground cd_check_ground ct_check_ground : Value}
    {f_check_sets : Addr} {od_check_sets an_check_sets : Option Addr} {sl_check_sets : Array (Option Value)} {oc_check_sets kV_check_sets dc_check_sets pm_check_sets cd_check_sets ct_check_sets : Value}
    {f_set_of : Addr} {od_set_of an_set_of : Option Addr} {sl_set_of : Array (Option Value)} {oc_set_of kV_set_of dc_set_of pm_set_of cd_set_of ct_set_of : Value}
    {f_sets_of : Addr} {od_sets_of an_sets_of : Option Addr} {sl_sets_of : Array (Option Value)} {oc_sets_of kV_sets_of dc_sets_of pm_sets_of cd_sets_of ct_sets_of : Value}
    {f_mask_of : Addr} {od_mask_of an_mask_of : Option Addr} {sl_mask_of : Array (Option Value)} {oc_mask_of kV_mask_of dc_mask_of pm_mask_of cd_mask_of ct_mask_of : Value}
    {f_masks_of : Addr} {od_masks_of an_masks_of : Option Addr} {sl_masks_of : Array (Option Value)} {oc_masks_of kV_masks_of dc_masks_of pm_masks_of cd_masks_of ct_masks_of : Value}
    {f_places_in : Addr} {od_places_in an_places_in : Option Addr} {sl_places_in : Array (Option Value)} {oc_places_in kV_places_in dc_places_in pm_places_in cd_places_in ct_places_in : Value}
    {f_places_outside : Addr} {od_places_outside an_places_outside : Option Addr} {sl_places_outside : Array (Option Value)} {oc_places_outside kV_places_outside dc_places_outside pm_places_outside cd_places_outside ct_places_outside : Value}
    {f_sizes_of_masks : Addr} {od_sizes_of_masks an_sizes_of_masks : Option Addr} {sl_sizes_of_masks : Array (Option Value)} {oc_sizes_of_masks kV_sizes_of_masks dc_sizes_of_masks pm_sizes_of_masks cd_sizes_of_masks ct_sizes_of_masks : Value}
    {f_flags_above : Addr} {od_flags_above an_flags_above : Option Addr} {sl_flags_above : Array (Option Value)} {oc_flags_above kV_flags_above dc_flags_above pm_flags_above cd_flags_above ct_flags_above : Value}
    {f_flags_below : Addr} {od_flags_below an_flags_below : Option Addr} {sl_flags_below : Array (Option Value)} {oc_flags_below kV_flags_below dc_flags_below pm_flags_below cd_flags_below ct_flags_below : Value}
    {f_ranks_by_bases : Addr} {od_ranks_by_bases an_ranks_by_bases : Option Addr} {sl_ranks_by_bases : Array (Option Value)} {oc_ranks_by_bases kV_ranks_by_bases dc_ranks_by_bases pm_ranks_by_bases cd_ranks_by_bases ct_ranks_by_bases : Value}
    {f_closure_mask : Addr} {od_closure_mask an_closure_mask : Option Addr} {sl_closure_mask : Array (Option Value)} {oc_closure_mask kV_closure_mask dc_closure_mask pm_closure_mask cd_closure_mask ct_closure_mask : Value}
    {f_circuit_masks : Addr} {od_circuit_masks an_circuit_masks : Option Addr} {sl_circuit_masks : Array (Option Value)} {oc_circuit_masks kV_circuit_masks dc_circuit_masks pm_circuit_masks cd_circuit_masks ct_circuit_masks : Value}
    {f_is_circuit_mask : Addr} {od_is_circuit_mask an_is_circuit_mask : Option Addr} {sl_is_circuit_mask : Array (Option Value)} {oc_is_circuit_mask kV_is_circuit_mask dc_is_circuit_mask pm_is_circuit_mask cd_is_circuit_mask ct_is_circuit_mask : Value}
    {f_flat_masks : Addr} {od_flat_masks an_flat_masks : Option Addr} {sl_flat_masks : Array (Option Value)} {oc_flat_masks kV_flat_masks dc_flat_masks pm_flat_masks cd_flat_masks ct_flat_masks : Value}
    {f_fault_in : Addr} {od_fault_in an_fault_in : Option Addr} {sl_fault_in : Array (Option Value)} {oc_fault_in kV_fault_in dc_fault_in pm_fault_in cd_fault_in ct_fault_in : Value}
    {f_fault_in_bases : Addr} {od_fault_in_bases an_fault_in_bases : Option Addr} {sl_fault_in_bases : Array (Option Value)} {oc_fault_in_bases kV_fault_in_bases dc_fault_in_bases pm_fault_in_bases cd_fault_in_bases ct_fault_in_bases : Value}
    {f__exchange_fault : Addr} {od__exchange_fault an__exchange_fault : Option Addr} {sl__exchange_fault : Array (Option Value)} {oc__exchange_fault kV__exchange_fault dc__exchange_fault pm__exchange_fault cd__exchange_fault ct__exchange_fault : Value}
    {f__barriers : Addr} {od__barriers an__barriers : Option Addr} {sl__barriers : Array (Option Value)} {oc__barriers kV__barriers dc__barriers pm__barriers cd__barriers ct__barriers : Value}
    {f_rest_of : Addr} {od_rest_of an_rest_of : Option Addr} {sl_rest_of : Array (Option Value)} {oc_rest_of kV_rest_of dc_rest_of pm_rest_of cd_rest_of ct_rest_of : Value}
    {f_Matroid___init__ : Addr} {od_Matroid___init__ an_Matroid___init__ : Option Addr} {sl_Matroid___init__ : Array (Option Value)} {oc_Matroid___init__ kV_Matroid___init__ dc_Matroid___init__ pm_Matroid___init__ cd_Matroid___init__ ct_Matroid___init__ : Value}
    {f_Matroid_mask_ranks : Addr} {od_Matroid_mask_ranks an_Matroid_mask_ranks : Option Addr} {sl_Matroid_mask_ranks : Array (Option Value)} {oc_Matroid_mask_ranks kV_Matroid_mask_ranks dc_Matroid_mask_ranks pm_Matroid_mask_ranks cd_Matroid_mask_ranks ct_Matroid_mask_ranks : Value}
    {pa_mask_ranks : Addr} {rest_mask_ranks : List Value}
    {f_Matroid_dual : Addr} {od_Matroid_dual an_Matroid_dual : Option Addr} {sl_Matroid_dual : Array (Option Value)} {oc_Matroid_dual kV_Matroid_dual dc_Matroid_dual pm_Matroid_dual cd_Matroid_dual ct_Matroid_dual : Value}
    {f_sure_matroid : Addr} {od_sure_matroid an_sure_matroid : Option Addr} {sl_sure_matroid : Array (Option Value)} {oc_sure_matroid kV_sure_matroid dc_sure_matroid pm_sure_matroid cd_sure_matroid ct_sure_matroid : Value}
    {f_check_matroid : Addr} {od_check_matroid an_check_matroid : Option Addr} {sl_check_matroid : Array (Option Value)} {oc_check_matroid kV_check_matroid dc_check_matroid pm_check_matroid cd_check_matroid ct_check_matroid : Value}
    {f_parts_of : Addr} {od_parts_of an_parts_of : Option Addr} {sl_parts_of : Array (Option Value)} {oc_parts_of kV_parts_of dc_parts_of pm_parts_of cd_parts_of ct_parts_of : Value}
    {f__connectivity : Addr} {od__connectivity an__connectivity : Option Addr} {sl__connectivity : Array (Option Value)} {oc__connectivity kV__connectivity dc__connectivity pm__connectivity cd__connectivity ct__connectivity : Value}
    {f_splits_of : Addr} {od_splits_of an_splits_of : Option Addr} {sl_splits_of : Array (Option Value)} {oc_splits_of kV_splits_of dc_splits_of pm_splits_of cd_splits_of ct_splits_of : Value}
    {f_good_splits_of : Addr} {od_good_splits_of an_good_splits_of : Option Addr} {sl_good_splits_of : Array (Option Value)} {oc_good_splits_of kV_good_splits_of dc_good_splits_of pm_good_splits_of cd_good_splits_of ct_good_splits_of : Value}
    {f__split_masks : Addr} {od__split_masks an__split_masks : Option Addr} {sl__split_masks : Array (Option Value)} {oc__split_masks kV__split_masks dc__split_masks pm__split_masks cd__split_masks ct__split_masks : Value}
    {f__crosses_one : Addr} {od__crosses_one an__crosses_one : Option Addr} {sl__crosses_one : Array (Option Value)} {oc__crosses_one kV__crosses_one dc__crosses_one pm__crosses_one cd__crosses_one ct__crosses_one : Value}
    {f__check_one_part : Addr} {od__check_one_part an__check_one_part : Option Addr} {sl__check_one_part : Array (Option Value)} {oc__check_one_part kV__check_one_part dc__check_one_part pm__check_one_part cd__check_one_part ct__check_one_part : Value}
    {f__law_source : Addr} {od__law_source an__law_source : Option Addr} {sl__law_source : Array (Option Value)} {oc__law_source kV__law_source dc__law_source pm__law_source cd__law_source ct__law_source : Value}
    {f__law_next : Addr} {od__law_next an__law_next : Option Addr} {sl__law_next : Array (Option Value)} {oc__law_next kV__law_next dc__law_next pm__law_next cd__law_next ct__law_next : Value}
    {f__law_pick : Addr} {od__law_pick an__law_pick : Option Addr} {sl__law_pick : Array (Option Value)} {oc__law_pick kV__law_pick dc__law_pick pm__law_pick cd__law_pick ct__law_pick : Value}
    {f__law_turned : Addr} {od__law_turned an__law_turned : Option Addr} {sl__law_turned : Array (Option Value)} {oc__law_turned kV__law_turned dc__law_turned pm__law_turned cd__law_turned ct__law_turned : Value}
    {f__law_count : Addr} {od__law_count an__law_count : Option Addr} {sl__law_count : Array (Option Value)} {oc__law_count kV__law_count dc__law_count pm__law_count cd__law_count ct__law_count : Value}
    {f__law_ranks : Addr} {od__law_ranks an__law_ranks : Option Addr} {sl__law_ranks : Array (Option Value)} {oc__law_ranks kV__law_ranks dc__law_ranks pm__law_ranks cd__law_ranks ct__law_ranks : Value}
    {f__law_sized : Addr} {od__law_sized an__law_sized : Option Addr} {sl__law_sized : Array (Option Value)} {oc__law_sized kV__law_sized dc__law_sized pm__law_sized cd__law_sized ct__law_sized : Value}
    {f__law_sparse : Addr} {od__law_sparse an__law_sparse : Option Addr} {sl__law_sparse : Array (Option Value)} {oc__law_sparse kV__law_sparse dc__law_sparse pm__law_sparse cd__law_sparse ct__law_sparse : Value}
    {f__law_forest_bases : Addr} {od__law_forest_bases an__law_forest_bases : Option Addr} {sl__law_forest_bases : Array (Option Value)} {oc__law_forest_bases kV__law_forest_bases dc__law_forest_bases pm__law_forest_bases cd__law_forest_bases ct__law_forest_bases : Value}
    {f__law_drawn_lines : Addr} {od__law_drawn_lines an__law_drawn_lines : Option Addr} {sl__law_drawn_lines : Array (Option Value)} {oc__law_drawn_lines kV__law_drawn_lines dc__law_drawn_lines pm__law_drawn_lines cd__law_drawn_lines ct__law_drawn_lines : Value}
    {f__law_column_bases : Addr} {od__law_column_bases an__law_column_bases : Option Addr} {sl__law_column_bases : Array (Option Value)} {oc__law_column_bases kV__law_column_bases dc__law_column_bases pm__law_column_bases cd__law_column_bases ct__law_column_bases : Value}
    {f__law_drawn_bases : Addr} {od__law_drawn_bases an__law_drawn_bases : Option Addr} {sl__law_drawn_bases : Array (Option Value)} {oc__law_drawn_bases kV__law_drawn_bases dc__law_drawn_bases pm__law_drawn_bases cd__law_drawn_bases ct__law_drawn_bases : Value}
    {f__law_drawn_ground : Addr} {od__law_drawn_ground an__law_drawn_ground : Option Addr} {sl__law_drawn_ground : Array (Option Value)} {oc__law_drawn_ground kV__law_drawn_ground dc__law_drawn_ground pm__law_drawn_ground cd__law_drawn_ground ct__law_drawn_ground : Value}
    {f__law_set : Addr} {od__law_set an__law_set : Option Addr} {sl__law_set : Array (Option Value)} {oc__law_set kV__law_set dc__law_set pm__law_set cd__law_set ct__law_set : Value}
    {f__law_given : Addr} {od__law_given an__law_given : Option Addr} {sl__law_given : Array (Option Value)} {oc__law_given kV__law_given dc__law_given pm__law_given cd__law_given ct__law_given : Value}
    {f__law_link : Addr} {od__law_link an__law_link : Option Addr} {sl__law_link : Array (Option Value)} {oc__law_link kV__law_link dc__law_link pm__law_link cd__law_link ct__law_link : Value}
    {f__law_part_masks : Addr} {od__law_part_masks an__law_part_masks : Option Addr} {sl__law_part_masks : Array (Option Value)} {oc__law_part_masks kV__law_part_masks dc__law_part_masks pm__law_part_masks cd__law_part_masks ct__law_part_masks : Value}
    {f__law_split_masks : Addr} {od__law_split_masks an__law_split_masks : Option Addr} {sl__law_split_masks : Array (Option Value)} {oc__law_split_masks kV__law_split_masks dc__law_split_masks pm__law_split_masks cd__law_split_masks ct__law_split_masks : Value}
    {f__law_good_masks : Addr} {od__law_good_masks an__law_good_masks : Option Addr} {sl__law_good_masks : Array (Option Value)} {oc__law_good_masks kV__law_good_masks dc__law_good_masks pm__law_good_masks cd__law_good_masks ct__law_good_masks : Value}
    {f__law_whole_bases : Addr} {od__law_whole_bases an__law_whole_bases : Option Addr} {sl__law_whole_bases : Array (Option Value)} {oc__law_whole_bases kV__law_whole_bases dc__law_whole_bases pm__law_whole_bases cd__law_whole_bases ct__law_whole_bases : Value}
    {f__law_sorted_sets : Addr} {od__law_sorted_sets an__law_sorted_sets : Option Addr} {sl__law_sorted_sets : Array (Option Value)} {oc__law_sorted_sets kV__law_sorted_sets dc__law_sorted_sets pm__law_sorted_sets cd__law_sorted_sets ct__law_sorted_sets : Value}
    {f_law : Addr} {od_law an_law : Option Addr} {sl_law : Array (Option Value)} {oc_law kV_law dc_law pm_law cd_law ct_law : Value}
    (z_list : PySem.W.nsIn K mainGlobals "list" = some none)
    (z_int : PySem.W.nsIn K mainGlobals "int" = some none)
    (z_len : PySem.W.nsIn K mainGlobals "len" = some none)
    (z_range : PySem.W.nsIn K mainGlobals "range" = some none)
    (z_enumerate : PySem.W.nsIn K mainGlobals "enumerate" = some none)
    (z_tuple : PySem.W.nsIn K mainGlobals "tuple" = some none)
    (z_sorted : PySem.W.nsIn K mainGlobals "sorted" = some none)
    (z_min : PySem.W.nsIn K mainGlobals "min" = some none)
    (z_max : PySem.W.nsIn K mainGlobals "max" = some none)
    (z_sum : PySem.W.nsIn K mainGlobals "sum" = some none)
    (z_all : PySem.W.nsIn K mainGlobals "all" = some none)
    (z_any : PySem.W.nsIn K mainGlobals "any" = some none)
    (z_isinstance : PySem.W.nsIn K mainGlobals "isinstance" = some none)
    (z_zip : PySem.W.nsIn K mainGlobals "zip" = some none)
    (z_reversed : PySem.W.nsIn K mainGlobals "reversed" = some none)
    (z_repr : PySem.W.nsIn K mainGlobals "repr" = some none)
    (z_bool : PySem.W.nsIn K mainGlobals "bool" = some none)
    (y_MAX_ELEMENT : PySem.W.nsIn K mainGlobals "MAX_ELEMENT" = some (some (.int 199 t_MAX_ELEMENT)))
    (y_MAX_GROUND : PySem.W.nsIn K mainGlobals "MAX_GROUND" = some (some (.int 10 t_MAX_GROUND)))
    (aC : PySem.W.nsIn K mainGlobals "Matroid" = some (some (.ref C)))
    (a_is_integer : PySem.W.nsIn K mainGlobals "is_integer" = some (some (.ref f_is_integer)))
    (l_is_integer : K.lookup f_is_integer = some ⟨oc_is_integer, od_is_integer, .func (PySem.W.fnOf "is_integer" "is_integer" (defArgs s_is_integer) (defBody s_is_integer) (defScope s_is_integer) .none kV_is_integer dc_is_integer pm_is_integer an_is_integer cd_is_integer ct_is_integer), sl_is_integer⟩) (c_is_integer : PySem.W.codeIn K cd_is_integer "is_integer" = true) (k_is_integer : PySem.W.keepIn K (.ref f_is_integer) = true)
    (a_is_element : PySem.W.nsIn K mainGlobals "is_element" = some (some (.ref f_is_element)))
    (l_is_element : K.lookup f_is_element = some ⟨oc_is_element, od_is_element, .func (PySem.W.fnOf "is_element" "is_element" (defArgs s_is_element) (defBody s_is_element) (defScope s_is_element) .none kV_is_element dc_is_element pm_is_element an_is_element cd_is_element ct_is_element), sl_is_element⟩) (c_is_element : PySem.W.codeIn K cd_is_element "is_element" = true) (k_is_element : PySem.W.keepIn K (.ref f_is_element) = true)
    (a_is_ascending : PySem.W.nsIn K mainGlobals "is_ascending" = some (some (.ref f_is_ascending)))
    (l_is_ascending : K.lookup f_is_ascending = some ⟨oc_is_ascending, od_is_ascending, .func (PySem.W.fnOf "is_ascending" "is_ascending" (defArgs s_is_ascending) (defBody s_is_ascending) (defScope s_is_ascending) .none kV_is_ascending dc_is_ascending pm_is_ascending an_is_ascending cd_is_ascending ct_is_ascending), sl_is_ascending⟩) (c_is_ascending : PySem.W.codeIn K cd_is_ascending "is_ascending" = true) (k_is_ascending : PySem.W.keepIn K (.ref f_is_ascending) = true)
    (a_is_set : PySem.W.nsIn K mainGlobals "is_set" = some (some (.ref f_is_set)))
    (l_is_set : K.lookup f_is_set = some ⟨oc_is_set, od_is_set, .func (PySem.W.fnOf "is_set" "is_set" (defArgs s_is_set) (defBody s_is_set) (defScope s_is_set) .none kV_is_set dc_is_set pm_is_set an_is_set cd_is_set ct_is_set), sl_is_set⟩) (c_is_set : PySem.W.codeIn K cd_is_set "is_set" = true) (k_is_set : PySem.W.keepIn K (.ref f_is_set) = true)
    (a_is_set_within : PySem.W.nsIn K mainGlobals "is_set_within" = some (some (.ref f_is_set_within)))
    (l_is_set_within : K.lookup f_is_set_within = some ⟨oc_is_set_within, od_is_set_within, .func (PySem.W.fnOf "is_set_within" "is_set_within" (defArgs s_is_set_within) (defBody s_is_set_within) (defScope s_is_set_within) .none kV_is_set_within dc_is_set_within pm_is_set_within an_is_set_within cd_is_set_within ct_is_set_within), sl_is_set_within⟩) (c_is_set_within : PySem.W.codeIn K cd_is_set_within "is_set_within" = true) (k_is_set_within : PySem.W.keepIn K (.ref f_is_set_within) = true)
    (a_are_sets_within : PySem.W.nsIn K mainGlobals "are_sets_within" = some (some (.ref f_are_sets_within)))
    (l_are_sets_within : K.lookup f_are_sets_within = some ⟨oc_are_sets_within, od_are_sets_within, .func (PySem.W.fnOf "are_sets_within" "are_sets_within" (defArgs s_are_sets_within) (defBody s_are_sets_within) (defScope s_are_sets_within) .none kV_are_sets_within dc_are_sets_within pm_are_sets_within an_are_sets_within cd_are_sets_within ct_are_sets_within), sl_are_sets_within⟩) (c_are_sets_within : PySem.W.codeIn K cd_are_sets_within "are_sets_within" = true) (k_are_sets_within : PySem.W.keepIn K (.ref f_are_sets_within) = true)
    (a_check_ground : PySem.W.nsIn K mainGlobals "check_ground" = some (some (.ref f_check_ground)))
    (l_check_ground : K.lookup f_check_ground = some ⟨oc_check_ground, od_check_ground, .func (PySem.W.fnOf "check_ground" "check_ground" (defArgs s_check_ground) (defBody s_check_ground) (defScope s_check_ground) .none kV_check_ground dc_check_ground pm_check_ground an_check_ground cd_check_ground ct_check_ground), sl_check_ground⟩) (c_check_ground : PySem.W.codeIn K cd_check_ground "check_ground" = true) (k_check_ground : PySem.W.keepIn K (.ref f_check_ground) = true)
    (a_check_sets : PySem.W.nsIn K mainGlobals "check_sets" = some (some (.ref f_check_sets)))
    (l_check_sets : K.lookup f_check_sets = some ⟨oc_check_sets, od_check_sets, .func (PySem.W.fnOf "check_sets" "check_sets" (defArgs s_check_sets) (defBody s_check_sets) (defScope s_check_sets) .none kV_check_sets dc_check_sets pm_check_sets an_check_sets cd_check_sets ct_check_sets), sl_check_sets⟩) (c_check_sets : PySem.W.codeIn K cd_check_sets "check_sets" = true) (k_check_sets : PySem.W.keepIn K (.ref f_check_sets) = true)
    (a_set_of : PySem.W.nsIn K mainGlobals "set_of" = some (some (.ref f_set_of)))
    (l_set_of : K.lookup f_set_of = some ⟨oc_set_of, od_set_of, .func (PySem.W.fnOf "set_of" "set_of" (defArgs s_set_of) (defBody s_set_of) (defScope s_set_of) .none kV_set_of dc_set_of pm_set_of an_set_of cd_set_of ct_set_of), sl_set_of⟩) (c_set_of : PySem.W.codeIn K cd_set_of "set_of" = true) (k_set_of : PySem.W.keepIn K (.ref f_set_of) = true)
    (a_sets_of : PySem.W.nsIn K mainGlobals "sets_of" = some (some (.ref f_sets_of)))
    (l_sets_of : K.lookup f_sets_of = some ⟨oc_sets_of, od_sets_of, .func (PySem.W.fnOf "sets_of" "sets_of" (defArgs s_sets_of) (defBody s_sets_of) (defScope s_sets_of) .none kV_sets_of dc_sets_of pm_sets_of an_sets_of cd_sets_of ct_sets_of), sl_sets_of⟩) (c_sets_of : PySem.W.codeIn K cd_sets_of "sets_of" = true) (k_sets_of : PySem.W.keepIn K (.ref f_sets_of) = true)
    (a_mask_of : PySem.W.nsIn K mainGlobals "mask_of" = some (some (.ref f_mask_of)))
    (l_mask_of : K.lookup f_mask_of = some ⟨oc_mask_of, od_mask_of, .func (PySem.W.fnOf "mask_of" "mask_of" (defArgs s_mask_of) (defBody s_mask_of) (defScope s_mask_of) .none kV_mask_of dc_mask_of pm_mask_of an_mask_of cd_mask_of ct_mask_of), sl_mask_of⟩) (c_mask_of : PySem.W.codeIn K cd_mask_of "mask_of" = true) (k_mask_of : PySem.W.keepIn K (.ref f_mask_of) = true)
    (a_masks_of : PySem.W.nsIn K mainGlobals "masks_of" = some (some (.ref f_masks_of)))
    (l_masks_of : K.lookup f_masks_of = some ⟨oc_masks_of, od_masks_of, .func (PySem.W.fnOf "masks_of" "masks_of" (defArgs s_masks_of) (defBody s_masks_of) (defScope s_masks_of) .none kV_masks_of dc_masks_of pm_masks_of an_masks_of cd_masks_of ct_masks_of), sl_masks_of⟩) (c_masks_of : PySem.W.codeIn K cd_masks_of "masks_of" = true) (k_masks_of : PySem.W.keepIn K (.ref f_masks_of) = true)
    (a_places_in : PySem.W.nsIn K mainGlobals "places_in" = some (some (.ref f_places_in)))
    (l_places_in : K.lookup f_places_in = some ⟨oc_places_in, od_places_in, .func (PySem.W.fnOf "places_in" "places_in" (defArgs s_places_in) (defBody s_places_in) (defScope s_places_in) .none kV_places_in dc_places_in pm_places_in an_places_in cd_places_in ct_places_in), sl_places_in⟩) (c_places_in : PySem.W.codeIn K cd_places_in "places_in" = true) (k_places_in : PySem.W.keepIn K (.ref f_places_in) = true)
    (a_places_outside : PySem.W.nsIn K mainGlobals "places_outside" = some (some (.ref f_places_outside)))
    (l_places_outside : K.lookup f_places_outside = some ⟨oc_places_outside, od_places_outside, .func (PySem.W.fnOf "places_outside" "places_outside" (defArgs s_places_outside) (defBody s_places_outside) (defScope s_places_outside) .none kV_places_outside dc_places_outside pm_places_outside an_places_outside cd_places_outside ct_places_outside), sl_places_outside⟩) (c_places_outside : PySem.W.codeIn K cd_places_outside "places_outside" = true) (k_places_outside : PySem.W.keepIn K (.ref f_places_outside) = true)
    (a_sizes_of_masks : PySem.W.nsIn K mainGlobals "sizes_of_masks" = some (some (.ref f_sizes_of_masks)))
    (l_sizes_of_masks : K.lookup f_sizes_of_masks = some ⟨oc_sizes_of_masks, od_sizes_of_masks, .func (PySem.W.fnOf "sizes_of_masks" "sizes_of_masks" (defArgs s_sizes_of_masks) (defBody s_sizes_of_masks) (defScope s_sizes_of_masks) .none kV_sizes_of_masks dc_sizes_of_masks pm_sizes_of_masks an_sizes_of_masks cd_sizes_of_masks ct_sizes_of_masks), sl_sizes_of_masks⟩) (c_sizes_of_masks : PySem.W.codeIn K cd_sizes_of_masks "sizes_of_masks" = true) (k_sizes_of_masks : PySem.W.keepIn K (.ref f_sizes_of_masks) = true)
    (a_flags_above : PySem.W.nsIn K mainGlobals "flags_above" = some (some (.ref f_flags_above)))
    (l_flags_above : K.lookup f_flags_above = some ⟨oc_flags_above, od_flags_above, .func (PySem.W.fnOf "flags_above" "flags_above" (defArgs s_flags_above) (defBody s_flags_above) (defScope s_flags_above) .none kV_flags_above dc_flags_above pm_flags_above an_flags_above cd_flags_above ct_flags_above), sl_flags_above⟩) (c_flags_above : PySem.W.codeIn K cd_flags_above "flags_above" = true) (k_flags_above : PySem.W.keepIn K (.ref f_flags_above) = true)
    (a_flags_below : PySem.W.nsIn K mainGlobals "flags_below" = some (some (.ref f_flags_below)))
    (l_flags_below : K.lookup f_flags_below = some ⟨oc_flags_below, od_flags_below, .func (PySem.W.fnOf "flags_below" "flags_below" (defArgs s_flags_below) (defBody s_flags_below) (defScope s_flags_below) .none kV_flags_below dc_flags_below pm_flags_below an_flags_below cd_flags_below ct_flags_below), sl_flags_below⟩) (c_flags_below : PySem.W.codeIn K cd_flags_below "flags_below" = true) (k_flags_below : PySem.W.keepIn K (.ref f_flags_below) = true)
    (a_ranks_by_bases : PySem.W.nsIn K mainGlobals "ranks_by_bases" = some (some (.ref f_ranks_by_bases)))
    (l_ranks_by_bases : K.lookup f_ranks_by_bases = some ⟨oc_ranks_by_bases, od_ranks_by_bases, .func (PySem.W.fnOf "ranks_by_bases" "ranks_by_bases" (defArgs s_ranks_by_bases) (defBody s_ranks_by_bases) (defScope s_ranks_by_bases) .none kV_ranks_by_bases dc_ranks_by_bases pm_ranks_by_bases an_ranks_by_bases cd_ranks_by_bases ct_ranks_by_bases), sl_ranks_by_bases⟩) (c_ranks_by_bases : PySem.W.codeIn K cd_ranks_by_bases "ranks_by_bases" = true) (k_ranks_by_bases : PySem.W.keepIn K (.ref f_ranks_by_bases) = true)
    (a_closure_mask : PySem.W.nsIn K mainGlobals "closure_mask" = some (some (.ref f_closure_mask)))
    (l_closure_mask : K.lookup f_closure_mask = some ⟨oc_closure_mask, od_closure_mask, .func (PySem.W.fnOf "closure_mask" "closure_mask" (defArgs s_closure_mask) (defBody s_closure_mask) (defScope s_closure_mask) .none kV_closure_mask dc_closure_mask pm_closure_mask an_closure_mask cd_closure_mask ct_closure_mask), sl_closure_mask⟩) (c_closure_mask : PySem.W.codeIn K cd_closure_mask "closure_mask" = true) (k_closure_mask : PySem.W.keepIn K (.ref f_closure_mask) = true)
    (a_circuit_masks : PySem.W.nsIn K mainGlobals "circuit_masks" = some (some (.ref f_circuit_masks)))
    (l_circuit_masks : K.lookup f_circuit_masks = some ⟨oc_circuit_masks, od_circuit_masks, .func (PySem.W.fnOf "circuit_masks" "circuit_masks" (defArgs s_circuit_masks) (defBody s_circuit_masks) (defScope s_circuit_masks) .none kV_circuit_masks dc_circuit_masks pm_circuit_masks an_circuit_masks cd_circuit_masks ct_circuit_masks), sl_circuit_masks⟩) (c_circuit_masks : PySem.W.codeIn K cd_circuit_masks "circuit_masks" = true) (k_circuit_masks : PySem.W.keepIn K (.ref f_circuit_masks) = true)
    (a_is_circuit_mask : PySem.W.nsIn K mainGlobals "is_circuit_mask" = some (some (.ref f_is_circuit_mask)))
    (l_is_circuit_mask : K.lookup f_is_circuit_mask = some ⟨oc_is_circuit_mask, od_is_circuit_mask, .func (PySem.W.fnOf "is_circuit_mask" "is_circuit_mask" (defArgs s_is_circuit_mask) (defBody s_is_circuit_mask) (defScope s_is_circuit_mask) .none kV_is_circuit_mask dc_is_circuit_mask pm_is_circuit_mask an_is_circuit_mask cd_is_circuit_mask ct_is_circuit_mask), sl_is_circuit_mask⟩) (c_is_circuit_mask : PySem.W.codeIn K cd_is_circuit_mask "is_circuit_mask" = true) (k_is_circuit_mask : PySem.W.keepIn K (.ref f_is_circuit_mask) = true)
    (a_flat_masks : PySem.W.nsIn K mainGlobals "flat_masks" = some (some (.ref f_flat_masks)))
    (l_flat_masks : K.lookup f_flat_masks = some ⟨oc_flat_masks, od_flat_masks, .func (PySem.W.fnOf "flat_masks" "flat_masks" (defArgs s_flat_masks) (defBody s_flat_masks) (defScope s_flat_masks) .none kV_flat_masks dc_flat_masks pm_flat_masks an_flat_masks cd_flat_masks ct_flat_masks), sl_flat_masks⟩) (c_flat_masks : PySem.W.codeIn K cd_flat_masks "flat_masks" = true) (k_flat_masks : PySem.W.keepIn K (.ref f_flat_masks) = true)
    (a_fault_in : PySem.W.nsIn K mainGlobals "fault_in" = some (some (.ref f_fault_in)))
    (l_fault_in : K.lookup f_fault_in = some ⟨oc_fault_in, od_fault_in, .func (PySem.W.fnOf "fault_in" "fault_in" (defArgs s_fault_in) (defBody s_fault_in) (defScope s_fault_in) .none kV_fault_in dc_fault_in pm_fault_in an_fault_in cd_fault_in ct_fault_in), sl_fault_in⟩) (c_fault_in : PySem.W.codeIn K cd_fault_in "fault_in" = true) (k_fault_in : PySem.W.keepIn K (.ref f_fault_in) = true)
    (a_fault_in_bases : PySem.W.nsIn K mainGlobals "fault_in_bases" = some (some (.ref f_fault_in_bases)))
    (l_fault_in_bases : K.lookup f_fault_in_bases = some ⟨oc_fault_in_bases, od_fault_in_bases, .func (PySem.W.fnOf "fault_in_bases" "fault_in_bases" (defArgs s_fault_in_bases) (defBody s_fault_in_bases) (defScope s_fault_in_bases) .none kV_fault_in_bases dc_fault_in_bases pm_fault_in_bases an_fault_in_bases cd_fault_in_bases ct_fault_in_bases), sl_fault_in_bases⟩) (c_fault_in_bases : PySem.W.codeIn K cd_fault_in_bases "fault_in_bases" = true) (k_fault_in_bases : PySem.W.keepIn K (.ref f_fault_in_bases) = true)
    (a__exchange_fault : PySem.W.nsIn K mainGlobals "_exchange_fault" = some (some (.ref f__exchange_fault)))
    (l__exchange_fault : K.lookup f__exchange_fault = some ⟨oc__exchange_fault, od__exchange_fault, .func (PySem.W.fnOf "_exchange_fault" "_exchange_fault" (defArgs s__exchange_fault) (defBody s__exchange_fault) (defScope s__exchange_fault) .none kV__exchange_fault dc__exchange_fault pm__exchange_fault an__exchange_fault cd__exchange_fault ct__exchange_fault), sl__exchange_fault⟩) (c__exchange_fault : PySem.W.codeIn K cd__exchange_fault "_exchange_fault" = true) (k__exchange_fault : PySem.W.keepIn K (.ref f__exchange_fault) = true)
    (a__barriers : PySem.W.nsIn K mainGlobals "_barriers" = some (some (.ref f__barriers)))
    (l__barriers : K.lookup f__barriers = some ⟨oc__barriers, od__barriers, .func (PySem.W.fnOf "_barriers" "_barriers" (defArgs s__barriers) (defBody s__barriers) (defScope s__barriers) .none kV__barriers dc__barriers pm__barriers an__barriers cd__barriers ct__barriers), sl__barriers⟩) (c__barriers : PySem.W.codeIn K cd__barriers "_barriers" = true) (k__barriers : PySem.W.keepIn K (.ref f__barriers) = true)
    (a_rest_of : PySem.W.nsIn K mainGlobals "rest_of" = some (some (.ref f_rest_of)))
    (l_rest_of : K.lookup f_rest_of = some ⟨oc_rest_of, od_rest_of, .func (PySem.W.fnOf "rest_of" "rest_of" (defArgs s_rest_of) (defBody s_rest_of) (defScope s_rest_of) .none kV_rest_of dc_rest_of pm_rest_of an_rest_of cd_rest_of ct_rest_of), sl_rest_of⟩) (c_rest_of : PySem.W.codeIn K cd_rest_of "rest_of" = true) (k_rest_of : PySem.W.keepIn K (.ref f_rest_of) = true)
    (a_Matroid___init__ : PySem.W.findIn K (.ref C) "__init__" = some (some (.ref f_Matroid___init__))) (i_Matroid___init__ : PySem.W.isFn K (.ref f_Matroid___init__) = true)
    (l_Matroid___init__ : K.lookup f_Matroid___init__ = some ⟨oc_Matroid___init__, od_Matroid___init__, .func (PySem.W.fnOf "__init__" "Matroid.__init__" (defArgs s_Matroid___init__) (defBody s_Matroid___init__) (defScope s_Matroid___init__) .none kV_Matroid___init__ dc_Matroid___init__ pm_Matroid___init__ an_Matroid___init__ cd_Matroid___init__ ct_Matroid___init__), sl_Matroid___init__⟩) (c_Matroid___init__ : PySem.W.codeIn K cd_Matroid___init__ "Matroid.__init__" = true) (k_Matroid___init__ : PySem.W.keepIn K (.ref f_Matroid___init__) = true)
    (p1_mask_ranks : PySem.W.findIn K (.ref C) "mask_ranks" = some (some (.ref pa_mask_ranks))) (p2_mask_ranks : PySem.W.specialIn K (.ref pa_mask_ranks) "__get__" = some (some (.builtin "property.__get__"))) (p3_mask_ranks : PySem.W.takesIn K (.ref pa_mask_ranks) = some true) (p4_mask_ranks : PySem.W.recIn K pa_mask_ranks "property" = some (.ref f_Matroid_mask_ranks :: rest_mask_ranks))
    (l_Matroid_mask_ranks : K.lookup f_Matroid_mask_ranks = some ⟨oc_Matroid_mask_ranks, od_Matroid_mask_ranks, .func (PySem.W.fnOf "mask_ranks" "Matroid.mask_ranks" (defArgs s_Matroid_mask_ranks) (defBody s_Matroid_mask_ranks) (defScope s_Matroid_mask_ranks) .none kV_Matroid_mask_ranks dc_Matroid_mask_ranks pm_Matroid_mask_ranks an_Matroid_mask_ranks cd_Matroid_mask_ranks ct_Matroid_mask_ranks), sl_Matroid_mask_ranks⟩) (c_Matroid_mask_ranks : PySem.W.codeIn K cd_Matroid_mask_ranks "Matroid.mask_ranks" = true) (k_Matroid_mask_ranks : PySem.W.keepIn K (.ref f_Matroid_mask_ranks) = true)
    (a_Matroid_dual : PySem.W.findIn K (.ref C) "dual" = some (some (.ref f_Matroid_dual))) (i_Matroid_dual : PySem.W.isFn K (.ref f_Matroid_dual) = true)
    (l_Matroid_dual : K.lookup f_Matroid_dual = some ⟨oc_Matroid_dual, od_Matroid_dual, .func (PySem.W.fnOf "dual" "Matroid.dual" (defArgs s_Matroid_dual) (defBody s_Matroid_dual) (defScope s_Matroid_dual) .none kV_Matroid_dual dc_Matroid_dual pm_Matroid_dual an_Matroid_dual cd_Matroid_dual ct_Matroid_dual), sl_Matroid_dual⟩) (c_Matroid_dual : PySem.W.codeIn K cd_Matroid_dual "Matroid.dual" = true) (k_Matroid_dual : PySem.W.keepIn K (.ref f_Matroid_dual) = true)
    (a_sure_matroid : PySem.W.nsIn K mainGlobals "sure_matroid" = some (some (.ref f_sure_matroid)))
    (l_sure_matroid : K.lookup f_sure_matroid = some ⟨oc_sure_matroid, od_sure_matroid, .func (PySem.W.fnOf "sure_matroid" "sure_matroid" (defArgs s_sure_matroid) (defBody s_sure_matroid) (defScope s_sure_matroid) .none kV_sure_matroid dc_sure_matroid pm_sure_matroid an_sure_matroid cd_sure_matroid ct_sure_matroid), sl_sure_matroid⟩) (c_sure_matroid : PySem.W.codeIn K cd_sure_matroid "sure_matroid" = true) (k_sure_matroid : PySem.W.keepIn K (.ref f_sure_matroid) = true)
    (a_check_matroid : PySem.W.nsIn K mainGlobals "check_matroid" = some (some (.ref f_check_matroid)))
    (l_check_matroid : K.lookup f_check_matroid = some ⟨oc_check_matroid, od_check_matroid, .func (PySem.W.fnOf "check_matroid" "check_matroid" (defArgs s_check_matroid) (defBody s_check_matroid) (defScope s_check_matroid) .none kV_check_matroid dc_check_matroid pm_check_matroid an_check_matroid cd_check_matroid ct_check_matroid), sl_check_matroid⟩) (c_check_matroid : PySem.W.codeIn K cd_check_matroid "check_matroid" = true) (k_check_matroid : PySem.W.keepIn K (.ref f_check_matroid) = true)
    (a_parts_of : PySem.W.nsIn K mainGlobals "parts_of" = some (some (.ref f_parts_of)))
    (l_parts_of : K.lookup f_parts_of = some ⟨oc_parts_of, od_parts_of, .func (PySem.W.fnOf "parts_of" "parts_of" (defArgs s_parts_of) (defBody s_parts_of) (defScope s_parts_of) .none kV_parts_of dc_parts_of pm_parts_of an_parts_of cd_parts_of ct_parts_of), sl_parts_of⟩) (c_parts_of : PySem.W.codeIn K cd_parts_of "parts_of" = true) (k_parts_of : PySem.W.keepIn K (.ref f_parts_of) = true)
    (a__connectivity : PySem.W.nsIn K mainGlobals "_connectivity" = some (some (.ref f__connectivity)))
    (l__connectivity : K.lookup f__connectivity = some ⟨oc__connectivity, od__connectivity, .func (PySem.W.fnOf "_connectivity" "_connectivity" (defArgs s__connectivity) (defBody s__connectivity) (defScope s__connectivity) .none kV__connectivity dc__connectivity pm__connectivity an__connectivity cd__connectivity ct__connectivity), sl__connectivity⟩) (c__connectivity : PySem.W.codeIn K cd__connectivity "_connectivity" = true) (k__connectivity : PySem.W.keepIn K (.ref f__connectivity) = true)
    (a_splits_of : PySem.W.nsIn K mainGlobals "splits_of" = some (some (.ref f_splits_of)))
    (l_splits_of : K.lookup f_splits_of = some ⟨oc_splits_of, od_splits_of, .func (PySem.W.fnOf "splits_of" "splits_of" (defArgs s_splits_of) (defBody s_splits_of) (defScope s_splits_of) .none kV_splits_of dc_splits_of pm_splits_of an_splits_of cd_splits_of ct_splits_of), sl_splits_of⟩) (c_splits_of : PySem.W.codeIn K cd_splits_of "splits_of" = true) (k_splits_of : PySem.W.keepIn K (.ref f_splits_of) = true)
    (a_good_splits_of : PySem.W.nsIn K mainGlobals "good_splits_of" = some (some (.ref f_good_splits_of)))
    (l_good_splits_of : K.lookup f_good_splits_of = some ⟨oc_good_splits_of, od_good_splits_of, .func (PySem.W.fnOf "good_splits_of" "good_splits_of" (defArgs s_good_splits_of) (defBody s_good_splits_of) (defScope s_good_splits_of) .none kV_good_splits_of dc_good_splits_of pm_good_splits_of an_good_splits_of cd_good_splits_of ct_good_splits_of), sl_good_splits_of⟩) (c_good_splits_of : PySem.W.codeIn K cd_good_splits_of "good_splits_of" = true) (k_good_splits_of : PySem.W.keepIn K (.ref f_good_splits_of) = true)
    (a__split_masks : PySem.W.nsIn K mainGlobals "_split_masks" = some (some (.ref f__split_masks)))
    (l__split_masks : K.lookup f__split_masks = some ⟨oc__split_masks, od__split_masks, .func (PySem.W.fnOf "_split_masks" "_split_masks" (defArgs s__split_masks) (defBody s__split_masks) (defScope s__split_masks) .none kV__split_masks dc__split_masks pm__split_masks an__split_masks cd__split_masks ct__split_masks), sl__split_masks⟩) (c__split_masks : PySem.W.codeIn K cd__split_masks "_split_masks" = true) (k__split_masks : PySem.W.keepIn K (.ref f__split_masks) = true)
    (a__crosses_one : PySem.W.nsIn K mainGlobals "_crosses_one" = some (some (.ref f__crosses_one)))
    (l__crosses_one : K.lookup f__crosses_one = some ⟨oc__crosses_one, od__crosses_one, .func (PySem.W.fnOf "_crosses_one" "_crosses_one" (defArgs s__crosses_one) (defBody s__crosses_one) (defScope s__crosses_one) .none kV__crosses_one dc__crosses_one pm__crosses_one an__crosses_one cd__crosses_one ct__crosses_one), sl__crosses_one⟩) (c__crosses_one : PySem.W.codeIn K cd__crosses_one "_crosses_one" = true) (k__crosses_one : PySem.W.keepIn K (.ref f__crosses_one) = true)
    (a__check_one_part : PySem.W.nsIn K mainGlobals "_check_one_part" = some (some (.ref f__check_one_part)))
    (l__check_one_part : K.lookup f__check_one_part = some ⟨oc__check_one_part, od__check_one_part, .func (PySem.W.fnOf "_check_one_part" "_check_one_part" (defArgs s__check_one_part) (defBody s__check_one_part) (defScope s__check_one_part) .none kV__check_one_part dc__check_one_part pm__check_one_part an__check_one_part cd__check_one_part ct__check_one_part), sl__check_one_part⟩) (c__check_one_part : PySem.W.codeIn K cd__check_one_part "_check_one_part" = true) (k__check_one_part : PySem.W.keepIn K (.ref f__check_one_part) = true)
    (a__law_source : PySem.W.nsIn K mainGlobals "_law_source" = some (some (.ref f__law_source)))
    (l__law_source : K.lookup f__law_source = some ⟨oc__law_source, od__law_source, .func (PySem.W.fnOf "_law_source" "_law_source" (defArgs s__law_source) (defBody s__law_source) (defScope s__law_source) .none kV__law_source dc__law_source pm__law_source an__law_source cd__law_source ct__law_source), sl__law_source⟩) (c__law_source : PySem.W.codeIn K cd__law_source "_law_source" = true) (k__law_source : PySem.W.keepIn K (.ref f__law_source) = true)
    (a__law_next : PySem.W.nsIn K mainGlobals "_law_next" = some (some (.ref f__law_next)))
    (l__law_next : K.lookup f__law_next = some ⟨oc__law_next, od__law_next, .func (PySem.W.fnOf "_law_next" "_law_next" (defArgs s__law_next) (defBody s__law_next) (defScope s__law_next) .none kV__law_next dc__law_next pm__law_next an__law_next cd__law_next ct__law_next), sl__law_next⟩) (c__law_next : PySem.W.codeIn K cd__law_next "_law_next" = true) (k__law_next : PySem.W.keepIn K (.ref f__law_next) = true)
    (a__law_pick : PySem.W.nsIn K mainGlobals "_law_pick" = some (some (.ref f__law_pick)))
    (l__law_pick : K.lookup f__law_pick = some ⟨oc__law_pick, od__law_pick, .func (PySem.W.fnOf "_law_pick" "_law_pick" (defArgs s__law_pick) (defBody s__law_pick) (defScope s__law_pick) .none kV__law_pick dc__law_pick pm__law_pick an__law_pick cd__law_pick ct__law_pick), sl__law_pick⟩) (c__law_pick : PySem.W.codeIn K cd__law_pick "_law_pick" = true) (k__law_pick : PySem.W.keepIn K (.ref f__law_pick) = true)
    (a__law_turned : PySem.W.nsIn K mainGlobals "_law_turned" = some (some (.ref f__law_turned)))
    (l__law_turned : K.lookup f__law_turned = some ⟨oc__law_turned, od__law_turned, .func (PySem.W.fnOf "_law_turned" "_law_turned" (defArgs s__law_turned) (defBody s__law_turned) (defScope s__law_turned) .none kV__law_turned dc__law_turned pm__law_turned an__law_turned cd__law_turned ct__law_turned), sl__law_turned⟩) (c__law_turned : PySem.W.codeIn K cd__law_turned "_law_turned" = true) (k__law_turned : PySem.W.keepIn K (.ref f__law_turned) = true)
    (a__law_count : PySem.W.nsIn K mainGlobals "_law_count" = some (some (.ref f__law_count)))
    (l__law_count : K.lookup f__law_count = some ⟨oc__law_count, od__law_count, .func (PySem.W.fnOf "_law_count" "_law_count" (defArgs s__law_count) (defBody s__law_count) (defScope s__law_count) .none kV__law_count dc__law_count pm__law_count an__law_count cd__law_count ct__law_count), sl__law_count⟩) (c__law_count : PySem.W.codeIn K cd__law_count "_law_count" = true) (k__law_count : PySem.W.keepIn K (.ref f__law_count) = true)
    (a__law_ranks : PySem.W.nsIn K mainGlobals "_law_ranks" = some (some (.ref f__law_ranks)))
    (l__law_ranks : K.lookup f__law_ranks = some ⟨oc__law_ranks, od__law_ranks, .func (PySem.W.fnOf "_law_ranks" "_law_ranks" (defArgs s__law_ranks) (defBody s__law_ranks) (defScope s__law_ranks) .none kV__law_ranks dc__law_ranks pm__law_ranks an__law_ranks cd__law_ranks ct__law_ranks), sl__law_ranks⟩) (c__law_ranks : PySem.W.codeIn K cd__law_ranks "_law_ranks" = true) (k__law_ranks : PySem.W.keepIn K (.ref f__law_ranks) = true)
    (a__law_sized : PySem.W.nsIn K mainGlobals "_law_sized" = some (some (.ref f__law_sized)))
    (l__law_sized : K.lookup f__law_sized = some ⟨oc__law_sized, od__law_sized, .func (PySem.W.fnOf "_law_sized" "_law_sized" (defArgs s__law_sized) (defBody s__law_sized) (defScope s__law_sized) .none kV__law_sized dc__law_sized pm__law_sized an__law_sized cd__law_sized ct__law_sized), sl__law_sized⟩) (c__law_sized : PySem.W.codeIn K cd__law_sized "_law_sized" = true) (k__law_sized : PySem.W.keepIn K (.ref f__law_sized) = true)
    (a__law_sparse : PySem.W.nsIn K mainGlobals "_law_sparse" = some (some (.ref f__law_sparse)))
    (l__law_sparse : K.lookup f__law_sparse = some ⟨oc__law_sparse, od__law_sparse, .func (PySem.W.fnOf "_law_sparse" "_law_sparse" (defArgs s__law_sparse) (defBody s__law_sparse) (defScope s__law_sparse) .none kV__law_sparse dc__law_sparse pm__law_sparse an__law_sparse cd__law_sparse ct__law_sparse), sl__law_sparse⟩) (c__law_sparse : PySem.W.codeIn K cd__law_sparse "_law_sparse" = true) (k__law_sparse : PySem.W.keepIn K (.ref f__law_sparse) = true)
    (a__law_forest_bases : PySem.W.nsIn K mainGlobals "_law_forest_bases" = some (some (.ref f__law_forest_bases)))
    (l__law_forest_bases : K.lookup f__law_forest_bases = some ⟨oc__law_forest_bases, od__law_forest_bases, .func (PySem.W.fnOf "_law_forest_bases" "_law_forest_bases" (defArgs s__law_forest_bases) (defBody s__law_forest_bases) (defScope s__law_forest_bases) .none kV__law_forest_bases dc__law_forest_bases pm__law_forest_bases an__law_forest_bases cd__law_forest_bases ct__law_forest_bases), sl__law_forest_bases⟩) (c__law_forest_bases : PySem.W.codeIn K cd__law_forest_bases "_law_forest_bases" = true) (k__law_forest_bases : PySem.W.keepIn K (.ref f__law_forest_bases) = true)
    (a__law_drawn_lines : PySem.W.nsIn K mainGlobals "_law_drawn_lines" = some (some (.ref f__law_drawn_lines)))
    (l__law_drawn_lines : K.lookup f__law_drawn_lines = some ⟨oc__law_drawn_lines, od__law_drawn_lines, .func (PySem.W.fnOf "_law_drawn_lines" "_law_drawn_lines" (defArgs s__law_drawn_lines) (defBody s__law_drawn_lines) (defScope s__law_drawn_lines) .none kV__law_drawn_lines dc__law_drawn_lines pm__law_drawn_lines an__law_drawn_lines cd__law_drawn_lines ct__law_drawn_lines), sl__law_drawn_lines⟩) (c__law_drawn_lines : PySem.W.codeIn K cd__law_drawn_lines "_law_drawn_lines" = true) (k__law_drawn_lines : PySem.W.keepIn K (.ref f__law_drawn_lines) = true)
    (a__law_column_bases : PySem.W.nsIn K mainGlobals "_law_column_bases" = some (some (.ref f__law_column_bases)))
    (l__law_column_bases : K.lookup f__law_column_bases = some ⟨oc__law_column_bases, od__law_column_bases, .func (PySem.W.fnOf "_law_column_bases" "_law_column_bases" (defArgs s__law_column_bases) (defBody s__law_column_bases) (defScope s__law_column_bases) .none kV__law_column_bases dc__law_column_bases pm__law_column_bases an__law_column_bases cd__law_column_bases ct__law_column_bases), sl__law_column_bases⟩) (c__law_column_bases : PySem.W.codeIn K cd__law_column_bases "_law_column_bases" = true) (k__law_column_bases : PySem.W.keepIn K (.ref f__law_column_bases) = true)
    (a__law_drawn_bases : PySem.W.nsIn K mainGlobals "_law_drawn_bases" = some (some (.ref f__law_drawn_bases)))
    (l__law_drawn_bases : K.lookup f__law_drawn_bases = some ⟨oc__law_drawn_bases, od__law_drawn_bases, .func (PySem.W.fnOf "_law_drawn_bases" "_law_drawn_bases" (defArgs s__law_drawn_bases) (defBody s__law_drawn_bases) (defScope s__law_drawn_bases) .none kV__law_drawn_bases dc__law_drawn_bases pm__law_drawn_bases an__law_drawn_bases cd__law_drawn_bases ct__law_drawn_bases), sl__law_drawn_bases⟩) (c__law_drawn_bases : PySem.W.codeIn K cd__law_drawn_bases "_law_drawn_bases" = true) (k__law_drawn_bases : PySem.W.keepIn K (.ref f__law_drawn_bases) = true)
    (a__law_drawn_ground : PySem.W.nsIn K mainGlobals "_law_drawn_ground" = some (some (.ref f__law_drawn_ground)))
    (l__law_drawn_ground : K.lookup f__law_drawn_ground = some ⟨oc__law_drawn_ground, od__law_drawn_ground, .func (PySem.W.fnOf "_law_drawn_ground" "_law_drawn_ground" (defArgs s__law_drawn_ground) (defBody s__law_drawn_ground) (defScope s__law_drawn_ground) .none kV__law_drawn_ground dc__law_drawn_ground pm__law_drawn_ground an__law_drawn_ground cd__law_drawn_ground ct__law_drawn_ground), sl__law_drawn_ground⟩) (c__law_drawn_ground : PySem.W.codeIn K cd__law_drawn_ground "_law_drawn_ground" = true) (k__law_drawn_ground : PySem.W.keepIn K (.ref f__law_drawn_ground) = true)
    (a__law_set : PySem.W.nsIn K mainGlobals "_law_set" = some (some (.ref f__law_set)))
    (l__law_set : K.lookup f__law_set = some ⟨oc__law_set, od__law_set, .func (PySem.W.fnOf "_law_set" "_law_set" (defArgs s__law_set) (defBody s__law_set) (defScope s__law_set) .none kV__law_set dc__law_set pm__law_set an__law_set cd__law_set ct__law_set), sl__law_set⟩) (c__law_set : PySem.W.codeIn K cd__law_set "_law_set" = true) (k__law_set : PySem.W.keepIn K (.ref f__law_set) = true)
    (a__law_given : PySem.W.nsIn K mainGlobals "_law_given" = some (some (.ref f__law_given)))
    (l__law_given : K.lookup f__law_given = some ⟨oc__law_given, od__law_given, .func (PySem.W.fnOf "_law_given" "_law_given" (defArgs s__law_given) (defBody s__law_given) (defScope s__law_given) .none kV__law_given dc__law_given pm__law_given an__law_given cd__law_given ct__law_given), sl__law_given⟩) (c__law_given : PySem.W.codeIn K cd__law_given "_law_given" = true) (k__law_given : PySem.W.keepIn K (.ref f__law_given) = true)
    (a__law_link : PySem.W.nsIn K mainGlobals "_law_link" = some (some (.ref f__law_link)))
    (l__law_link : K.lookup f__law_link = some ⟨oc__law_link, od__law_link, .func (PySem.W.fnOf "_law_link" "_law_link" (defArgs s__law_link) (defBody s__law_link) (defScope s__law_link) .none kV__law_link dc__law_link pm__law_link an__law_link cd__law_link ct__law_link), sl__law_link⟩) (c__law_link : PySem.W.codeIn K cd__law_link "_law_link" = true) (k__law_link : PySem.W.keepIn K (.ref f__law_link) = true)
    (a__law_part_masks : PySem.W.nsIn K mainGlobals "_law_part_masks" = some (some (.ref f__law_part_masks)))
    (l__law_part_masks : K.lookup f__law_part_masks = some ⟨oc__law_part_masks, od__law_part_masks, .func (PySem.W.fnOf "_law_part_masks" "_law_part_masks" (defArgs s__law_part_masks) (defBody s__law_part_masks) (defScope s__law_part_masks) .none kV__law_part_masks dc__law_part_masks pm__law_part_masks an__law_part_masks cd__law_part_masks ct__law_part_masks), sl__law_part_masks⟩) (c__law_part_masks : PySem.W.codeIn K cd__law_part_masks "_law_part_masks" = true) (k__law_part_masks : PySem.W.keepIn K (.ref f__law_part_masks) = true)
    (a__law_split_masks : PySem.W.nsIn K mainGlobals "_law_split_masks" = some (some (.ref f__law_split_masks)))
    (l__law_split_masks : K.lookup f__law_split_masks = some ⟨oc__law_split_masks, od__law_split_masks, .func (PySem.W.fnOf "_law_split_masks" "_law_split_masks" (defArgs s__law_split_masks) (defBody s__law_split_masks) (defScope s__law_split_masks) .none kV__law_split_masks dc__law_split_masks pm__law_split_masks an__law_split_masks cd__law_split_masks ct__law_split_masks), sl__law_split_masks⟩) (c__law_split_masks : PySem.W.codeIn K cd__law_split_masks "_law_split_masks" = true) (k__law_split_masks : PySem.W.keepIn K (.ref f__law_split_masks) = true)
    (a__law_good_masks : PySem.W.nsIn K mainGlobals "_law_good_masks" = some (some (.ref f__law_good_masks)))
    (l__law_good_masks : K.lookup f__law_good_masks = some ⟨oc__law_good_masks, od__law_good_masks, .func (PySem.W.fnOf "_law_good_masks" "_law_good_masks" (defArgs s__law_good_masks) (defBody s__law_good_masks) (defScope s__law_good_masks) .none kV__law_good_masks dc__law_good_masks pm__law_good_masks an__law_good_masks cd__law_good_masks ct__law_good_masks), sl__law_good_masks⟩) (c__law_good_masks : PySem.W.codeIn K cd__law_good_masks "_law_good_masks" = true) (k__law_good_masks : PySem.W.keepIn K (.ref f__law_good_masks) = true)
    (a__law_whole_bases : PySem.W.nsIn K mainGlobals "_law_whole_bases" = some (some (.ref f__law_whole_bases)))
    (l__law_whole_bases : K.lookup f__law_whole_bases = some ⟨oc__law_whole_bases, od__law_whole_bases, .func (PySem.W.fnOf "_law_whole_bases" "_law_whole_bases" (defArgs s__law_whole_bases) (defBody s__law_whole_bases) (defScope s__law_whole_bases) .none kV__law_whole_bases dc__law_whole_bases pm__law_whole_bases an__law_whole_bases cd__law_whole_bases ct__law_whole_bases), sl__law_whole_bases⟩) (c__law_whole_bases : PySem.W.codeIn K cd__law_whole_bases "_law_whole_bases" = true) (k__law_whole_bases : PySem.W.keepIn K (.ref f__law_whole_bases) = true)
    (a__law_sorted_sets : PySem.W.nsIn K mainGlobals "_law_sorted_sets" = some (some (.ref f__law_sorted_sets)))
    (l__law_sorted_sets : K.lookup f__law_sorted_sets = some ⟨oc__law_sorted_sets, od__law_sorted_sets, .func (PySem.W.fnOf "_law_sorted_sets" "_law_sorted_sets" (defArgs s__law_sorted_sets) (defBody s__law_sorted_sets) (defScope s__law_sorted_sets) .none kV__law_sorted_sets dc__law_sorted_sets pm__law_sorted_sets an__law_sorted_sets cd__law_sorted_sets ct__law_sorted_sets), sl__law_sorted_sets⟩) (c__law_sorted_sets : PySem.W.codeIn K cd__law_sorted_sets "_law_sorted_sets" = true) (k__law_sorted_sets : PySem.W.keepIn K (.ref f__law_sorted_sets) = true)
    (a_law : PySem.W.nsIn K mainGlobals "law" = some (some (.ref f_law)))
    (l_law : K.lookup f_law = some ⟨oc_law, od_law, .func (PySem.W.fnOf "law" "law" (defArgs s_law) (defBody s_law) (defScope s_law) .none kV_law dc_law pm_law an_law cd_law ct_law), sl_law⟩) (c_law : PySem.W.codeIn K cd_law "law" = true) (k_law : PySem.W.keepIn K (.ref f_law) = true)
    (pg : PySem.W.plainGet K C Str.empty = true) (hd : PySem.W.hasDictIn K C = true) (po : PySem.W.plainOver K C = true) (sa : PySem.W.findIn K (.ref C) "__setattr__" = some (some (.builtin "object.__setattr__"))) (mk : PySem.W.makesIn K C = true) (kc : PySem.W.keepIn K (.ref C) = true)
    (ic1 : PySem.W.findIn K (.ref C) "__class__" = some (some (.builtin "object.__class__"))) (ic2 : PySem.W.specialIn K (.builtin "object.__class__") "__get__" = some (some (.builtin "getset_descriptor.__get__"))) (ic3 : PySem.W.takesIn K (.builtin "object.__class__") = some true) (ic4 : PySem.W.mroIn K C (.type "object") = some true) (neC : PySem.W.findIn K (.ref C) "__ne__" = some (some (.builtin "object.__ne__")))
    (na_ground : PySem.W.findIn K (.ref C) "ground" = some none)
    (na_bases : PySem.W.findIn K (.ref C) "bases" = some none)
    (na__ranks : PySem.W.findIn K (.ref C) "_ranks" = some none)
    (na__circuits : PySem.W.findIn K (.ref C) "_circuits" = some none)
    (na__flats : PySem.W.findIn K (.ref C) "_flats" = some none) :
    ∃ fd : FuncData, (∀ (s : Shared) (v : Value), BindsTo s fd ⟨[v], []⟩ [("script", v)]) ∧ ∀ base : Heap, K.In base → base.Ns mainGlobals mg → FnG l.prog w K mg base 11 fa fd ["script"] (spLaw K) := by
  have e := hfa.symm.trans (PySem.W.mg_of X G a_law)
  cases e
  have F_is_integer := fun_mk (st := s_is_integer) l_is_integer c_is_integer k_is_integer
  have B_is_integer := F_is_integer.binds (ps := ["thing"]) fun _ _ _ _ _ _ us hl => match us, hl with | [_], _ => rfl
  have F_is_element := fun_mk (st := s_is_element) l_is_element c_is_element k_is_element
  have B_is_element := F_is_element.binds (ps := ["thing"]) fun _ _ _ _ _ _ us hl => match us, hl with | [_], _ => rfl
  have F_is_ascending := fun_mk (st := s_is_ascending) l_is_ascending c_is_ascending k_is_ascending
  have B_is_ascending := F_is_ascending.binds (ps := ["things"]) fun _ _ _ _ _ _ us hl => match us, hl with | [_], _ => rfl
  have F_is_set := fun_mk (st := s_is_set) l_is_set c_is_set k_is_set
  have B_is_set := F_is_set.binds (ps := ["thing"]) fun _ _ _ _ _ _ us hl => match us, hl with | [_], _ => rfl
  have F_is_set_within := fun_mk (st := s_is_set_within) l_is_set_within c_is_set_within k_is_set_within
  have B_is_set_within := F_is_set_within.binds (ps := ["thing", "ground"]) fun _ _ _ _ _ _ us hl => match us, hl with | [_, _], _ => rfl
  have F_are_sets_within := fun_mk (st := s_are_sets_within) l_are_sets_within c_are_sets_within k_are_sets_within
  have B_are_sets_within := F_are_sets_within.binds (ps := ["thing", "ground"]) fun _ _ _ _ _ _ us hl => match us, hl with | [_, _], _ => rfl
  have F_check_ground := fun_mk (st := s_check_ground) l_check_ground c_check_ground k_check_ground
  have B_check_ground := F_check_ground.binds (ps := ["ground"]) fun _ _ _ _ _ _ us hl => match us, hl with | [_], _ => rfl
  have F_check_sets := fun_mk (st := s_check_sets) l_check_sets c_check_sets k_check_sets
  have B_check_sets := F_check_sets.binds (ps := ["things", "ground"]) fun _ _ _ _ _ _ us hl => match us, hl with | [_, _], _ => rfl
  have F_set_of := fun_mk (st := s_set_of) l_set_of c_set_of k_set_of
  have B_set_of := F_set_of.binds (ps := ["mask", "ground"]) fun _ _ _ _ _ _ us hl => match us, hl with | [_, _], _ => rfl
  have F_sets_of := fun_mk (st := s_sets_of) l_sets_of c_sets_of k_sets_of
  have B_sets_of := F_sets_of.binds (ps := ["masks", "ground"]) fun _ _ _ _ _ _ us hl => match us, hl with | [_, _], _ => rfl
  have F_mask_of := fun_mk (st := s_mask_of) l_mask_of c_mask_of k_mask_of
  have B_mask_of := F_mask_of.binds (ps := ["members", "ground"]) fun _ _ _ _ _ _ us hl => match us, hl with | [_, _], _ => rfl
  have F_masks_of := fun_mk (st := s_masks_of) l_masks_of c_masks_of k_masks_of
  have B_masks_of := F_masks_of.binds (ps := ["sets", "ground"]) fun _ _ _ _ _ _ us hl => match us, hl with | [_, _], _ => rfl
  have F_places_in := fun_mk (st := s_places_in) l_places_in c_places_in k_places_in
  have B_places_in := F_places_in.binds (ps := ["mask", "many"]) fun _ _ _ _ _ _ us hl => match us, hl with | [_, _], _ => rfl
  have F_places_outside := fun_mk (st := s_places_outside) l_places_outside c_places_outside k_places_outside
  have B_places_outside := F_places_outside.binds (ps := ["mask", "many"]) fun _ _ _ _ _ _ us hl => match us, hl with | [_, _], _ => rfl
  have F_sizes_of_masks := fun_mk (st := s_sizes_of_masks) l_sizes_of_masks c_sizes_of_masks k_sizes_of_masks
  have B_sizes_of_masks := F_sizes_of_masks.binds (ps := ["many"]) fun _ _ _ _ _ _ us hl => match us, hl with | [_], _ => rfl
  have F_flags_above := fun_mk (st := s_flags_above) l_flags_above c_flags_above k_flags_above
  have B_flags_above := F_flags_above.binds (ps := ["masks", "many"]) fun _ _ _ _ _ _ us hl => match us, hl with | [_, _], _ => rfl
  have F_flags_below := fun_mk (st := s_flags_below) l_flags_below c_flags_below k_flags_below
  have B_flags_below := F_flags_below.binds (ps := ["masks", "many"]) fun _ _ _ _ _ _ us hl => match us, hl with | [_, _], _ => rfl
  have F_ranks_by_bases := fun_mk (st := s_ranks_by_bases) l_ranks_by_bases c_ranks_by_bases k_ranks_by_bases
  have B_ranks_by_bases := F_ranks_by_bases.binds (ps := ["masks", "many"]) fun _ _ _ _ _ _ us hl => match us, hl with | [_, _], _ => rfl
  have F_closure_mask := fun_mk (st := s_closure_mask) l_closure_mask c_closure_mask k_closure_mask
  have B_closure_mask := F_closure_mask.binds (ps := ["mask", "ranks", "many"]) fun _ _ _ _ _ _ us hl => match us, hl with | [_, _, _], _ => rfl
  have F_circuit_masks := fun_mk (st := s_circuit_masks) l_circuit_masks c_circuit_masks k_circuit_masks
  have B_circuit_masks := F_circuit_masks.binds (ps := ["ranks", "many"]) fun _ _ _ _ _ _ us hl => match us, hl with | [_, _], _ => rfl
  have F_is_circuit_mask := fun_mk (st := s_is_circuit_mask) l_is_circuit_mask c_is_circuit_mask k_is_circuit_mask
  have B_is_circuit_mask := F_is_circuit_mask.binds (ps := ["mask", "ranks", "many"]) fun _ _ _ _ _ _ us hl => match us, hl with | [_, _, _], _ => rfl
  have F_flat_masks := fun_mk (st := s_flat_masks) l_flat_masks c_flat_masks k_flat_masks
  have B_flat_masks := F_flat_masks.binds (ps := ["ranks", "many"]) fun _ _ _ _ _ _ us hl => match us, hl with | [_, _], _ => rfl
  have F_fault_in := fun_mk (st := s_fault_in) l_fault_in c_fault_in k_fault_in
  have B_fault_in := F_fault_in.binds (ps := ["kind", "ground", "table"]) fun _ _ _ _ _ _ us hl => match us, hl with | [_, _, _], _ => rfl
  have F_fault_in_bases := fun_mk (st := s_fault_in_bases) l_fault_in_bases c_fault_in_bases k_fault_in_bases
  have B_fault_in_bases := F_fault_in_bases.binds (ps := ["ground", "bases"]) fun _ _ _ _ _ _ us hl => match us, hl with | [_, _], _ => rfl
  have F__exchange_fault := fun_mk (st := s__exchange_fault) l__exchange_fault c__exchange_fault k__exchange_fault
  have B__exchange_fault := F__exchange_fault.binds (ps := ["ground", "bases"]) fun _ _ _ _ _ _ us hl => match us, hl with | [_, _], _ => rfl
  have F__barriers := fun_mk (st := s__barriers) l__barriers c__barriers k__barriers
  have B__barriers := F__barriers.binds (ps := ["mask", "known", "many"]) fun _ _ _ _ _ _ us hl => match us, hl with | [_, _, _], _ => rfl
  have F_rest_of := fun_mk (st := s_rest_of) l_rest_of c_rest_of k_rest_of
  have B_rest_of := F_rest_of.binds (ps := ["members", "gone"]) fun _ _ _ _ _ _ us hl => match us, hl with | [_, _], _ => rfl
  have F_Matroid___init__ := fun_mk (st := s_Matroid___init__) l_Matroid___init__ c_Matroid___init__ k_Matroid___init__
  have B_Matroid___init__ := F_Matroid___init__.binds (ps := ["self", "ground", "bases"]) fun _ _ _ _ _ _ us hl => match us, hl with | [_, _, _], _ => rfl
  have F_Matroid_mask_ranks := fun_mk (st := s_Matroid_mask_ranks) l_Matroid_mask_ranks c_Matroid_mask_ranks k_Matroid_mask_ranks
  have B_Matroid_mask_ranks := F_Matroid_mask_ranks.binds (ps := ["self"]) fun _ _ _ _ _ _ us hl => match us, hl with | [_], _ => rfl
  have F_Matroid_dual := fun_mk (st := s_Matroid_dual) l_Matroid_dual c_Matroid_dual k_Matroid_dual
  have B_Matroid_dual := F_Matroid_dual.binds (ps := ["self"]) fun _ _ _ _ _ _ us hl => match us, hl with | [_], _ => rfl
  have F_sure_matroid := fun_mk (st := s_sure_matroid) l_sure_matroid c_sure_matroid k_sure_matroid
  have B_sure_matroid := F_sure_matroid.binds (ps := ["ground", "bases"]) fun _ _ _ _ _ _ us hl => match us, hl with | [_, _], _ => rfl
  have F_check_matroid := fun_mk (st := s_check_matroid) l_check_matroid c_check_matroid k_check_matroid
  have B_check_matroid := F_check_matroid.binds (ps := ["matroid"]) fun _ _ _ _ _ _ us hl => match us, hl with | [_], _ => rfl
  have F_parts_of := fun_mk (st := s_parts_of) l_parts_of c_parts_of k_parts_of
  have B_parts_of := F_parts_of.binds (ps := ["matroid"]) fun _ _ _ _ _ _ us hl => match us, hl with | [_], _ => rfl
  have F__connectivity := fun_mk (st := s__connectivity) l__connectivity c__connectivity k__connectivity
  have B__connectivity := F__connectivity.binds (ps := ["matroid"]) fun _ _ _ _ _ _ us hl => match us, hl with | [_], _ => rfl
  have F_splits_of := fun_mk (st := s_splits_of) l_splits_of c_splits_of k_splits_of
  have B_splits_of := F_splits_of.binds (ps := ["matroid"]) fun _ _ _ _ _ _ us hl => match us, hl with | [_], _ => rfl
  have F_good_splits_of := fun_mk (st := s_good_splits_of) l_good_splits_of c_good_splits_of k_good_splits_of
  have B_good_splits_of := F_good_splits_of.binds (ps := ["matroid"]) fun _ _ _ _ _ _ us hl => match us, hl with | [_], _ => rfl
  have F__split_masks := fun_mk (st := s__split_masks) l__split_masks c__split_masks k__split_masks
  have B__split_masks := F__split_masks.binds (ps := ["matroid"]) fun _ _ _ _ _ _ us hl => match us, hl with | [_], _ => rfl
  have F__crosses_one := fun_mk (st := s__crosses_one) l__crosses_one c__crosses_one k__crosses_one
  have B__crosses_one := F__crosses_one.binds (ps := ["split", "splits", "full"]) fun _ _ _ _ _ _ us hl => match us, hl with | [_, _, _], _ => rfl
  have F__check_one_part := fun_mk (st := s__check_one_part) l__check_one_part c__check_one_part k__check_one_part
  have B__check_one_part := F__check_one_part.binds (ps := ["matroid"]) fun _ _ _ _ _ _ us hl => match us, hl with | [_], _ => rfl
  have F__law_source := fun_mk (st := s__law_source) l__law_source c__law_source k__law_source
  have B__law_source := F__law_source.binds (ps := ["script", "k"]) fun _ _ _ _ _ _ us hl => match us, hl with | [_, _], _ => rfl
  have F__law_next := fun_mk (st := s__law_next) l__law_next c__law_next k__law_next
  have B__law_next := F__law_next.binds (ps := ["source", "many"]) fun _ _ _ _ _ _ us hl => match us, hl with | [_, _], _ => rfl
  have F__law_pick := fun_mk (st := s__law_pick) l__law_pick c__law_pick k__law_pick
  have B__law_pick := F__law_pick.binds (ps := ["source", "items"]) fun _ _ _ _ _ _ us hl => match us, hl with | [_, _], _ => rfl
  have F__law_turned := fun_mk (st := s__law_turned) l__law_turned c__law_turned k__law_turned
  have B__law_turned := F__law_turned.binds (ps := ["source", "items"]) fun _ _ _ _ _ _ us hl => match us, hl with | [_, _], _ => rfl
  have F__law_count := fun_mk (st := s__law_count) l__law_count c__law_count k__law_count
  have B__law_count := F__law_count.binds (ps := ["mask"]) fun _ _ _ _ _ _ us hl => match us, hl with | [_], _ => rfl
  have F__law_ranks := fun_mk (st := s__law_ranks) l__law_ranks c__law_ranks k__law_ranks
  have B__law_ranks := F__law_ranks.binds (ps := ["many", "bases"]) fun _ _ _ _ _ _ us hl => match us, hl with | [_, _], _ => rfl
  have F__law_sized := fun_mk (st := s__law_sized) l__law_sized c__law_sized k__law_sized
  have B__law_sized := F__law_sized.binds (ps := ["many", "size"]) fun _ _ _ _ _ _ us hl => match us, hl with | [_, _], _ => rfl
  have F__law_sparse := fun_mk (st := s__law_sparse) l__law_sparse c__law_sparse k__law_sparse
  have B__law_sparse := F__law_sparse.binds (ps := ["source", "many"]) fun _ _ _ _ _ _ us hl => match us, hl with | [_, _], _ => rfl
  have F__law_forest_bases := fun_mk (st := s__law_forest_bases) l__law_forest_bases c__law_forest_bases k__law_forest_bases
  have B__law_forest_bases := F__law_forest_bases.binds (ps := ["many", "lines"]) fun _ _ _ _ _ _ us hl => match us, hl with | [_, _], _ => rfl
  have F__law_drawn_lines := fun_mk (st := s__law_drawn_lines) l__law_drawn_lines c__law_drawn_lines k__law_drawn_lines
  have B__law_drawn_lines := F__law_drawn_lines.binds (ps := ["source", "many"]) fun _ _ _ _ _ _ us hl => match us, hl with | [_, _], _ => rfl
  have F__law_column_bases := fun_mk (st := s__law_column_bases) l__law_column_bases c__law_column_bases k__law_column_bases
  have B__law_column_bases := F__law_column_bases.binds (ps := ["many", "columns"]) fun _ _ _ _ _ _ us hl => match us, hl with | [_, _], _ => rfl
  have F__law_drawn_bases := fun_mk (st := s__law_drawn_bases) l__law_drawn_bases c__law_drawn_bases k__law_drawn_bases
  have B__law_drawn_bases := F__law_drawn_bases.binds (ps := ["source", "many"]) fun _ _ _ _ _ _ us hl => match us, hl with | [_, _], _ => rfl
  have F__law_drawn_ground := fun_mk (st := s__law_drawn_ground) l__law_drawn_ground c__law_drawn_ground k__law_drawn_ground
  have B__law_drawn_ground := F__law_drawn_ground.binds (ps := ["source", "many"]) fun _ _ _ _ _ _ us hl => match us, hl with | [_, _], _ => rfl
  have F__law_set := fun_mk (st := s__law_set) l__law_set c__law_set k__law_set
  have B__law_set := F__law_set.binds (ps := ["ground", "mask"]) fun _ _ _ _ _ _ us hl => match us, hl with | [_, _], _ => rfl
  have F__law_given := fun_mk (st := s__law_given) l__law_given c__law_given k__law_given
  have B__law_given := F__law_given.binds (ps := ["ground", "bases"]) fun _ _ _ _ _ _ us hl => match us, hl with | [_, _], _ => rfl
  have F__law_link := fun_mk (st := s__law_link) l__law_link c__law_link k__law_link
  have B__law_link := F__law_link.binds (ps := ["ranks", "mask"]) fun _ _ _ _ _ _ us hl => match us, hl with | [_, _], _ => rfl
  have F__law_part_masks := fun_mk (st := s__law_part_masks) l__law_part_masks c__law_part_masks k__law_part_masks
  have B__law_part_masks := F__law_part_masks.binds (ps := ["ranks"]) fun _ _ _ _ _ _ us hl => match us, hl with | [_], _ => rfl
  have F__law_split_masks := fun_mk (st := s__law_split_masks) l__law_split_masks c__law_split_masks k__law_split_masks
  have B__law_split_masks := F__law_split_masks.binds (ps := ["many", "ranks"]) fun _ _ _ _ _ _ us hl => match us, hl with | [_, _], _ => rfl
  have F__law_good_masks := fun_mk (st := s__law_good_masks) l__law_good_masks c__law_good_masks k__law_good_masks
  have B__law_good_masks := F__law_good_masks.binds (ps := ["many", "ranks"]) fun _ _ _ _ _ _ us hl => match us, hl with | [_, _], _ => rfl
  have F__law_whole_bases := fun_mk (st := s__law_whole_bases) l__law_whole_bases c__law_whole_bases k__law_whole_bases
  have B__law_whole_bases := F__law_whole_bases.binds (ps := ["source", "many"]) fun _ _ _ _ _ _ us hl => match us, hl with | [_, _], _ => rfl
  have F__law_sorted_sets := fun_mk (st := s__law_sorted_sets) l__law_sorted_sets c__law_sorted_sets k__law_sorted_sets
  have B__law_sorted_sets := F__law_sorted_sets.binds (ps := ["ground", "masks"]) fun _ _ _ _ _ _ us hl => match us, hl with | [_, _], _ => rfl
  have F_law := fun_mk (st := s_law) l_law c_law k_law
  have B_law := F_law.binds (ps := ["script"]) fun _ _ _ _ _ _ us hl => match us, hl with | [_], _ => rfl
  refine ⟨PySem.W.fnOf "law" "law" (defArgs s_law) (defBody s_law) (defScope s_law) .none kV_law dc_law pm_law an_law cd_law ct_law, fun s v => .of_eq rfl, fun base _ _ => ?_⟩
  exact ok_law (T := {
      n_list := PySem.W.mg_none_of X G z_list
      n_int := PySem.W.mg_none_of X G z_int
      n_len := PySem.W.mg_none_of X G z_len
      n_range := PySem.W.mg_none_of X G z_range
      n_enumerate := PySem.W.mg_none_of X G z_enumerate
      n_tuple := PySem.W.mg_none_of X G z_tuple
      n_sorted := PySem.W.mg_none_of X G z_sorted
      n_min := PySem.W.mg_none_of X G z_min
      n_max := PySem.W.mg_none_of X G z_max
      n_sum := PySem.W.mg_none_of X G z_sum
      n_all := PySem.W.mg_none_of X G z_all
      n_any := PySem.W.mg_none_of X G z_any
      n_isinstance := PySem.W.mg_none_of X G z_isinstance
      n_zip := PySem.W.mg_none_of X G z_zip
      n_reversed := PySem.W.mg_none_of X G z_reversed
      n_repr := PySem.W.mg_none_of X G z_repr
      n_bool := PySem.W.mg_none_of X G z_bool
      g_MAX_ELEMENT := ⟨_, PySem.W.mg_of X G y_MAX_ELEMENT, ⟨_, rfl⟩⟩
      g_MAX_GROUND := ⟨_, PySem.W.mg_of X G y_MAX_GROUND, ⟨_, rfl⟩⟩
      f_is_integer := f_is_integer
      fd_is_integer := _
      F_is_integer := F_is_integer
      m_is_integer := PySem.W.mg_of X G a_is_integer
      b_is_integer := B_is_integer
      f_is_element := f_is_element
      fd_is_element := _
      F_is_element := F_is_element
      m_is_element := PySem.W.mg_of X G a_is_element
      b_is_element := B_is_element
      f_is_ascending := f_is_ascending
      fd_is_ascending := _
      F_is_ascending := F_is_ascending
      m_is_ascending := PySem.W.mg_of X G a_is_ascending
      b_is_ascending := B_is_ascending
      f_is_set := f_is_set
      fd_is_set := _
      F_is_set := F_is_set
      m_is_set := PySem.W.mg_of X G a_is_set
      b_is_set := B_is_set
      f_is_set_within := f_is_set_within
      fd_is_set_within := _
      F_is_set_within := F_is_set_within
      m_is_set_within := PySem.W.mg_of X G a_is_set_within
      b_is_set_within := B_is_set_within
      f_are_sets_within := f_are_sets_within
      fd_are_sets_within := _
      F_are_sets_within := F_are_sets_within
      m_are_sets_within := PySem.W.mg_of X G a_are_sets_within
      b_are_sets_within := B_are_sets_within
      f_check_ground := f_check_ground
      fd_check_ground := _
      F_check_ground := F_check_ground
      m_check_ground := PySem.W.mg_of X G a_check_ground
      b_check_ground := B_check_ground
      f_check_sets := f_check_sets
      fd_check_sets := _
      F_check_sets := F_check_sets
      m_check_sets := PySem.W.mg_of X G a_check_sets
      b_check_sets := B_check_sets
      f_set_of := f_set_of
      fd_set_of := _
      F_set_of := F_set_of
      m_set_of := PySem.W.mg_of X G a_set_of
      b_set_of := B_set_of
      f_sets_of := f_sets_of
      fd_sets_of := _
      F_sets_of := F_sets_of
      m_sets_of := PySem.W.mg_of X G a_sets_of
      b_sets_of := B_sets_of
      f_mask_of := f_mask_of
      fd_mask_of := _
      F_mask_of := F_mask_of
      m_mask_of := PySem.W.mg_of X G a_mask_of
      b_mask_of := B_mask_of
      f_masks_of := f_masks_of
      fd_masks_of := _
      F_masks_of := F_masks_of
      m_masks_of := PySem.W.mg_of X G a_masks_of
      b_masks_of := B_masks_of
      f_places_in := f_places_in
      fd_places_in := _
      F_places_in := F_places_in
      m_places_in := PySem.W.mg_of X G a_places_in
      b_places_in := B_places_in
      f_places_outside := f_places_outside
      fd_places_outside := _
      F_places_outside := F_places_outside
      m_places_outside := PySem.W.mg_of X G a_places_outside
      b_places_outside := B_places_outside
      f_sizes_of_masks := f_sizes_of_masks
      fd_sizes_of_masks := _
      F_sizes_of_masks := F_sizes_of_masks
      m_sizes_of_masks := PySem.W.mg_of X G a_sizes_of_masks
      b_sizes_of_masks := B_sizes_of_masks
      f_flags_above := f_flags_above
      fd_flags_above := _
      F_flags_above := F_flags_above
      m_flags_above := PySem.W.mg_of X G a_flags_above
      b_flags_above := B_flags_above
      f_flags_below := f_flags_below
      fd_flags_below := _
      F_flags_below := F_flags_below
      m_flags_below := PySem.W.mg_of X G a_flags_below
      b_flags_below := B_flags_below
      f_ranks_by_bases := f_ranks_by_bases
      fd_ranks_by_bases := _
      F_ranks_by_bases := F_ranks_by_bases
      m_ranks_by_bases := PySem.W.mg_of X G a_ranks_by_bases
      b_ranks_by_bases := B_ranks_by_bases
      f_closure_mask := f_closure_mask
      fd_closure_mask := _
      F_closure_mask := F_closure_mask
      m_closure_mask := PySem.W.mg_of X G a_closure_mask
      b_closure_mask := B_closure_mask
      f_circuit_masks := f_circuit_masks
      fd_circuit_masks := _
      F_circuit_masks := F_circuit_masks
      m_circuit_masks := PySem.W.mg_of X G a_circuit_masks
      b_circuit_masks := B_circuit_masks
      f_is_circuit_mask := f_is_circuit_mask
      fd_is_circuit_mask := _
      F_is_circuit_mask := F_is_circuit_mask
      m_is_circuit_mask := PySem.W.mg_of X G a_is_circuit_mask
      b_is_circuit_mask := B_is_circuit_mask
      f_flat_masks := f_flat_masks
      fd_flat_masks := _
      F_flat_masks := F_flat_masks
      m_flat_masks := PySem.W.mg_of X G a_flat_masks
      b_flat_masks := B_flat_masks
      f_fault_in := f_fault_in
      fd_fault_in := _
      F_fault_in := F_fault_in
      m_fault_in := PySem.W.mg_of X G a_fault_in
      b_fault_in := B_fault_in
      f_fault_in_bases := f_fault_in_bases
      fd_fault_in_bases := _
      F_fault_in_bases := F_fault_in_bases
      m_fault_in_bases := PySem.W.mg_of X G a_fault_in_bases
      b_fault_in_bases := B_fault_in_bases
      f__exchange_fault := f__exchange_fault
      fd__exchange_fault := _
      F__exchange_fault := F__exchange_fault
      m__exchange_fault := PySem.W.mg_of X G a__exchange_fault
      b__exchange_fault := B__exchange_fault
      f__barriers := f__barriers
      fd__barriers := _
      F__barriers := F__barriers
      m__barriers := PySem.W.mg_of X G a__barriers
      b__barriers := B__barriers
      f_rest_of := f_rest_of
      fd_rest_of := _
      F_rest_of := F_rest_of
      m_rest_of := PySem.W.mg_of X G a_rest_of
      b_rest_of := B_rest_of
      f_Matroid___init__ := f_Matroid___init__
      fd_Matroid___init__ := _
      F_Matroid___init__ := F_Matroid___init__
      b_Matroid___init__ := B_Matroid___init__
      f_Matroid_mask_ranks := f_Matroid_mask_ranks
      fd_Matroid_mask_ranks := _
      F_Matroid_mask_ranks := F_Matroid_mask_ranks
      b_Matroid_mask_ranks := B_Matroid_mask_ranks
      f_Matroid_dual := f_Matroid_dual
      fd_Matroid_dual := _
      F_Matroid_dual := F_Matroid_dual
      b_Matroid_dual := B_Matroid_dual
      f_sure_matroid := f_sure_matroid
      fd_sure_matroid := _
      F_sure_matroid := F_sure_matroid
      m_sure_matroid := PySem.W.mg_of X G a_sure_matroid
      b_sure_matroid := B_sure_matroid
      f_check_matroid := f_check_matroid
      fd_check_matroid := _
      F_check_matroid := F_check_matroid
      m_check_matroid := PySem.W.mg_of X G a_check_matroid
      b_check_matroid := B_check_matroid
      f_parts_of := f_parts_of
      fd_parts_of := _
      F_parts_of := F_parts_of
      m_parts_of := PySem.W.mg_of X G a_parts_of
      b_parts_of := B_parts_of
      f__connectivity := f__connectivity
      fd__connectivity := _
      F__connectivity := F__connectivity
      m__connectivity := PySem.W.mg_of X G a__connectivity
      b__connectivity := B__connectivity
      f_splits_of := f_splits_of
      fd_splits_of := _
      F_splits_of := F_splits_of
      m_splits_of := PySem.W.mg_of X G a_splits_of
      b_splits_of := B_splits_of
      f_good_splits_of := f_good_splits_of
      fd_good_splits_of := _
      F_good_splits_of := F_good_splits_of
      m_good_splits_of := PySem.W.mg_of X G a_good_splits_of
      b_good_splits_of := B_good_splits_of
      f__split_masks := f__split_masks
      fd__split_masks := _
      F__split_masks := F__split_masks
      m__split_masks := PySem.W.mg_of X G a__split_masks
      b__split_masks := B__split_masks
      f__crosses_one := f__crosses_one
      fd__crosses_one := _
      F__crosses_one := F__crosses_one
      m__crosses_one := PySem.W.mg_of X G a__crosses_one
      b__crosses_one := B__crosses_one
      f__check_one_part := f__check_one_part
      fd__check_one_part := _
      F__check_one_part := F__check_one_part
      m__check_one_part := PySem.W.mg_of X G a__check_one_part
      b__check_one_part := B__check_one_part
      f__law_source := f__law_source
      fd__law_source := _
      F__law_source := F__law_source
      m__law_source := PySem.W.mg_of X G a__law_source
      b__law_source := B__law_source
      f__law_next := f__law_next
      fd__law_next := _
      F__law_next := F__law_next
      m__law_next := PySem.W.mg_of X G a__law_next
      b__law_next := B__law_next
      f__law_pick := f__law_pick
      fd__law_pick := _
      F__law_pick := F__law_pick
      m__law_pick := PySem.W.mg_of X G a__law_pick
      b__law_pick := B__law_pick
      f__law_turned := f__law_turned
      fd__law_turned := _
      F__law_turned := F__law_turned
      m__law_turned := PySem.W.mg_of X G a__law_turned
      b__law_turned := B__law_turned
      f__law_count := f__law_count
      fd__law_count := _
      F__law_count := F__law_count
      m__law_count := PySem.W.mg_of X G a__law_count
      b__law_count := B__law_count
      f__law_ranks := f__law_ranks
      fd__law_ranks := _
      F__law_ranks := F__law_ranks
      m__law_ranks := PySem.W.mg_of X G a__law_ranks
      b__law_ranks := B__law_ranks
      f__law_sized := f__law_sized
      fd__law_sized := _
      F__law_sized := F__law_sized
      m__law_sized := PySem.W.mg_of X G a__law_sized
      b__law_sized := B__law_sized
      f__law_sparse := f__law_sparse
      fd__law_sparse := _
      F__law_sparse := F__law_sparse
      m__law_sparse := PySem.W.mg_of X G a__law_sparse
      b__law_sparse := B__law_sparse
      f__law_forest_bases := f__law_forest_bases
      fd__law_forest_bases := _
      F__law_forest_bases := F__law_forest_bases
      m__law_forest_bases := PySem.W.mg_of X G a__law_forest_bases
      b__law_forest_bases := B__law_forest_bases
      f__law_drawn_lines := f__law_drawn_lines
      fd__law_drawn_lines := _
      F__law_drawn_lines := F__law_drawn_lines
      m__law_drawn_lines := PySem.W.mg_of X G a__law_drawn_lines
      b__law_drawn_lines := B__law_drawn_lines
      f__law_column_bases := f__law_column_bases
      fd__law_column_bases := _
      F__law_column_bases := F__law_column_bases
      m__law_column_bases := PySem.W.mg_of X G a__law_column_bases
      b__law_column_bases := B__law_column_bases
      f__law_drawn_bases := f__law_drawn_bases
      fd__law_drawn_bases := _
      F__law_drawn_bases := F__law_drawn_bases
      m__law_drawn_bases := PySem.W.mg_of X G a__law_drawn_bases
      b__law_drawn_bases := B__law_drawn_bases
      f__law_drawn_ground := f__law_drawn_ground
      fd__law_drawn_ground := _
      F__law_drawn_ground := F__law_drawn_ground
      m__law_drawn_ground := PySem.W.mg_of X G a__law_drawn_ground
      b__law_drawn_ground := B__law_drawn_ground
      f__law_set := f__law_set
      fd__law_set := _
      F__law_set := F__law_set
      m__law_set := PySem.W.mg_of X G a__law_set
      b__law_set := B__law_set
      f__law_given := f__law_given
      fd__law_given := _
      F__law_given := F__law_given
      m__law_given := PySem.W.mg_of X G a__law_given
      b__law_given := B__law_given
      f__law_link := f__law_link
      fd__law_link := _
      F__law_link := F__law_link
      m__law_link := PySem.W.mg_of X G a__law_link
      b__law_link := B__law_link
      f__law_part_masks := f__law_part_masks
      fd__law_part_masks := _
      F__law_part_masks := F__law_part_masks
      m__law_part_masks := PySem.W.mg_of X G a__law_part_masks
      b__law_part_masks := B__law_part_masks
      f__law_split_masks := f__law_split_masks
      fd__law_split_masks := _
      F__law_split_masks := F__law_split_masks
      m__law_split_masks := PySem.W.mg_of X G a__law_split_masks
      b__law_split_masks := B__law_split_masks
      f__law_good_masks := f__law_good_masks
      fd__law_good_masks := _
      F__law_good_masks := F__law_good_masks
      m__law_good_masks := PySem.W.mg_of X G a__law_good_masks
      b__law_good_masks := B__law_good_masks
      f__law_whole_bases := f__law_whole_bases
      fd__law_whole_bases := _
      F__law_whole_bases := F__law_whole_bases
      m__law_whole_bases := PySem.W.mg_of X G a__law_whole_bases
      b__law_whole_bases := B__law_whole_bases
      f__law_sorted_sets := f__law_sorted_sets
      fd__law_sorted_sets := _
      F__law_sorted_sets := F__law_sorted_sets
      m__law_sorted_sets := PySem.W.mg_of X G a__law_sorted_sets
      b__law_sorted_sets := B__law_sorted_sets
      f_law := fa
      fd_law := _
      F_law := F_law
      m_law := PySem.W.mg_of X G a_law
      b_law := B_law
      ic := ⟨⟨pg, hd, po, sa⟩, ic1, ic2, ic3, ic4, kit_self K C⟩
      ne_C := neC
      C := C
      cl := ⟨pg, hd, po, sa⟩
      m_Matroid := PySem.W.mg_of X G aC
      mkC := ⟨mk, a_Matroid___init__, i_Matroid___init__, kc⟩
      na_ground := na_ground
      na_bases := na_bases
      na__ranks := na__ranks
      na__circuits := na__circuits
      na__flats := na__flats
      pa_mask_ranks := pa_mask_ranks
      pr_mask_ranks := ⟨p1_mask_ranks, p2_mask_ranks, p3_mask_ranks, ⟨_, p4_mask_ranks⟩⟩
      me_dual := ⟨a_Matroid_dual, i_Matroid_dual, k_Matroid_dual⟩ })
theorem walk {l : PySem.W.OpenLaw} {q : Program} {loose : List Str} {XP : (Str → Option Value) → Heap → Prop} {YP : World → Heap → Prop} {d : DefRec} {K : Params → PySem.W.Frag} (hn : l.most = some 63) (hdf : d.params.defaults = [])
    (hY : ∀ (w : World) (h : Heap), YP w h → (K w.params).In h)
    (F : ∀ (w : World) (mg : Str → Option Value) (fa : Addr) (h : Heap), (K w.params).In h → h.Ns mainGlobals mg → mg d.name = some (.ref fa) →
      ∃ fd : FuncData, (∀ (s : Shared) (u : Value), BindsTo s fd ⟨[u], []⟩ [("script", u)]) ∧ ∀ base : Heap, (K w.params).In base → base.Ns mainGlobals mg → FnG l.prog w (K w.params) mg base 11 fa fd ["script"] (spLaw (K w.params))) :
    PySem.W.WalkO q loose XP YP l.row.toRowW d [] (fun f vs => PySem.call f vs) :=
  L2.walk_ofG (n := 63) (k := 11) (x := "script") (sp := fun w => spLaw (K w.params)) hn (by decide) hdf ⟨rfl, by decide, by decide⟩ hY F fun _ _ a ns hl _ hS => ⟨a, ns, rfl, hS, hl, fun _ => rfl⟩
end K9
open PySem PySem.W PyProof.Rows
set_option maxRecDepth 100000 in
set_option maxHeartbeats 0 in
theorem PySem.Challenge.cw_rankwright_k66_whole_good_splits_holds : PySem.Challenge.rw_rankwright_k66_whole_good_splits.Holds := by
  w_on; o_law; k_head; (case hw => w_witness2)
  k_fill
  refine K9.walk (l := PySem.Challenge.rw_rankwright_k66_whole_good_splits) rfl rfl (fun w h Y => PySem.W.kIn_of Y) ?F
  case F =>
    intro w mg fa h KX G hmg
    refine' K9.all_mk KX G hmg ?z_list ?z_int ?z_len ?z_range ?z_enumerate ?z_tuple ?z_sorted ?z_min ?z_max ?z_sum ?z_all ?z_any ?z_isinstance ?z_zip ?z_reversed ?z_repr ?z_bool ?y_MAX_ELEMENT ?y_MAX_GROUND ?aC ?a_is_integer ?l_is_integer ?c_is_integer ?k_is_integer ?a_is_element ?l_is_element ?c_is_element ?k_is_element ?a_is_ascending ?l_is_ascending ?c_is_ascending ?k_is_ascending ?a_is_set ?l_is_set ?c_is_set ?k_is_set ?a_is_set_within ?l_is_set_within ?c_is_set_within ?k_is_set_within ?a_are_sets_within ?l_are_sets_within ?c_are_sets_within ?k_are_sets_within ?a_check_ground ?l_check_ground ?c_check_ground ?k_check_ground ?a_check_sets ?l_check_sets ?c_check_sets ?k_check_sets ?a_set_of ?l_set_of ?c_set_of ?k_set_of ?a_sets_of ?l_sets_of ?c_sets_of ?k_sets_of ?a_mask_of ?l_mask_of ?c_mask_of ?k_mask_of ?a_masks_of ?l_masks_of ?c_masks_of ?k_masks_of ?a_places_in ?l_places_in ?c_places_in ?k_places_in ?a_places_outside ?l_places_outside ?c_places_outside ?k_places_outside ?a_sizes_of_masks ?l_sizes_of_masks ?c_sizes_of_masks ?k_sizes_of_masks ?a_flags_above ?l_flags_above ?c_flags_above ?k_flags_above ?a_flags_below ?l_flags_below ?c_flags_below ?k_flags_below ?a_ranks_by_bases ?l_ranks_by_bases ?c_ranks_by_bases ?k_ranks_by_bases ?a_closure_mask ?l_closure_mask ?c_closure_mask ?k_closure_mask ?a_circuit_masks ?l_circuit_masks ?c_circuit_masks ?k_circuit_masks ?a_is_circuit_mask ?l_is_circuit_mask ?c_is_circuit_mask ?k_is_circuit_mask ?a_flat_masks ?l_flat_masks ?c_flat_masks ?k_flat_masks ?a_fault_in ?l_fault_in ?c_fault_in ?k_fault_in ?a_fault_in_bases ?l_fault_in_bases ?c_fault_in_bases ?k_fault_in_bases ?a__exchange_fault ?l__exchange_fault ?c__exchange_fault ?k__exchange_fault ?a__barriers ?l__barriers ?c__barriers ?k__barriers ?a_rest_of ?l_rest_of ?c_rest_of ?k_rest_of ?a_Matroid___init__ ?i_Matroid___init__ ?l_Matroid___init__ ?c_Matroid___init__ ?k_Matroid___init__ ?p1_mask_ranks ?p2_mask_ranks ?p3_mask_ranks ?p4_mask_ranks ?l_Matroid_mask_ranks ?c_Matroid_mask_ranks ?k_Matroid_mask_ranks ?a_Matroid_dual ?i_Matroid_dual ?l_Matroid_dual ?c_Matroid_dual ?k_Matroid_dual ?a_sure_matroid ?l_sure_matroid ?c_sure_matroid ?k_sure_matroid ?a_check_matroid ?l_check_matroid ?c_check_matroid ?k_check_matroid ?a_parts_of ?l_parts_of ?c_parts_of ?k_parts_of ?a__connectivity ?l__connectivity ?c__connectivity ?k__connectivity ?a_splits_of ?l_splits_of ?c_splits_of ?k_splits_of ?a_good_splits_of ?l_good_splits_of ?c_good_splits_of ?k_good_splits_of ?a__split_masks ?l__split_masks ?c__split_masks ?k__split_masks ?a__crosses_one ?l__crosses_one ?c__crosses_one ?k__crosses_one ?a__check_one_part ?l__check_one_part ?c__check_one_part ?k__check_one_part ?a__law_source ?l__law_source ?c__law_source ?k__law_source ?a__law_next ?l__law_next ?c__law_next ?k__law_next ?a__law_pick ?l__law_pick ?c__law_pick ?k__law_pick ?a__law_turned ?l__law_turned ?c__law_turned ?k__law_turned ?a__law_count ?l__law_count ?c__law_count ?k__law_count ?a__law_ranks ?l__law_ranks ?c__law_ranks ?k__law_ranks ?a__law_sized ?l__law_sized ?c__law_sized ?k__law_sized ?a__law_sparse ?l__law_sparse ?c__law_sparse ?k__law_sparse ?a__law_forest_bases ?l__law_forest_bases ?c__law_forest_bases ?k__law_forest_bases ?a__law_drawn_lines ?l__law_drawn_lines ?c__law_drawn_lines ?k__law_drawn_lines ?a__law_column_bases ?l__law_column_bases ?c__law_column_bases ?k__law_column_bases ?a__law_drawn_bases ?l__law_drawn_bases ?c__law_drawn_bases ?k__law_drawn_bases ?a__law_drawn_ground ?l__law_drawn_ground ?c__law_drawn_ground ?k__law_drawn_ground ?a__law_set ?l__law_set ?c__law_set ?k__law_set ?a__law_given ?l__law_given ?c__law_given ?k__law_given ?a__law_link ?l__law_link ?c__law_link ?k__law_link ?a__law_part_masks ?l__law_part_masks ?c__law_part_masks ?k__law_part_masks ?a__law_split_masks ?l__law_split_masks ?c__law_split_masks ?k__law_split_masks ?a__law_good_masks ?l__law_good_masks ?c__law_good_masks ?k__law_good_masks ?a__law_whole_bases ?l__law_whole_bases ?c__law_whole_bases ?k__law_whole_bases ?a__law_sorted_sets ?l__law_sorted_sets ?c__law_sorted_sets ?k__law_sorted_sets ?a_law ?l_law ?c_law ?k_law ?pg ?hd ?po ?sa ?mk ?kc ?ic1 ?ic2 ?ic3 ?ic4 ?neC ?na_ground ?na_bases ?na__ranks ?na__circuits ?na__flats
    (case z_list => k_is)
    (case z_int => k_is)
    (case z_len => k_is)
    (case z_range => k_is)
    (case z_enumerate => k_is)
    (case z_tuple => k_is)
    (case z_sorted => k_is)
    (case z_min => k_is)
    (case z_max => k_is)
    (case z_sum => k_is)
    (case z_all => k_is)
    (case z_any => k_is)
    (case z_isinstance => k_is)
    (case z_zip => k_is)
    (case z_reversed => k_is)
    (case z_repr => k_is)
    (case z_bool => k_is)
    (case y_MAX_ELEMENT => k_is)
    (case y_MAX_GROUND => k_is)
    (case aC => k_is)
    (case a_is_integer => k_is)
    (case l_is_integer => k_is)
    (case c_is_integer => k_is)
    (case k_is_integer => k_is)
    (case a_is_element => k_is)
    (case l_is_element => k_is)
    (case c_is_element => k_is)
    (case k_is_element => k_is)
    (case a_is_ascending => k_is)
    (case l_is_ascending => k_is)
    (case c_is_ascending => k_is)
    (case k_is_ascending => k_is)
    (case a_is_set => k_is)
    (case l_is_set => k_is)
    (case c_is_set => k_is)
    (case k_is_set => k_is)
    (case a_is_set_within => k_is)
    (case l_is_set_within => k_is)
    (case c_is_set_within => k_is)
    (case k_is_set_within => k_is)
    (case a_are_sets_within => k_is)
    (case l_are_sets_within => k_is)
    (case c_are_sets_within => k_is)
    (case k_are_sets_within => k_is)
    (case a_check_ground => k_is)
    (case l_check_ground => k_is)
    (case c_check_ground => k_is)
    (case k_check_ground => k_is)
    (case a_check_sets => k_is)
    (case l_check_sets => k_is)
    (case c_check_sets => k_is)
    (case k_check_sets => k_is)
    (case a_set_of => k_is)
    (case l_set_of => k_is)
    (case c_set_of => k_is)
    (case k_set_of => k_is)
    (case a_sets_of => k_is)
    (case l_sets_of => k_is)
    (case c_sets_of => k_is)
    (case k_sets_of => k_is)
    (case a_mask_of => k_is)
    (case l_mask_of => k_is)
    (case c_mask_of => k_is)
    (case k_mask_of => k_is)
    (case a_masks_of => k_is)
    (case l_masks_of => k_is)
    (case c_masks_of => k_is)
    (case k_masks_of => k_is)
    (case a_places_in => k_is)
    (case l_places_in => k_is)
    (case c_places_in => k_is)
    (case k_places_in => k_is)
    (case a_places_outside => k_is)
    (case l_places_outside => k_is)
    (case c_places_outside => k_is)
    (case k_places_outside => k_is)
    (case a_sizes_of_masks => k_is)
    (case l_sizes_of_masks => k_is)
    (case c_sizes_of_masks => k_is)
    (case k_sizes_of_masks => k_is)
    (case a_flags_above => k_is)
    (case l_flags_above => k_is)
    (case c_flags_above => k_is)
    (case k_flags_above => k_is)
    (case a_flags_below => k_is)
    (case l_flags_below => k_is)
    (case c_flags_below => k_is)
    (case k_flags_below => k_is)
    (case a_ranks_by_bases => k_is)
    (case l_ranks_by_bases => k_is)
    (case c_ranks_by_bases => k_is)
    (case k_ranks_by_bases => k_is)
    (case a_closure_mask => k_is)
    (case l_closure_mask => k_is)
    (case c_closure_mask => k_is)
    (case k_closure_mask => k_is)
    (case a_circuit_masks => k_is)
    (case l_circuit_masks => k_is)
    (case c_circuit_masks => k_is)
    (case k_circuit_masks => k_is)
    (case a_is_circuit_mask => k_is)
    (case l_is_circuit_mask => k_is)
    (case c_is_circuit_mask => k_is)
    (case k_is_circuit_mask => k_is)
    (case a_flat_masks => k_is)
    (case l_flat_masks => k_is)
    (case c_flat_masks => k_is)
    (case k_flat_masks => k_is)
    (case a_fault_in => k_is)
    (case l_fault_in => k_is)
    (case c_fault_in => k_is)
    (case k_fault_in => k_is)
    (case a_fault_in_bases => k_is)
    (case l_fault_in_bases => k_is)
    (case c_fault_in_bases => k_is)
    (case k_fault_in_bases => k_is)
    (case a__exchange_fault => k_is)
    (case l__exchange_fault => k_is)
    (case c__exchange_fault => k_is)
    (case k__exchange_fault => k_is)
    (case a__barriers => k_is)
    (case l__barriers => k_is)
    (case c__barriers => k_is)
    (case k__barriers => k_is)
    (case a_rest_of => k_is)
    (case l_rest_of => k_is)
    (case c_rest_of => k_is)
    (case k_rest_of => k_is)
    (case a_Matroid___init__ => k_is)
    (case i_Matroid___init__ => k_is)
    (case l_Matroid___init__ => k_is)
    (case c_Matroid___init__ => k_is)
    (case k_Matroid___init__ => k_is)
    (case p1_mask_ranks => k_is)
    (case p2_mask_ranks => k_is)
    (case p3_mask_ranks => k_is)
    (case p4_mask_ranks => k_is)
    (case l_Matroid_mask_ranks => k_is)
    (case c_Matroid_mask_ranks => k_is)
    (case k_Matroid_mask_ranks => k_is)
    (case a_Matroid_dual => k_is)
    (case i_Matroid_dual => k_is)
    (case l_Matroid_dual => k_is)
    (case c_Matroid_dual => k_is)
    (case k_Matroid_dual => k_is)
    (case a_sure_matroid => k_is)
    (case l_sure_matroid => k_is)
    (case c_sure_matroid => k_is)
    (case k_sure_matroid => k_is)
    (case a_check_matroid => k_is)
    (case l_check_matroid => k_is)
    (case c_check_matroid => k_is)
    (case k_check_matroid => k_is)
    (case a_parts_of => k_is)
    (case l_parts_of => k_is)
    (case c_parts_of => k_is)
    (case k_parts_of => k_is)
    (case a__connectivity => k_is)
    (case l__connectivity => k_is)
    (case c__connectivity => k_is)
    (case k__connectivity => k_is)
    (case a_splits_of => k_is)
    (case l_splits_of => k_is)
    (case c_splits_of => k_is)
    (case k_splits_of => k_is)
    (case a_good_splits_of => k_is)
    (case l_good_splits_of => k_is)
    (case c_good_splits_of => k_is)
    (case k_good_splits_of => k_is)
    (case a__split_masks => k_is)
    (case l__split_masks => k_is)
    (case c__split_masks => k_is)
    (case k__split_masks => k_is)
    (case a__crosses_one => k_is)
    (case l__crosses_one => k_is)
    (case c__crosses_one => k_is)
    (case k__crosses_one => k_is)
    (case a__check_one_part => k_is)
    (case l__check_one_part => k_is)
    (case c__check_one_part => k_is)
    (case k__check_one_part => k_is)
    (case a__law_source => k_is)
    (case l__law_source => k_is)
    (case c__law_source => k_is)
    (case k__law_source => k_is)
    (case a__law_next => k_is)
    (case l__law_next => k_is)
    (case c__law_next => k_is)
    (case k__law_next => k_is)
    (case a__law_pick => k_is)
    (case l__law_pick => k_is)
    (case c__law_pick => k_is)
    (case k__law_pick => k_is)
    (case a__law_turned => k_is)
    (case l__law_turned => k_is)
    (case c__law_turned => k_is)
    (case k__law_turned => k_is)
    (case a__law_count => k_is)
    (case l__law_count => k_is)
    (case c__law_count => k_is)
    (case k__law_count => k_is)
    (case a__law_ranks => k_is)
    (case l__law_ranks => k_is)
    (case c__law_ranks => k_is)
    (case k__law_ranks => k_is)
    (case a__law_sized => k_is)
    (case l__law_sized => k_is)
    (case c__law_sized => k_is)
    (case k__law_sized => k_is)
    (case a__law_sparse => k_is)
    (case l__law_sparse => k_is)
    (case c__law_sparse => k_is)
    (case k__law_sparse => k_is)
    (case a__law_forest_bases => k_is)
    (case l__law_forest_bases => k_is)
    (case c__law_forest_bases => k_is)
    (case k__law_forest_bases => k_is)
    (case a__law_drawn_lines => k_is)
    (case l__law_drawn_lines => k_is)
    (case c__law_drawn_lines => k_is)
    (case k__law_drawn_lines => k_is)
    (case a__law_column_bases => k_is)
    (case l__law_column_bases => k_is)
    (case c__law_column_bases => k_is)
    (case k__law_column_bases => k_is)
    (case a__law_drawn_bases => k_is)
    (case l__law_drawn_bases => k_is)
    (case c__law_drawn_bases => k_is)
    (case k__law_drawn_bases => k_is)
    (case a__law_drawn_ground => k_is)
    (case l__law_drawn_ground => k_is)
    (case c__law_drawn_ground => k_is)
    (case k__law_drawn_ground => k_is)
    (case a__law_set => k_is)
    (case l__law_set => k_is)
    (case c__law_set => k_is)
    (case k__law_set => k_is)
    (case a__law_given => k_is)
    (case l__law_given => k_is)
    (case c__law_given => k_is)
    (case k__law_given => k_is)
    (case a__law_link => k_is)
    (case l__law_link => k_is)
    (case c__law_link => k_is)
    (case k__law_link => k_is)
    (case a__law_part_masks => k_is)
    (case l__law_part_masks => k_is)
    (case c__law_part_masks => k_is)
    (case k__law_part_masks => k_is)
    (case a__law_split_masks => k_is)
    (case l__law_split_masks => k_is)
    (case c__law_split_masks => k_is)
    (case k__law_split_masks => k_is)
    (case a__law_good_masks => k_is)
    (case l__law_good_masks => k_is)
    (case c__law_good_masks => k_is)
    (case k__law_good_masks => k_is)
    (case a__law_whole_bases => k_is)
    (case l__law_whole_bases => k_is)
    (case c__law_whole_bases => k_is)
    (case k__law_whole_bases => k_is)
    (case a__law_sorted_sets => k_is)
    (case l__law_sorted_sets => k_is)
    (case c__law_sorted_sets => k_is)
    (case k__law_sorted_sets => k_is)
    (case a_law => k_is)
    (case l_law => k_is)
    (case c_law => k_is)
    (case k_law => k_is)
    (case pg => k_is)
    (case hd => k_is)
    (case po => k_is)
    (case sa => k_is)
    (case mk => k_is)
    (case kc => k_is)
    (case ic1 => k_is)
    (case ic2 => k_is)
    (case ic3 => k_is)
    (case ic4 => k_is)
    (case neC => k_is)
    (case na_ground => k_is)
    (case na_bases => k_is)
    (case na__ranks => k_is)
    (case na__circuits => k_is)
    (case na__flats => k_is)


