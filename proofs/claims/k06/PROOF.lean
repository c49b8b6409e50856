import PyProof.Rows.All
import Wide.All
import OpenK.AllK
import Wide.FinOn
import PySem.Challenge.RW_fewstamps_k06_stamps
import KE.LtData
import KE.SortData
import PyProof.ConsumeWalk
import PyProof.MeetsSeq
import HandS.ForMost
import HandS.ForExc
import HandS.Gcd
import HandS.DictComp
import HandS.Deep
import HandS.IsInst
import HandS.TupSets
import KE.KDictPairs
import KE.KeyNested
import HandS.SetFor
import HandS.Zip
import HandS.Wide
import PyProof.CollectIter
import PyProof.CollectWalk
import KE.KDictZip
import KE.KDictList
import PyProof.P3In
import HandS.Strs
import KE.GoesMore
import KE.GoesEnum
import HandS.TupAny
import HandS.ForSpec
import KE.OsGo
import KE.KExcInit
import KE.KTryMore
import HandS.ExcIs
import HandS.ExcOwn
import HandS.ExcValue
import KE.KExcIs
import HandS.TupMul
set_option Elab.async false
set_option autoImplicit false
set_option linter.all false
set_option maxRecDepth 100000
/-! binary heaps over functions on places: the mathematics -/
namespace HM
variable {β : Type} (le : β → β → Prop)
def swF (f : Nat → β) (i j k : Nat) : β := if k = i then f j else if k = j then f i else f k
def HOk (n : Nat) (f : Nat → β) : Prop := ∀ c, 0 < c → c < n → le (f ((c - 1) / 2)) (f c)
def HUp (n : Nat) (f : Nat → β) (p : Nat) : Prop :=
  (∀ c, 0 < c → c < n → c ≠ p → le (f ((c - 1) / 2)) (f c)) ∧ ∀ c, 0 < c → c < n → (c - 1) / 2 = p → 0 < p → le (f ((p - 1) / 2)) (f c)
def HDn (n : Nat) (f : Nat → β) (p : Nat) : Prop :=
  (∀ c, 0 < c → c < n → c ≠ p → (c - 1) / 2 ≠ p → le (f ((c - 1) / 2)) (f c)) ∧ ∀ c, 0 < c → c < n → (c - 1) / 2 = p → 0 < p → le (f ((p - 1) / 2)) (f c)
variable {le} {n : Nat} {f : Nat → β} {p : Nat}
theorem swF_i (f : Nat → β) (i j : Nat) : swF f i j i = f j := by unfold swF; rw [if_pos rfl]
theorem swF_j (f : Nat → β) (i j : Nat) : swF f i j j = f i := by
  unfold swF
  by_cases h : j = i
  · rw [if_pos h, h]
  · rw [if_neg h, if_pos rfl]
theorem swF_o (f : Nat → β) {i j k : Nat} (h1 : k ≠ i) (h2 : k ≠ j) : swF f i j k = f k := by unfold swF; rw [if_neg h1, if_neg h2]
theorem up_done (h : HUp le n f p) (e : p = 0 ∨ le (f ((p - 1) / 2)) (f p)) : HOk le n f := fun c h0 hc => by
  by_cases q : c = p
  · subst q
    rcases e with e | e
    · omega
    · exact e
  · exact h.1 c h0 hc q
theorem up_step (tr : ∀ a b c, le a b → le b c → le a c) (h : HUp le n f p) (h0 : 0 < p) (hp : p < n) (e : le (f p) (f ((p - 1) / 2))) : HUp le n (swF f ((p - 1) / 2) p) ((p - 1) / 2) := by
  refine ⟨fun c c0 cn cp => ?_, fun c c0 cn cp p0 => ?_⟩
  · by_cases q : c = p
    · subst q
      rw [swF_i, swF_j]
      exact e
    · rw [swF_o f cp q]
      by_cases q1 : (c - 1) / 2 = p
      · rw [q1, swF_j]
        exact h.2 c c0 cn q1 h0
      · by_cases q2 : (c - 1) / 2 = (p - 1) / 2
        · rw [q2, swF_i]
          have := h.1 c c0 cn q
          rw [q2] at this
          exact tr _ _ _ e this
        · rw [swF_o f q2 q1]
          exact h.1 c c0 cn q
  · have ne1 : ((p - 1) / 2 - 1) / 2 ≠ (p - 1) / 2 := by omega
    have ne2 : ((p - 1) / 2 - 1) / 2 ≠ p := by omega
    have gq : le (f (((p - 1) / 2 - 1) / 2)) (f ((p - 1) / 2)) := h.1 ((p - 1) / 2) p0 (by omega) (by omega)
    rw [swF_o f ne1 ne2]
    by_cases q : c = p
    · rw [q, swF_j]
      exact gq
    · rw [swF_o f (by omega) q]
      have := h.1 c c0 cn q
      rw [cp] at this
      exact tr _ _ _ gq this
theorem dn_leaf (h : HDn le n f p) (e : ¬ p < n / 2) : HUp le n f p :=
  ⟨fun c c0 cn cp => h.1 c c0 cn cp (by omega), h.2⟩
theorem dn_step (h : HDn le n f p) {c : Nat} (hc : c = 2 * p + 1 ∨ c = 2 * p + 2) (cn : c < n)
    (e : ∀ d, (d = 2 * p + 1 ∨ d = 2 * p + 2) → d < n → d ≠ c → le (f c) (f d)) : HDn le n (swF f c p) c := by
  refine ⟨fun d d0 dn dc dpc => ?_, fun d d0 dn dpc c0 => ?_⟩
  · by_cases q : d = p
    · subst q
      rw [swF_j, swF_o f (by omega) (by omega)]
      exact h.2 c (by omega) cn (by omega) d0
    · rw [swF_o f dc q]
      by_cases q1 : (d - 1) / 2 = p
      · rw [q1, swF_j]
        exact e d (by omega) dn dc
      · rw [swF_o f dpc q1]
        exact h.1 d d0 dn q q1
  · have e1 : (c - 1) / 2 = p := by omega
    rw [e1, swF_j, swF_o f (by omega) (by omega)]
    have := h.1 d d0 dn (by omega) (by omega)
    rw [dpc] at this
    exact this
theorem push_up {g : Nat → β} (h : HOk le n f) (e : ∀ k, k < n → g k = f k) : HUp le (n + 1) g n :=
  ⟨fun c c0 cn cp => by rw [e _ (by omega), e _ (by omega)]; exact h c c0 (by omega), fun c c0 cn cp p0 => by omega⟩
theorem pop_dn {g : Nat → β} (h : HOk le (n + 1) f) (e : ∀ k, 0 < k → k < n → g k = f k) : HDn le n g 0 :=
  ⟨fun c c0 cn _ cp => by rw [e _ (by omega) (by omega), e _ c0 cn]; exact h c c0 (by omega), fun c c0 cn cp p0 => by omega⟩
theorem least (rf : ∀ a, le a a) (tr : ∀ a b c, le a b → le b c → le a c) (h : HOk le n f) : ∀ c, c < n → le (f 0) (f c) := by
  intro c
  induction c using Nat.strongRecOn with
  | ind c ih =>
    intro hc
    by_cases q : c = 0
    · rw [q]
      exact rf _
    · exact tr _ _ _ (ih ((c - 1) / 2) (by omega) (by omega)) (h c (by omega) hc)
end HM

open PySem PySem.W PySem.Spec PyProof.Rows
namespace HQ
/-! ### events as data -/
abbrev Ev := Str × Int
def evD (e : Ev) : PyData := .tuple [.str e.1, .int e.2]
theorem evD_alike (e f : Ev) : alike (evD e) (evD f) = true := by simp [evD, alike, alikeAll]
theorem evD_depth (e : Ev) : (evD e).depth = 1 := by simp [evD, PyData.depth, PyData.depthAll]
def ltB (e f : Ev) : Bool := dataLt (evD e) (evD f)
def le (e f : Ev) : Prop := ltB f e = false
theorem le_rf (e : Ev) : le e e := (listOrd itemOrd).irrefl (keyToks (evD e))
theorem le_tr (a b c : Ev) (h1 : le a b) (h2 : le b c) : le a c := KeyOrd.kle_trans (O := listOrd itemOrd) (a := keyToks (evD a)) (b := keyToks (evD b)) (c := keyToks (evD c)) h1 h2
theorem le_of_lt {a b : Ev} (h : ltB a b = true) : le a b := KeyOrd.klt_asymm (O := listOrd itemOrd) (a := keyToks (evD a)) (b := keyToks (evD b)) h
structure EvAt (h : Heap) (u : Value) (e : Ev) : Prop where
  ex : ∃ t o k1 k2 n, u = .ref t ∧ h.get? t = some o ∧ o.cls = .type "tuple" ∧ o.data = .seq #[.str e.1 k1, .int e.2 k2] n
theorem EvAt.reads {h : Heap} {u : Value} {e : Ev} (x : EvAt h u e) : ∃ as, Reads h u (evD e) as := by
  obtain ⟨t, o, k1, k2, n, rfl, ho, hc, hd⟩ := x.ex
  exact ⟨_, .tuple ho hc hd (.cons (.str _ _) (.cons (.int _ _) .nil))⟩
theorem EvAt.but {h h' : Heap} {a : Addr} {u : Value} {e : Ev} {oa : Obj} (x : EvAt h u e) (ha : h.get? a = some oa) (hc : oa.cls = .type "list") (k : Heap.SameBut a h h') : EvAt h' u e := by
  obtain ⟨t, o, k1, k2, n, rfl, ho, hc', hd⟩ := x.ex
  refine ⟨t, o, k1, k2, n, rfl, ?_, hc', hd⟩
  rw [k.2 t ?_]
  · exact ho
  · intro e
    rw [e, ha] at ho
    cases ho
    rw [hc] at hc'
    exact absurd hc' (by decide)
abbrev Arr := Array (Value × Ev)
def fn (arr : Arr) (k : Nat) : Ev := (arr[k]?.map Prod.snd).getD (⟨#[]⟩, 0)
structure At (h : Heap) (a : Addr) (arr : Arr) : Prop where
  ob : ∃ n, h.get? a = some { cls := .type "list", data := .seq (arr.map Prod.fst) n }
  ev : ∀ p, p ∈ arr → EvAt h p.1 p.2
  sz : arr.size ≤ sizeLine
/-- the list's object is changed -/
theorem At.write {h : Heap} {a : Addr} {arr arr' : Arr} (x : At h a arr) (f : Array Value → Array Value) (e : f (arr.map Prod.fst) = arr'.map Prod.fst) (hs : arr'.size ≤ sizeLine)
    (m : ∀ p, p ∈ arr' → EvAt h p.1 p.2) : At (h.update a (Obj.mapSeq f)) a arr' ∧ Heap.SameBut a h (h.update a (Obj.mapSeq f)) := by
  obtain ⟨n, ho⟩ := x.ob
  have k := Heap.SameBut.update h a (Obj.mapSeq f)
  refine ⟨⟨?_, fun p hp => (m p hp).but ho rfl k, hs⟩, k⟩
  have z := Heap.get?_update_self (Obj.mapSeq f) ho rfl
  unfold Obj.mapSeq at z
  dsimp only at z
  rw [e] at z
  exact ⟨_, z⟩
def sw (arr : Arr) (i j : Nat) : Arr := match arr[i]?, arr[j]? with
  | some x, some y => (arr.setIfInBounds i y).setIfInBounds j x
  | _, _ => arr
theorem sw_eq {arr : Arr} {i j : Nat} {x y : Value × Ev} (hi : arr[i]? = some x) (hj : arr[j]? = some y) : sw arr i j = (arr.setIfInBounds i y).setIfInBounds j x := by
  unfold sw
  rw [hi, hj]
theorem sw_size {arr : Arr} {i j : Nat} {x y : Value × Ev} (hi : arr[i]? = some x) (hj : arr[j]? = some y) : (sw arr i j).size = arr.size := by
  rw [sw_eq hi hj, Array.size_setIfInBounds, Array.size_setIfInBounds]
theorem lt_of {arr : Arr} {i : Nat} {x : Value × Ev} (hi : arr[i]? = some x) : i < arr.size := (Array.getElem?_eq_some_iff.mp hi).1
theorem sw_get {arr : Arr} {i j : Nat} {x y : Value × Ev} (hi : arr[i]? = some x) (hj : arr[j]? = some y) (k : Nat) : (sw arr i j)[k]? = if k = j then some x else if k = i then some y else arr[k]? := by
  have h1 := lt_of hi
  have h2 := lt_of hj
  rw [sw_eq hi hj, Array.getElem?_setIfInBounds, Array.getElem?_setIfInBounds]
  by_cases e : k = j
  · subst e
    rw [if_pos rfl, if_pos rfl, Array.size_setIfInBounds, if_pos h2]
  · rw [if_neg (fun z => e z.symm), if_neg e]
    by_cases e2 : k = i
    · subst e2
      rw [if_pos rfl, if_pos rfl, if_pos h1]
    · rw [if_neg (fun z => e2 z.symm), if_neg e2]
theorem sw_fn {arr : Arr} {i j : Nat} {x y : Value × Ev} (hi : arr[i]? = some x) (hj : arr[j]? = some y) (hne : i ≠ j) : fn (sw arr i j) = HM.swF (fn arr) i j := by
  funext k
  unfold HM.swF fn
  rw [sw_get hi hj]
  by_cases e : k = j
  · subst e
    rw [if_pos rfl, if_neg (fun z => hne z.symm), if_pos rfl, hi]
  · rw [if_neg e]
    by_cases e2 : k = i
    · subst e2
      rw [if_pos rfl, if_pos rfl, hj]
    · rw [if_neg e2, if_neg e2, if_neg e]
theorem sw_perm {arr : Arr} {i j : Nat} {x y : Value × Ev} (hi : arr[i]? = some x) (hj : arr[j]? = some y) : (sw arr i j).Perm arr := by
  have h1 := lt_of hi
  have h2 := lt_of hj
  have e1 : arr[i] = x := (Array.getElem?_eq_some_iff.mp hi).2
  have e2 : arr[j] = y := (Array.getElem?_eq_some_iff.mp hj).2
  have e : sw arr i j = arr.swap i j h1 h2 := by
    apply Array.ext_getElem?
    intro k
    rw [sw_get hi hj, Array.getElem?_swap]
    simp only [@eq_comm _ j k, @eq_comm _ i k, e1, e2]
  rw [e]
  exact Array.swap_perm h1 h2
theorem sw_map {arr : Arr} {i j : Nat} {x y : Value × Ev} (hi : arr[i]? = some x) (hj : arr[j]? = some y) : ((arr.map Prod.fst).setIfInBounds i y.1).setIfInBounds j x.1 = (sw arr i j).map Prod.fst := by
  rw [sw_eq hi hj, Array.map_setIfInBounds, Array.map_setIfInBounds]
theorem get_fst {arr : Arr} {i : Nat} {x : Value × Ev} (hi : arr[i]? = some x) : (arr.map Prod.fst)[i]? = some x.1 := by rw [Array.getElem?_map, hi]; rfl
theorem mem_of {arr : Arr} {i : Nat} {x : Value × Ev} (hi : arr[i]? = some x) : x ∈ arr := Array.mem_of_getElem? hi
theorem fn_of {arr : Arr} {i : Nat} {x : Value × Ev} (hi : arr[i]? = some x) : fn arr i = x.2 := by unfold fn; rw [hi]; rfl
end HQ

open PySem PySem.W PySem.Spec PyProof.Rows
namespace HQ
theorem entry_pop : entryFor table "_heapq.heappop" = some Builtin.«_heapq.heappop» := entryFor_of_tree (by kernel_rfl)
theorem entry_push : entryFor table "_heapq.heappush" = some Builtin.«_heapq.heappush» := entryFor_of_tree (by kernel_rfl)
theorem entry_sift : entryFor table "_heapq.heapify.sift" = some Builtin.«_heapq.heapify.sift» := entryFor_of_tree (by kernel_rfl)
theorem kind_pop : builtinKind "_heapq.heappop" = none := by kernel_rfl
theorem kind_push : builtinKind "_heapq.heappush" = none := by kernel_rfl
theorem plain_pop : plainId "_heapq.heappop" = true := by decide +kernel
theorem plain_push : plainId "_heapq.heappush" = true := by decide +kernel
theorem plain_sift : plainId "_heapq.heapify.sift" = true := by decide +kernel
theorem args_pop (a : Value) : argsOk "_heapq.heappop" ⟨[a], []⟩ := by unfold argsOk; kernel_rfl
theorem args_push (a b : Value) : argsOk "_heapq.heappush" ⟨[a, b], []⟩ := by unfold argsOk; kernel_rfl
section
variable {prog : Program} {w : World} {A : Around} {E : Value → Shared → Prop} {s : Shared}
theorem lt_run {u v : Value} {e f : Ev} {Q : Value → Shared → Prop} (hu : A.units + 1 < cLine) (x : EvAt s.heap u e) (y : EvAt s.heap v f) (h : Q (.bool (ltB e f)) s) :
    wpAny (model prog w) A (richCompare .Lt u v) Q E s := by
  obtain ⟨as, r1⟩ := x.reads
  obtain ⟨bs, r2⟩ := y.reads
  refine rcLt_alike (evD e) (evD f) A s u v as bs r1 r2 (evD_alike e f) (fun z => by cases z) ?_ prog w E Q h
  rw [evD_depth, evD_depth]
  exact hu
/-- what a sift leaves -/
def SiftS (a : Addr) (arr : Arr) (res : Value) : PySem.Spec := fun A R s => A.units + 2 < cLine ∧ At s.heap a arr ∧
  ∀ (arr' : Arr) (h' : Heap), arr'.Perm arr → HM.HOk le arr'.size (fn arr') → At h' a arr' → Heap.SameBut a s.heap h' → R (.ok (.ret res)) { s with heap := h' }
theorem sameBut_trans {h h1 h2 : Heap} {a : Addr} (x : Heap.SameBut a h h1) (y : Heap.SameBut a h1 h2) : Heap.SameBut a h h2 :=
  ⟨y.1.trans x.1, fun b hb => (y.2 b hb).trans (x.2 b hb)⟩
theorem sw_ev {h : Heap} {a : Addr} {arr : Arr} {i j : Nat} {x y : Value × Ev} (X : At h a arr) (hi : arr[i]? = some x) (hj : arr[j]? = some y) : ∀ p, p ∈ sw arr i j → EvAt h p.1 p.2 := fun p hp =>
  X.ev p ((sw_perm hi hj).mem_iff.mp hp)
theorem ifN {α : Type} {M : Model} {c : Prop} [Decidable c] {x y : Sem α} {Q : α → Shared → Prop} (hc : ¬ c) (h : wpAny M A y Q E s) : wpAny M A (if c then x else y) Q E s := wpAny_ite_false (decide_eq_false hc) h
theorem ifP {α : Type} {M : Model} {c : Prop} [Decidable c] {x y : Sem α} {Q : α → Shared → Prop} (hc : c) (h : wpAny M A x Q E s) : wpAny M A (if c then x else y) Q E s := wpAny_ite_true (decide_eq_true hc) h
theorem opt_run {M : Model} {xs : Array Value} {i : Nat} {v : Value} {r : Sem Value} {Q : Value → Shared → Prop} (h : xs[i]? = some v) (q : Q v s) :
    wpAny M A (match xs[i]? with | some v => pure v | none => r) Q E s := by
  rw [h]
  exact wpAny_pure q
theorem sift_up (a : Addr) (res : Value) (k1 k2 k3 : Tok) : ∀ (p : Nat) (arr : Arr), p < arr.size → HM.HUp le arr.size (fn arr) p →
    Meets (Builtin.«_heapq.heapify.sift» ⟨[.ref a, .bool false, .bool false, .int p k1, .int 0 k2, res, .int (-1) k3], []⟩) (SiftS a arr res) := by
  intro p
  induction p using Nat.strongRecOn generalizing k1 k2 k3 with
  | ind p ih =>
    intro arr hp hU prog w A R s ⟨hu, X, fin⟩
    obtain ⟨n, ho⟩ := X.ob
    unfold Builtin.«_heapq.heapify.sift»
    dsimp only
    refine wpAny_bind (wpAny_bind (wpAny_seqItems ho rfl (wpAny_pure ?_)))
    refine ifN (by decide) ?_
    have ep : ((p : Int)).toNat = p := Int.toNat_natCast p
    rw [ep]
    by_cases p0 : p > Int.toNat 0
    · refine ifP p0 ?_
      have p0 : 0 < p := p0
      obtain ⟨x, hx⟩ : ∃ x, arr[p]? = some x := ⟨arr[p], Array.getElem?_eq_getElem hp⟩
      have hq : (p - 1) / 2 < arr.size := by omega
      obtain ⟨y, hy⟩ : ∃ y, arr[(p - 1) / 2]? = some y := ⟨arr[(p - 1) / 2], Array.getElem?_eq_getElem hq⟩
      refine wpAny_bind (opt_run (get_fst hx) ?_)
      refine wpAny_bind (opt_run (get_fst hy) ?_)
      refine ifN (by decide) ?_
      refine wpAny_bind (wpAny_bind (wpAny_holding (wpAny_bind (lt_run (show A.in1.units + 1 < cLine from hu) (X.ev x (mem_of hx)) (X.ev y (mem_of hy)) (wpAny_truthy_bool ?_)))))
      refine wpAny_bind (wpAny_bind (wpAny_seqItems ho rfl (wpAny_pure ?_)))
      refine ifN (by simp) (wpAny_pure ?_)
      cases hlt : ltB x.2 y.2 with
      | false =>
        refine ifN (by decide) ?_
        refine ifP (by decide) ?_
        refine wpAny_pure ?_
        have H : HM.HOk le arr.size (fn arr) := HM.up_done hU (.inr (by rw [fn_of hx, fn_of hy]; exact hlt))
        exact fin arr s.heap (Array.Perm.refl _) H X ⟨rfl, fun _ _ => rfl⟩
      | true =>
        refine ifP rfl ?_
        have hne : (p - 1) / 2 ≠ p := by omega
        have X2 := X.write (fun xs => (xs.setIfInBounds ((p - 1) / 2) x.1).setIfInBounds p y.1) (sw_map hy hx) (by rw [sw_size hy hx]; exact X.sz) (sw_ev X hy hx)
        refine wpAny_bind (wpAny_bind (wpAny_bind (wpAny_seqItems ho rfl (wpAny_pure ?_))))
        refine wpAny_bind (opt_run (get_fst hy) ?_)
        refine wpAny_bind (opt_run (get_fst hx) ?_)
        have sz1 : (arr.map Prod.fst).size ≤ sizeLine := by rw [Array.size_map]; exact X.sz
        refine wpAny_updateSeq ho rfl ?_ sz1 (by simp only [Array.size_setIfInBounds]; omega)
        have U : HM.HUp le (sw arr ((p - 1) / 2) p).size (fn (sw arr ((p - 1) / 2) p)) ((p - 1) / 2) := by
          rw [sw_size hy hx, sw_fn hy hx hne]
          refine HM.up_step le_tr hU p0 hp ?_
          rw [fn_of hx, fn_of hy]
          exact le_of_lt hlt
        refine wpAny_pure ⟨plainId_quiet plain_sift _, codeAny_builtin entry_sift ?_⟩
        rw [Around.under_plainId plain_sift]
        refine ih ((p - 1) / 2) (by omega) _ _ _ (sw arr ((p - 1) / 2) p) (by rw [sw_size hy hx]; omega) U prog w A R _ ⟨hu, X2.1, fun arr' h' hp' hk hA hs => ?_⟩
        exact fin arr' h' (hp'.trans (sw_perm hy hx)) hk hA (sameBut_trans X2.2 hs)
    · refine ifN p0 ?_
      refine ifP (by decide) ?_
      refine wpAny_pure ?_
      have p0 : p = 0 := by
        have : ¬ p > 0 := p0
        omega
      exact fin arr s.heap (Array.Perm.refl _) (HM.up_done hU (.inl p0)) X ⟨rfl, fun _ _ => rfl⟩

/-- one step down: the child c takes the place -/
theorem down_step (a : Addr) (res : Value) (k1 k2 k3 : Tok) {p c : Nat} {arr : Arr} {x y : Value × Ev} (hc : c = 2 * p + 1 ∨ c = 2 * p + 2) (hx : arr[c]? = some x) (hy : arr[p]? = some y) (hD : HM.HDn le arr.size (fn arr) p)
    (e : ∀ d, (d = 2 * p + 1 ∨ d = 2 * p + 2) → d < arr.size → d ≠ c → le (fn arr c) (fn arr d)) : HM.HDn le (sw arr c p).size (fn (sw arr c p)) c := by
  rw [sw_size hx hy, sw_fn hx hy (by omega)]
  exact HM.dn_step hD hc (lt_of hx) e
theorem sift_down (a : Addr) (res : Value) : ∀ (m : Nat) (k1 k2 k3 : Tok) (p : Nat) (arr : Arr), arr.size - p = m → p < arr.size → HM.HDn le arr.size (fn arr) p →
    Meets (Builtin.«_heapq.heapify.sift» ⟨[.ref a, .bool false, .bool true, .int p k1, .int 0 k2, res, .int (-1) k3], []⟩) (SiftS a arr res) := by
  intro m
  induction m using Nat.strongRecOn with
  | ind m ih =>
    intro k1 k2 k3 p arr hm hp hD prog w A R s ⟨hu, X, fin⟩
    obtain ⟨n, ho⟩ := X.ob
    unfold Builtin.«_heapq.heapify.sift»
    dsimp only
    refine wpAny_bind (wpAny_bind (wpAny_seqItems ho rfl (wpAny_pure ?_)))
    refine ifP rfl ?_
    have ep : ((p : Int)).toNat = p := Int.toNat_natCast p
    have sz : (arr.map Prod.fst).size = arr.size := Array.size_map
    have szl : (arr.map Prod.fst).size ≤ sizeLine := by rw [sz]; exact X.sz
    rw [ep, sz]
    by_cases hl : p < arr.size / 2
    · refine ifP hl ?_
      obtain ⟨y, hy⟩ : ∃ y, arr[p]? = some y := ⟨arr[p], Array.getElem?_eq_getElem hp⟩
      have h1 : 2 * p + 1 < arr.size := by omega
      obtain ⟨l, hL⟩ : ∃ x, arr[2 * p + 1]? = some x := ⟨arr[2 * p + 1], Array.getElem?_eq_getElem h1⟩
      -- the child c is swapped with the place, and on
      have go : ∀ (c : Nat) (x : Value × Ev), (c = 2 * p + 1 ∨ c = 2 * p + 2) → arr[c]? = some x → (∀ d, (d = 2 * p + 1 ∨ d = 2 * p + 2) → d < arr.size → d ≠ c → le (fn arr c) (fn arr d)) →
          ∀ (t : Sem PySem.Fin) (u : Sem Unit), t = again (.builtin "_heapq.heapify.sift" ⟨[.ref a, .bool false, .bool true, rawInt (c : Nat), rawInt ((Int.toNat 0 : Nat) : Int), res, rawInt (-1)], []⟩) →
          (∀ Q, Q () { s with heap := s.heap.update a (Obj.mapSeq fun xs => (xs.setIfInBounds c y.1).setIfInBounds p x.1) } → wpAny (model prog w) A.in1 u Q (fun e s' => R (.error e) s') s) →
          wpAny (model prog w) A.in1 (u >>= fun _ => t) (fun fin s' => match fin with | .done f => R (.ok f) s' | .again c' => c'.quiet = true ∧ codeAny (model prog w) A c' R s') (fun e s' => R (.error e) s') s := by
        intro c x hc hx he t u et hu'
        subst et
        refine wpAny_bind (hu' _ ?_)
        have X2 := X.write (fun xs => (xs.setIfInBounds c y.1).setIfInBounds p x.1) (sw_map hx hy) (by rw [sw_size hx hy]; exact X.sz) (sw_ev X hx hy)
        have D := down_step a res k1 k2 k3 hc hx hy hD he
        refine wpAny_pure ⟨plainId_quiet plain_sift _, codeAny_builtin entry_sift ?_⟩
        rw [Around.under_plainId plain_sift]
        have hcl := lt_of hx
        refine ih (arr.size - c) (by omega) _ _ _ c (sw arr c p) (by rw [sw_size hx hy]) (by rw [sw_size hx hy]; exact hcl) D prog w A R _ ⟨hu, X2.1, fun arr' h' hp' hk hA hs => ?_⟩
        exact fin arr' h' (hp'.trans (sw_perm hx hy)) hk hA (sameBut_trans X2.2 hs)
      have upd1 : ∀ (c : Nat) (x : Value × Ev), arr[c]? = some x → ∀ Q : Unit → Shared → Prop, Q () { s with heap := s.heap.update a (Obj.mapSeq fun xs => (xs.setIfInBounds c y.1).setIfInBounds p x.1) } →
          wpAny (model prog w) A.in1 (updateSeq a fun xs => (xs.setIfInBounds c y.1).setIfInBounds p x.1) Q (fun e s' => R (.error e) s') s := fun c x hx Q q =>
        wpAny_updateSeq ho rfl q szl (by simp only [Array.size_setIfInBounds]; omega)
      by_cases h2 : 2 * p + 1 + 1 < arr.size
      · refine ifP h2 ?_
        obtain ⟨r, hR⟩ : ∃ x, arr[2 * p + 1 + 1]? = some x := ⟨arr[2 * p + 1 + 1], Array.getElem?_eq_getElem h2⟩
        refine wpAny_bind (opt_run (get_fst hL) ?_)
        refine wpAny_bind (opt_run (get_fst hR) ?_)
        refine ifN (by decide) ?_
        refine wpAny_bind (wpAny_bind (wpAny_holding (wpAny_bind (lt_run (show A.in1.units + 1 < cLine from hu) (X.ev l (mem_of hL)) (X.ev r (mem_of hR)) (wpAny_truthy_bool ?_)))))
        refine wpAny_bind (wpAny_bind (wpAny_seqItems ho rfl (wpAny_pure ?_)))
        refine ifN (by simp) (wpAny_pure ?_)
        cases hlt : ltB l.2 r.2 with
        | false =>
          refine ifP rfl ?_
          refine go (2 * p + 1 + 1) r (.inr rfl) hR (fun d hd dn dne => ?_) _ _ rfl (fun Q q => wpAny_bind (wpAny_bind (wpAny_seqItems ho rfl (wpAny_pure (wpAny_bind (opt_run (get_fst hR) (wpAny_bind (opt_run (get_fst hy) (upd1 _ r hR Q q)))))))))
          have e : d = 2 * p + 1 := by omega
          rw [e, fn_of hR, fn_of hL]
          exact hlt
        | true =>
          refine ifN (by decide) ?_
          refine go (2 * p + 1) l (.inl rfl) hL (fun d hd dn dne => ?_) _ _ rfl (fun Q q => wpAny_bind (wpAny_bind (wpAny_seqItems ho rfl (wpAny_pure (wpAny_bind (opt_run (get_fst hL) (wpAny_bind (opt_run (get_fst hy) (upd1 _ l hL Q q)))))))))
          have e : d = 2 * p + 1 + 1 := by omega
          rw [e, fn_of hR, fn_of hL]
          exact le_of_lt hlt
      · refine ifN h2 ?_
        refine go (2 * p + 1) l (.inl rfl) hL (fun d hd dn dne => by omega) _ _ rfl (fun Q q => wpAny_bind (wpAny_bind (wpAny_seqItems ho rfl (wpAny_pure (wpAny_bind (opt_run (get_fst hL) (wpAny_bind (opt_run (get_fst hy) (upd1 _ l hL Q q)))))))))
    · refine ifN hl ?_
      refine wpAny_pure ⟨plainId_quiet plain_sift _, codeAny_builtin entry_sift ?_⟩
      rw [Around.under_plainId plain_sift]
      exact sift_up a res _ _ _ p arr hp (HM.dn_leaf hD hl) prog w A R s ⟨hu, X, fin⟩
/-- heappush(xs, u) -/
theorem push_run {a : Addr} {arr : Arr} {u : Value} {e : Ev} {Q : Value → Shared → Prop} (hu : A.units + 2 < cLine) (X : At s.heap a arr) (hs : arr.size < sizeLine) (hk : HM.HOk le arr.size (fn arr)) (x : EvAt s.heap u e)
    (h : ∀ (arr' : Arr) (h' : Heap), arr'.Perm (arr.push (u, e)) → HM.HOk le arr'.size (fn arr') → At h' a arr' → Heap.SameBut a s.heap h' → Q .none { s with heap := h' }) :
    wpAny (model prog w) A (call (.builtin "_heapq.heappush") [.ref a, u]) Q E s := by
  refine call_function_tree kind_push plain_push entry_push (args_push _ _) ?_
  obtain ⟨n, ho⟩ := X.ob
  unfold Builtin.«_heapq.heappush»
  have hT : s.TypeIs (.ref a) "list" := ⟨_, ho, rfl⟩
  refine wpAny_bind (wpAny_bind (wpAny_pure (wpAny_bind (wpAny_pure ?_))))
  dsimp only
  refine wpAny_bind (wpAny_bind (wpAny_isInstance hT sub_list_list (ifP rfl (wpAny_pure (wpAny_pure ?_)))))
  dsimp only
  have sz : (arr.map Prod.fst).size = arr.size := Array.size_map
  have em : (arr.map Prod.fst).push u = (arr.push (u, e)).map Prod.fst := by rw [Array.map_push]
  have X2 := X.write (arr' := arr.push (u, e)) (fun xs => xs.push u) em (by rw [Array.size_push]; omega) (fun p hp => by
    rcases Array.mem_push.mp hp with q | q
    · exact X.ev p q
    · rw [q]; exact x)
  refine wpAny_bind (wpAny_updateSeq ho rfl ?_ (by rw [sz]; omega) (by simp only [Array.size_push, sz]; omega))
  obtain ⟨n2, ho2⟩ := X2.1.ob
  refine wpAny_bind (wpAny_bind (wpAny_seqItems ho2 rfl (wpAny_pure ?_)))
  have e1 : ((arr.push (u, e)).map Prod.fst).size - 1 = arr.size := by rw [Array.size_map, Array.size_push]; omega
  rw [e1]
  refine wpAny_pure ⟨plainId_quiet plain_sift _, codeAny_builtin entry_sift ?_⟩
  rw [Around.under_plainId plain_sift]
  have U : HM.HUp le (arr.push (u, e)).size (fn (arr.push (u, e))) arr.size := by
    rw [Array.size_push]
    refine HM.push_up hk fun k hk' => ?_
    unfold fn
    rw [Array.getElem?_push, if_neg (by omega)]
  exact sift_up a .none _ _ _ arr.size (arr.push (u, e)) (by rw [Array.size_push]; omega) U prog w A (fun (r : Result) s' => match r with | .ok (.ret v) => Q v s' | .ok _ => False | .error e => E e s') _ ⟨hu, X2.1, fun arr' h' hp' hk' hA hs' => h arr' h' hp' hk' hA (sameBut_trans X2.2 hs')⟩
/-- heappop(xs), xs not empty -/
theorem pop_run {a : Addr} {arr : Arr} {Q : Value → Shared → Prop} (hu : A.units + 2 < cLine) (X : At s.heap a arr) (h0 : 0 < arr.size) (hk : HM.HOk le arr.size (fn arr))
    (h : ∀ (x : Value × Ev) (arr' : Arr) (h' : Heap), (arr'.push x).Perm arr → (∀ y, y ∈ arr' → le x.2 y.2) → HM.HOk le arr'.size (fn arr') → At h' a arr' → Heap.SameBut a s.heap h' → Q x.1 { s with heap := h' }) :
    wpAny (model prog w) A (call (.builtin "_heapq.heappop") [.ref a]) Q E s := by
  refine call_function_tree kind_pop plain_pop entry_pop (args_pop _) ?_
  obtain ⟨n, ho⟩ := X.ob
  have hT : s.TypeIs (.ref a) "list" := ⟨_, ho, rfl⟩
  obtain ⟨ys, z, rfl⟩ := Array.exists_push_of_size_pos h0
  have X0 : At (s.heap.update a (Obj.mapSeq fun xs => xs.pop)) a ys ∧ Heap.SameBut a s.heap (s.heap.update a (Obj.mapSeq fun xs => xs.pop)) := X.write (arr' := ys) (fun xs => xs.pop) (by rw [Array.map_push, Array.pop_push]) (by have := X.sz; rw [Array.size_push] at this; omega) (fun p hp => X.ev p (Array.mem_push.mpr (.inl hp)))
  obtain ⟨n2, ho2⟩ := X0.1.ob
  have szl : ((ys.push z).map Prod.fst).size ≤ sizeLine := by rw [Array.size_map]; exact X.sz
  have szy : (ys.map Prod.fst).size ≤ sizeLine := by rw [Array.size_map]; exact X0.1.sz
  unfold Builtin.«_heapq.heappop»
  refine wpAny_bind (wpAny_bind (wpAny_bind (wpAny_pure (wpAny_pure ?_))))
  refine wpAny_bind (wpAny_bind (wpAny_isInstance hT sub_list_list (ifP rfl (wpAny_pure (wpAny_pure ?_)))))
  dsimp only
  refine wpAny_bind (wpAny_bind (wpAny_seqItems ho rfl (wpAny_pure ?_)))
  have hb : ((ys.push z).map Prod.fst).back? = some z.1 := by rw [Array.map_push, Array.back?_push]
  rw [hb]
  dsimp only
  refine wpAny_bind (wpAny_updateSeq ho rfl ?_ szl (by simp only [Array.size_pop]; omega))
  have mem0 : ∀ y, y ∈ ys.push z → le (fn (ys.push z) 0) y.2 := fun y hy => by
    obtain ⟨i, hi, e⟩ := Array.getElem_of_mem hy
    have q := HM.least le_rf le_tr hk i hi
    rw [fn_of (arr := ys.push z) (i := i) (x := y) (by rw [Array.getElem?_eq_getElem hi, e])] at q
    exact q
  by_cases h1 : ys.size = 0
  · have e0 : ys = #[] := Array.eq_empty_of_size_eq_zero h1
    subst e0
    refine ifP (by rw [Array.size_map, Array.size_push]; rfl) (wpAny_pure ?_)
    exact h z #[] _ (Array.Perm.refl _) (fun y hy => by simp at hy) (fun c c0 cn => absurd cn (Nat.not_lt_zero _)) X0.1 X0.2
  · refine ifN (by rw [Array.size_map, Array.size_push]; intro q; have := beq_iff_eq.mp q; omega) ?_
    have p0 : 0 < ys.size := by omega
    obtain ⟨x, hx⟩ : ∃ x, ys[0]? = some x := ⟨ys[0], Array.getElem?_eq_getElem p0⟩
    have hx' : (ys.push z)[0]? = some x := by rw [Array.getElem?_push, if_neg (by omega), hx]
    refine wpAny_bind (opt_run (get_fst hx') ?_)
    have m2 : ∀ p, p ∈ ys.setIfInBounds 0 z → p ∈ ys.push z := fun p hp => by
      rcases Array.mem_or_eq_of_mem_setIfInBounds hp with q | q
      · exact Array.mem_push.mpr (.inl q)
      · exact Array.mem_push.mpr (.inr q)
    have X2 := X0.1.write (arr' := ys.setIfInBounds 0 z) (fun xs => xs.setIfInBounds 0 z.1) (by rw [Array.map_setIfInBounds]) (by rw [Array.size_setIfInBounds]; exact X0.1.sz) (fun p hp => (X.ev p (m2 p hp)).but ho rfl X0.2)
    refine wpAny_bind (wpAny_updateSeq ho2 rfl ?_ szy (by simp only [Array.size_setIfInBounds]; omega))
    refine wpAny_pure ⟨plainId_quiet plain_sift _, codeAny_builtin entry_sift ?_⟩
    rw [Around.under_plainId plain_sift]
    have D : HM.HDn le (ys.setIfInBounds 0 z).size (fn (ys.setIfInBounds 0 z)) 0 := by
      rw [Array.size_setIfInBounds]
      rw [Array.size_push] at hk
      refine HM.pop_dn hk fun k k0 kn => ?_
      unfold fn
      rw [Array.getElem?_setIfInBounds, if_neg (by omega), Array.getElem?_push, if_neg (by omega)]
    have P : ((ys.setIfInBounds 0 z).push x).Perm (ys.push z) := by
      have hz : (ys.push z)[ys.size]? = some z := Array.getElem?_push_size
      have e : (ys.setIfInBounds 0 z).push x = sw (ys.push z) 0 ys.size := by
        apply Array.ext_getElem?
        intro k
        rw [sw_get hx' hz, Array.getElem?_push, Array.size_setIfInBounds]
        by_cases c : k = ys.size
        · rw [if_pos c, if_pos c]
        · rw [if_neg c, if_neg c, Array.getElem?_setIfInBounds, Array.getElem?_push, if_neg c]
          by_cases c2 : k = 0
          · rw [if_pos c2.symm, if_pos c2, if_pos p0]
          · rw [if_neg (fun q => c2 q.symm), if_neg c2]
      rw [e]
      exact sw_perm hx' hz
    refine sift_down a x.1 _ _ _ _ 0 (ys.setIfInBounds 0 z) rfl (by rw [Array.size_setIfInBounds]; exact p0) D prog w A (fun (r : Result) s' => match r with | .ok (.ret v) => Q v s' | .ok _ => False | .error e => E e s') _ ?_
    refine ⟨hu, X2.1, fun arr' h' hp' hk' hA hs' => ?_⟩
    have Pm : (arr'.push x).Perm (ys.push z) := by
      refine Array.Perm.trans ?_ P
      rw [Array.perm_iff_toList_perm, Array.toList_push, Array.toList_push]
      exact List.Perm.append_right [x] (Array.perm_iff_toList_perm.mp hp')
    refine h x arr' h' Pm (fun y hy => ?_) hk' hA (sameBut_trans X0.2 (sameBut_trans X2.2 hs'))
    have := mem0 y (Pm.mem_iff.mp (Array.mem_push.mpr (.inl hy)))
    rw [fn_of hx'] at this
    exact this
end
end HQ

namespace L2.My
open PySem PySem.Spec PyProof.Rows
open HQ (Ev evD)
theorem map_self {α : Type} {f : α → α} : ∀ {l : List α}, (∀ x ∈ l, f x = x) → l.map f = l
  | [], _ => rfl
  | x :: l, h => by
    rw [List.map_cons, h x List.mem_cons_self, map_self fun y hy => h y (List.mem_cons_of_mem _ hy)]
/-! ### events: tuples (text, number) that are tracked -/
def evV (e : Ev) : List V := [.str e.1, .int e.2]
def EvR (H : Hp) (z : Addr × Ev) : Prop := H z.1 = some (.tup (evV z.2))
def heapL (es : List Ev) : Prop := HM.HOk HQ.le es.length (fun k => (es[k]?).getD (⟨#[]⟩, 0))
section
variable {X : Cx} {pins : List (Addr × Obj)} {σ : St} {H : Hp} {s : Shared}
theorem evAt_of (I : Inv X pins σ H s) {z : Addr × Ev} (h : EvR H z) : HQ.EvAt s.heap (.ref z.1) z.2 := by
  obtain ⟨_, its, rv, o, ho, hc, n, hd⟩ := I.hok z.1 _ h
  cases rv with
  | cons r1 r2 =>
    obtain ⟨k1, rfl⟩ := r1
    cases r2 with
    | cons r3 r4 =>
      obtain ⟨k2, rfl⟩ := r3
      cases r4
      exact ⟨z.1, o, k1, k2, _, rfl, ho, hc, hd⟩
def gv (z : Addr × Ev) : Value × Ev := (.ref z.1, z.2)
def gvi (p : Value × Ev) : Addr × Ev := (match p.1 with | .ref a => a | _ => 0, p.2)
theorem gvi_gv (z : Addr × Ev) : gvi (gv z) = z := rfl
theorem of_perm {arr : List (Value × Ev)} {zs : List (Addr × Ev)} (h : arr.Perm (zs.map gv)) : ∃ zs' : List (Addr × Ev), arr = zs'.map gv ∧ zs'.Perm zs := by
  refine ⟨arr.map gvi, ?_, ?_⟩
  · rw [List.map_map]
    symm
    refine map_self fun p hp => ?_
    obtain ⟨z, _, rfl⟩ := List.mem_map.mp (h.mem_iff.mp hp)
    rfl
  · have q := h.map gvi
    rw [List.map_map] at q
    have e : (gvi ∘ gv) = id := by funext z; rfl
    rw [e, List.map_id] at q
    exact q
theorem vals_refs_eq : ∀ {zs : List (Addr × Ev)} {its : List Value}, Vals (zs.map fun z => V.ref z.1) its → its = zs.map fun z => Value.ref z.1
  | [], _, r => by cases r; rfl
  | z :: zs, _, r => by
    cases r with
    | cons r1 r2 =>
      rw [List.map_cons, ← vals_refs_eq r2]
      rw [show _ = Value.ref z.1 from r1]
theorem vals_refs : ∀ (zs : List (Addr × Ev)), Vals (zs.map fun z => V.ref z.1) (zs.map fun z => Value.ref z.1)
  | [] => .nil
  | z :: zs => .cons rfl (vals_refs zs)
theorem fst_gv (zs : List (Addr × Ev)) : ((zs.map gv).toArray.map Prod.fst) = (zs.map fun z => Value.ref z.1).toArray := by
  rw [List.map_toArray, List.map_map]
  rfl
theorem fn_gv (zs : List (Addr × Ev)) : HQ.fn (zs.map gv).toArray = fun k => ((zs.map (·.2))[k]?).getD (⟨#[]⟩, 0) := by
  funext k
  unfold HQ.fn
  rw [List.getElem?_toArray, List.getElem?_map, List.getElem?_map, Option.map_map]
  rfl
theorem at_of_H (I : Inv X pins σ H s) {a : Addr} {zs : List (Addr × Ev)} (ha : H a = some (.lst (zs.map fun z => V.ref z.1))) (he : ∀ z ∈ zs, EvR H z) : HQ.At s.heap a (zs.map gv).toArray := by
  obtain ⟨hl, its, n, rv, ho⟩ := I.hok a _ ha
  rw [vals_refs_eq rv] at ho
  refine ⟨⟨n, by rw [fst_gv]; exact ho⟩, fun p hp => ?_, ?_⟩
  · rw [List.mem_toArray] at hp
    obtain ⟨z, hz, rfl⟩ := List.mem_map.mp hp
    exact evAt_of I (he z hz)
  · rw [List.size_toArray, List.length_map]
    rw [List.length_map] at hl
    exact hl
theorem inv_of_at {t' : Nat} (I : Inv X pins σ H s) {a : Addr} {xs : List V} {zs : List (Addr × Ev)} {h' : Heap} (ha : H a = some (.lst xs)) (A : HQ.At h' a (zs.map gv).toArray) (k : Heap.SameBut a s.heap h') :
    Inv X pins σ (upd H a (.lst (zs.map fun z => V.ref z.1))) { s with heap := h', toks := t' } := by
  obtain ⟨n, ho⟩ := A.ob
  rw [fst_gv] at ho
  have hs := A.sz
  rw [List.size_toArray, List.length_map] at hs
  exact I.write (x := a) (e := a) (t' := t') (by rw [ha]; trivial) (.inl rfl) (fun b u hb hu => (k.2 b hb).trans hu) ⟨_, ho⟩ ⟨by rw [List.length_map]; exact hs, _, n, vals_refs zs, ho⟩
/-- heappush(xs, e) -/
def rHPush : List V → Hp → VK → Prop := fun vs H Q => ∃ (a : Addr) (z : Addr × Ev) (zs : List (Addr × Ev)), vs = [.ref a, .ref z.1] ∧ H a = some (.lst (zs.map fun z => V.ref z.1)) ∧ EvR H z ∧ (∀ y ∈ zs, EvR H y) ∧ zs.length < sizeLine ∧ heapL (zs.map (·.2)) ∧
  ∀ zs' : List (Addr × Ev), zs'.Perm (z :: zs) → heapL (zs'.map (·.2)) → Q .non (upd H a (.lst (zs'.map fun z => V.ref z.1)))
theorem cr_push (hu : X.A.units + 64 < cLine) : CallR X (.builtin "_heapq.heappush") rHPush := by
  intro pins s σ H vs us Q I r h
  obtain ⟨a, z, zs, rfl, ha, hz, hzs, hl, hk, q⟩ := h
  cases r with
  | cons r1 r2 =>
    cases r1
    cases r2 with
    | cons r3 r4 =>
      cases r3
      cases r4
      have hk' : HM.HOk HQ.le (zs.map gv).toArray.size (HQ.fn (zs.map gv).toArray) := by
        rw [fn_gv, List.size_toArray, List.length_map]
        have := hk
        unfold heapL at this
        rw [List.length_map] at this
        exact this
      refine HQ.push_run (by omega) (at_of_H I ha hzs) (by rw [List.size_toArray, List.length_map]; exact hl) hk' (evAt_of I hz) fun arr' h' hp hko A' k => ?_
      have hp' : arr'.toList.Perm ((zs ++ [z]).map gv) := by
        have := Array.perm_iff_toList_perm.mp hp
        rw [Array.toList_push] at this
        rw [List.map_append]
        exact this
      obtain ⟨zs', e, p⟩ := of_perm hp'
      have ea : arr' = (zs'.map gv).toArray := by rw [← e]
      subst ea
      rw [fn_gv, List.size_toArray, List.length_map] at hko
      refine ⟨.non, _, inv_of_at (t' := s.toks) I ha A' k, rfl, q zs' (p.trans (List.perm_append_singleton z zs)) ?_⟩
      unfold heapL
      rw [List.length_map]
      exact hko
/-- heappop(xs), not empty -/
def rHPop : List V → Hp → VK → Prop := fun vs H Q => ∃ (a : Addr) (zs : List (Addr × Ev)), vs = [.ref a] ∧ H a = some (.lst (zs.map fun z => V.ref z.1)) ∧ (∀ y ∈ zs, EvR H y) ∧ zs ≠ [] ∧ heapL (zs.map (·.2)) ∧
  ∀ (z : Addr × Ev) (zs' : List (Addr × Ev)), (z :: zs').Perm zs → (∀ y ∈ zs', HQ.le z.2 y.2) → heapL (zs'.map (·.2)) → Q (.ref z.1) (upd H a (.lst (zs'.map fun z => V.ref z.1)))
theorem cr_pop (hu : X.A.units + 64 < cLine) : CallR X (.builtin "_heapq.heappop") rHPop := by
  intro pins s σ H vs us Q I r h
  obtain ⟨a, zs, rfl, ha, hzs, hne, hk, q⟩ := h
  cases r with
  | cons r1 r2 =>
    cases r1
    cases r2
    have hk' : HM.HOk HQ.le (zs.map gv).toArray.size (HQ.fn (zs.map gv).toArray) := by
      rw [fn_gv, List.size_toArray, List.length_map]
      have := hk
      unfold heapL at this
      rw [List.length_map] at this
      exact this
    refine HQ.pop_run (by omega) (at_of_H I ha hzs) (by rw [List.size_toArray, List.length_map]; exact List.length_pos_iff.mpr hne) hk' fun x arr' h' hp hmin hko A' k => ?_
    have hp' : (arr'.toList ++ [x]).Perm (zs.map gv) := by
      have := Array.perm_iff_toList_perm.mp hp
      rw [Array.toList_push, List.toList_toArray] at this
      exact this
    obtain ⟨ws, e, p⟩ := of_perm hp'
    have hx : x ∈ zs.map gv := hp'.mem_iff.mp (List.mem_append_right _ (List.mem_singleton.mpr rfl))
    obtain ⟨z, hz, rfl⟩ := List.mem_map.mp hx
    obtain ⟨zs', e2, p2⟩ := of_perm (zs := arr'.toList.map gvi) (arr := arr'.toList) (by
      rw [List.map_map]
      have : arr'.toList.map (gv ∘ gvi) = arr'.toList := by
        refine map_self fun y hy => ?_
        obtain ⟨z', _, rfl⟩ := List.mem_map.mp (hp'.mem_iff.mp (List.mem_append_left _ hy))
        rfl
      rw [this])
    have ea : arr' = (zs'.map gv).toArray := by rw [← e2]
    subst ea
    rw [fn_gv, List.size_toArray, List.length_map] at hko
    refine ⟨.ref z.1, _, inv_of_at (t' := s.toks) I ha A' k, rfl, q z zs' ?_ (fun y hy => ?_) ?_⟩
    · have := hp'.map gvi
      rw [List.map_append, List.toList_toArray, List.map_map, List.map_map] at this
      have e3 : (gvi ∘ gv) = id := by funext z; rfl
      rw [e3, List.map_id, List.map_id] at this
      exact ((List.perm_append_singleton z zs').symm).trans this
    · exact hmin (gv y) (by rw [List.mem_toArray]; exact List.mem_map.mpr ⟨y, hy, rfl⟩)
    · unfold heapL
      rw [List.length_map]
      exact hko
end
end L2.My

namespace L2.My
open PySem PySem.Spec PyProof.Rows
open HQ (Ev evD)
/-! ### sorted of data that are alike -/
section
variable {X : Cx} {pins : List (Addr × Obj)} {σ : St} {H : Hp} {s : Shared}
theorem each_vals : ∀ {zs : List (V × PyData)} {its : List Value}, Vals (zs.map (·.1)) its → PySem.W.EachIs (fun (v : Value) (b : V × PyData) => RelV b.1 v) its zs
  | [], _, r => by cases r; exact .nil
  | z :: zs, _, r => by
    cases r with
    | cons r1 r2 => exact .cons r1 (each_vals r2)
theorem vals_each : ∀ {zs : List (V × PyData)} {its : List Value}, PySem.W.EachIs (fun (v : Value) (b : V × PyData) => RelV b.1 v) its zs → Vals (zs.map (·.1)) its
  | [], _, r => by cases r; exact .nil
  | z :: zs, _, r => by
    cases r with
    | cons r1 r2 => exact .cons r1 (vals_each r2)
theorem each_reads (I : Inv X pins σ H s) : ∀ {zs : List (V × PyData)} {its : List Value}, Vals (zs.map (·.1)) its → (∀ z ∈ zs, Dp X.K H z.1 z.2) →
    PySem.W.EachIs (fun (v : Value) (b : V × PyData) => ∃ as, Reads s.heap v b.2 as) its zs
  | [], _, r, _ => by cases r; exact .nil
  | z :: zs, _, r, h => by
    cases r with
    | cons r1 r2 => exact .cons (Dp.reads I z.2 z.1 _ (h z List.mem_cons_self) r1) (each_reads I r2 fun y hy => h y (List.mem_cons_of_mem _ hy))
def leD (x y : V × PyData) : Prop := PySem.W.dataLt y.2 x.2 = false
/-- sorted(xs): the items with their data -/
def rSortD (K : PySem.W.Frag) : List V → Hp → VK → Prop := fun vs H Q => ∃ (a : Addr) (zs : List (V × PyData)), vs = [.ref a] ∧ SqL K H a (zs.map (·.1)) ∧ (∀ z ∈ zs, Dp K H z.1 z.2) ∧
  PySem.W.AllAlike (zs.map (·.2)) ∧ PySem.W.Sortable (zs.map (·.2)) ∧ zs.length ≤ sizeLine ∧ (∀ z ∈ zs, z.2.depth ≤ 20) ∧
  ∀ (zs' : List (V × PyData)) (p : Addr), zs'.Perm zs → zs'.Pairwise leD → H p = none → Q (.ref p) (upd H p (.lst (zs'.map (·.1))))
theorem cr_sortD (hu : X.A.units + 64 < cLine) : CallR X (.builtin "sorted") (rSortD X.K) := by
  intro pins s σ H vs us Q I r h
  obtain ⟨a, zs, rfl, hs, hd, hal, hso, hl, hdp, q⟩ := h
  obtain ⟨its, rv, hli, _⟩ := I.list hs
  rw [Vals.ref1 r]
  refine PySem.W.sorted_data (vs := its) (bs := zs) (enc := fun b => b.2) (R := fun v b => RelV b.1 v) hli.isList (each_vals rv) (each_reads I rv hd) hal hso hl (fun b hb => ?_) fun out ho eo => ?_
  · have := hdp b hb
    omega
  · obtain ⟨ep, he'⟩ := PyProof.Rows.sortedAll_at s.heap its out.toArray
    have pm : (zs.mergeSort (PySem.W.dataLe false fun b => b.2)).Perm zs := List.mergeSort_perm _ _
    have pw := PySem.W.sort_pairwise (PySem.W.sortLe_total (PyProof.Rows.listOrd PyProof.Rows.itemOrd) false (fun b : V × PyData => PySem.W.keyToks b.2)) zs
    have rvo := vals_each eo
    have hlen : ((zs.mergeSort (PySem.W.dataLe false fun b => b.2)).map (·.1)).length ≤ sizeLine := by rw [List.length_map, pm.length_eq]; exact hl
    refine ⟨.ref _, upd H (s.heap.objs.size + 1) (.lst ((zs.mergeSort (PySem.W.dataLe false fun b => b.2)).map (·.1))), I.laid (t' := s.toks) (fun _ _ => PyProof.Rows.sortedAll_old) (Nat.le_succ _) ⟨hlen, out, ep, rvo, he'⟩, rfl, q _ _ pm ?_ (I.hok.fresh (Nat.le_succ _))⟩
    refine pw.imp fun {x y} hxy => ?_
    have : (!PySem.W.dataLt y.2 x.2) = true := hxy
    exact (Bool.not_eq_true' _).mp this
end
/-! ### a dict comprehension whose keys are tuples -/
theorem dictSetT {X : Cx} {pins : List (Addr × Obj)} {σ : St} {H : Hp} {s : Shared} {E : Value → Shared → Prop} {D b : Addr} {kvs : List (List Key × V)} {k : List Key} {v : V} {r : Value} {Q : Unit → Shared → Prop} (hu : X.A.units + 1 < cLine)
    (I : Inv X pins σ H s) (hD : H D = some (.dT kvs)) (hz : kvs.length < sizeLine) (hb : H b = some (.tup (k.map kV))) (rv : RelV v r) (h : ∀ s', Inv X pins σ (upd H D (.dT (putK kvs k v))) s' → Q () s') :
    wpAny (model X.prog X.w) X.A (dictSet D (.ref b) r) Q E s := by
  obtain ⟨z, hd, xs, rel, dd⟩ := dt_of I.hok hD
  have hsz : xs.length ≤ sizeLine := Paired.length rel ▸ z
  have hl : (putK kvs k v).length ≤ sizeLine := Nat.le_trans (length_putK kvs k v) hz
  refine wpAny_dictSet_heap (hsz := hsz) (show X.A.units + 0 < cLine by omega) (key_of I.hok hb) dd fun h' dd' hs => h _ ?_
  obtain ⟨q, es, ep, hq, h2, h3, h4, _, h5⟩ := dd'
  refine d_write I (hD ▸ True.intro) hs ⟨q, hq⟩ ⟨hl, hd, _, (rel.put k hb rv).keeps fun c ys ec => ?_, q, es, ep, hq, h2, h3, h4, h5⟩
  rw [upd_ne (ne_of ec hD (fun z => nomatch z))]
  exact ec

section
variable {X : Cx}
/-- one turn's wish, the key a tracked tuple -/
def dtTurn (tt : TT) (tk tv : TE) (D : Addr) (Nx : Hp → Prop) : St → Hp → Prop := fun σ2 H2 => tt σ2 H2 fun b H3 =>
  if b = true then tk σ2 H3 fun y H4 => tv σ2 H4 fun z H5 => ∃ kvs k c, y = V.ref c ∧ H5 c = some (.tup (k.map kV)) ∧ H5 D = some (.dT kvs) ∧ kvs.length < sizeLine ∧ Nx (upd H5 D (.dT (putK kvs k z))) else Nx H3
/-- {k: v for target in iter if ..}, the keys tuples -/
def tDcT (wi : TI) (g : TG) (tt : TT) (tk tv : TE) (vs : List Nat) : TE := fun σ H Q => wi σ H fun J H1 => ∀ D, H1 D = none → ∃ W : Nat → Nat → Hp → Prop, (∃ m, W 0 m (upd H1 D (.dT []))) ∧ ∀ i m H, W i m H →
  (J.stop i H ∧ Q (.ref D) H) ∨ (J.go i H ∧ ∃ Nx : Hp → Prop, (∀ H', Nx H' → ∃ m', m' < m ∧ W (i + 1) m' H') ∧ ∀ x H', J.yld i H x H' → g x (wipe σ vs) H' fun σ2 H2 => wipe σ2 vs = wipe σ vs ∧ dtTurn tt tk tv D Nx σ2 H2)
abbrev InBlk (X : Cx) (scope : Scope) (P : Cx → Prop) : Prop :=
  ∀ (s : Shared) (H : Hp) (C : Addr) (cl : List (Str × Addr)) (fp : List Addr), P (X.blk s H scope (compEnvC scope cl C X.env) fp)
theorem pe_dcT {kx vx tg iter : Expr} {ifs : List Expr} {scope : Scope} {own : List (Str × Nat)} {pos : Pos} {wi : TI} {g : TG} {tt : TT} {tk tv : TE} (hu : X.A.units + 1 < cLine) (hc : X.calm = true) (hN : X.N.Nodup)
    (hi : PI X tg iter wi) (ok : BlkOk X.N X.env.scope scope own) (hg : InBlk X scope fun Y => PG Y tg g) (ht : InBlk X scope fun Y => PTs Y ifs tt) (hk : InBlk X scope fun Y => PE Y kx tk) (he : InBlk X scope fun Y => PE Y vx tv)
    (hs : ∀ x, foldedSetIterable iter X.env x = pure x := by intro _; rfl) : PE X (.DictComp kx vx [⟨tg, iter, ifs, 0⟩] scope pos) (tDcT wi g tt tk tv (own.map (·.2))) := by
  refine ⟨fun pins s σ H Q I h => ?_⟩
  rw [arm_eval_DictComp]
  have cells : ∀ y ∈ scope.names, y.2 = .free → ∃ c, X.env.cells.lookup y.1 = some c := fun y hy e => (ok.free y hy e).elim (fun k => I.ok.has _ (.inl k)) fun k => I.ok.has _ (.inr k)
  refine wpAny_comprehension_free rfl hs (closure_ok cells) ok.kind (fun y hy e => by rw [ok.uniq y hy, e]) (thn (hi.run pins s σ H _ I h) fun xv s1 hx => thn hx fun itv s2 ⟨it, fp, tn, J, H2, e, I2, T, st2, f2, q⟩ => ?_)
  subst e
  refine wpAny_newObj_type (newEnv_comp ?_)
  -- the new dict's place, the promise of the loop
  generalize hD : s2.heap.objs.size = D
  have hDn : H2 D = none := I2.hok.fresh (Nat.le_of_eq hD)
  obtain ⟨W, ⟨m0, w0⟩, turn⟩ := q D hDn
  generalize hs3 : ({ s2 with heap := s2.heap.push { cls := .type "dict", data := .dict #[] } } : Shared) = s3
  have e3 : s3.heap = s2.heap.push { cls := .type "dict", data := .dict #[] } := hs3 ▸ rfl
  have I3 : Inv X pins σ (upd H2 D (.dT [])) s3 := by
    subst hs3
    refine I2.laid (t' := s2.toks) (fun b o => Heap.get?_push_of_some _) (Nat.le_of_eq hD) ?_
    subst hD
    exact dt_empty s2.heap I2.big
  have small : ∀ b ∈ fp, b < s2.heap.objs.size := fun b hb => let ⟨_, e, _⟩ := T.obj _ _ st2 b hb; Heap.lt_size e
  have f3 : ∀ b ∈ fp, FpOk X pins (upd H2 D (.dT [])) b ∧ b < s3.heap.objs.size := fun b hb => by
    have lt := small b hb
    refine ⟨⟨?_, (f2 b hb).2⟩, by rw [e3, Heap.size_push]; exact Nat.lt_succ_of_lt lt⟩
    have nb : b ≠ D := hD ▸ Nat.ne_of_lt lt
    exact (upd_ne nb).trans (f2 b hb).1
  have st3 : tn 0 s3.heap := T.keep _ _ _ st2 fun b _ o e => e3 ▸ Heap.get?_push_of_some _ e
  have I4 := block_start I3 ok hN f3
  show codeAny _ _ (.compStart (.DictComp kx vx [⟨tg, iter, ifs, 0⟩] scope pos) 0 (.ref it) (.ref D) (compEnvC scope (cellsFrom (s3.heap.objs.size + 1) scope.names (cloFrom X.env.cells scope.names [])) s3.heap.objs.size X.env))
    (compPost (model X.prog X.w) X.A X.xe _ _ (.ref D) s3.heap.objs.size) { s3 with heap := pushCells (s3.heap.push { cls := .type "dict", data := .dict #[] }) scope.names }
  generalize hcl : cellsFrom (s3.heap.objs.size + 1) scope.names (cloFrom X.env.cells scope.names []) = cl at I4 ⊢
  have pg := hg s3 (upd H2 D (.dT [])) s3.heap.objs.size cl fp
  have pt := ht s3 (upd H2 D (.dT [])) s3.heap.objs.size cl fp
  have pk := hk s3 (upd H2 D (.dT [])) s3.heap.objs.size cl fp
  have pe := he s3 (upd H2 D (.dT [])) s3.heap.objs.size cl fp
  have free3 : ∀ b ∈ fp, (upd H2 D (.dT [])) b = none := fun b hb => (f3 b hb).1.1
  generalize hce : compEnvC scope cl s3.heap.objs.size X.env = ce at I4 pg pt pk pe ⊢
  have cL : ce.locals = s3.heap.objs.size := hce ▸ rfl
  generalize hH3 : upd H2 D (.dT []) = H3 at I3 I4 pg pt pk pe w0 free3 f3
  generalize hs4 : ({ s3 with heap := pushCells (s3.heap.push { cls := .type "dict", data := .dict #[] }) scope.names } : Shared) = s4 at I4 ⊢
  have st4 : tn 0 s4.heap := T.keep _ _ _ st3 fun b _ o e => hs4 ▸ pushCells_keeps _ _ _ _ (Heap.get?_push_of_some _ e)
  -- what the walked thing stands on, within the block
  have foot : ∀ {σ' : St} {H' : Hp} {s' : Shared}, Inv (X.blk s3 H3 scope ce fp) [] σ' H' s' → (∀ b ∈ fp, H' b = none) → ∀ b ∈ fp, FpOk (X.blk s3 H3 scope ce fp) [] H' b := by
    intro σ' H' s' I' hn b hb
    refine ⟨hn b hb, (I'.ok.exf b hb).1, I'.ok.exfs b hb, .inl hb, fun x c e => (I'.ok.exf b hb).2 x c e, fun p hp => ?_⟩
    simp at hp
  refine codeAny_compStart_dict ?loop (T.self X.A 0 _ _ _ st4 ?loop)
  refine compLoop_anyD (fun n s' => ∃ i H', Inv (X.blk s3 H3 scope ce fp) [] (wipe σ (own.map (·.2))) H' s' ∧ tn i s'.heap ∧ (∀ b ∈ fp, H' b = none) ∧ W i n H') ?_ m0 ⟨0, H3, I4, st4, free3, w0⟩
  rintro n s5 ⟨i, H5, I5, st5, n5, w5⟩
  rcases turn i n H5 w5 with ⟨stop, qq⟩ | ⟨go, Nx, hNx, step⟩
  · -- the end: back in the def
    refine thnF (T.done (X.blk s3 H3 scope ce fp) rfl rfl rfl hc i [] s5 _ H5 (fun _ _ => False) I5 (foot I5 n5) st5 stop) fun r s6 ⟨hr, I6⟩ => ?_
    subst hr
    have I7 : Inv X pins σ H5 s6 := I3.call' (ch := fp) I6.os I6.base I6.hok I6.bare fun b hb =>
      let z := (f3 b hb).1.2
      ⟨z.2.2.1, z.1, z.2.2.2.1, z.2.2.2.2⟩
    have nC : H5 s3.heap.objs.size = none := cL ▸ I6.free
    obtain ⟨m, hn, _⟩ := I6.loc
    have hn : s6.heap.Ns ce.locals m := hn
    rw [cL] at hn
    refine ⟨m, hn, fun h'' sb => ?_⟩
    obtain ⟨g0, g1, g2, g3, g4, g5⟩ := I3.fpOk (Nat.le_refl _) nC
    exact ⟨.ref D, H5, I7.turned (t' := s6.toks) (fun b o hb e => (sb.2 b hb).trans e) g0 g1 g3 g4 g5, rfl, qq⟩
  · refine thnF (T.item (X.blk s3 H3 scope ce fp) rfl rfl rfl hc i [] s5 _ H5 (fun _ _ => False) I5 (foot I5 n5) st5 go) fun r s6 ⟨u, hr, h6⟩ => ?_
    subst hr
    refine thnF h6 fun _ s7 ⟨x, H7, I7, r7, y7, st7, n7⟩ => ?_
    have P7 := I7.pinned (foot I7 n7) (T.obj _ _ st7)
    refine thnF (pg.run _ s7 _ H7 x u _ P7 r7 (step x H7 y7)) fun _ s8 ⟨σ8, H8, I8, hw8, q8⟩ => ?_
    refine thnF (pt.run _ s8 σ8 H8 _ I8 q8) fun b s9 ⟨H9, I9, q9⟩ => ?_
    -- what a turn leaves
    have fin : ∀ {s' : Shared} {H' : Hp}, Inv (X.blk s3 H3 scope ce fp) ([] ++ pinsAt fp s7.heap) σ8 H' s' → Nx H' →
        ∃ m, m < n ∧ ∃ i H', Inv (X.blk s3 H3 scope ce fp) [] (wipe σ (own.map (·.2))) H' s' ∧ tn i s'.heap ∧ (∀ b ∈ fp, H' b = none) ∧ W i m H' := by
      intro s' H' I' nx
      obtain ⟨m', hm, w'⟩ := hNx H' nx
      have pin' : ∀ b ∈ fp, ∀ o, s7.heap.get? b = some o → s'.heap.get? b = some o ∧ H' b = none := fun b hb o e =>
        have z := I'.pin (b, o) (List.mem_append_right _ (List.mem_append_right _ (mem_pinsAt hb e)))
        ⟨z.1, z.2.1⟩
      have hl : (wipe σ (own.map (·.2))).length = σ8.length := by rw [← hw8, wipe_length]
      refine ⟨m', hm, i + 1, H', (I'.unpinned (pins := [])).weak hl (fun j v e => (wipe_some (hw8 ▸ e)).1), T.keep _ _ _ st7 fun b hb o e => (pin' b hb o e).1, fun b hb => ?_, w'⟩
      obtain ⟨o, e, _⟩ := T.obj _ _ st7 b hb
      exact (pin' b hb o e).2
    cases b with
    | false =>
      simp only [Bool.false_eq_true, if_false] at q9 ⊢
      exact fin I9 q9
    | true =>
      simp only [if_true] at q9 ⊢
      refine thnF (pk.run _ s9 σ8 H9 _ I9 q9) fun z s10 ⟨yk, H10, I10, r10, q10⟩ => ?_
      refine thnF (pe.run _ s10 σ8 H10 _ I10 q10) fun z2 s11 ⟨yv, H11, I11, r11, kvs, k, c, ek, hk11, hD11, hz11, nx⟩ => ?_
      subst ek
      cases r10
      exact dictSetT (X := X.blk s3 H3 scope ce fp) hu I11 hD11 hz11 hk11 r11 fun s12 I12 => fin I12 nx
end
end L2.My

namespace L2.My
open PySem PySem.Spec PyProof.Rows
open HQ (Ev evD)
section
variable {X : Cx}
theorem dcT_core {pins : List (Addr × Obj)} {s : Shared} {σ : St} {H : Hp} {Q : VK} {use : Option (Value → Sem Unit)} {Qf : Value → Shared → Prop} {kx vx tg iter : Expr} {ifs : List Expr} {scope : Scope} {own : List (Str × Nat)} {pos pos' : Pos} {wi : TI} {g : TG} {tt : TT} {tk tv : TE} (hu : X.A.units + 1 < cLine) (hc : X.calm = true) (hN : X.N.Nodup) (I : Inv X pins σ H s)
    (hi : PI X tg iter wi) (ok : BlkOk X.N X.env.scope scope own) (hg : InBlk X scope fun Y => PG Y tg g) (ht : InBlk X scope fun Y => PTs Y ifs tt) (hk : InBlk X scope fun Y => PE Y kx tk) (he : InBlk X scope fun Y => PE Y vx tv)
    (hs : ∀ x, foldedSetIterable iter X.env x = pure x) (h : tDcT wi g tt tk tv (own.map (·.2)) σ H Q)
    (back : ∀ D C s' m H', Inv X pins σ H' s' → Q (.ref D) H' → FpOk X pins H' C → s'.heap.Ns C m → compPost (model X.prog X.w) X.A X.xe use Qf (.ref D) C (.ok .next) s') :
    wpAny (model X.prog X.w) X.A (comprehension (.DictComp kx vx [⟨tg, iter, ifs, 0⟩] scope pos) scope X.env pos' newDict false (eval iter X.env) use) Qf X.xe s := by
  have cells : ∀ y ∈ scope.names, y.2 = .free → ∃ c, X.env.cells.lookup y.1 = some c := fun y hy e => (ok.free y hy e).elim (fun k => I.ok.has _ (.inl k)) fun k => I.ok.has _ (.inr k)
  refine wpAny_comprehension_free (use := use) rfl hs (closure_ok cells) ok.kind (fun y hy e => by rw [ok.uniq y hy, e]) (thn (hi.run pins s σ H _ I h) fun xv s1 hx => thn hx fun itv s2 ⟨it, fp, tn, J, H2, e, I2, T, st2, f2, q⟩ => ?_)
  subst e
  refine wpAny_newObj_type (newEnv_comp ?_)
  -- the new dict's place, the promise of the loop
  generalize hD : s2.heap.objs.size = D
  have hDn : H2 D = none := I2.hok.fresh (Nat.le_of_eq hD)
  obtain ⟨W, ⟨m0, w0⟩, turn⟩ := q D hDn
  generalize hs3 : ({ s2 with heap := s2.heap.push { cls := .type "dict", data := .dict #[] } } : Shared) = s3
  have e3 : s3.heap = s2.heap.push { cls := .type "dict", data := .dict #[] } := hs3 ▸ rfl
  have I3 : Inv X pins σ (upd H2 D (.dT [])) s3 := by
    subst hs3
    refine I2.laid (t' := s2.toks) (fun b o => Heap.get?_push_of_some _) (Nat.le_of_eq hD) ?_
    subst hD
    exact dt_empty s2.heap I2.big
  have small : ∀ b ∈ fp, b < s2.heap.objs.size := fun b hb => let ⟨_, e, _⟩ := T.obj _ _ st2 b hb; Heap.lt_size e
  have f3 : ∀ b ∈ fp, FpOk X pins (upd H2 D (.dT [])) b ∧ b < s3.heap.objs.size := fun b hb => by
    have lt := small b hb
    refine ⟨⟨?_, (f2 b hb).2⟩, by rw [e3, Heap.size_push]; exact Nat.lt_succ_of_lt lt⟩
    have nb : b ≠ D := hD ▸ Nat.ne_of_lt lt
    exact (upd_ne nb).trans (f2 b hb).1
  have st3 : tn 0 s3.heap := T.keep _ _ _ st2 fun b _ o e => e3 ▸ Heap.get?_push_of_some _ e
  have I4 := block_start I3 ok hN f3
  show codeAny _ _ (.compStart (.DictComp kx vx [⟨tg, iter, ifs, 0⟩] scope pos) 0 (.ref it) (.ref D) (compEnvC scope (cellsFrom (s3.heap.objs.size + 1) scope.names (cloFrom X.env.cells scope.names [])) s3.heap.objs.size X.env))
    (compPost (model X.prog X.w) X.A X.xe use Qf (.ref D) s3.heap.objs.size) { s3 with heap := pushCells (s3.heap.push { cls := .type "dict", data := .dict #[] }) scope.names }
  generalize hcl : cellsFrom (s3.heap.objs.size + 1) scope.names (cloFrom X.env.cells scope.names []) = cl at I4 ⊢
  have pg := hg s3 (upd H2 D (.dT [])) s3.heap.objs.size cl fp
  have pt := ht s3 (upd H2 D (.dT [])) s3.heap.objs.size cl fp
  have pk := hk s3 (upd H2 D (.dT [])) s3.heap.objs.size cl fp
  have pe := he s3 (upd H2 D (.dT [])) s3.heap.objs.size cl fp
  have free3 : ∀ b ∈ fp, (upd H2 D (.dT [])) b = none := fun b hb => (f3 b hb).1.1
  generalize hce : compEnvC scope cl s3.heap.objs.size X.env = ce at I4 pg pt pk pe ⊢
  have cL : ce.locals = s3.heap.objs.size := hce ▸ rfl
  generalize hH3 : upd H2 D (.dT []) = H3 at I3 I4 pg pt pk pe w0 free3 f3
  generalize hs4 : ({ s3 with heap := pushCells (s3.heap.push { cls := .type "dict", data := .dict #[] }) scope.names } : Shared) = s4 at I4 ⊢
  have st4 : tn 0 s4.heap := T.keep _ _ _ st3 fun b _ o e => hs4 ▸ pushCells_keeps _ _ _ _ (Heap.get?_push_of_some _ e)
  -- what the walked thing stands on, within the block
  have foot : ∀ {σ' : St} {H' : Hp} {s' : Shared}, Inv (X.blk s3 H3 scope ce fp) [] σ' H' s' → (∀ b ∈ fp, H' b = none) → ∀ b ∈ fp, FpOk (X.blk s3 H3 scope ce fp) [] H' b := by
    intro σ' H' s' I' hn b hb
    refine ⟨hn b hb, (I'.ok.exf b hb).1, I'.ok.exfs b hb, .inl hb, fun x c e => (I'.ok.exf b hb).2 x c e, fun p hp => ?_⟩
    simp at hp
  refine codeAny_compStart_dict ?loop (T.self X.A 0 _ _ _ st4 ?loop)
  refine compLoop_anyD (fun n s' => ∃ i H', Inv (X.blk s3 H3 scope ce fp) [] (wipe σ (own.map (·.2))) H' s' ∧ tn i s'.heap ∧ (∀ b ∈ fp, H' b = none) ∧ W i n H') ?_ m0 ⟨0, H3, I4, st4, free3, w0⟩
  rintro n s5 ⟨i, H5, I5, st5, n5, w5⟩
  rcases turn i n H5 w5 with ⟨stop, qq⟩ | ⟨go, Nx, hNx, step⟩
  · -- the end: back in the def
    refine thnF (T.done (X.blk s3 H3 scope ce fp) rfl rfl rfl hc i [] s5 _ H5 (fun _ _ => False) I5 (foot I5 n5) st5 stop) fun r s6 ⟨hr, I6⟩ => ?_
    subst hr
    have I7 : Inv X pins σ H5 s6 := I3.call' (ch := fp) I6.os I6.base I6.hok I6.bare fun b hb =>
      let z := (f3 b hb).1.2
      ⟨z.2.2.1, z.1, z.2.2.2.1, z.2.2.2.2⟩
    have nC : H5 s3.heap.objs.size = none := cL ▸ I6.free
    obtain ⟨m, hn, _⟩ := I6.loc
    have hn : s6.heap.Ns ce.locals m := hn
    rw [cL] at hn
    exact back D _ s6 m H5 I7 qq (I3.fpOk (Nat.le_refl _) nC) hn
  · refine thnF (T.item (X.blk s3 H3 scope ce fp) rfl rfl rfl hc i [] s5 _ H5 (fun _ _ => False) I5 (foot I5 n5) st5 go) fun r s6 ⟨u, hr, h6⟩ => ?_
    subst hr
    refine thnF h6 fun _ s7 ⟨x, H7, I7, r7, y7, st7, n7⟩ => ?_
    have P7 := I7.pinned (foot I7 n7) (T.obj _ _ st7)
    refine thnF (pg.run _ s7 _ H7 x u _ P7 r7 (step x H7 y7)) fun _ s8 ⟨σ8, H8, I8, hw8, q8⟩ => ?_
    refine thnF (pt.run _ s8 σ8 H8 _ I8 q8) fun b s9 ⟨H9, I9, q9⟩ => ?_
    -- what a turn leaves
    have fin : ∀ {s' : Shared} {H' : Hp}, Inv (X.blk s3 H3 scope ce fp) ([] ++ pinsAt fp s7.heap) σ8 H' s' → Nx H' →
        ∃ m, m < n ∧ ∃ i H', Inv (X.blk s3 H3 scope ce fp) [] (wipe σ (own.map (·.2))) H' s' ∧ tn i s'.heap ∧ (∀ b ∈ fp, H' b = none) ∧ W i m H' := by
      intro s' H' I' nx
      obtain ⟨m', hm, w'⟩ := hNx H' nx
      have pin' : ∀ b ∈ fp, ∀ o, s7.heap.get? b = some o → s'.heap.get? b = some o ∧ H' b = none := fun b hb o e =>
        have z := I'.pin (b, o) (List.mem_append_right _ (List.mem_append_right _ (mem_pinsAt hb e)))
        ⟨z.1, z.2.1⟩
      have hl : (wipe σ (own.map (·.2))).length = σ8.length := by rw [← hw8, wipe_length]
      refine ⟨m', hm, i + 1, H', (I'.unpinned (pins := [])).weak hl (fun j v e => (wipe_some (hw8 ▸ e)).1), T.keep _ _ _ st7 fun b hb o e => (pin' b hb o e).1, fun b hb => ?_, w'⟩
      obtain ⟨o, e, _⟩ := T.obj _ _ st7 b hb
      exact (pin' b hb o e).2
    cases b with
    | false =>
      simp only [Bool.false_eq_true, if_false] at q9 ⊢
      exact fin I9 q9
    | true =>
      simp only [if_true] at q9 ⊢
      refine thnF (pk.run _ s9 σ8 H9 _ I9 q9) fun z s10 ⟨yk, H10, I10, r10, q10⟩ => ?_
      refine thnF (pe.run _ s10 σ8 H10 _ I10 q10) fun z2 s11 ⟨yv, H11, I11, r11, kvs, k, c, ek, hk11, hD11, hz11, nx⟩ => ?_
      subst ek
      cases r10
      exact dictSetT (X := X.blk s3 H3 scope ce fp) hu I11 hD11 hz11 hk11 r11 fun s12 I12 => fin I12 nx
theorem swD {kx vx : Expr} {gs : List Comprehension} {scope : Scope} {pos py : Pos} {y : Str} {l : Nat} {env : Env} (hk : env.scope.kind = .function) (hy : env.scope.names.lookup y = some .local) (hl : (py.line == pos.line) = true)
    (ha : (scope.names.any fun (n, k) => n == y && (k == .local || k == .cell)) = false) : swapsWith (.DictComp kx vx gs scope pos) (some (.Name y py)) l env = pure true := by
  have blk : env.blockKind = .function := by unfold Env.blockKind; rw [hk]; rfl
  have own : env.kindOf y = some .local := hy
  simp only [swapsWith, own, blk, Expr.pos, hl, ha]
  rfl
theorem ps_setDcT {i : Nat} {y : Str} {py spos : Pos} {kx vx tg iter : Expr} {ifs : List Expr} {scope : Scope} {own : List (Str × Nat)} {pos : Pos} {wi : TI} {g : TG} {tt : TT} {tk tv : TE} (hu : X.A.units + 1 < cLine) (hc : X.calm = true) (hN : X.N.Nodup)
    (hy : X.N[i]? = some y) (hyl : X.env.scope.names.lookup y = some .local) (hsw : swapsWith (.DictComp kx vx [⟨tg, iter, ifs, 0⟩] scope pos) (some (.Name y py)) spos.line X.env = pure true)
    (hi : PI X tg iter wi) (ok : BlkOk X.N X.env.scope scope own) (hg : InBlk X scope fun Y => PG Y tg g) (ht : InBlk X scope fun Y => PTs Y ifs tt) (hk : InBlk X scope fun Y => PE Y kx tk) (he : InBlk X scope fun Y => PE Y vx tv)
    (hs : ∀ x, foldedSetIterable iter X.env x = pure x := by intro _; rfl) : PS X (.Assign [.Name y py] (.DictComp kx vx [⟨tg, iter, ifs, 0⟩] scope pos) spos) (tAsg (tDcT wi g tt tk tv (own.map (·.2))) (gName i)) := by
  constructor
  intro pins s σ H D I h
  rw [exec_Assign_Name_used _ _ _ _ hsw]
  refine wpAny_bind (wpAny_standAt (wpAny_bind ?_))
  have h : tDcT wi g tt tk tv (own.map (·.2)) σ H (fun x H1 => gName i x σ H1 D.nx) := h
  refine wpAny_bind (thn (dcT_core (Q := fun x H1 => gName i x σ H1 D.nx) (Qf := fun _ s' => SP X pins D .next s') hu hc hN I hi ok hg ht hk he hs h fun L C s' m H' I' q fp hn => ?_) fun _ _ hq => wpAny_pure (wpAny_pure hq))
  show wpAny _ _ (assign (.Name y py) X.env (.ref L)) _ _ _
  refine wpAny_assign_Name (store_ok2 (v := V.ref L) I' hN hy (.inl hyl) rfl (fun s2 I2 ⟨a, sb, ha⟩ => ?_) (.inr hyl))
  have ne : C ≠ a := ha.elim (fun z => z ▸ fp.2.1) fun z e => fp.2.2.2.2.1 y a z e.symm
  exact ⟨m, hn.sameBut sb ne, fun h3 sb3 => ⟨_, H', I2.turned (t' := s2.toks) (fun b o hb e => (sb3.2 b hb).trans e) fp.1 fp.2.1 fp.2.2.2.1 fp.2.2.2.2.1 fp.2.2.2.2.2, q⟩⟩
end
end L2.My

namespace L2.My
open PySem PySem.Spec PyProof.Rows
open HQ (Ev evD)
abbrev Prow := Addr × (List Key × Addr) × V
section
variable {X : Cx} {pins : List (Addr × Obj)} {σ : St} {H : Hp} {s : Shared}
theorem stored_nd {K : Type} [DecidableEq K] : ∀ {ps acc : List (K × Addr × Value)}, ((acc ++ ps).map (·.1)).Nodup → storedAllH acc ps = acc ++ ps
  | [], acc, _ => by rw [List.append_nil]; rfl
  | p :: ps, acc, h => by
    have e : atKey acc p.1 = none := atKey_none_of_get fun j q hq => by
      have h' : (acc.map (·.1) ++ (p.1 :: ps.map (·.1))).Nodup := by simpa using h
      exact (List.nodup_append.mp h').2.2 p.1 (List.mem_map.mpr ⟨_, List.mem_of_getElem? hq, rfl⟩) p.1 List.mem_cons_self rfl
    show storedAllH (storedH acc p.1 p.2.1 p.2.2) ps = _
    rw [storedH_new e, stored_nd (by simpa using h), List.append_assoc]
    rfl
theorem prow_pairs (I : Inv X pins σ H s) : ∀ {rows : List Prow}, (∀ r ∈ rows, H r.1 = some (.tup [.ref r.2.1.2, r.2.2]) ∧ H r.2.1.2 = some (.tup (r.2.1.1.map kV))) →
    ∃ hs : List (List Key × Addr × Value), KT H (rows.map fun r => (r.2.1.1, r.2.2)) hs ∧ hs.map (·.1) = rows.map (fun r => r.2.1.1) ∧
      ∀ (j : Nat) (x : List Key × Addr × Value), hs[j]? = some x → ∃ r, rows[j]? = some r ∧ x.1 = r.2.1.1 ∧ x.2.1 = r.2.1.2 ∧ PairAt s.heap r.1 (.ref x.2.1) x.2.2
  | [], _ => ⟨[], .nil, rfl, fun j x e => by simp at e⟩
  | r :: rows, h => by
    obtain ⟨hs, h1, h2, h3⟩ := prow_pairs I (rows := rows) fun y hy => h y (List.mem_cons_of_mem _ hy)
    obtain ⟨ht, hk⟩ := h r List.mem_cons_self
    obtain ⟨its, rv, tt, _⟩ := I.tuple (.inl (.inl ht))
    cases rv with
    | @cons _ u _ us ra rb =>
      cases rb with
      | @cons _ v _ _ rb rc =>
        cases rc
        obtain rfl : u = Value.ref r.2.1.2 := ra
        refine ⟨(r.2.1.1, r.2.1.2, v) :: hs, .cons ⟨rfl, hk, rb⟩ h1, by rw [List.map_cons, List.map_cons, h2], fun j x e => ?_⟩
        cases j with
        | zero =>
          have e := Option.some.inj e
          subst e
          exact ⟨r, rfl, rfl, rfl, .inl tt⟩
        | succ j => exact h3 j x e
/-- dict(l) of a list of pairs, the keys tuples, none of them twice -/
def rDictTH : List V → Hp → VK → Prop := fun xs H Q => ∃ (a : Addr) (rows : List Prow), xs = [.ref a] ∧ H a = some (.lst (rows.map fun r => V.ref r.1)) ∧ (∀ r ∈ rows, H r.1 = some (.tup [.ref r.2.1.2, r.2.2]) ∧ H r.2.1.2 = some (.tup (r.2.1.1.map kV))) ∧
  (rows.map fun r => r.2.1.1).Nodup ∧ ∀ p, H p = none → Q (.ref p) (upd H p (.dT (rows.map fun r => (r.2.1.1, r.2.2))))
theorem dictTH (hc : X.calm = true) (hu : X.A.units + 64 < cLine) : CallR X (.type "dict") rDictTH := by
  rintro pins s σ H xs us Q I r ⟨a, rows, rfl, ha, hr, nd, q⟩
  rw [Vals.ref1 r]
  obtain ⟨its, rv, pl, hz⟩ := I.list (.inl (.inl ha))
  obtain ⟨hs, kt, hkeys, hat⟩ := prow_pairs I hr
  have ei : its = rows.map fun r => Value.ref r.1 := by
    have := refs_at (ps := rows.map (·.1)) (us := its) (by rw [List.map_map]; exact rv)
    rw [this, List.map_map]
    rfl
  have hln : hs.length = rows.length := by rw [← List.length_map (·.1), hkeys, List.length_map]
  have lz : rows.length ≤ sizeLine := by
    rw [List.length_map] at hz
    exact hz
  have ndh : (hs.map (·.1)).Nodup := by rw [hkeys]; exact nd
  obtain ⟨o, n, ho, hcl, hdd, hdat⟩ := pl
  refine call_dict_pairsH (knd := tupleKind (mixKind X.prog X.w)) (ps := hs) (PairArg.list a its.toArray (fun j => ((rows[j]?).map (·.1)).getD 0) (hs.map fun x => (Value.ref x.2.1, x.2.2))) (I.ok.hd hc) (show X.A.units + 1 + 1 < cLine by omega)
    ⟨⟨o, n, ho, hcl, hdd, hdat⟩, ?_, fun j k v e => ?_⟩ ⟨by rw [List.length_map], fun i key v e => ?_⟩ (fun h' k x hx => ?_) (by rw [List.length_map, hln]; exact lz) fun h' tk dd k => ?_
  · rw [List.length_map, hln, ei]
    simp
  · rw [List.getElem?_map] at e
    obtain ⟨x, hx, e⟩ := Option.map_eq_some_iff.mp e
    obtain ⟨e1, e2⟩ := Prod.mk.inj e
    subst e1 e2
    obtain ⟨r, hr1, _, _, pa⟩ := hat j x hx
    have er : ((rows[j]?).map (·.1)).getD 0 = r.1 := by rw [hr1]; rfl
    dsimp only
    rw [er]
    refine ⟨?_, pa⟩
    rw [ei]
    simp [hr1]
  · have e : (hs.map fun x => (Value.ref x.2.1, x.2.2))[i]? = some (key, v) := e
    rw [List.getElem?_map] at e
    obtain ⟨x, hx, e⟩ := Option.map_eq_some_iff.mp e
    obtain ⟨e1, e2⟩ := Prod.mk.inj e
    subst e1 e2
    exact ⟨x.1, x.2.1, hx, rfl⟩
  · obtain ⟨j, hj⟩ := List.getElem?_of_mem hx
    obtain ⟨r, hr1, e1, e2, _⟩ := hat j x hj
    have hk := (hr r (List.mem_of_getElem? hr1)).2
    rw [← e1, ← e2] at hk
    obtain ⟨oo, it, m, g1, g2, g3, g4⟩ := key_of (P := X.prog) (w := X.w) I.hok hk
    exact ⟨oo, it, m, k _ _ (Nat.ne_of_lt (Heap.lt_size g1)) (by simp) g1, g2, g3, g4⟩
  · rw [stored_nd (by simpa using ndh), List.nil_append] at dd
    obtain ⟨oo, es, ep, hq, h2, h3, h4, _, h5⟩ := dd
    have hm : (s.heap.objs.size == sysModules) = false := beq_eq_false_iff_ne.mpr (Nat.ne_of_gt I.big)
    have fr : H s.heap.objs.size = none := I.hok.fresh (Nat.le_refl _)
    have kt' : KT (upd H s.heap.objs.size (.dT (rows.map fun r => (r.2.1.1, r.2.2)))) (rows.map fun r => (r.2.1.1, r.2.2)) hs := kt.keeps fun b ys e => by
      rw [upd_ne (ne_of_none e fr)]
      exact e
    exact ⟨.ref s.heap.objs.size, upd H s.heap.objs.size (.dT (rows.map fun r => (r.2.1.1, r.2.2))), I.laid (t' := tk) (fun b u e => k b u (by simp) e) (Nat.le_refl _)
      (show ObjOk X.prog X.w _ _ _ (.dT (rows.map fun r => (r.2.1.1, r.2.2))) from ⟨by rw [List.length_map]; exact lz, hm, hs, kt', oo, es, ep, hq, h2, h3, h4, h5⟩), rfl, q _ fr⟩
end
end L2.My

namespace L2.My
open PySem PySem.Spec PyProof.Rows
section
variable {P : Program} {w : World} {A : Around} {E : Value → Shared → Prop} {s : Shared}
theorem ifNo {α : Type} {M : Model} {c : Prop} [Decidable c] {x y : Sem α} {Q : α → Shared → Prop} (hc : ¬ c) (h : wpAny M A y Q E s) : wpAny M A (if c then x else y) Q E s := wpAny_ite_false (decide_eq_false hc) h
theorem ifYes {α : Type} {M : Model} {c : Prop} [Decidable c] {x y : Sem α} {Q : α → Shared → Prop} (hc : c) (h : wpAny M A x Q E s) : wpAny M A (if c then x else y) Q E s := wpAny_ite_true (decide_eq_true hc) h
/-- an atom is of no class statement, and hashes in some way -/
theorem nk_class0 {k : NestedKey} {v : Value} {n : Nat} {Q : Bool → Shared → Prop} (x : NestedIs s.heap k v) (hk : ∀ ks, k ≠ .tup ks) (h : Q false s) : wpAny (model P w) A (ofAClassStatement n v) Q E s := by
  cases x with
  | tup => exact absurd rfl (hk _)
  | none => cases n <;> exact wpAny_pure h
  | bool => cases n <;> exact wpAny_pure h
  | int => cases n <;> exact wpAny_pure h
  | text => cases n <;> exact wpAny_pure h
theorem nk_hash0 {k : NestedKey} {v : Value} {n : Nat} {Q : Bool → Shared → Prop} (x : NestedIs s.heap k v) (hk : ∀ ks, k ≠ .tup ks) (h : ∀ b, Q b s) : wpAny (model P w) A (hashByValue n v) Q E s := by
  cases x with
  | tup => exact absurd rfl (hk _)
  | none => cases n <;> exact wpAny_pure (h _)
  | bool => cases n <;> exact wpAny_pure (h _)
  | int => cases n <;> exact wpAny_pure (h _)
  | text => cases n <;> exact wpAny_pure (h _)
theorem nested_mem {h : Heap} {n : Nat} : ∀ {ks : List NestedKey} {vs : List Value}, NestedAll h ks vs → NestedKey.depthAll ks ≤ n → ∀ v ∈ vs, ∃ k, NestedIs h k v ∧ k.depth ≤ n
  | [], _, x, _, v, hv => by
    cases x
    cases hv
  | k :: ks, _, x, hn, v, hv => by
    cases x with
    | cons x1 x2 =>
      simp only [NestedKey.depthAll] at hn
      rcases List.mem_cons.mp hv with e | hv
      · exact ⟨k, e ▸ x1, by omega⟩
      · exact nested_mem x2 (by omega) v hv
theorem nk_class : ∀ (n : Nat) (k : NestedKey) (v : Value) (Q : Bool → Shared → Prop), NestedIs s.heap k v → k.depth ≤ n → Q false s → wpAny (model P w) A (ofAClassStatement n v) Q E s := by
  intro n
  induction n with
  | zero =>
    intro k v Q x hn h
    refine nk_class0 x (fun ks e => ?_) h
    subst e
    simp [NestedKey.depth] at hn
  | succ n ih =>
    intro k v Q x hn h
    by_cases hk : ∀ ks, k ≠ .tup ks
    · exact nk_class0 x hk h
    · obtain ⟨ks, rfl⟩ : ∃ ks, k = .tup ks := Classical.byContradiction fun z => hk fun ks e => z ⟨ks, e⟩
      cases x with
      | @tup b o vs m _ hg hc hd hks =>
        have hT : s.TypeIs (.ref b) "tuple" := ⟨o, hg, hc⟩
        have hm := nested_mem hks (n := n) (by simp only [NestedKey.depth] at hn; omega)
        unfold ofAClassStatement
        refine wpAny_bind (wpAny_typeOf hT ?_)
        dsimp only
        refine wpAny_bind (wpAny_pure ?_)
        refine ifNo (by decide) ?_
        refine wpAny_bind (wpAny_seqItems hg hd ?_)
        dsimp only
        refine wpAny_bind ?_
        show wpAny _ _ (forIn vs _ _) _ _ s
        rw [← Array.forIn_toList]
        refine wpAny_forIn_list _ (fun rest r s' => r.1 = none ∧ s' = s ∧ ∀ v ∈ rest, v ∈ vs.toList) _ ?_ ?_ _ _ ⟨rfl, rfl, fun v hv => hv⟩
        · rintro v rest r s' ⟨hr, rfl, hall⟩
          obtain ⟨k', x', hk'⟩ := hm v (hall v List.mem_cons_self)
          refine wpAny_bind (ih k' v _ x' hk' ?_)
          refine ifNo (by decide) (wpAny_pure ?_)
          exact ⟨rfl, rfl, fun u hu => hall u (List.mem_cons_of_mem _ hu)⟩
        · rintro ⟨r1, r2⟩ s' ⟨hr, rfl, _⟩
          simp only at hr
          subst hr
          exact wpAny_pure h
theorem nk_hash : ∀ (n : Nat) (k : NestedKey) (v : Value) (Q : Bool → Shared → Prop), NestedIs s.heap k v → (∀ b, Q b s) → wpAny (model P w) A (hashByValue n v) Q E s := by
  intro n
  induction n with
  | zero =>
    intro k v Q x h
    by_cases hk : ∀ ks, k ≠ .tup ks
    · exact nk_hash0 x hk h
    · obtain ⟨ks, rfl⟩ : ∃ ks, k = .tup ks := Classical.byContradiction fun z => hk fun ks e => z ⟨ks, e⟩
      cases x
      exact wpAny_pure (h _)
  | succ n ih =>
    intro k v Q x h
    by_cases hk : ∀ ks, k ≠ .tup ks
    · exact nk_hash0 x hk h
    · obtain ⟨ks, rfl⟩ : ∃ ks, k = .tup ks := Classical.byContradiction fun z => hk fun ks e => z ⟨ks, e⟩
      cases x with
      | @tup b o vs m _ hg hc hd hks =>
        have hT : s.TypeIs (.ref b) "tuple" := ⟨o, hg, hc⟩
        have hm := nested_mem hks (n := NestedKey.depthAll ks) (Nat.le_refl _)
        unfold hashByValue
        refine wpAny_bind (wpAny_specialOf hT F.slot_tuple_hash.lookup ?_)
        dsimp only
        refine wpAny_bind (wpAny_seqItems hg hd ?_)
        refine wpAny_bind ?_
        show wpAny _ _ (forIn vs _ _) _ _ s
        rw [← Array.forIn_toList]
        refine wpAny_forIn_list _ (fun rest r s' => s' = s ∧ ∀ v ∈ rest, v ∈ vs.toList) _ ?_ ?_ _ _ ⟨rfl, fun v hv => hv⟩
        · rintro v rest r s' ⟨rfl, hall⟩
          obtain ⟨k', x', hk'⟩ := hm v (hall v List.mem_cons_self)
          refine wpAny_bind (ih k' v _ x' fun b => ?_)
          cases b with
          | true => exact ifNo (by decide) (wpAny_pure ⟨rfl, fun u hu => hall u (List.mem_cons_of_mem _ hu)⟩)
          | false =>
            refine ifYes rfl (wpAny_pure ?_)
            exact wpAny_pure (h _)
        · rintro ⟨r1, r2⟩ s' ⟨rfl, _⟩
          cases r1 with
          | none => exact wpAny_pure (h _)
          | some z => exact wpAny_pure (h _)
/-- a search among such keys shows nothing -/
theorem nk_seen {k : NestedKey} {b : Addr} {Q : Bool → Shared → Prop} (hk : NestedIs s.heap k (.ref b)) (hd : k.depth ≤ 8) {ys : List Value} (hy : ∀ y ∈ ys, ∃ k' c, y = Value.ref c ∧ NestedIs s.heap k' (.ref c) ∧ k'.depth ≤ 8) (h : Q false s) :
    wpAny (model P w) A (searchCouldBeSeen (.ref b) ys) Q E s := by
  unfold searchCouldBeSeen
  refine wpAny_bind ?_
  refine wpAny_forIn_list _ (fun rest r s' => r.1 = none ∧ s' = s ∧ ∀ y ∈ rest, y ∈ ys) _ ?_ ?_ _ _ ⟨rfl, rfl, fun y hy => hy⟩
  · rintro v rest r s' ⟨hr, rfl, hall⟩
    obtain ⟨k', c, rfl, hc, hd'⟩ := hy v (hall v List.mem_cons_self)
    have more : ∀ y ∈ rest, y ∈ ys := fun u hu => hall u (List.mem_cons_of_mem _ hu)
    dsimp only
    by_cases hv : (b == c || (carriedByValue (.ref b) && carriedByValue (.ref c))) = true
    · exact ifYes hv (wpAny_pure ⟨rfl, rfl, more⟩)
    · refine ifNo hv ?_
      refine wpAny_bind (quiet_key k _ 8 _ hk hd _ _ _ ?_)
      refine ifNo (by decide) ?_
      refine wpAny_bind (quiet_key k' _ 8 _ hc hd' _ _ _ ?_)
      refine ifNo (by decide) ?_
      refine wpAny_bind (nk_class 8 k _ _ hk hd ?_)
      refine ifNo (by decide) ?_
      refine wpAny_bind (nk_class 8 k' _ _ hc hd' ?_)
      exact ifNo (by decide) (wpAny_pure ⟨rfl, rfl, more⟩)
  · rintro ⟨r1, r2⟩ s' ⟨hr, rfl, _⟩
    simp only at hr
    subst hr
    exact wpAny_pure h
end
end L2.My

namespace L2.My
open PySem PySem.Spec PyProof.Rows
/-! ### a set of nested keys, as the model lays it -/
abbrev NL := List (Addr × NestedKey)
abbrev hs (w : World) (k : NestedKey) : Int := k.hash w
def nrows (w : World) (L : NL) : List (Int × Value) := L.map fun p => (hs w p.2, .ref p.1)
abbrev KeyAt (h : Heap) (p : Addr × NestedKey) : Prop := NestedIs h p.2 (.ref p.1) ∧ p.2.depth ≤ 8
structure NSet (w : World) (h : Heap) (a : Addr) (L : NL) (es : Array (Int × Value)) (ep : Nat) (t : SetTable) : Prop where
  obj : ∃ o, h.get? a = some o ∧ o.ExactSet ∧ o.data = .set es ep t
  rws : es.toList = nrows w L
  tbl : TabOk t (L.map fun p => hs w p.2)
  dis : (L.map (·.2)).Nodup
  kys : ∀ p ∈ L, KeyAt h p
  led : w.params.followText "set-order" = true ∨ t.led = true
  spc : L.length * 5 < t.mask * 3
  few : L.length < 64
theorem rows_size {w : World} {L : NL} {es : Array (Int × Value)} (e : es.toList = nrows w L) : es.size = L.length := by
  have q := congrArg List.length e
  simpa [nrows] using q
theorem rows_at {w : World} {L : NL} {es : Array (Int × Value)} (e : es.toList = nrows w L) {i : Nat} {p : Addr × NestedKey} (h : L[i]? = some p) : es[i]? = some (hs w p.2, .ref p.1) := by
  have q : es.toList[i]? = some (hs w p.2, .ref p.1) := by rw [e, nrows, List.getElem?_map, h]; rfl
  rwa [Array.getElem?_toList] at q
theorem fits_of {t : SetTable} {n : Nat} (h1 : t.place.size = n) (h2 : t.dummies = #[]) (h3 : n ≤ t.mask) : t.fits n = true := by
  simp only [SetTable.fits, SetTable.fill, h2, Bool.and_eq_true, beq_iff_eq, decide_eq_true_eq]
  exact ⟨h1, by simpa [h1] using h3⟩
section
variable {w : World} {h : Heap} {a : Addr} {L : NL} {es : Array (Int × Value)} {ep : Nat} {t : SetTable}
theorem NSet.fit (R : NSet w h a L es ep t) : t.fits es.size = true := by
  have h1 := R.tbl.sz
  have h3 := R.spc
  rw [List.length_map] at h1
  have h2 := rows_size R.rws
  exact fits_of (by omega) R.tbl.dm (by omega)
theorem NSet.whole (R : NSet w h a L es ep t) : ¬ t.gaveWay = true := by
  have q := mask_odd R.tbl.mok
  simp only [SetTable.gaveWay, q]
  decide
end
section
variable {P : Program} {w : World} {A : Around} {E : Value → Shared → Prop} {s : Shared} {a : Addr} {L : NL} {es : Array (Int × Value)} {ep : Nat} {t : SetTable}
abbrev hat (es : Array (Int × Value)) (i : Nat) : Int := (es[i]?.map (·.1)).getD 0
/-- the probe's place behind c steps -/
abbrev prb (t : SetTable) (z : Int) (c : Nat) : SetTable.Probe := nth t.mask (runAt t.mask (SetTable.bits z % (t.mask + 1)) (SetTable.bits z)) c
theorem nodummy (m : Nat) : ∀ (n : Nat) (p : SetTable.Probe), p.dummy = none → (nth m p n).dummy = none
  | 0, _, e => e
  | n + 1, p, e => by
    refine nodummy m n (adv m p) ?_
    unfold adv
    split <;> exact e
theorem n_search (R : NSet w s.heap a L es ep t) {x : Addr} {k : NestedKey} (hx : KeyAt s.heap (x, k)) (hu : A.units + 10 < cLine) {K : Nat} (small : K < 10 * SetTable.turns t.mask)
    (free : way t.mask (hs w k) K ∉ t.place.toList) (busy : ∀ c, c < K → way t.mask (hs w k) c ∈ t.place.toList) {Q : SetFound → Shared → Prop}
    (yes : k ∈ L.map (·.2) → Q (.there none) s) (no : k ∉ L.map (·.2) → Q (.free (way t.mask (hs w k) K) false) s) :
    ∀ (f c : Nat) (stand : Option SetTable.Probe), stand.getD (t.probeStart (hs w k)) = prb t (hs w k) c → c ≤ K → K - c < f →
      (∀ (i : Nat) p, L[i]? = some p → p.2 = k → ∃ c', c ≤ c' ∧ c' < K ∧ t.place.toList[i]? = some (way t.mask (hs w k) c')) → wpAny (model P w) A (setSearchFrom a (.ref x) (hs w k) true f stand) Q E s := by
  intro f
  induction f with
  | zero => intro c stand _ _ hf; exact absurd hf (Nat.not_lt_zero _)
  | succ f ih =>
    intro c stand est hc hf ahead
    obtain ⟨o, hob, hex, hdat⟩ := R.obj
    rw [setSearchFrom_succ]
    refine wpAny_bind (wpAny_setState_of hob hdat R.fit ?_)
    dsimp only
    refine ifNo R.whole ?_
    have shift : ∀ q, nth t.mask (prb t (hs w k) c) q = prb t (hs w k) (c + q) := fun q => (nth_add t.mask c _ q).symm
    have place : ∀ q, (nth t.mask (prb t (hs w k) c) q).j = way t.mask (hs w k) (c + q) := fun q => congrArg SetTable.Probe.j (shift q)
    have last : c + (K - c) = K := Nat.add_sub_cancel' hc
    have G := go_spec t R.tbl.ris R.tbl.dm (hat es) (hs w k) (10 * SetTable.turns t.mask) (K - c) (prb t (hs w k) c) (nodummy _ _ _ rfl) (by omega)
      (fun q hq => (place q).symm ▸ busy (c + q) (by omega)) (by rw [place, last]; exact free)
    have hashOf : ∀ (i : Nat) p, L[i]? = some p → hat es i = hs w p.2 := fun i p hp => by
      show (es[i]?.map (·.1)).getD 0 = _
      rw [rows_at R.rws hp]
      rfl
    have elsewhere : ∀ q, (∀ k' i', k' < q → t.place.toList[i']? = some (nth t.mask (prb t (hs w k) c) k').j → hat es i' ≠ hs w k) →
        ∀ (i : Nat) p, L[i]? = some p → p.2 = k → ∀ c', c ≤ c' → c' < c + q → t.place.toList[i]? ≠ some (way t.mask (hs w k) c') := fun q hno i p hp hk c' h1 h2 hpl => by
      refine hno (c' - c) i (by omega) ?_ ((hashOf i p hp).trans (by rw [hk]))
      rw [place, Nat.add_sub_cancel' h1]
      exact hpl
    rcases G with ⟨q, i, hq, hi, hh, hno, hpr⟩ | ⟨hno, hpr⟩
    · -- a candidate stands at the place behind q steps
      have found : t.probe (fun i => (es[i]?.map (·.1)).getD 0) (hs w k) (stand.getD (t.probeStart (hs w k))) = some (.candidate (way t.mask (hs w k) (c + q)) i (prb t (hs w k) (c + (q + 1)))) := by
        rw [est, ← place, ← shift]
        exact hpr
      rw [found]
      dsimp only
      rw [place] at hi
      have szl := R.tbl.sz
      rw [List.length_map] at szl
      have il : i < L.length := by
        have h1 := (List.getElem?_eq_some_iff.mp hi).1
        rw [Array.length_toList] at h1
        omega
      obtain ⟨p, hp⟩ : ∃ p, L[i]? = some p := ⟨L[i], List.getElem?_eq_getElem il⟩
      have pm : p ∈ L := List.mem_of_getElem? hp
      have pk := R.kys p pm
      have go : wpAny (model P w) A (searchRest a (.ref x) (hs w k) true f es t (way t.mask (hs w k) (c + q)) i (prb t (hs w k) (c + (q + 1)))) Q E s := by
        unfold searchRest
        rw [rows_at R.rws hp]
        dsimp only
        have eqv := eqAt_key p.2 k A s _ _ pk.1 hx.1 (by have := pk.2; omega)
        refine wpAny_bind (wpAny_holding (eqv P w E _ ?_))
        refine wpAny_bind (wpAny_setState_of hob hdat R.fit ?_)
        dsimp only
        by_cases same : p.2 = k
        · have b1 : NestedKey.beq p.2 k = true := same ▸ NestedKey.beq_self k
          refine ifYes (by rw [b1]; rfl) (wpAny_pure (yes (List.mem_map.mpr ⟨p, pm, same⟩)))
        · have b0 : NestedKey.beq p.2 k = false := by rw [← NestedKey.decide_eq]; exact decide_eq_false same
          refine ifNo (by rw [b0]; decide) ?_
          rw [sameMem]
          dsimp only
          have lv : t.slot (way t.mask (hs w k) (c + q)) = .live i := slot_live R.tbl.ris hi
          simp only [if_true, lv, rows_at R.rws hp]
          refine wpAny_bind (wpAny_isSame_ref_self (wpAny_bind (wpAny_pure ?_)))
          simp only [if_true]
          refine ifNo (by rw [b0]; decide) ?_
          refine ih (c + (q + 1)) _ rfl (by omega) (by omega) fun i0 p0 h0 hk0 => ?_
          obtain ⟨c', a1, a2, a3⟩ := ahead i0 p0 h0 hk0
          refine ⟨c', ?_, a2, a3⟩
          rcases Nat.lt_trichotomy c' (c + q) with z | z | z
          · exact absurd a3 (elsewhere q hno i0 p0 h0 hk0 c' a1 z)
          · exfalso
            subst z
            have s0 := slot_live R.tbl.ris a3
            rw [lv] at s0
            injection s0 with s0
            rw [← s0, hp] at h0
            exact same ((congrArg Prod.snd (Option.some.inj h0)).trans hk0)
          · omega
      by_cases ld : t.led = true
      · exact ifNo (by simp [ld]) go
      · refine ifYes (by simp [ld]) (wpAny_bind (nk_seen hx.1 hx.2 (fun y hy => ?_) (ifNo (by decide) go)))
        obtain ⟨e, he, ee⟩ := List.mem_map.mp hy
        have he1 : e ∈ es ∧ e.1 = hs w k := by simpa using he
        have he2 : e ∈ es.toList := by simpa using he1.1
        rw [R.rws] at he2
        obtain ⟨p2, hp2, e2⟩ := List.mem_map.mp he2
        exact ⟨p2.2, p2.1, by rw [← ee, ← e2], (R.kys p2 hp2).1, (R.kys p2 hp2).2⟩
    · -- the empty place
      have found : t.probe (fun i => (es[i]?.map (·.1)).getD 0) (hs w k) (stand.getD (t.probeStart (hs w k))) = some (.empty (way t.mask (hs w k) K) none) := by
        have e2 : (nth t.mask (prb t (hs w k) c) (K - c)).j = way t.mask (hs w k) K := by rw [place, last]
        rw [est, ← e2]
        exact hpr
      rw [found]
      dsimp only
      refine wpAny_pure (no fun hm => ?_)
      obtain ⟨p0, h0, hk0⟩ := List.mem_map.mp hm
      obtain ⟨i0, hi0, e0⟩ := List.getElem_of_mem h0
      have h00 : L[i0]? = some p0 := e0 ▸ List.getElem?_eq_getElem hi0
      obtain ⟨c', a1, a2, a3⟩ := ahead i0 p0 h00 hk0
      exact elsewhere (K - c) hno i0 p0 h00 hk0 c' a1 (by omega) a3
end
end L2.My

namespace L2.My
open PySem PySem.Spec PyProof.Rows
theorem HQ'.trans {h h1 h2 : Heap} {a : Addr} (x : Heap.SameBut a h h1) (y : Heap.SameBut a h1 h2) : Heap.SameBut a h h2 := ⟨y.1.trans x.1, fun b hb => (y.2 b hb).trans (x.2 b hb)⟩
theorem keyAt_but {h h' : Heap} {a : Addr} {o : Obj} {es : Array (Int × Value)} {ep : Nat} {t : SetTable} {p : Addr × NestedKey} (x : KeyAt h p) (ho : h.get? a = some o) (hd : o.data = .set es ep t) (k : Heap.SameBut a h h') : KeyAt h' p := by
  refine ⟨NestedIs.at (fun b ob vs n e1 e2 => ?_) _ _ x.1, x.2⟩
  rw [k.2 b ?_]
  · exact e1
  · intro e
    rw [e, ho] at e1
    cases e1
    rw [hd] at e2
    cases e2
theorem keyAt_keep {h h' : Heap} {p : Addr × NestedKey} (x : KeyAt h p) (k : ∀ b o, h.get? b = some o → h'.get? b = some o) : KeyAt h' p :=
  ⟨NestedIs.at (fun b ob _ _ e1 _ => k b ob e1) _ _ x.1, x.2⟩
theorem mid_perm {α : Type} (L : List α) (n : Nat) (x : α) : (L.take n ++ x :: L.drop n).Perm (x :: L) := by
  refine List.perm_middle.trans ?_
  rw [List.take_append_drop]
theorem pick_all {α : Type} (l : List α) : ∀ n, n ≤ l.length → (List.range n).filterMap (fun i => l[i]?) = l.take n
  | 0, _ => rfl
  | n + 1, h => by
    have h' : n < l.length := h
    rw [List.range_succ, List.filterMap_append, pick_all l n (Nat.le_of_lt h'), List.take_succ]
    congr 1
theorem pick_map {α β : Type} {l : List α} {f : α → β} {g : Nat → β} (e : ∀ i p, l[i]? = some p → g i = f p) : ∀ is : List Nat, (∀ i ∈ is, i < l.length) → (is.filterMap fun i => l[i]?).map f = is.map g
  | [], _ => rfl
  | i :: is, h => by
    have lt := h i List.mem_cons_self
    have hi : l[i]? = some l[i] := List.getElem?_eq_getElem lt
    rw [List.filterMap_cons_some hi, List.map_cons, List.map_cons, pick_map e is fun j hj => h j (List.mem_cons_of_mem _ hj), e i _ hi]
/-- rows in another order -/
theorem rows_order {w : World} {L : NL} {es : Array (Int × Value)} {ord : Array Nat} (e : es.toList = nrows w L) (pm : ord.toList.Perm (List.range L.length)) :
    ∃ L2 : NL, (ord.filterMap (es[·]?)).toList = nrows w L2 ∧ L2.Perm L ∧ (L2.map fun p => hs w p.2) = ord.toList.map fun i => (es.map (·.1)).getD i 0 := by
  refine ⟨ord.toList.filterMap fun i => L[i]?, ?_, ?_, ?_⟩
  · rw [Array.toList_filterMap, nrows, List.map_filterMap]
    refine congrArg (fun f => List.filterMap f ord.toList) (funext fun i => ?_)
    rw [← Array.getElem?_toList, e, nrows, List.getElem?_map]
  · refine (pm.filterMap _).trans (List.Perm.of_eq ?_)
    rw [pick_all L L.length (Nat.le_refl _), List.take_length]
  · refine pick_map (fun i p hp => ?_) _ fun i hi => List.mem_range.mp (pm.mem_iff.mp hi)
    have q := rows_at e hp
    simp [Array.getD_eq_getD_getElem?, q]
section
variable {P : Program} {w : World} {A : Around} {E : Value → Shared → Prop} {s : Shared} {a : Addr} {L : NL} {es : Array (Int × Value)} {ep : Nat} {t : SetTable}
theorem n_seek (R : NSet w s.heap a L es ep t) {x : Addr} {k : NestedKey} (hx : KeyAt s.heap (x, k)) (hu : A.units + 10 < cLine) {Q : SetFound → Shared → Prop} (yes : k ∈ L.map (·.2) → Q (.there none) s)
    (no : ∀ K, k ∉ L.map (·.2) → way t.mask (hs w k) K ∉ t.place.toList → (∀ c, c < K → way t.mask (hs w k) c ∈ t.place.toList) → Q (.free (way t.mask (hs w k) K) false) s) : wpAny (model P w) A (setSearch a (.ref x) (hs w k) true) Q E s := by
  have room := R.spc
  obtain ⟨K, small, free, busy⟩ := R.tbl.first (by rw [List.length_map]; omega) (hs w k)
  have big : K < 100000 := by
    have : 10 * SetTable.turns t.mask ≤ 1420 := by
      unfold SetTable.turns
      rcases R.tbl.mok with e | e | e <;> omega
    omega
  unfold setSearch
  refine n_search R hx hu small free busy yes (fun hn => no K hn free busy) 100000 0 none rfl (Nat.zero_le _) (by omega) fun i p hp hk => ?_
  have e1 : (L.map fun p => hs w p.2)[i]? = some (hs w k) := by rw [List.getElem?_map, hp, ← hk]; rfl
  have szl := R.tbl.sz
  rw [List.length_map] at szl
  have il : i < t.place.toList.length := by
    have := (List.getElem?_eq_some_iff.mp hp).1
    rw [Array.length_toList]
    omega
  have e2 := List.getElem?_eq_getElem il
  obtain ⟨c, hc, e⟩ := R.tbl.before free e1 e2
  exact ⟨c, Nat.zero_le _, hc, by rw [e2, e]⟩
/-- the table is laid anew -/
theorem n_relay {o : Obj} (ho : s.heap.get? a = some o) (hex : o.ExactSet) (hd : o.data = .set es ep t) (rw' : es.toList = nrows w L) (sz : t.place.size = es.size) (dm : t.dummies = #[]) (fl : es.size ≤ t.mask)
    (nd : (L.map (·.2)).Nodup) (ky : ∀ p ∈ L, KeyAt s.heap p) (ld : w.params.followText "set-order" = true ∨ t.led = true) (few : L.length < 64) {wanted M : Nat} (hw : SetTable.sizeAbove wanted - 1 = M) (hM : MaskOk M)
    (hw2 : SetTable.sizeAbove wanted ≤ 128) (hn : L.length * 5 < M * 3) {Q : Unit → Shared → Prop}
    (q : ∀ h' L' es' ep' t', Heap.SameBut a s.heap h' → NSet w h' a L' es' ep' t' → L'.Perm L → Q () { s with heap := h' }) : wpAny (model P w) A (setRelay a wanted) Q E s := by
  have sl := rows_size rw'
  obtain ⟨t', ord, e, pm, T, em, el, ep', ed⟩ := relaid_ok t (hs := es.map (·.1)) (wanted := wanted) hw hM (by rw [Array.size_map, sl]; omega)
  rw [Array.size_map, sl] at pm
  obtain ⟨L2, r1, r2, r3⟩ := rows_order rw' pm
  rw [← r3] at T
  have s2 : (ord.filterMap (es[·]?)).size = es.size := by rw [rows_size r1, r2.length_eq, sl]
  rw [setRelay_eq]
  refine wpAny_bind (wpAny_setState_of ho hd (fits_of sz dm fl) ?_)
  dsimp only
  refine ifNo (by rw [sizeLine_eq]; omega) ?_
  rw [e]
  dsimp only
  refine wpAny_bind (ifNo (by rw [s2]; simp) (wpAny_pure ?_))
  dsimp only
  refine wpAny_storeSet_of ho hd ?_ (by rw [s2, sl, sizeLine_eq]; omega)
  have k : Heap.SameBut a s.heap (s.heap.update a (Obj.putSet (ord.filterMap (es[·]?)) t')) := Heap.SameBut.update ..
  refine q _ L2 _ (ep + 1) t' k ⟨⟨_, store_at ho hd, ⟨hex.1, hex.2.1, hex.2.2⟩, rfl⟩, r1, T, (r2.map (·.2)).nodup_iff.mpr nd, fun p hp => keyAt_but (ky p (r2.mem_iff.mp hp)) ho hd k, by rw [el]; exact ld, ?_, by rw [r2.length_eq]; exact few⟩ r2
  rw [r2.length_eq, em]
  exact hn
/-- one more key -/
theorem n_add (R : NSet w s.heap a L es ep t) {x : Addr} {k : NestedKey} (hx : KeyAt s.heap (x, k)) (hu : A.units + 10 < cLine) (few : L.length + 1 < 64) {Q : Bool → Shared → Prop}
    (q : ∀ b h' L' es' ep' t', Heap.SameBut a s.heap h' → NSet w h' a L' es' ep' t' → (k ∈ L.map (·.2) → L' = L) → (k ∉ L.map (·.2) → L'.Perm ((x, k) :: L)) → Q b { s with heap := h' }) :
    wpAny (model P w) A (setAddHashed a (.ref x) (hs w k)) Q E s := by
  obtain ⟨o, ho, hex, hd⟩ := R.obj
  have sl := rows_size R.rws
  have room := R.spc
  unfold setAddHashed
  refine wpAny_holding ?_
  rw [show (100000 : Nat) = 99999 + 1 from rfl, setAddHashedIn_succ]
  refine wpAny_bind (wpAny_setState_of ho hd R.fit ?_)
  dsimp only
  refine ifNo (by simp [byScan, Value.scannable]) ?_
  refine wpAny_bind (n_seek R hx hu (fun hm => ?_) fun K hm free busy => ?_)
  · exact wpAny_pure (q false s.heap L es ep t (Heap.SameBut.refl a s.heap) R (fun _ => rfl) fun z => absurd hm z)
  · dsimp only
    refine wpAny_bind (wpAny_setState_of ho hd R.fit ?_)
    dsimp only
    obtain ⟨q1, q2, q3, q4, q5, q6, q7, q8, q9⟩ := R.tbl.put free busy
    generalize hpt : t.put (way t.mask (hs w k) K) = pt at q1 q3 q4 q5 q6 q7 q8 q9 ⊢
    obtain ⟨t1, p⟩ := pt
    dsimp only at q1 q3 q4 q5 q6 q7 q8 q9 ⊢
    subst q1
    have pm := mid_perm L (SetTable.below t.place (way t.mask (hs w k) K)) (x, k)
    have ins : (SetTable.insertAt es (SetTable.below t.place (way t.mask (hs w k) K)) (hs w k, Value.ref x)).toList =
        nrows w (L.take (SetTable.below t.place (way t.mask (hs w k) K)) ++ (x, k) :: L.drop (SetTable.below t.place (way t.mask (hs w k) K))) := by
      rw [SetTable.toList_insertAt, R.rws, nrows, nrows, List.map_append, List.map_cons, List.map_take, List.map_drop]
    have hhs : (L.take (SetTable.below t.place (way t.mask (hs w k) K)) ++ (x, k) :: L.drop (SetTable.below t.place (way t.mask (hs w k) K))).map (fun p => hs w p.2) =
        (L.map fun p => hs w p.2).take (SetTable.below t.place (way t.mask (hs w k) K)) ++ hs w k :: (L.map fun p => hs w p.2).drop (SetTable.below t.place (way t.mask (hs w k) K)) := by
      rw [List.map_append, List.map_cons, List.map_take, List.map_drop]
    rw [← hhs] at q3
    generalize SetTable.insertAt es (SetTable.below t.place (way t.mask (hs w k) K)) (hs w k, Value.ref x) = es1 at ins ⊢
    generalize L.take (SetTable.below t.place (way t.mask (hs w k) K)) ++ (x, k) :: L.drop (SetTable.below t.place (way t.mask (hs w k) K)) = L1 at pm q3 ins
    have len1 : L1.length = L.length + 1 := pm.length_eq
    have nd1 : (L1.map (·.2)).Nodup := (pm.map (·.2)).nodup_iff.mpr (List.nodup_cons.mpr ⟨hm, R.dis⟩)
    have sz1 : es1.size = L.length + 1 := by rw [rows_size ins, len1]
    rw [List.length_map] at q9
    -- what follows, whatever 'plain' says
    have rest : ∀ t2 : SetTable, t2.place = t1.place → t2.dummies = t1.dummies → t2.mask = t1.mask → t2.led = t1.led →
        wpAny (model P w) A (do
          storeSet a es1 t2
          if (!false && t2.tooFull) = true then do
            setRelay a (SetTable.grown (es.size + 1))
            pure true
          else pure true) Q E s := by
      intro t2 e1 e2 e3 e4
      have T2 : TabOk t2 (L1.map fun p => hs w p.2) := ⟨e1 ▸ q3.ris, e2 ▸ q3.dm, e1 ▸ q3.sz, e3 ▸ q3.mok, by rw [e1, e3]; exact q3.bd, by rw [e1, e3]; exact q3.reach⟩
      have fill2 : t2.fill = L.length + 1 := by rw [← q9]; simp only [SetTable.fill, e1, e2]
      refine wpAny_bind (wpAny_storeSet_of ho hd ?_ (by rw [sz1, sizeLine_eq]; omega))
      have k1 : Heap.SameBut a s.heap (s.heap.update a (Obj.putSet es1 t2)) := Heap.SameBut.update ..
      have ho1 := store_at (es' := es1) (t' := t2) ho hd
      generalize s.heap.update a (Obj.putSet es1 t2) = h1 at k1 ho1 ⊢
      have ky1 : ∀ p ∈ L1, KeyAt h1 p := fun p hp => by
        rcases List.mem_cons.mp (pm.mem_iff.mp hp) with e | hp
        · rw [e]; exact keyAt_but hx ho hd k1
        · exact keyAt_but (R.kys p hp) ho hd k1
      have ld1 : w.params.followText "set-order" = true ∨ t2.led = true := by rw [e4, q5]; exact R.led
      by_cases hf : t2.tooFull = true
      · refine ifYes (by simp [hf]) (wpAny_bind ?_)
        have full : (L.length + 1) * 5 ≥ t.mask * 3 := by
          have z := hf
          unfold SetTable.tooFull at z
          rw [decide_eq_true_eq, fill2, e3, q4] at z
          exact z
        rw [sl]
        have which : (t.mask = 7 ∧ L.length = 4) ∨ (t.mask = 31 ∧ L.length = 18) := by
          rcases R.tbl.mok with e | e | e <;> rw [e] at full room
          · exact .inl ⟨e, by omega⟩
          · exact .inr ⟨e, by omega⟩
          · omega
        have go : ∀ M, SetTable.sizeAbove (SetTable.grown (L.length + 1)) - 1 = M → MaskOk M → SetTable.sizeAbove (SetTable.grown (L.length + 1)) ≤ 128 → (L.length + 1) * 5 < M * 3 →
            wpAny (model P w) A (setRelay a (SetTable.grown (L.length + 1))) (fun _ s' => wpAny (model P w) A (pure true) Q E s') E { s with heap := h1 } := fun M g1 g2 g3 g4 => by
          refine n_relay (s := { s with heap := h1 }) ho1 ⟨hex.1, hex.2.1, hex.2.2⟩ rfl ins (by rw [T2.sz, List.length_map, len1, sz1]) T2.dm ?_ nd1 ky1 ld1 (by rw [len1]; exact few) g1 g2 g3 (by rw [len1]; exact g4) ?_
          · rw [sz1, e3, q4]
            rcases which with ⟨e, e2⟩ | ⟨e, e2⟩ <;> omega
          · intro h2 L2 es2 ep2 t3 sb2 R2 pm2
            exact wpAny_pure (q true h2 L2 es2 ep2 t3 (HQ'.trans k1 sb2) R2 (fun z => absurd z hm) fun _ => pm2.trans pm)
        rcases which with ⟨_, e2⟩ | ⟨_, e2⟩
        · exact go 31 (by rw [e2, size_20]) (.inr (.inl rfl)) (by rw [e2, size_20]; decide) (by omega)
        · exact go 127 (by rw [e2, size_76]) (.inr (.inr rfl)) (by rw [e2, size_76]; decide) (by omega)
      · refine ifNo (by simp [hf]) (wpAny_pure ?_)
        refine q true h1 L1 es1 (ep + 1) t2 k1 ⟨⟨_, ho1, ⟨hex.1, hex.2.1, hex.2.2⟩, rfl⟩, ins, T2, nd1, ky1, ld1, ?_, by rw [len1]; exact few⟩ (fun z => absurd z hm) fun _ => pm
        have z := hf
        unfold SetTable.tooFull at z
        rw [decide_eq_true_eq, fill2] at z
        rw [len1]
        omega
    by_cases pl : t1.plain = true
    · refine ifYes pl (wpAny_bind (nk_hash 8 k _ _ hx.1 fun b => ?_))
      cases b with
      | true => exact rest t1 rfl rfl rfl rfl
      | false => exact rest { t1 with plain := false } rfl rfl rfl rfl
    · refine ifNo pl (wpAny_bind (wpAny_pure ?_))
      exact rest t1 rfl rfl rfl rfl
end
end L2.My

namespace L2.My
open PySem PySem.Spec PyProof.Rows
/-- what a set holds behind i items of ks -/
structure Met (ks : NL) (i : Nat) (L : NL) : Prop where
  sub : ∀ p ∈ L, p ∈ ks.take i
  all : ∀ p ∈ ks.take i, p.2 ∈ L.map (·.2)
  few : L.length ≤ i
theorem take_snoc {α : Type} {l : List α} {i : Nat} {x : α} (h : l[i]? = some x) : l.take (i + 1) = l.take i ++ [x] := by
  rw [List.take_succ, h]
  rfl
theorem Met.step {ks L L' : NL} {i : Nat} {x : Addr × NestedKey} (g : Met ks i L) (h : ks[i]? = some x) (c1 : x.2 ∈ L.map (·.2) → L' = L) (c2 : x.2 ∉ L.map (·.2) → L'.Perm (x :: L)) : Met ks (i + 1) L' := by
  have e := take_snoc h
  by_cases m : x.2 ∈ L.map (·.2)
  · rw [c1 m]
    refine ⟨fun p hp => e ▸ List.mem_append_left _ (g.sub p hp), fun p hp => ?_, Nat.le_succ_of_le g.few⟩
    rw [e] at hp
    rcases List.mem_append.mp hp with z | z
    · exact g.all p z
    · exact (List.mem_singleton.mp z) ▸ m
  · have pm := c2 m
    refine ⟨fun p hp => ?_, fun p hp => ?_, by rw [pm.length_eq]; exact Nat.succ_le_succ g.few⟩
    · rw [e]
      rcases List.mem_cons.mp (pm.mem_iff.mp hp) with z | z
      · exact z ▸ List.mem_append_right _ (List.mem_singleton.mpr rfl)
      · exact List.mem_append_left _ (g.sub p z)
    · refine (pm.map (·.2)).mem_iff.mpr ?_
      rw [e] at hp
      rcases List.mem_append.mp hp with z | z
      · exact List.mem_cons_of_mem _ (g.all p z)
      · exact (List.mem_singleton.mp z) ▸ List.mem_cons_self
abbrev newSet (w : World) : Obj := { cls := .type "set", dict := none, data := .set #[] 0 (.fresh 0 0 (!w.params.followText "set-order")) }
theorem fresh_set {w : World} {h : Heap} {a : Addr} (ho : h.get? a = some (newSet w)) : NSet w h a [] #[] 0 (.fresh 0 0 (!w.params.followText "set-order")) where
  obj := ⟨_, ho, ⟨rfl, rfl, rfl⟩, rfl⟩
  rws := rfl
  tbl := ⟨List.Pairwise.nil, rfl, rfl, .inl rfl, fun x hx => (by cases hx), fun i h j hi => (by simp at hi)⟩
  dis := List.nodup_nil
  kys := fun p hp => (by cases hp)
  led := by
    cases e : w.params.followText "set-order"
    · exact .inr rfl
    · exact .inl rfl
  spc := by show 0 * 5 < 7 * 3; decide
  few := by decide
section
variable {P : Program} {w : World} {A : Around} {E : Value → Shared → Prop} {s : Shared}
theorem NSet.stay {h h' : Heap} {a : Addr} {L : NL} {es : Array (Int × Value)} {ep : Nat} {t : SetTable} (R : NSet w h a L es ep t) (ha : ∀ o, h.get? a = some o → h'.get? a = some o) (ky : ∀ p ∈ L, KeyAt h' p) : NSet w h' a L es ep t :=
  let ⟨o, ho, r⟩ := R.obj
  ⟨⟨o, ha o ho, r⟩, R.rws, R.tbl, R.dis, ky, R.led, R.spc, R.few⟩
/-- the loop that fills the set -/
theorem n_fill {I : Addr} {fp wr : List Addr} {G : Array GenState → Array GenState → Prop} {n : Nat} {Pv : Nat → Value → Prop} {St : Nat → Shared → Prop} {R : Result → Shared → Prop} (W : WalksS P w A.in1 I fp wr G n Pv St) (S : Addr) (hSf : S ∉ fp)
    (ks : NL) (hn : n = ks.length) (few : ks.length < 64) (hv : ∀ i v, Pv i v → ∃ p, ks[i]? = some p ∧ v = .ref p.1) (h0 : Heap) (hk : ∀ p ∈ ks, KeyAt h0 p) (hS0 : h0.get? S = none) (hw0 : ∀ b ∈ wr, h0.get? b = none) (hu : A.in1.units + 10 < cLine) :
    ∀ (k i : Nat) (s : Shared), n - i = k → i ≤ n → St i s → (∀ b o, h0.get? b = some o → s.heap.get? b = some o) → (∃ L es ep t, NSet w s.heap S L es ep t ∧ Met ks i L) →
      (∀ s' L es ep t, Moved (S :: wr) G s s' → NSet w s'.heap S L es ep t → Met ks n L → (∀ b o, h0.get? b = some o → s'.heap.get? b = some o) → R (.ok (.ret .none)) s') →
      codeAny (model P w) A (.builtin "set.update.loop" ⟨[.ref S, .ref I], []⟩) R s := by
  have hSw : S ∉ wr := fun h => hSf (W.sub _ h)
  have up : ∀ b ∈ wr, b ∈ S :: wr := fun b hb => List.mem_cons_of_mem _ hb
  have old : ∀ {s s' : Shared}, Moved wr G s s' → (∀ b o, h0.get? b = some o → s.heap.get? b = some o) → ∀ b o, h0.get? b = some o → s'.heap.get? b = some o := fun hm hkp b o e =>
    hm.heap b o (fun hb => by rw [hw0 b hb] at e; cases e) (hkp b o e)
  have subs : ∀ {i : Nat} {L : NL}, Met ks i L → ∀ p ∈ L, p ∈ ks := fun g p hp => List.mem_of_mem_take (g.sub p hp)
  intro k
  induction k with
  | zero =>
    intro i s hk' hi hst hkp ⟨L, es, ep, t, hS, g⟩ hR
    obtain rfl : i = n := by omega
    refine codeAny_builtin F.entry_set_update_loop ?_
    rw [Around.under_plainId F.plain_set_update_loop _]
    show wpAny _ A.in1 (pyNext (.ref I) >>= _) _ _ s
    refine wpAny_bind (W.done s _ _ hst fun s' hm => ?_)
    have hkp' := old hm hkp
    exact wpAny_pure (hR s' L es ep t (hm.mono up) (hS.stay (fun o e => hm.heap S o hSw e) fun p hp => keyAt_keep (hk p (subs g p hp)) hkp') g hkp')
  | succ k ih =>
    intro i s hk' hi hst hkp ⟨L, es, ep, t, hS, g⟩ hR
    have lt : i < n := by omega
    refine codeAny_builtin F.entry_set_update_loop ?_
    rw [Around.under_plainId F.plain_set_update_loop _]
    show wpAny _ A.in1 (pyNext (.ref I) >>= _) _ _ s
    refine wpAny_bind (W.item i s _ _ lt hst fun v s' hP hst' hm => ?_)
    obtain ⟨p, hp, rfl⟩ := hv i v hP
    have hkp' := old hm hkp
    have S1 : NSet w s'.heap S L es ep t := hS.stay (fun o e => hm.heap S o hSw e) fun q hq => keyAt_keep (hk q (subs g q hq)) hkp'
    have kx : KeyAt s'.heap p := keyAt_keep (hk p (List.mem_of_getElem? hp)) hkp'
    show wpAny _ A.in1 (holding [Value.ref p.1] (setAdd S (.ref p.1)) >>= _) _ _ s'
    refine wpAny_bind (wpAny_holding ?_)
    unfold setAdd
    refine wpAny_holding (wpAny_bind (pyHash_key p.2 _ _ _ _ kx.1 (by have := kx.2; omega) ?_))
    refine n_add (s := { s' with toks := s'.toks + p.2.draws }) S1 kx hu (by have := g.few; omega) fun b h' L' es' ep' t' sb S2 c1 c2 => ?_
    have g' : Met ks (i + 1) L' := g.step hp c1 c2
    have hkp2 : ∀ b o, h0.get? b = some o → h'.get? b = some o := fun b o e => (sb.2 b (fun z => by rw [z, hS0] at e; cases e)).trans (hkp' b o e)
    refine wpAny_pure ⟨plainId_quiet F.plain_set_update_loop _, ih (i + 1) _ (by omega) lt (W.frame _ s' _ _ hst' (Nat.le_add_right _ _) fun b hb o e => ?_) hkp2 ⟨L', es', ep', t', S2, g'⟩ fun s'' L2 es2 ep2 t2 hm'' S3 g'' hkp'' => ?_⟩
    · exact (sb.2 b (fun z => hSf (z ▸ hb))).trans e
    · refine hR s'' L2 es2 ep2 t2 (Moved.trans W.gtrans ((hm.mono up).then_heap (Nat.le_add_right _ _) fun b o hb e => ?_) hm'') S3 g'' hkp''
      exact (sb.2 b (fun z => hb (z ▸ List.mem_cons_self))).trans e
end
end L2.My

namespace L2.My
open PySem PySem.Spec PyProof.Rows
section
variable {P : Program} {w : World} {A : Around} {E : Value → Shared → Prop} {s : Shared}
theorem no_obj {h : Heap} {b : Addr} (hb : h.objs.size ≤ b) : h.get? b = none := by
  cases q : h.get? b with
  | none => rfl
  | some o => exact absurd (Heap.lt_size q) (Nat.not_lt.mpr hb)
set_option maxHeartbeats 3200000 in
/-- set(xs), the items nested keys -/
theorem n_set {l : Addr} {items : Array Value} (ks : NL) {Q : Value → Shared → Prop} (hh : A.handled = none) (hl : s.heap.IsList l items) (hit : items.toList = ks.map fun p => Value.ref p.1) (hk : ∀ p ∈ ks, KeyAt s.heap p) (few : ks.length < 64)
    (hu : A.units + 20 < cLine) (h : ∀ (h' : Heap) (tk : Nat) L es ep t, NSet w h' s.heap.objs.size L es ep t → Met ks ks.length L → (∀ b o, s.heap.get? b = some o → h'.get? b = some o) → Q (.ref s.heap.objs.size) { s with heap := h', toks := tk }) :
    wpAny (model P w) A (call (.type "set") [.ref l]) Q E s := by
  have isz : items.size = ks.length := by simpa using congrArg List.length hit
  obtain ⟨c, tl, hmro⟩ := F.called_set.mro
  have hmade := F.called_set.made
  have hsub := F.called_set.sub
  refine wpAny_call (codeAny_of_tree ?_)
  show wpAny _ _ (callAny (.type "set") _) _ _ _
  refine wpAny_pure ⟨Code.quiet_builtin _ (by decide +kernel), codeAny_builtin F.entry_type_call ?_⟩
  rw [Around.under_plain (weight_type_call_type "set" [.ref l] []) rfl]
  have z1 := F.called_set.notType
  have z2 := F.called_set.canCreate
  have z3 := F.typeCall_set_1 (.ref l)
  repeat (any_goals (first | assumption | wp_step))
  generalize hS : s.heap.push (newSet w) = hp0
  have got : hp0.get? s.heap.objs.size = some (newSet w) := hS ▸ Heap.get?_push_size _ rfl
  have keep0 : ∀ b o, s.heap.get? b = some o → hp0.get? b = some o := fun b o e => hS ▸ Heap.get?_push_of_some _ e
  have size0 : hp0.objs.size = s.heap.objs.size + 1 := hS ▸ Heap.size_push ..
  refine codeAny_mono (code_set_led1 (.ref l) (E := E) (Q₁ := fun obj s₁ => obj = .ref s.heap.objs.size ∧ s₁ = { s with heap := hp0 }) ⟨rfl, by rw [← hS]⟩) fun r s₁ hr => ?_
  cases r with
  | error e => exact hr
  | ok fl =>
    cases fl with
    | ret obj =>
      obtain ⟨rfl, rfl⟩ := hr
      have hT : Shared.TypeIs { s with heap := hp0 } (.ref s.heap.objs.size) "set" := ⟨_, got, rfl⟩
      have z4 := F.called_set.init.lookup
      have z5 := F.called_set.init.bind (.ref s.heap.objs.size)
      repeat (any_goals (first | assumption | wp_step))
      refine codeAny_mono (codeAny_call_builtin (R := wants (fun r s₂ => r = .none ∧ ∃ h' tk L es ep t, s₂ = { s with heap := h', toks := tk } ∧ NSet w h' s.heap.objs.size L es ep t ∧ Met ks ks.length L ∧ (∀ b o, s.heap.get? b = some o → h'.get? b = some o)) E)
        F.called_set.init.plain F.entry_set_init (check_set_init_1 hT ?_)) fun r₂ s₂ hr₂ => ?_
      · obtain ⟨ol, hol, hcl, nl, hdl⟩ := hl
        obtain ⟨ocls, odict, odata, oslots⟩ := ol
        simp only at hcl hdl
        subst hcl hdl
        have hol' := keep0 _ _ hol
        have z6 := F.sub_list_set
        have z7 := F.sub_list_frozenset
        have z8 : (Value.type "list" == Value.type "dict") = false := by decide
        have hl1 : hp0.IsList l items := ⟨_, hol', rfl, nl, rfl⟩
        unfold Builtin.«set.__init__» noKeywords Builtin.Frozenset.updateFrom
        generalize hPI : pyIter = PI
        wp_walk
        subst hPI
        refine wpAny_pyIter_list hl1 (wpAny_bind (wpAny_runValue ?_))
        have lS : l < s.heap.objs.size := Heap.lt_size hol
        have hh3 : A.in1.in1.in1.handled = none := by simp [hh]
        have neI : l ≠ hp0.objs.size := by rw [size0]; exact Nat.ne_of_lt (Nat.lt_succ_of_lt lS)
        have notIn : s.heap.objs.size ∉ [hp0.objs.size, l] := by
          rw [size0]
          simp only [List.mem_cons, List.not_mem_nil, or_false, not_or]
          exact ⟨Nat.ne_of_lt (Nat.lt_succ_self _), Nat.ne_of_gt lS⟩
        have hv : ∀ (i : Nat) (v : Value), items[i]? = some v → ∃ p, ks[i]? = some p ∧ v = .ref p.1 := fun i v e => by
          rw [← Array.getElem?_toList, hit, List.getElem?_map] at e
          obtain ⟨p, hp, rfl⟩ := Option.map_eq_some_iff.mp e
          exact ⟨p, hp, rfl⟩
        refine n_fill ((Walks.list hh3 _ l neI items).toS) s.heap.objs.size notIn ks isz few hv s.heap hk (no_obj (Nat.le_refl _)) (fun b hb => no_obj (by rw [List.mem_singleton.mp hb, size0]; exact Nat.le_succ _)) (by show A.units + 1 + 1 + 1 + 10 < cLine; omega)
          (items.size - 0) 0 _ (by omega) (Nat.zero_le _) ⟨⟨_, Heap.get?_push_size _ rfl, rfl, rfl⟩, hl1.push _⟩ (fun b o e => Heap.get?_push_of_some _ (keep0 b o e)) ?start ?fin
        case start =>
          exact ⟨[], #[], 0, _, fresh_set (Heap.get?_push_of_some _ got), fun p hp => (by cases hp), fun p hp => (by simp at hp), Nat.le_refl _⟩
        case fin =>
          intro s' L es ep t hm hS' g' hkp
          obtain ⟨h', g2, d', tk', os'⟩ := s'
          obtain rfl : g2 = s.gens := hm.gens
          obtain rfl : d' = s.drawn := hm.drawn
          obtain rfl : os' = s.os := hm.os
          rw [isz] at g'
          exact wpAny_pure (wpAny_pure ⟨rfl, h', tk', L, es, ep, t, rfl, hS', g', hkp⟩)
      · cases r₂ with
        | error e => exact hr₂
        | ok fl₂ =>
          cases fl₂ with
          | ret r =>
            obtain ⟨rfl, h', tk, L, es, ep, t, rfl, hS', g', hk'⟩ := hr₂
            repeat (any_goals (first | assumption | wp_step))
            exact h _ _ _ _ _ _ hS' g' hk'
          | _ => exact hr₂.elim
    | _ => exact hr.elim
end
end L2.My

namespace L2.My
open PySem PySem.Spec PyProof.Rows
theorem perm_inv {α β : Type} {f : α → β} {m n : List β} (h : m.Perm n) : ∀ {l : List α}, n = l.map f → ∃ l1 : List α, m = l1.map f ∧ l1.Perm l := by
  induction h with
  | nil =>
    intro l e
    cases l with
    | nil => exact ⟨[], rfl, .nil⟩
    | cons => cases e
  | cons x _ ih =>
    intro l e
    cases l with
    | nil => cases e
    | cons y l =>
      rw [List.map_cons] at e
      injection e with e1 e2
      obtain ⟨l1, e3, p⟩ := ih e2
      exact ⟨y :: l1, by rw [List.map_cons, e3, e1], p.cons y⟩
  | swap x y t =>
    intro l e
    match l, e with
    | [], e => cases e
    | [_], e => simp at e
    | a :: b :: l, e =>
      simp only [List.map_cons, List.cons.injEq] at e
      obtain ⟨e1, e2, e3⟩ := e
      exact ⟨b :: a :: l, by rw [List.map_cons, List.map_cons, e1, e2, e3], .swap a b l⟩
  | trans _ _ ih1 ih2 =>
    intro l e
    obtain ⟨l1, e1, p1⟩ := ih2 e
    obtain ⟨l2, e2, p2⟩ := ih1 e1
    exact ⟨l2, e2, p2.trans p1⟩
def leN (x y : Addr × NestedKey) : Prop := PySem.W.dataLt y.2.data x.2.data = false
section
variable {P : Program} {w : World} {A : Around} {E : Value → Shared → Prop} {s : Shared}
theorem each_refs (h : Heap) (f : Addr × NestedKey → PyData) : ∀ {L : NL}, (∀ p ∈ L, ∃ as, Reads h (.ref p.1) (f p) as) → PySem.W.EachIs (fun (v : Value) (b : Addr × NestedKey) => ∃ as, Reads h v (f b) as) (L.map fun p => Value.ref p.1) L
  | [], _ => .nil
  | p :: L, q => .cons (q p List.mem_cons_self) (each_refs h f fun x hx => q x (List.mem_cons_of_mem _ hx))
theorem each_refs' (h : Heap) (f : Addr × NestedKey → PyData) {a : Addr} : ∀ {L : NL}, (∀ p ∈ L, Reads h (.ref p.1) (f p) []) → PySem.W.EachIs (fun (v : Value) (b : Addr × NestedKey) => ∃ as, Reads h v (f b) as ∧ a ∉ as) (L.map fun p => Value.ref p.1) L
  | [], _ => .nil
  | p :: L, q => .cons ⟨[], q p List.mem_cons_self, by simp⟩ (each_refs' h f fun x hx => q x (List.mem_cons_of_mem _ hx))
theorem each_is : ∀ (L : NL), PySem.W.EachIs (fun (v : Value) (b : Addr × NestedKey) => v = Value.ref b.1) (L.map fun p => Value.ref p.1) L
  | [] => .nil
  | p :: L => .cons rfl (each_is L)
theorem of_each : ∀ {out : List Value} {L : NL}, PySem.W.EachIs (fun (v : Value) (b : Addr × NestedKey) => v = Value.ref b.1) out L → out = L.map fun p => Value.ref p.1
  | _, _, .nil => rfl
  | _, _, .cons e t => by rw [List.map_cons, ← of_each t, e]
/-- sorted(set) -/
theorem n_sorted {a : Addr} {L : NL} {es : Array (Int × Value)} {ep : Nat} {t : SetTable} {Q : Value → Shared → Prop} (R : NSet w s.heap a L es ep t) (hh : A.handled = none) (hu : A.units + 20 < cLine)
    (rd : ∀ h', (∀ b o, s.heap.get? b = some o → h'.get? b = some o) → ∀ p ∈ L, Reads h' (.ref p.1) p.2.data []) (hal : PySem.W.AllAlike (L.map fun p => p.2.data)) (hso : PySem.W.Sortable (L.map fun p => p.2.data)) (hdp : ∀ p ∈ L, p.2.data.depth ≤ 8)
    (hQ : ∀ s' p (out : Array Value) (c : Nat) (L' : NL), (∀ b o, s.heap.get? b = some o → s'.heap.get? b = some o) → s'.gens = s.gens → s'.os = s.os → s.heap.objs.size ≤ p →
      s'.heap.get? p = some (seqObj "list" out c) → out.toList = L'.map (fun q => Value.ref q.1) → L'.Perm L → L'.Pairwise leN → Q (.ref p) s') :
    wpAny (model P w) A (call (.builtin "sorted") [.ref a]) Q E s := by
  obtain ⟨o, ho, hex, hd⟩ := R.obj
  have sl := rows_size R.rws
  have few := R.few
  refine Calls.call_function_entry kind_sorted plain_sorted entry_sorted (args_sorted1 _) ?_
  unfold Builtin.«sorted»
  refine wpAny_bind (m := checkCount "sorted" 1 1 _) (wpAny_pure ?_)
  refine wpAny_bind (collect_set (A := A.in1) hh ⟨o, ho, hex.1, hd⟩ R.fit (by unfold scanBound; omega) R.tbl.ris R.led fun s1 vs k1 hz g1 o1 pm => ?_)
  have hes : es.toList.map (·.2) = L.map fun q => Value.ref q.1 := by
    rw [R.rws, nrows, List.map_map]
    rfl
  obtain ⟨L1, rfl, p1⟩ := perm_inv pm hes
  have lv : (L1.map fun q => Value.ref q.1).length = L.length := by rw [List.length_map, p1.length_eq]
  generalize hvs : (L1.map fun q => Value.ref q.1) = vs at lv ⊢
  refine wpAny_bind (wpAny_newList ?_ (by rw [sizeLine_eq]; omega))
  have hoL : (s1.heap.push (seqObj "list" vs.toArray 0)).get? s1.heap.objs.size = some (seqObj "list" vs.toArray 0) := Heap.get?_push_size _ rfl
  have kp : ∀ b u, s.heap.get? b = some u → (s1.heap.push (seqObj "list" vs.toArray 0)).get? b = some u := fun b u e => Heap.get?_push_of_some _ (k1 b u e)
  have pD : (L1.map fun p => p.2.data).Perm (L.map fun p => p.2.data) := p1.map _
  have hal1 : PySem.W.AllAlike (L1.map fun p => p.2.data) := fun d hd d' hd' => hal d (pD.mem_iff.mp hd) d' (pD.mem_iff.mp hd')
  have hso1 : PySem.W.Sortable (L1.map fun p => p.2.data) := hso.imp (fun z d hd => z d (pD.mem_iff.mp hd)) fun z d hd => z d (pD.mem_iff.mp hd)
  refine wpAny_bind (wpAny_holding (PySem.W.list_sort_data (s := { s1 with heap := s1.heap.push (seqObj "list" vs.toArray 0) }) (vs := vs) (bs := L1) (enc := fun p => p.2.data) (R := fun v b => v = Value.ref b.1) hoL (by rw [← hvs]; exact each_is L1)
    (by rw [← hvs]; exact each_refs' _ _ fun p hp => rd _ (by rw [hvs]; exact kp) p (p1.mem_iff.mp hp)) hal1 hso1 (by rw [sizeLine_eq, p1.length_eq]; omega) (fun b hb => ?_) fun out lo eo => ?_))
  · have := hdp b (p1.mem_iff.mp hb)
    show A.units + 1 + 1 + b.2.data.depth < cLine
    omega
  · obtain ⟨c, hc⟩ := sortedHeap_at (vs := vs) (out := out.toArray) hoL
    have pm2 : (L1.mergeSort (PySem.W.dataLe false fun p => p.2.data)).Perm L := (List.mergeSort_perm _ _).trans p1
    have pw := PySem.W.sort_pairwise (PySem.W.sortLe_total (PyProof.Rows.listOrd PyProof.Rows.itemOrd) false (fun b : Addr × NestedKey => PySem.W.keyToks b.2.data)) L1
    refine wpAny_pure ⟨_, rfl, hQ _ s1.heap.objs.size out.toArray c _ (fun b u e => ?_) g1 o1 hz hc (by simpa using of_each eo) pm2 (pw.imp fun {x y} hxy => ?_)⟩
    · have q := k1 b u e
      have lt := Heap.lt_size q
      show (sortedHeap (s1.heap.push (seqObj "list" vs.toArray 0)) s1.heap.objs.size vs out.toArray).get? b = some u
      rw [sortedHeap_old (Nat.ne_of_lt lt) (by rw [size_push']; exact Nat.lt_succ_of_lt lt)]
      exact Heap.get?_push_of_some _ q
    · exact (Bool.not_eq_true' _).mp (show (!PySem.W.dataLt y.2.data x.2.data) = true from hxy)
end
/-! ### over the layer -/
mutual
/-- a value that is a nested key: numbers, texts, tracked tuples of such -/
inductive NK (H : Hp) : V → NestedKey → Prop
  | num (i : Int) : NK H (.int i) (.num i)
  | text (x : Str) : NK H (.str x) (.text x)
  | tup {a : Addr} {vs : List V} {ks : List NestedKey} : H a = some (.tup vs) → NKs H vs ks → NK H (.ref a) (.tup ks)
inductive NKs (H : Hp) : List V → List NestedKey → Prop
  | nil : NKs H [] []
  | cons {v : V} {vs : List V} {k : NestedKey} {ks : List NestedKey} : NK H v k → NKs H vs ks → NKs H (v :: vs) (k :: ks)
end
section
variable {X : Cx} {pins : List (Addr × Obj)} {σ : St} {H : Hp} {s : Shared}
theorem tup_obj (I : Inv X pins σ H s) {a : Addr} {vs : List V} (h : H a = some (.tup vs)) : ∃ its o n, Vals vs its ∧ s.heap.get? a = some o ∧ o.cls = .type "tuple" ∧ o.data = .seq its.toArray n := by
  obtain ⟨_, its, rv, o, ho, hc, n, hd⟩ := I.hok a _ h
  exact ⟨its, o, n, rv, ho, hc, hd⟩
mutual
theorem NK.is (I : Inv X pins σ H s) : ∀ (k : NestedKey) (v : V) (u : Value), NK H v k → RelV v u → NestedIs s.heap k u ∧ ∀ h', (∀ b o, s.heap.get? b = some o → h'.get? b = some o) → Reads h' u k.data []
  | .none, _, _, x, _ => by cases x
  | .num i, _, _, x, r => by
    cases x
    obtain ⟨t, rfl⟩ := r
    exact ⟨.int i t, fun h' _ => .int i t⟩
  | .text z, _, _, x, r => by
    cases x
    obtain ⟨t, rfl⟩ := r
    exact ⟨.text z t, fun h' _ => .str z t⟩
  | .tup ks, _, _, x, r => by
    cases x with
    | tup hv xs =>
      cases r
      obtain ⟨its, o, n, rv, ho, hc, hd⟩ := tup_obj I hv
      obtain ⟨q1, q2⟩ := NKs.are I ks _ its xs rv
      exact ⟨.tup ho hc hd (by simpa using q1), fun h' k => .tuple (k _ _ ho) hc hd (by simpa using q2 h' k)⟩
theorem NKs.are (I : Inv X pins σ H s) : ∀ (ks : List NestedKey) (vs : List V) (us : List Value), NKs H vs ks → Vals vs us → NestedAll s.heap ks us ∧ ∀ h', (∀ b o, s.heap.get? b = some o → h'.get? b = some o) → ReadsAll h' us (NestedKey.datas ks) []
  | [], _, _, x, r => by
    cases x
    cases r
    exact ⟨.nil, fun _ _ => .nil⟩
  | k :: ks, _, _, x, r => by
    cases x with
    | cons x1 x2 =>
      cases r with
      | cons r1 r2 =>
        obtain ⟨q1, q2⟩ := NK.is I k _ _ x1 r1
        obtain ⟨q3, q4⟩ := NKs.are I ks _ _ x2 r2
        exact ⟨.cons q1 q3, fun h' k => .cons (q2 h' k) (q4 h' k)⟩
end
theorem NK.key (I : Inv X pins σ H s) {p : Addr × NestedKey} (x : NK H (.ref p.1) p.2) (hd : p.2.depth ≤ 8) : KeyAt s.heap p := ⟨(NK.is I p.2 _ _ x rfl).1, hd⟩
/-- the set at a, without its keys -/
structure NS0 (w : World) (h : Heap) (a : Addr) (L : NL) : Prop where
  ex : ∃ (es : Array (Int × Value)) (ep : Nat) (t : SetTable), (∃ o, h.get? a = some o ∧ o.ExactSet ∧ o.data = .set es ep t) ∧ es.toList = nrows w L ∧ TabOk t (L.map fun p => hs w p.2) ∧ (L.map (·.2)).Nodup ∧
    (w.params.followText "set-order" = true ∨ t.led = true) ∧ L.length * 5 < t.mask * 3 ∧ L.length < 64
def NSO (w : World) (a : Addr) (L : NL) : HO := .ext fun h => NS0 w h a L
theorem NS0.full {w : World} {h : Heap} {a : Addr} {L : NL} (R : NS0 w h a L) (ky : ∀ p ∈ L, KeyAt h p) : ∃ es ep t, NSet w h a L es ep t := by
  obtain ⟨es, ep, t, h1, h2, h3, h4, h5, h6, h7⟩ := R.ex
  exact ⟨es, ep, t, h1, h2, h3, h4, ky, h5, h6, h7⟩
theorem nso_new {P : Program} {w : World} {H : Hp} {h : Heap} {a : Addr} {L : NL} {es : Array (Int × Value)} {ep : Nat} {t : SetTable} (R : NSet w h a L es ep t) : ObjOk P w H h a (NSO w a L) := by
  have ⟨o, ho, r⟩ := R.obj
  refine ⟨⟨es, ep, t, R.obj, R.rws, R.tbl, R.dis, R.led, R.spc, R.few⟩, ⟨o, ho⟩, fun h1 h2 p k => ?_⟩
  obtain ⟨es', ep', t', ⟨o', ho', r'⟩, q'⟩ := NS0.ex p
  exact ⟨es', ep', t', ⟨o', k o' ho', r'⟩, q'⟩
theorem refs_back : ∀ {ks : NL} {us : List Value}, Vals (ks.map fun p => V.ref p.1) us → us = ks.map fun p => Value.ref p.1
  | [], _, .nil => rfl
  | p :: ks, _, .cons r t => by rw [refs_back t, show _ = Value.ref p.1 from r]; rfl
theorem refs_there : ∀ (ks : NL), Vals (ks.map fun p => V.ref p.1) (ks.map fun p => Value.ref p.1)
  | [] => .nil
  | p :: ks => .cons rfl (refs_there ks)
/-- set(xs) -/
def rSetN (K : PySem.W.Frag) (w : World) : List V → Hp → VK → Prop := fun xs H Q => ∃ (l : Addr) (ks : NL), xs = [V.ref l] ∧ SqL K H l (ks.map fun p => V.ref p.1) ∧ (∀ p ∈ ks, NK H (.ref p.1) p.2 ∧ p.2.depth ≤ 8) ∧ ks.length < 64 ∧
  ∀ a L, H a = none → (∀ p ∈ L, p ∈ ks) → (∀ p ∈ ks, p.2 ∈ L.map (·.2)) → (L.map (·.2)).Nodup → Q (.ref a) (upd H a (NSO w a L))
theorem cr_setN (hc : X.calm = true) (hu : X.A.units + 64 < cLine) : CallR X (.type "set") (rSetN X.K X.w) := by
  intro pins s σ H xs us Q I r h
  obtain ⟨l, ks, rfl, hl, hk, few, q⟩ := h
  rw [Vals.ref1 r]
  obtain ⟨its, rv, pl, hz⟩ := I.list hl
  refine n_set (P := X.prog) (w := X.w) ks (I.ok.hd hc) pl.isList (by simpa using refs_back rv) (fun p hp => (hk p hp).1.key I (hk p hp).2) few (by omega) fun h' tk L es ep t R g k => ?_
  refine ⟨.ref s.heap.objs.size, upd H s.heap.objs.size (NSO X.w s.heap.objs.size L), I.laid (t' := tk) k (Nat.le_refl _) (nso_new R), rfl, q _ L (I.hok.fresh (Nat.le_refl _)) (fun p hp => ?_) (fun p hp => ?_) R.dis⟩
  · exact List.mem_of_mem_take (g.sub p hp)
  · exact g.all p (by rw [List.take_length]; exact hp)
/-- sorted(set) -/
def rSortedN (w : World) : List V → Hp → VK → Prop := fun vs H Q => ∃ (a : Addr) (L : NL), vs = [V.ref a] ∧ H a = some (NSO w a L) ∧ (∀ p ∈ L, NK H (.ref p.1) p.2 ∧ p.2.depth ≤ 8 ∧ p.2.data.depth ≤ 8) ∧ PySem.W.AllAlike (L.map fun p => p.2.data) ∧ PySem.W.Sortable (L.map fun p => p.2.data) ∧
  ∀ (L' : NL) (p : Addr), L'.Perm L → L'.Pairwise leN → H p = none → Q (.ref p) (upd H p (.lst (L'.map fun q => V.ref q.1)))
theorem cr_sortedN (hc : X.calm = true) (hu : X.A.units + 64 < cLine) : CallR X (.builtin "sorted") (rSortedN X.w) := by
  intro pins s σ H vs us Q I r h
  obtain ⟨a, L, rfl, ha, hk, hal, hso, q⟩ := h
  have R0 : NS0 X.w s.heap a L := (I.hok a _ ha).1
  obtain ⟨es, ep, t, R⟩ := R0.full fun p hp => (hk p hp).1.key I (hk p hp).2.1
  rw [Vals.ref1 r]
  refine n_sorted R (I.ok.hd hc) (by omega) (fun h' k p hp => (NK.is I p.2 _ _ (hk p hp).1 rfl).2 h' k) hal hso (fun p hp => (hk p hp).2.2) fun s' p out c L' k g o hp hg hout pm pw => ?_
  have few : L'.length < 64 := by rw [pm.length_eq]; exact R.few
  have hn : H p = none := I.hok.fresh hp
  have hv : Vals (L'.map fun q => V.ref q.1) out.toList := hout ▸ refs_there L'
  have J : Inv X pins σ (upd H p (.lst (L'.map fun q => V.ref q.1))) { s with heap := s'.heap, gens := s'.gens, drawn := s'.drawn, toks := s'.toks } :=
    I.call (ch := []) (Un.laid k hp hn) (I.hok.laid k hp ⟨by rw [List.length_map, sizeLine_eq]; omega, out.toList, c, hv, hg⟩) (g ▸ I.bare) (fun _ z => nomatch z)
  have e : s' = { s with heap := s'.heap, gens := s'.gens, drawn := s'.drawn, toks := s'.toks } := by
    cases s'
    cases s
    cases o
    rfl
  rw [e]
  exact ⟨.ref p, _, J, rfl, q L' p pm pw hn⟩
end
end L2.My

namespace L2.My
open PySem PySem.Spec PyProof.Rows
open HQ (Ev evD)
/-! ### data over the layer -/
theorem _root_.L2.Same.seqT {K : PySem.W.Frag} {H H' : Hp} {a : Addr} {xs : List V} (e : Same H H') (h : SqT K H a xs) : SqT K H' a xs := by
  rcases h with (h | ⟨o, h⟩) | h
  · exact .inl (.inl (e _ _ h))
  · exact .inl (.inr ⟨o, e _ _ h⟩)
  · exact .inr h
mutual
/-- v is the datum d: lists and tuples tracked -/
inductive Rp (H : Hp) : V → PyData → Prop
  | non : Rp H .non .none
  | bl (b : Bool) : Rp H (.bl b) (.bool b)
  | int (i : Int) : Rp H (.int i) (.int i)
  | str (x : Str) : Rp H (.str x) (.str x)
  | lst {a : Addr} {xs : List V} {ds : List PyData} : H a = some (.lst xs) → RpAll H xs ds → Rp H (.ref a) (.list ds)
  | tup {a : Addr} {xs : List V} {ds : List PyData} : H a = some (.tup xs) → RpAll H xs ds → Rp H (.ref a) (.tuple ds)
inductive RpAll (H : Hp) : List V → List PyData → Prop
  | nil : RpAll H [] []
  | cons {v : V} {vs : List V} {d : PyData} {ds : List PyData} : Rp H v d → RpAll H vs ds → RpAll H (v :: vs) (d :: ds)
end
mutual
/-- v is the datum d, of tuples alone: such stay whatever is done -/
inductive Tp (H : Hp) : V → PyData → Prop
  | non : Tp H .non .none
  | bl (b : Bool) : Tp H (.bl b) (.bool b)
  | int (i : Int) : Tp H (.int i) (.int i)
  | str (x : Str) : Tp H (.str x) (.str x)
  | tup {a : Addr} {xs : List V} {ds : List PyData} : H a = some (.tup xs) → TpAll H xs ds → Tp H (.ref a) (.tuple ds)
inductive TpAll (H : Hp) : List V → List PyData → Prop
  | nil : TpAll H [] []
  | cons {v : V} {vs : List V} {d : PyData} {ds : List PyData} : Tp H v d → TpAll H vs ds → TpAll H (v :: vs) (d :: ds)
end
/-- tuples stay -/
def TK (H H' : Hp) : Prop := ∀ a xs, H a = some (.tup xs) → H' a = some (.tup xs)
/-- all but b stays -/
def But (b : Addr) (H H' : Hp) : Prop := ∀ q o, q ≠ b → H q = some o → H' q = some o
theorem TK.refl (H : Hp) : TK H H := fun _ _ h => h
theorem TK.trans {H H1 H2 : Hp} (a : TK H H1) (b : TK H1 H2) : TK H H2 := fun q o h => b q o (a q o h)
theorem TK.same {H H' : Hp} (h : Same H H') : TK H H' := fun a xs e => h a _ e
theorem But.refl (b : Addr) (H : Hp) : But b H H := fun _ _ _ h => h
theorem But.trans {b : Addr} {H H1 H2 : Hp} (x : But b H H1) (y : But b H1 H2) : But b H H2 := fun q o n h => y q o n (x q o n h)
theorem But.of {b : Addr} {H H' : Hp} (h : Same H H') : But b H H' := fun q o _ e => h q o e
theorem But.tk {b : Addr} {H H' : Hp} {xs : List V} (h : But b H H') (hb : H b = some (.lst xs)) : TK H H' := fun a ys e => h a _ (fun z => by rw [z, hb] at e; cases e) e
theorem same_new {H : Hp} {p : Addr} (h : H p = none) (o : HO) : Same H (upd H p o) := fun b u q => by rw [upd_ne (ne_of_none q h)]; exact q
theorem tk_upd {H : Hp} {p : Addr} {xs : List V} (h : H p = some (.lst xs)) (o : HO) : TK H (upd H p o) := fun a ys e => by
  rw [upd_ne (ne_of e h (by intro z; cases z))]
  exact e
theorem but_upd {H : Hp} (b : Addr) (o : HO) : But b H (upd H b o) := fun q u n e => by rw [upd_ne n]; exact e
theorem But.free {b : Addr} {H H' : Hp} {u : HO} (x : But b H H') (hb : H b = some u) (hb' : ∃ u, H' b = some u) {p : Addr} (h : H' p = none) : H p = none := by
  cases q : H p with
  | none => rfl
  | some o =>
    by_cases e : p = b
    · obtain ⟨u', e'⟩ := hb'
      rw [e, e'] at h
      cases h
    · rw [x p o e q] at h
      cases h
mutual
theorem Tp.keep {H H' : Hp} (k : TK H H') : ∀ {v : V} {d : PyData}, Tp H v d → Tp H' v d
  | _, _, .non => .non
  | _, _, .bl b => .bl b
  | _, _, .int i => .int i
  | _, _, .str x => .str x
  | _, _, .tup h t => .tup (k _ _ h) (TpAll.keep k t)
theorem TpAll.keep {H H' : Hp} (k : TK H H') : ∀ {vs : List V} {ds : List PyData}, TpAll H vs ds → TpAll H' vs ds
  | _, _, .nil => .nil
  | _, _, .cons h t => .cons (Tp.keep k h) (TpAll.keep k t)
end
mutual
theorem Rp.same {H H' : Hp} (k : Same H H') : ∀ {v : V} {d : PyData}, Rp H v d → Rp H' v d
  | _, _, .non => .non
  | _, _, .bl b => .bl b
  | _, _, .int i => .int i
  | _, _, .str x => .str x
  | _, _, .lst h t => .lst (k _ _ h) (RpAll.same k t)
  | _, _, .tup h t => .tup (k _ _ h) (RpAll.same k t)
theorem RpAll.same {H H' : Hp} (k : Same H H') : ∀ {vs : List V} {ds : List PyData}, RpAll H vs ds → RpAll H' vs ds
  | _, _, .nil => .nil
  | _, _, .cons h t => .cons (Rp.same k h) (RpAll.same k t)
end
mutual
theorem Tp.rp {H : Hp} : ∀ {v : V} {d : PyData}, Tp H v d → Rp H v d
  | _, _, .non => .non
  | _, _, .bl b => .bl b
  | _, _, .int i => .int i
  | _, _, .str x => .str x
  | _, _, .tup h t => .tup h (TpAll.rp t)
theorem TpAll.rp {H : Hp} : ∀ {vs : List V} {ds : List PyData}, TpAll H vs ds → RpAll H vs ds
  | _, _, .nil => .nil
  | _, _, .cons h t => .cons (Tp.rp h) (TpAll.rp t)
end
mutual
theorem Rp.dp {K : PySem.W.Frag} {H : Hp} : ∀ {v : V} {d : PyData}, Rp H v d → Dp K H v d
  | _, _, .non => .non
  | _, _, .bl b => .bl b
  | _, _, .int i => .int i
  | _, _, .str x => .str x
  | _, _, .lst h t => .lst (.inl (.inl h)) (RpAll.dp t)
  | _, _, .tup h t => .tup (.inl (.inl h)) (RpAll.dp t)
theorem RpAll.dp {K : PySem.W.Frag} {H : Hp} : ∀ {vs : List V} {ds : List PyData}, RpAll H vs ds → DpAll K H vs ds
  | _, _, .nil => .nil
  | _, _, .cons h t => .cons (Rp.dp h) (RpAll.dp t)
end
theorem RpAll.length {H : Hp} : ∀ {vs : List V} {ds : List PyData}, RpAll H vs ds → vs.length = ds.length
  | _, _, .nil => rfl
  | _, _, .cons _ t => by rw [List.length_cons, List.length_cons, RpAll.length t]
theorem TpAll.length {H : Hp} {vs : List V} {ds : List PyData} (h : TpAll H vs ds) : vs.length = ds.length := h.rp.length
theorem RpAll.get {H : Hp} : ∀ {vs : List V} {ds : List PyData} {i : Nat} {v : V}, RpAll H vs ds → vs[i]? = some v → ∃ d, ds[i]? = some d ∧ Rp H v d
  | _, _, _, _, .nil, e => by simp at e
  | _, _, 0, _, .cons h _, e => by simp at e; subst e; exact ⟨_, rfl, h⟩
  | _, _, i + 1, v, .cons _ t, e => by
    obtain ⟨d, h1, h2⟩ := RpAll.get (i := i) (v := v) t (by simpa using e)
    exact ⟨d, by simpa using h1, h2⟩
theorem TpAll.get {H : Hp} : ∀ {vs : List V} {ds : List PyData} {i : Nat} {v : V}, TpAll H vs ds → vs[i]? = some v → ∃ d, ds[i]? = some d ∧ Tp H v d
  | _, _, _, _, .nil, e => by simp at e
  | _, _, 0, _, .cons h _, e => by simp at e; subst e; exact ⟨_, rfl, h⟩
  | _, _, i + 1, v, .cons _ t, e => by
    obtain ⟨d, h1, h2⟩ := TpAll.get (i := i) (v := v) t (by simpa using e)
    exact ⟨d, by simpa using h1, h2⟩
theorem RpAll.append {H : Hp} : ∀ {vs ws : List V} {ds es : List PyData}, RpAll H vs ds → RpAll H ws es → RpAll H (vs ++ ws) (ds ++ es)
  | _, _, _, _, .nil, t => t
  | _, _, _, _, .cons h s, t => .cons h (RpAll.append s t)
theorem TpAll.append {H : Hp} : ∀ {vs ws : List V} {ds es : List PyData}, TpAll H vs ds → TpAll H ws es → TpAll H (vs ++ ws) (ds ++ es)
  | _, _, _, _, .nil, t => t
  | _, _, _, _, .cons h s, t => .cons h (TpAll.append s t)
/-! ### the box of draws -/
def Bx (H : Hp) (b : Addr) (c : Int) : Prop := ∃ x s k : Int, H b = some (.lst [.int x, .int s, .int k]) ∧ 0 ≤ x ∧ 0 ≤ s ∧ s < 2147483563 ∧ 0 ≤ k ∧ k ≤ c
theorem Bx.lst {H : Hp} {b : Addr} {c : Int} (h : Bx H b c) : ∃ xs, H b = some (.lst xs) := let ⟨_, _, _, e, _⟩ := h; ⟨_, e⟩
theorem Bx.same {H H' : Hp} {b : Addr} {c : Int} (h : Bx H b c) (k : Same H H') : Bx H' b c := let ⟨x, s, n, e, r⟩ := h; ⟨x, s, n, k _ _ e, r⟩
theorem Bx.le {H : Hp} {b : Addr} {c d : Int} (h : Bx H b c) (k : c ≤ d) : Bx H b d := let ⟨x, s, n, e, r1, r2, r3, r4, r5⟩ := h; ⟨x, s, n, e, r1, r2, r3, r4, by omega⟩
def spBox (K : PySem.W.Frag) : Sp := fun vs H Q _ => ∃ (a : Addr) (ns : List Int) (k : Nat), vs = [.ref a, .int (k : Int)] ∧ SqL K H a (ns.map V.int) ∧ k < 100 ∧
  ∀ b H', Same H H' → H b = none → Bx H' b 0 → Q (.ref b) H'
def spTake : Sp := fun vs H Q _ => ∃ (b : Addr) (n c : Int), vs = [.ref b, .int n] ∧ Bx H b c ∧ c < 1000000000000 ∧ 0 < n ∧ n < 1000000 ∧
  ∀ (r : Int) (H' : Hp), 0 ≤ r → r < n → Bx H' b (c + 1) → But b H H' → Q (.int r) H'
/-- _law_of(box, some): an item of the list -/
def spOf : Sp := fun vs H Q _ => ∃ (b l : Addr) (c : Int) (xs : List V), vs = [.ref b, .ref l] ∧ Bx H b c ∧ c < 1000000000000 ∧ H l = some (.lst xs) ∧ l ≠ b ∧ xs ≠ [] ∧ xs.length < 1000000 ∧
  ∀ (v : V) (H' : Hp), v ∈ xs → Bx H' b (c + 1) → But b H H' → Q v H'
end L2.My

namespace L2.My
open PySem PySem.Spec PyProof.Rows
theorem tIf_int {tc : TT} {ta tb : TE} {σ : St} {H : Hp} {Q : VK} (h : ∀ Q' : VK, (∀ z : Int, Q' (.int z) H) → tIf tc ta tb σ H Q') (k : ∀ z : Int, Q (.int z) H) : tIf tc ta tb σ H Q := h Q k
theorem int_at {ns : List Int} {k : Nat} (h : k < ns.length) : atI (ns.map V.int) (k : Int) = some (.int ns[k]) := atI_nat (by rw [List.getElem?_map, List.getElem?_eq_getElem h]; rfl)
theorem at0 {x : V} {xs : List V} : atI (x :: xs) 0 = some x := atI_nat (j := 0) rfl
theorem at1 {x y : V} {xs : List V} : atI (x :: y :: xs) 1 = some y := atI_nat (j := 1) rfl
theorem at2 {x y z : V} {xs : List V} : atI (x :: y :: z :: xs) 2 = some z := atI_nat (j := 2) rfl
theorem b01 : ∀ b : Bool, -(2 : Int) ^ 64 < (if b = true then 1 else 0) ∧ (if b = true then (1 : Int) else 0) < 2 ^ 64
  | true => by decide
  | false => by decide
theorem b01_nn (x : Int) (b : Bool) (h : 0 ≤ x) : 0 ≤ x * (if b = true then 1 else 0) := by
  cases b
  · simp
  · simpa using h
theorem abs_nn (z : Int) : 0 ≤ (if z < 0 then -z else z) := by split <;> omega
end L2.My
namespace L2.My
open PySem PySem.Spec PyProof.Rows
theorem at_int {xs : List V} {r : Int} (r0 : 0 ≤ r) (h : r.toNat < xs.length) : atI xs r = some xs[r.toNat] := at_of (by omega) (List.getElem?_eq_getElem h)
/-- texts in order -/
def sLt (x y : Str) : Bool := PySem.W.dataLt (.str x) (.str y)
theorem sLt_irr (x : Str) : sLt x x = false := (PyProof.Rows.listOrd PyProof.Rows.itemOrd).irrefl (PySem.W.keyToks (.str x))
theorem sLt_tr {x y z : Str} (a : sLt x y = true) (b : sLt y z = true) : sLt x z = true := (PyProof.Rows.listOrd PyProof.Rows.itemOrd).trans (PySem.W.keyToks (.str x)) (PySem.W.keyToks (.str y)) (PySem.W.keyToks (.str z)) a b
theorem sLt_tot {x y : Str} (a : sLt x y = false) (b : sLt y x = false) : x = y := by
  have q := (PyProof.Rows.listOrd PyProof.Rows.itemOrd).total (PySem.W.keyToks (.str x)) (PySem.W.keyToks (.str y)) a b
  simp only [PySem.W.keyToks, List.cons.injEq, Sum.inr.injEq, and_true] at q
  exact PySem.W.str_of_cps q
def Asc (ns : List Str) : Prop := ns.Pairwise fun x y => sLt x y = true
theorem asc_nodup {ns : List Str} (h : Asc ns) : ns.Nodup := h.imp fun {x y} q e => by rw [e, sLt_irr] at q; cases q
/-- a list of texts that is sorted has distinct items: they ascend -/
theorem asc_of {ns : List Str} (h : ns.Pairwise fun x y => sLt y x = false) (nd : ns.Nodup) : Asc ns := by
  refine List.Pairwise.imp_of_mem (R := fun x y => sLt y x = false ∧ x ≠ y) (fun {x y} _ _ q => ?_) (List.Pairwise.and h nd)
  cases e : sLt x y with
  | true => rfl
  | false => exact absurd (sLt_tot e q.1) q.2
def pool : List Str := ["a", "b", "c", "ab", "z", "m", "zz"]
theorem pool_nd : pool.Nodup := by decide +kernel
theorem er_perm {α : Type} : ∀ {l : List α} {k : Nat} {y : α}, l[k]? = some y → (y :: l.eraseIdx k).Perm l
  | [], _, _, h => by simp at h
  | a :: l, 0, y, h => by
    simp at h
    subst h
    exact .refl _
  | a :: l, k + 1, y, h => by
    have ih := er_perm (l := l) (k := k) (y := y) (by simpa using h)
    exact (List.Perm.swap a y _).trans (ih.cons a)
/-- _law_names(box, folk) -/
def spNames : Sp := fun vs H Q _ => ∃ (b : Addr) (n c : Int), vs = [.ref b, .int n] ∧ Bx H b c ∧ c < 900000000000 ∧ 0 ≤ n ∧ n ≤ 7 ∧
  ∀ (p : Addr) (H' : Hp) (ns : List Str), Bx H' b (c + n) → But b H H' → H p = none → H' p = some (.lst (ns.map V.str)) → (ns.length : Int) = n → Asc ns → (∀ x ∈ ns, x ∈ pool) → Q (.ref p) H'
theorem strs_dp {K : PySem.W.Frag} {H : Hp} (ns : List Str) : ∀ z ∈ ns.map (fun x => (V.str x, PyData.str x)), Dp K H z.1 z.2 := fun z hz => by
  obtain ⟨x, _, rfl⟩ := List.mem_map.mp hz
  exact .str x
theorem strs_alike (ns : List Str) : PySem.W.AllAlike ((ns.map (fun x => (V.str x, PyData.str x))).map (·.2)) := fun d hd d' hd' => by
  rw [List.map_map] at hd hd'
  obtain ⟨x, _, rfl⟩ := List.mem_map.mp hd
  obtain ⟨y, _, rfl⟩ := List.mem_map.mp hd'
  simp [PySem.W.alike]
theorem strs_sortable (ns : List Str) : PySem.W.Sortable ((ns.map (fun x => (V.str x, PyData.str x))).map (·.2)) := .inr fun d hd => by
  rw [List.map_map] at hd
  obtain ⟨x, _, rfl⟩ := List.mem_map.mp hd
  exact ⟨(fun e => by cases e), (fun xs e => by cases e)⟩
end L2.My
namespace L2.My
open PySem PySem.Spec PyProof.Rows
theorem seqIx {r : Int} {n : Nat} (r0 : 0 ≤ r) (h : r.toNat < n) : seqIndex? r n = some r.toNat := by
  unfold seqIndex?
  simp only [show ¬ r < 0 by omega, if_false]
  rw [if_pos (by simp; omega)]
end L2.My
namespace L2.My
theorem er_map {α β : Type} (f : α → β) : ∀ (l : List α) (k : Nat), (l.map f).eraseIdx k = (l.eraseIdx k).map f
  | [], _ => rfl
  | _ :: _, 0 => rfl
  | a :: l, k + 1 => by
    show f a :: (l.map f).eraseIdx k = f a :: (l.eraseIdx k).map f
    rw [er_map f l k]
end L2.My

namespace L2.My
open PySem PySem.Spec PyProof.Rows
/-- the kind of a datum -/
def knd : PyData → String
  | .none => "NoneType"
  | .bool _ => "bool"
  | .int _ => "int"
  | .str _ => "str"
  | .list _ => "list"
  | .tuple _ => "tuple"
  | .dict _ => "dict"
def isSeq : PyData → Bool
  | .list _ => true
  | .tuple _ => true
  | _ => false
theorem Rp.ty {K : PySem.W.Frag} {H : Hp} {v : V} {d : PyData} (h : Rp H v d) : TyX K H v (.type (knd d)) := by
  cases h with
  | non => exact .base .non
  | bl b => exact .base (.bl b)
  | int i => exact .base (.int i)
  | str x => exact .base (.str x)
  | lst e _ => exact .base (.lst e)
  | tup e _ => exact .base (.tup e)
def kAns (a b : String) : Option Bool := kitB a b
theorem kit2_no {K : PySem.W.Frag} {n : String} (h1 : kitB n "list" = some false) (h2 : kitB n "tuple" = some false) : PySem.W.kitAny K (.type n) [.type "list", .type "tuple"] = some false :=
  kitAny_cons (b := false) (kit_ty h1) (fun _ => kitAny_cons (b := false) (kit_ty h2) (fun _ => rfl) fun e => by cases e) fun e => by cases e
theorem kit_seq {K : PySem.W.Frag} {H : Hp} {v : V} {d : PyData} (h : Rp H v d) : PySem.W.kitAny K (.type (knd d)) [.type "list", .type "tuple"] = some (isSeq d) := by
  cases h with
  | non => exact kit2_no (n := "NoneType") (by decide +kernel) (by decide +kernel)
  | bl b => exact kit2_no (n := "bool") (by decide +kernel) (by decide +kernel)
  | int i => exact kit2_no (n := "int") (by decide +kernel) (by decide +kernel)
  | str x => exact kit2_no (n := "str") (by decide +kernel) (by decide +kernel)
  | lst e _ => exact kitAny_cons (K := K) (t := .type "list") (b := true) (kit_ty (by decide +kernel)) (fun e => by cases e) fun _ => rfl
  | tup e _ => exact kitAny_cons (K := K) (t := .type "tuple") (b := false) (kit_ty (by decide +kernel)) (fun _ => kitAny_cons (b := true) (kit_ty (by decide +kernel)) (fun e => by cases e) fun _ => rfl) fun e => by cases e
mutual
/-- lists for tuples' sake: each list a tuple, at every depth; and the other way round -/
def tupD : PyData → PyData
  | .list ds => .tuple (tupDs ds)
  | .tuple ds => .tuple (tupDs ds)
  | .none => .none
  | .bool b => .bool b
  | .int i => .int i
  | .str x => .str x
  | .dict k => .dict k
def tupDs : List PyData → List PyData
  | [] => []
  | d :: ds => tupD d :: tupDs ds
def lstD : PyData → PyData
  | .list ds => .list (lstDs ds)
  | .tuple ds => .list (lstDs ds)
  | .none => .none
  | .bool b => .bool b
  | .int i => .int i
  | .str x => .str x
  | .dict k => .dict k
def lstDs : List PyData → List PyData
  | [] => []
  | d :: ds => lstD d :: lstDs ds
/-- no list or tuple is long -/
def slim : PyData → Bool
  | .list ds => decide (ds.length ≤ 1000) && slims ds
  | .tuple ds => decide (ds.length ≤ 1000) && slims ds
  | .none => true
  | .bool _ => true
  | .int _ => true
  | .str _ => true
  | .dict _ => true
def slims : List PyData → Bool
  | [] => true
  | d :: ds => slim d && slims ds
end
theorem tupDs_map : ∀ ds : List PyData, tupDs ds = ds.map tupD
  | [] => rfl
  | d :: ds => by rw [tupDs, tupDs_map ds]; rfl
theorem lstDs_map : ∀ ds : List PyData, lstDs ds = ds.map lstD
  | [] => rfl
  | d :: ds => by rw [lstDs, lstDs_map ds]; rfl
theorem slims_mem : ∀ {ds : List PyData}, slims ds = true → ∀ d ∈ ds, slim d = true
  | d :: ds, h, e, he => by
    simp only [slims, Bool.and_eq_true] at h
    rcases List.mem_cons.mp he with z | z
    · rw [z]; exact h.1
    · exact slims_mem h.2 e z
theorem depth_mem : ∀ {ds : List PyData} {n : Nat}, PyData.depthAll ds ≤ n → ∀ d ∈ ds, d.depth ≤ n
  | d :: ds, n, h, e, he => by
    simp only [PyData.depthAll] at h
    rcases List.mem_cons.mp he with z | z
    · rw [z]; omega
    · exact depth_mem (by omega) e z
theorem atom_tp {H : Hp} {v : V} {d : PyData} (h : Rp H v d) (hs : isSeq d = false) : Tp H v (tupD d) ∧ lstD d = d := by
  cases h <;> first
    | exact ⟨.non, rfl⟩
    | exact ⟨.bl _, rfl⟩
    | exact ⟨.int _, rfl⟩
    | exact ⟨.str _, rfl⟩
    | cases hs
theorem seq_rp {K : PySem.W.Frag} {H : Hp} {v : V} {d : PyData} (h : Rp H v d) (hs : isSeq d = true) : ∃ (a : Addr) (xs : List V) (ds : List PyData), v = .ref a ∧ (H a = some (.lst xs) ∧ d = .list ds ∨ H a = some (.tup xs) ∧ d = .tuple ds) ∧ RpAll H xs ds := by
  cases h with
  | lst e t => exact ⟨_, _, _, rfl, .inl ⟨e, rfl⟩, t⟩
  | tup e t => exact ⟨_, _, _, rfl, .inr ⟨e, rfl⟩, t⟩
  | _ => cases hs
/-- what is walked: a list or a tuple -/
def iSeq (K : PySem.W.Frag) (tl : TE) : TI := fun σ H R => tl σ H fun x H1 => ∃ a, x = .ref a ∧ ((∃ xs, SqL K H1 a xs) ∧ R (Itl K a) H1 ∨ (∃ xs, SqT K H1 a xs) ∧ R (Itt K a) H1)
theorem pi_seq {X : Cx} {tg l : Expr} {tl : TE} (hl : PE X l tl) : PI X tg l (iSeq X.K tl) := by
  refine ⟨fun pins s σ H R I h => thn (hl.run pins s σ H _ I h) fun v s1 ⟨x, H1, I1, r1, a, ex, q1⟩ => ?_⟩
  subst ex
  cases r1
  have old : ∀ (u : Obj) b o, s1.heap.get? b = some o → (s1.heap.push u).get? b = some o := fun u b o e => Heap.get?_push_of_some _ e
  have fp : ∀ b ∈ [s1.heap.objs.size], FpOk X pins H1 b := fun b hb => by
    rw [List.mem_singleton.mp hb]
    exact I1.fpOk (Nat.le_refl _) (I1.hok.fresh (Nat.le_refl _))
  rcases q1 with ⟨⟨xs, hq⟩, q⟩ | ⟨⟨xs, hq⟩, q⟩
  · obtain ⟨its, rv, p, hz⟩ := I1.list hq
    refine wpAny_pyIter_list p.isList ?_
    exact ⟨_, _, _, _, H1, rfl, I1.kept (t' := s1.toks) (old _), turn_list a _, ⟨_, Heap.get?_push_size _ rfl, rfl, rfl⟩, fp, q⟩
  · obtain ⟨its, rv, p, hz⟩ := I1.tuple hq
    refine wpAny_pyIter_tuple (show s1.heap.IsTuple a its.toArray from p) ?_
    exact ⟨_, _, _, _, H1, rfl, I1.kept (t' := s1.toks) (old _), turn_tuple a _, ⟨_, Heap.get?_push_size _ rfl, rfl, rfl⟩, fp, q⟩
end L2.My

namespace L2.My
open PySem PySem.Spec PyProof.Rows
theorem kb_NoneType_bool : kitB "NoneType" "bool" = some false := by decide +kernel
theorem kb_bool_bool : kitB "bool" "bool" = some true := by decide +kernel
theorem kb_bool_str : kitB "bool" "str" = some false := by decide +kernel
theorem kb_int_bool : kitB "int" "bool" = some false := by decide +kernel
theorem kb_int_str : kitB "int" "str" = some false := by decide +kernel
theorem kb_int_int : kitB "int" "int" = some true := by decide +kernel
theorem kb_str_bool : kitB "str" "bool" = some false := by decide +kernel
theorem kb_str_str : kitB "str" "str" = some true := by decide +kernel
mutual
/-- the datum d at v: its lists are new since H0 -/
inductive Nw (H0 H : Hp) : V → PyData → Prop
  | non : Nw H0 H .non .none
  | bl (b : Bool) : Nw H0 H (.bl b) (.bool b)
  | int (i : Int) : Nw H0 H (.int i) (.int i)
  | str (x : Str) : Nw H0 H (.str x) (.str x)
  | lst {a : Addr} {xs : List V} {ds : List PyData} : H0 a = none → H a = some (.lst xs) → NwAll H0 H xs ds → Nw H0 H (.ref a) (.list ds)
  | tup {a : Addr} {xs : List V} {ds : List PyData} : H a = some (.tup xs) → NwAll H0 H xs ds → Nw H0 H (.ref a) (.tuple ds)
inductive NwAll (H0 H : Hp) : List V → List PyData → Prop
  | nil : NwAll H0 H [] []
  | cons {v : V} {vs : List V} {d : PyData} {ds : List PyData} : Nw H0 H v d → NwAll H0 H vs ds → NwAll H0 H (v :: vs) (d :: ds)
end
/-- what is new since H0 stays, and the tuples -/
def NK0 (H0 H H' : Hp) : Prop := (∀ a o, H0 a = none → H a = some o → H' a = some o) ∧ TK H H'
theorem NK0.same {H0 H H' : Hp} (k : Same H H') : NK0 H0 H H' := ⟨fun a o _ e => k a o e, .same k⟩
theorem NK0.upd {H0 H : Hp} {D : Addr} {o : HO} {xs : List V} (h : H0 D ≠ none) (hD : H D = some (.lst xs)) : NK0 H0 H (upd H D o) :=
  ⟨fun a u z e => by rw [upd_ne (fun q => h (by rw [← q]; exact z))]; exact e, tk_upd hD o⟩
mutual
theorem Nw.keep {H0 H H' : Hp} (k : NK0 H0 H H') : ∀ {v : V} {d : PyData}, Nw H0 H v d → Nw H0 H' v d
  | _, _, .non => .non
  | _, _, .bl b => .bl b
  | _, _, .int i => .int i
  | _, _, .str x => .str x
  | _, _, .lst z h t => .lst z (k.1 _ _ z h) (NwAll.keep k t)
  | _, _, .tup h t => .tup (k.2 _ _ h) (NwAll.keep k t)
theorem NwAll.keep {H0 H H' : Hp} (k : NK0 H0 H H') : ∀ {vs : List V} {ds : List PyData}, NwAll H0 H vs ds → NwAll H0 H' vs ds
  | _, _, .nil => .nil
  | _, _, .cons h t => .cons (Nw.keep k h) (NwAll.keep k t)
end
mutual
theorem Nw.base {H0 H1 H : Hp} (k : ∀ a, H1 a = none → H0 a = none) : ∀ {v : V} {d : PyData}, Nw H1 H v d → Nw H0 H v d
  | _, _, .non => .non
  | _, _, .bl b => .bl b
  | _, _, .int i => .int i
  | _, _, .str x => .str x
  | _, _, .lst z h t => .lst (k _ z) h (NwAll.base k t)
  | _, _, .tup h t => .tup h (NwAll.base k t)
theorem NwAll.base {H0 H1 H : Hp} (k : ∀ a, H1 a = none → H0 a = none) : ∀ {vs : List V} {ds : List PyData}, NwAll H1 H vs ds → NwAll H0 H vs ds
  | _, _, .nil => .nil
  | _, _, .cons h t => .cons (Nw.base k h) (NwAll.base k t)
end
mutual
theorem Nw.rp {H0 H : Hp} : ∀ {v : V} {d : PyData}, Nw H0 H v d → Rp H v d
  | _, _, .non => .non
  | _, _, .bl b => .bl b
  | _, _, .int i => .int i
  | _, _, .str x => .str x
  | _, _, .lst _ h t => .lst h (NwAll.rp t)
  | _, _, .tup h t => .tup h (NwAll.rp t)
theorem NwAll.rp {H0 H : Hp} : ∀ {vs : List V} {ds : List PyData}, NwAll H0 H vs ds → RpAll H vs ds
  | _, _, .nil => .nil
  | _, _, .cons h t => .cons (Nw.rp h) (NwAll.rp t)
end
mutual
theorem Tp.nw {H0 H : Hp} : ∀ {v : V} {d : PyData}, Tp H v d → Nw H0 H v d
  | _, _, .non => .non
  | _, _, .bl b => .bl b
  | _, _, .int i => .int i
  | _, _, .str x => .str x
  | _, _, .tup h t => .tup h (TpAll.nw t)
theorem TpAll.nw {H0 H : Hp} : ∀ {vs : List V} {ds : List PyData}, TpAll H vs ds → NwAll H0 H vs ds
  | _, _, .nil => .nil
  | _, _, .cons h t => .cons (Tp.nw h) (TpAll.nw t)
end
/-- list items by place -/
theorem tpAll_of {H : Hp} {f : PyData → PyData} : ∀ {ys : List V} {ds : List PyData}, ys.length = ds.length → (∀ (j : Nat) (y : V), ys[j]? = some y → ∃ d, ds[j]? = some d ∧ Tp H y (f d)) → TpAll H ys (ds.map f)
  | [], [], _, _ => .nil
  | y :: ys, d :: ds, hl, h => by
    obtain ⟨d', e, t⟩ := h 0 y rfl
    have e' : d = d' := Option.some.inj e
    subst e'
    exact .cons t (tpAll_of (Nat.succ.inj hl) fun j y hy => h (j + 1) y hy)
  | [], _ :: _, hl, _ => by cases hl
  | _ :: _, [], hl, _ => by cases hl
theorem nwAll_of {H0 H : Hp} {f : PyData → PyData} : ∀ {ys : List V} {ds : List PyData}, ys.length = ds.length → (∀ (j : Nat) (y : V), ys[j]? = some y → ∃ d, ds[j]? = some d ∧ Nw H0 H y (f d)) → NwAll H0 H ys (ds.map f)
  | [], [], _, _ => .nil
  | y :: ys, d :: ds, hl, h => by
    obtain ⟨d', e, t⟩ := h 0 y rfl
    have e' : d = d' := Option.some.inj e
    subst e'
    exact .cons t (nwAll_of (Nat.succ.inj hl) fun j y hy => h (j + 1) y hy)
  | [], _ :: _, hl, _ => by cases hl
  | _ :: _, [], hl, _ => by cases hl
section
variable {K : PySem.W.Frag} {a : Addr} {xs : List V} {i : Nat} {te : TE} {vs : List Nat} {σ : St} {H : Hp} {Qd : VK}
/-- [e for x in xs] that makes one item of each: what holds of the items so far -/
theorem lc_map {J : It} {D : Addr} {Qd : Hp → Prop} (nD : H D = none) (go : ∀ j H', Same H H' → j < xs.length → J.go j H') (stop : ∀ H', Same H H' → J.stop xs.length H') (yld : ∀ j x H1 H2, Same H H1 → J.yld j H1 x H2 → H2 = H1 ∧ (j < xs.length → xs[j]? = some x))
    (len : xs.length ≤ sizeLine) (R : Nat → V → Hp → Prop) (stS : ∀ j y H1 H2, Same H1 H2 → R j y H1 → R j y H2)
    (stD : ∀ j y H1 zs o, H1 D = some (.lst zs) → R j y H1 → R j y (upd H1 D o)) (hw : ∀ x : V, wipe ((wipe σ vs).set i (some x)) vs = wipe σ vs)
    (turn : ∀ j x H1 Q', xs[j]? = some x → Same H H1 → (∃ zs, H1 D = some (.lst zs)) → (∀ y H2, Same H1 H2 → R j y H2 → Q' y H2) → te ((wipe σ vs).set i (some x)) H1 Q')
    (done : ∀ H' ys, Same H H' → H' D = some (.lst ys) → ys.length = xs.length → (∀ (j : Nat) (y : V), ys[j]? = some y → R j y H') → Qd H') :
    ∃ W : Nat → Nat → Hp → Prop, (∃ m, W 0 m (upd H D (.lst []))) ∧ ∀ k m H', W k m H' → (J.stop k H' ∧ Qd H') ∨ (J.go k H' ∧ ∃ Nx : Hp → Prop, (∀ H', Nx H' → ∃ m', m' < m ∧ W (k + 1) m' H') ∧
      ∀ x H2, J.yld k H' x H2 → gName i x (wipe σ vs) H2 fun σ2 H2 => wipe σ2 vs = wipe σ vs ∧ tYes σ2 H2 fun b H3 => if b = true then te σ2 H3 fun y H4 => ∃ acc, H4 D = some (.lst acc) ∧ acc.length < sizeLine ∧ Nx (upd H4 D (.lst (acc ++ [y]))) else Nx H3) := by
  have same_of : ∀ {H1 : Hp}, (∀ b o, b ≠ D → H b = some o → H1 b = some o) → Same H H1 := fun k b o e => k b o (ne_of_none e nD) e
  refine ⟨fun k m H1 => k + m = xs.length ∧ (∀ b o, b ≠ D → H b = some o → H1 b = some o) ∧ ∃ acc, H1 D = some (.lst acc) ∧ acc.length = k ∧ ∀ (j : Nat) (y : V), acc[j]? = some y → R j y H1, ⟨xs.length, by omega, fun b o n e => by rw [upd_ne n]; exact e, [], upd_same, rfl, fun j y e => by simp at e⟩, ?_⟩
  rintro k m H1 ⟨km, old, acc, hD, la, hR⟩
  by_cases hk : k < xs.length
  · refine .inr ⟨go k H1 (same_of old) hk, fun H2 => (∀ b o, b ≠ D → H b = some o → H2 b = some o) ∧ ∃ acc, H2 D = some (.lst acc) ∧ acc.length = k + 1 ∧ ∀ (j : Nat) (y : V), acc[j]? = some y → R j y H2, fun H2 h2 => ⟨m - 1, by omega, by omega, h2.1, h2.2⟩, fun x H2 hy => ?_⟩
    obtain ⟨rfl, hx⟩ := yld k x H1 H2 (same_of old) hy
    have hx := hx hk
    refine ⟨hw x, ?_⟩
    show te ((wipe σ vs).set i (some x)) H2 _
    refine turn k x H2 _ hx (same_of old) ⟨acc, hD⟩ fun y H4 s4 r4 => ⟨acc, s4 _ _ hD, by rw [la]; exact Nat.lt_of_lt_of_le hk len, fun b o n e => by rw [upd_ne n]; exact s4 _ _ (old b o n e), acc ++ [y], upd_same, by rw [List.length_append, la]; rfl, fun j z e => ?_⟩
    have hD4 := s4 _ _ hD
    rcases Nat.lt_or_ge j acc.length with z1 | z1
    · rw [List.getElem?_append_left z1] at e
      exact stD j z H4 acc _ hD4 (stS j z H2 H4 s4 (hR j z e))
    · rw [List.getElem?_append_right z1] at e
      have j0 : j - acc.length = 0 := by
        rcases Nat.eq_zero_or_pos (j - acc.length) with q | q
        · exact q
        · rw [List.getElem?_eq_none (show [y].length ≤ _ from q)] at e
          cases e
      rw [j0] at e
      have ez : y = z := Option.some.inj e
      subst ez
      have ej : j = k := by omega
      subst ej
      exact stD j y H4 acc _ hD4 r4
  · refine .inl ⟨?_, done H1 acc (same_of old) hD (by omega) hR⟩
    have : k = xs.length := by omega
    rw [this]
    exact stop H1 (same_of old)
theorem lc_mapL {D : Addr} {Qd : Hp → Prop} (hx : H a = some (.lst xs)) (nD : H D = none)
    (len : xs.length ≤ sizeLine) (R : Nat → V → Hp → Prop) (stS : ∀ j y H1 H2, Same H1 H2 → R j y H1 → R j y H2)
    (stD : ∀ j y H1 zs o, H1 D = some (.lst zs) → R j y H1 → R j y (upd H1 D o)) (hw : ∀ x : V, wipe ((wipe σ vs).set i (some x)) vs = wipe σ vs)
    (turn : ∀ j x H1 Q', xs[j]? = some x → Same H H1 → (∃ zs, H1 D = some (.lst zs)) → (∀ y H2, Same H1 H2 → R j y H2 → Q' y H2) → te ((wipe σ vs).set i (some x)) H1 Q')
    (done : ∀ H' ys, Same H H' → H' D = some (.lst ys) → ys.length = xs.length → (∀ (j : Nat) (y : V), ys[j]? = some y → R j y H') → Qd H') :
    ∃ W : Nat → Nat → Hp → Prop, (∃ m, W 0 m (upd H D (.lst []))) ∧ ∀ k m H', W k m H' → ((Itl K a).stop k H' ∧ Qd H') ∨ ((Itl K a).go k H' ∧ ∃ Nx : Hp → Prop, (∀ H', Nx H' → ∃ m', m' < m ∧ W (k + 1) m' H') ∧
      ∀ x H2, (Itl K a).yld k H' x H2 → gName i x (wipe σ vs) H2 fun σ2 H2 => wipe σ2 vs = wipe σ vs ∧ tYes σ2 H2 fun b H3 => if b = true then te σ2 H3 fun y H4 => ∃ acc, H4 D = some (.lst acc) ∧ acc.length < sizeLine ∧ Nx (upd H4 D (.lst (acc ++ [y]))) else Nx H3) :=
  lc_map (J := Itl K a) nD (fun j H' s h => ⟨xs, xs[j], (.inl (.inl (s _ _ hx))), List.getElem?_eq_getElem h⟩) (fun H' s => ⟨xs, (.inl (.inl (s _ _ hx))), Nat.le_refl _⟩) (fun j x H1 H2 s y => ⟨y.1, fun _ => y.2 xs (.inl (.inl (s _ _ hx)))⟩) len R stS stD hw turn done
theorem lc_mapT {D : Addr} {Qd : Hp → Prop} (hx : H a = some (.tup xs)) (nD : H D = none)
    (len : xs.length ≤ sizeLine) (R : Nat → V → Hp → Prop) (stS : ∀ j y H1 H2, Same H1 H2 → R j y H1 → R j y H2)
    (stD : ∀ j y H1 zs o, H1 D = some (.lst zs) → R j y H1 → R j y (upd H1 D o)) (hw : ∀ x : V, wipe ((wipe σ vs).set i (some x)) vs = wipe σ vs)
    (turn : ∀ j x H1 Q', xs[j]? = some x → Same H H1 → (∃ zs, H1 D = some (.lst zs)) → (∀ y H2, Same H1 H2 → R j y H2 → Q' y H2) → te ((wipe σ vs).set i (some x)) H1 Q')
    (done : ∀ H' ys, Same H H' → H' D = some (.lst ys) → ys.length = xs.length → (∀ (j : Nat) (y : V), ys[j]? = some y → R j y H') → Qd H') :
    ∃ W : Nat → Nat → Hp → Prop, (∃ m, W 0 m (upd H D (.lst []))) ∧ ∀ k m H', W k m H' → ((Itt K a).stop k H' ∧ Qd H') ∨ ((Itt K a).go k H' ∧ ∃ Nx : Hp → Prop, (∀ H', Nx H' → ∃ m', m' < m ∧ W (k + 1) m' H') ∧
      ∀ x H2, (Itt K a).yld k H' x H2 → gName i x (wipe σ vs) H2 fun σ2 H2 => wipe σ2 vs = wipe σ vs ∧ tYes σ2 H2 fun b H3 => if b = true then te σ2 H3 fun y H4 => ∃ acc, H4 D = some (.lst acc) ∧ acc.length < sizeLine ∧ Nx (upd H4 D (.lst (acc ++ [y]))) else Nx H3) :=
  lc_map (J := Itt K a) nD (fun j H' s h => ⟨xs, xs[j], (.inl (.inl (s _ _ hx))), List.getElem?_eq_getElem h⟩) (fun H' s => ⟨xs, (.inl (.inl (s _ _ hx))), Nat.le_refl _⟩) (fun j x H1 H2 s y => ⟨y.1, fun _ => y.2 xs (.inl (.inl (s _ _ hx)))⟩) len R stS stD hw turn done
/-- [e for x, y in zip(xs, ys)] that makes True of each pair -/
theorem lc_zipT {J : It} {D : Addr} {i1 i2 : Nat} {ys : List V} {Qd : Hp → Prop} (nD : H D = none) (go : ∀ j H', Same H H' → j < xs.length → J.go j H') (stop : ∀ H', Same H H' → J.stop xs.length H')
    (yld : ∀ j v H1 H2, Same H H1 → J.yld j H1 v H2 → ∃ T x y, v = V.ref T ∧ H1 T = none ∧ H2 = upd H1 T (.tup [x, y]) ∧ (j < xs.length → xs[j]? = some x ∧ ys[j]? = some y))
    (len : xs.length ≤ sizeLine) (hw : ∀ x y : V, wipe (((wipe σ vs).set i1 (some x)).set i2 (some y)) vs = wipe σ vs)
    (turn : ∀ (j : Nat) (x y : V) H1 Q', xs[j]? = some x → ys[j]? = some y → Same H H1 → (∀ H2, Same H1 H2 → Q' (V.bl true) H2) → te (((wipe σ vs).set i1 (some x)).set i2 (some y)) H1 Q')
    (done : ∀ H', Same H H' → H' D = some (.lst (List.replicate xs.length (.bl true))) → Qd H') :
    ∃ W : Nat → Nat → Hp → Prop, (∃ m, W 0 m (upd H D (.lst []))) ∧ ∀ k m H', W k m H' → (J.stop k H' ∧ Qd H') ∨ (J.go k H' ∧ ∃ Nx : Hp → Prop, (∀ H', Nx H' → ∃ m', m' < m ∧ W (k + 1) m' H') ∧
      ∀ x H2, J.yld k H' x H2 → gTup K 2 (gCons (gName i1) (gCons (gName i2) gNil)) x (wipe σ vs) H2 fun σ2 H2 => wipe σ2 vs = wipe σ vs ∧ tYes σ2 H2 fun b H3 => if b = true then te σ2 H3 fun y H4 => ∃ acc, H4 D = some (.lst acc) ∧ acc.length < sizeLine ∧ Nx (upd H4 D (.lst (acc ++ [y]))) else Nx H3) := by
  have same_of : ∀ {H1 : Hp}, (∀ b o, b ≠ D → H b = some o → H1 b = some o) → Same H H1 := fun k b o e => k b o (ne_of_none e nD) e
  refine ⟨fun k m H1 => k + m = xs.length ∧ (∀ b o, b ≠ D → H b = some o → H1 b = some o) ∧ H1 D = some (.lst (List.replicate k (.bl true))), ⟨xs.length, by omega, fun b o n e => by rw [upd_ne n]; exact e, upd_same⟩, ?_⟩
  rintro k m H1 ⟨km, old, hD⟩
  by_cases hk : k < xs.length
  · refine .inr ⟨go k H1 (same_of old) hk, fun H2 => (∀ b o, b ≠ D → H b = some o → H2 b = some o) ∧ H2 D = some (.lst (List.replicate (k + 1) (.bl true))), fun H2 h2 => ⟨m - 1, by omega, by omega, h2.1, h2.2⟩, fun v H2 hy => ?_⟩
    obtain ⟨T, x, y, rfl, nT, rfl, hx⟩ := yld k v H1 H2 (same_of old) hy
    obtain ⟨hx, hy⟩ := hx hk
    have sT := same_new nT (.tup [x, y])
    refine ⟨T, [x, y], rfl, .inl (.inl upd_same), rfl, x, [y], rfl, y, [], rfl, rfl, hw x y, ?_⟩
    show te (((wipe σ vs).set i1 (some x)).set i2 (some y)) (upd H1 T (.tup [x, y])) _
    refine turn k x y _ _ hx hy ((same_of old).trans sT) fun H4 s4 => ⟨_, s4 _ _ (sT _ _ hD), by rw [List.length_replicate]; exact Nat.lt_of_lt_of_le hk len, fun b o n e => by rw [upd_ne n]; exact s4 _ _ (sT _ _ (old b o n e)), ?_⟩
    rw [upd_same, List.replicate_succ']
  · have : k = xs.length := by omega
    subst this
    exact .inl ⟨stop H1 (same_of old), done H1 (same_of old) hD⟩
end
end L2.My

namespace L2.My
open PySem PySem.Spec PyProof.Rows
open HQ (Ev evD)
/-! ### rules whose readings speak of what is tracked alone -/
section
variable {X : Cx}
def rLenH : List V → Hp → VK → Prop := fun xs H Q => ∃ p ys, xs = [.ref p] ∧ (H p = some (.lst ys) ∨ H p = some (.tup ys)) ∧ Q (.int ((ys.length : Nat) : Int)) H
theorem lenH : CallR X (.builtin "len") rLenH := fun pins s σ H xs us Q I r ⟨p, ys, e, h, q⟩ =>
  call_len_seq pins s σ H xs us Q I r ⟨p, ys, e, h.imp (fun z => .inl (.inl z)) (fun z => .inl (.inl z)), q⟩
def rIxH : R2 := fun x y H Q => ∃ p xs i v, x = .ref p ∧ y = .int i ∧ H p = some (.lst xs) ∧ atI xs i = some v ∧ Q v H
def rIxTH : R2 := fun x y H Q => ∃ p xs i v, x = .ref p ∧ y = .int i ∧ H p = some (.tup xs) ∧ atI xs i = some v ∧ Q v H
theorem ixL : IxR X rIxH := fun value slice pins s σ H x y v u Q I rx ry ⟨p, xs, i, z, e1, e2, h, e3, q⟩ hs => ix_list value slice pins s σ H x y v u Q I rx ry ⟨p, xs, i, z, e1, e2, .inl (.inl h), e3, q⟩ hs
theorem ixT : IxR X rIxTH := fun value slice pins s σ H x y v u Q I rx ry ⟨p, xs, i, z, e1, e2, h, e3, q⟩ hs => ix_tup value slice pins s σ H x y v u Q I rx ry ⟨p, xs, i, z, e1, e2, .inl (.inl h), e3, q⟩ hs
def rTupH : List V → Hp → VK → Prop := fun xs H Q => ∃ p ys, xs = [.ref p] ∧ H p = some (.lst ys) ∧ ∀ l, H l = none → Q (.ref l) (upd H l (.tup ys))
theorem tupH : CallR X (.type "tuple") rTupH := fun pins s σ H xs us Q I r ⟨p, ys, e, h, q⟩ => call_tuple_of pins s σ H xs us Q I r ⟨p, ys, e, .inl ⟨.inl (.inl h), q⟩⟩
def rListH : List V → Hp → VK → Prop := fun xs H Q => ∃ p ys, xs = [.ref p] ∧ (H p = some (.lst ys) ∨ H p = some (.tup ys)) ∧ ∀ l, H l = none → Q (.ref l) (upd H l (.lst ys))
theorem listH : CallR X (.type "list") rListH := fun pins s σ H xs us Q I r ⟨p, ys, e, h, q⟩ =>
  call_list_of pins s σ H xs us Q I r ⟨p, ys, e, h.imp (fun z => .inl (.inl z)) (fun z => .inl (.inl z)), q⟩
def rAllH : List V → Hp → VK → Prop := fun vs H Q => ∃ (a : Addr) (bs : List Bool), vs = [V.ref a] ∧ H a = some (.lst (bs.map V.bl)) ∧ Q (.bl (bs.all id)) H
theorem allH (hc : X.calm = true) : CallR X (.builtin "all") rAllH := fun pins s σ H xs us Q I r ⟨p, ys, e, h, q⟩ => cr_all hc pins s σ H xs us Q I r ⟨p, ys, e, .inl (.inl h), q⟩
def rEqH : R2 := fun x y H Q => ∃ d e, Rp H x d ∧ Rp H y e ∧ SeqAt.shaped d = true ∧ SeqAt.shaped e = true ∧ Q (.bl (PyData.eqv d e)) H
def rNeH : R2 := fun x y H Q => ∃ d e, Rp H x d ∧ Rp H y e ∧ SeqAt.shaped d = true ∧ SeqAt.shaped e = true ∧ Q (.bl (!PyData.eqv d e)) H
theorem eqH (hu : X.A.units + 64 < cLine) : OpR X (compareOp .Eq) rEqH := fun pins s σ H x y v u Q I rx ry ⟨d, e, h1, h2, h3, h4, q⟩ => op_eqD hu pins s σ H x y v u Q I rx ry ⟨d, e, h1.dp, h2.dp, h3, h4, q⟩
theorem neH (hu : X.A.units + 64 < cLine) : OpR X (compareOp .NotEq) rNeH := fun pins s σ H x y v u Q I rx ry ⟨d, e, h1, h2, h3, h4, q⟩ => op_neD hu pins s σ H x y v u Q I rx ry ⟨d, e, h1.dp, h2.dp, h3, h4, q⟩
def rInH : R2 := fun x y H Q => ∃ d ds, Rp H x d ∧ Rp H y (.list ds) ∧ SeqAt.shaped d = true ∧ SeqAt.shaped (.list ds) = true ∧ Q (.bl (ds.any fun z => PyData.eqv z d)) H
def rNotInH : R2 := fun x y H Q => ∃ d ds, Rp H x d ∧ Rp H y (.list ds) ∧ SeqAt.shaped d = true ∧ SeqAt.shaped (.list ds) = true ∧ Q (.bl (!ds.any fun z => PyData.eqv z d)) H
theorem inH (hu : X.A.units + 65 < cLine) : OpR X (compareOp .In) rInH := fun pins s σ H x y v u Q I rx ry ⟨d, e, h1, h2, h3, h4, q⟩ => op_inD hu pins s σ H x y v u Q I rx ry ⟨d, e, h1.dp, h2.dp, h3, h4, q⟩
theorem notInH (hu : X.A.units + 65 < cLine) : OpR X (compareOp .NotIn) rNotInH := fun pins s σ H x y v u Q I rx ry ⟨d, e, h1, h2, h3, h4, q⟩ => op_notInD hu pins s σ H x y v u Q I rx ry ⟨d, e, h1.dp, h2.dp, h3, h4, q⟩
def rSlH : V → Option Int → Option Int → Hp → VK → Prop := fun x lo hi H Q => ∃ a xs, x = .ref a ∧ H a = some (.lst xs) ∧ ∀ p, H p = none → Q (.ref p) (upd H p (.lst (cutV xs lo hi)))
theorem slH : SlR X rSlH := fun pins s σ H x v vl vu lo hi sl Q I rx hs r1 r2 ⟨a, xs, e, h, q⟩ => sl_list pins s σ H x v vl vu lo hi sl Q I rx hs r1 r2 ⟨a, xs, e, .inl (.inl h), q⟩
def rIsiH : List V → Hp → VK → Prop := fun xs H Q => ∃ (x : V) (c : String) (d : PyData) (b : Bool), xs = [x, .ty c] ∧ Rp H x d ∧ kitB (knd d) c = some b ∧ Q (.bl b) H
theorem isiH : CallR X (.builtin "isinstance") rIsiH := fun pins s σ H xs us Q I r ⟨x, c, d, b, e, h, k, q⟩ => call_isi pins s σ H xs us Q I r ⟨x, .ty c, _, _, b, e, .ty c, h.ty, kit_ty k, q⟩
def rIsiTH : List V → Hp → VK → Prop := fun xs H Q => ∃ (x : V) (tp : Addr) (c1 c2 : String) (d : PyData) (b1 b2 : Bool), xs = [x, .ref tp] ∧ H tp = some (.tup [.ty c1, .ty c2]) ∧ Rp H x d ∧ kitB (knd d) c1 = some b1 ∧ kitB (knd d) c2 = some b2 ∧ Q (.bl (b1 || b2)) H
theorem isiTH : CallR X (.builtin "isinstance") rIsiTH := fun pins s σ H xs us Q I r ⟨x, tp, c1, c2, d, b1, b2, e, ht, h, k1, k2, q⟩ => by
  refine call_isiT pins s σ H xs us Q I r ⟨x, tp, _, _, [.type c1, .type c2], b1 || b2, e, ht, .cons (.ty _) (.cons (.ty _) .nil), h.ty, ?_, q⟩
  cases b1 with
  | true => exact kitAny_cons (kit_ty k1) (fun z => by cases z) fun _ => rfl
  | false => exact kitAny_cons (kit_ty k1) (fun _ => kitAny_cons (b := b2) (kit_ty k2) (fun z => by rw [z]; rfl) fun z => by rw [z]; rfl) fun z => by cases z
def rSortH : List V → Hp → VK → Prop := fun vs H Q => ∃ (a : Addr) (zs : List (V × PyData)), vs = [.ref a] ∧ H a = some (.lst (zs.map (·.1))) ∧ (∀ z ∈ zs, Rp H z.1 z.2) ∧ PySem.W.AllAlike (zs.map (·.2)) ∧ PySem.W.Sortable (zs.map (·.2)) ∧ zs.length ≤ sizeLine ∧ (∀ z ∈ zs, z.2.depth ≤ 20) ∧
  ∀ (zs' : List (V × PyData)) (p : Addr), zs'.Perm zs → zs'.Pairwise leD → H p = none → Q (.ref p) (upd H p (.lst (zs'.map (·.1))))
theorem sortH (hu : X.A.units + 64 < cLine) : CallR X (.builtin "sorted") rSortH := fun pins s σ H vs us Q I r ⟨a, zs, e, h, hz, h1, h2, h3, h4, q⟩ =>
  cr_sortD hu pins s σ H vs us Q I r ⟨a, zs, e, .inl (.inl h), fun z hm => (hz z hm).dp, h1, h2, h3, h4, q⟩
def rSetH (w : World) : List V → Hp → VK → Prop := fun xs H Q => ∃ (l : Addr) (ks : NL), xs = [V.ref l] ∧ H l = some (.lst (ks.map fun p => V.ref p.1)) ∧ (∀ p ∈ ks, NK H (.ref p.1) p.2 ∧ p.2.depth ≤ 8) ∧ ks.length < 64 ∧
  ∀ a L, H a = none → (∀ p ∈ L, p ∈ ks) → (∀ p ∈ ks, p.2 ∈ L.map (·.2)) → (L.map (·.2)).Nodup → Q (.ref a) (upd H a (NSO w a L))
theorem setH {w : World} (hw : X.w = w) (hc : X.calm = true) (hu : X.A.units + 64 < cLine) : CallR X (.type "set") (rSetH w) := fun pins s σ H vs us Q I r ⟨a, zs, e, h, hz, h1, q⟩ => by
  subst hw
  exact cr_setN hc hu pins s σ H vs us Q I r ⟨a, zs, e, .inl (.inl h), hz, h1, q⟩
theorem sortSetH {w : World} (hw : X.w = w) (hc : X.calm = true) (hu : X.A.units + 64 < cLine) : CallR X (.builtin "sorted") (rSortedN w) := by
  subst hw
  exact cr_sortedN hc hu
def rDictH : List V → Hp → VK → Prop := fun xs H Q => ∃ (a : Addr) (ps : List Addr) (kvs : List (Key × V)), xs = [.ref a] ∧ H a = some (.lst (ps.map V.ref)) ∧ Paired (fun p (kv : Key × V) => H p = some (.tup [kV kv.1, kv.2])) ps kvs ∧ kvs.length ≤ 1000 ∧ ∀ p, H p = none → Q (.ref p) (upd H p (.dK (mergeK [] kvs)))
theorem dictH (hc : X.calm = true) : CallR X (.type "dict") rDictH := fun pins s σ H xs us Q I r ⟨a, ps, kvs, e, h, hp, _, q⟩ =>
  call_dictP hc pins s σ H xs us Q I r ⟨a, ps, kvs, e, .inl (.inl h), Paired.mapP hp fun _ _ z => .inl (.inl z), q⟩
theorem pi_listK {K : PySem.W.Frag} {tg l : Expr} {tl : TE} (hK : X.K = K) (hl : PE X l tl) : PI X tg l (iList K tl) := by subst hK; exact pi_list hl
theorem pi_tupK {K : PySem.W.Frag} {tg l : Expr} {tl : TE} (hK : X.K = K) (hl : PE X l tl) : PI X tg l (iTup K tl) := by subst hK; exact pi_tup hl
theorem pi_seqK {K : PySem.W.Frag} {tg l : Expr} {tl : TE} (hK : X.K = K) (hl : PE X l tl) : PI X tg l (iSeq K tl) := by subst hK; exact pi_seq hl
end
/-! ### places within a def's text -/
def bodyAt (s : Stmt) (i : Nat) : Stmt := (defBody s).getD i (.Pass ⟨0, 0, 0, 0⟩)
def asgVal : Stmt → Expr
  | .Assign _ v _ => v
  | .Return (some v) _ => v
  | .Expr v _ => v
  | _ => .Constant .none 0 ⟨0, 0, 0, 0⟩
def lcScope : Expr → Scope
  | .ListComp _ _ sc _ => sc
  | .DictComp _ _ _ sc _ => sc
  | _ => { kind := .function, names := [], isGenerator := false, isCoroutine := false }
end L2.My

namespace L2.My
open PySem PySem.Spec PyProof.Rows
open HQ (Ev evD)
/-! ### logs: the mathematics of drawn ones -/
def cnt (n : Str) (l : List Ev) : Nat := (l.filter fun e => decide (e.1 = n)).length
theorem cnt_snoc (n : Str) (l : List Ev) (e : Ev) : cnt n (l ++ [e]) = cnt n l + if e.1 = n then 1 else 0 := by
  unfold cnt
  rw [List.filter_append, List.length_append]
  by_cases h : e.1 = n
  · simp [h]
  · simp [h]
theorem cnt_le (n : Str) (l : List Ev) : cnt n l ≤ l.length := List.length_filter_le _ _
/-- events as they come, each the next one of its machine -/
inductive Told (names : List Str) : List Ev → Prop
  | nil : Told names []
  | snoc {te : List Ev} {n : Str} : Told names te → n ∈ names → Told names (te ++ [(n, (cnt n te : Int))])
theorem Told.mem {names : List Str} {te : List Ev} (h : Told names te) : ∀ (n : Str) (i : Int), (n, i) ∈ te ↔ 0 ≤ i ∧ i < (cnt n te : Int) := by
  induction h with
  | nil =>
    intro n i
    constructor
    · intro z
      cases z
    · rintro ⟨a, b⟩
      have : (cnt n [] : Int) = 0 := rfl
      omega
  | @snoc te m _ _ ih =>
    intro n i
    rw [List.mem_append, ih n i, cnt_snoc, List.mem_singleton]
    by_cases e : m = n
    · subst e
      rw [if_pos rfl]
      constructor
      · rintro (⟨a, b⟩ | z)
        · exact ⟨a, by omega⟩
        · cases z; exact ⟨by omega, by omega⟩
      · rintro ⟨a, b⟩
        by_cases c : i < (cnt m te : Int)
        · exact .inl ⟨a, c⟩
        · exact .inr (by rw [show i = (cnt m te : Int) by omega])
    · rw [if_neg e]
      constructor
      · rintro (⟨a, b⟩ | z)
        · exact ⟨a, by omega⟩
        · cases z; exact absurd rfl e
      · rintro ⟨a, b⟩
        exact .inl ⟨a, by omega⟩
theorem Told.names {names : List Str} {te : List Ev} (h : Told names te) : ∀ e ∈ te, e.1 ∈ names := by
  induction h with
  | nil => intro e he; cases he
  | snoc _ hn ih =>
    intro e he
    rcases List.mem_append.mp he with z | z
    · exact ih e z
    · rw [List.mem_singleton.mp z]; exact hn
theorem Told.nodup {names : List Str} {te : List Ev} (h : Told names te) : te.Nodup := by
  induction h with
  | nil => exact List.nodup_nil
  | @snoc te n h _ ih =>
    refine nd_snoc ih fun z => ?_
    have := ((h.mem n _).mp z).2
    omega
theorem idx_left {te : List Ev} {x e : Ev} (h : e ∈ te) : (te ++ [x]).idxOf e = te.idxOf e := by rw [List.idxOf_append, if_pos h]
theorem idx_right {te : List Ev} {x : Ev} (h : x ∉ te) : (te ++ [x]).idxOf x = te.length := by
  rw [List.idxOf_append, if_neg h]
  simp
theorem Told.rank {names : List Str} {te : List Ev} (h : Told names te) : ∀ (n : Str) (i : Int), 0 ≤ i → (n, i + 1) ∈ te → te.idxOf (n, i) < te.idxOf (n, i + 1) := by
  induction h with
  | nil => intro n i _ z; cases z
  | @snoc te m h _ ih =>
    intro n i i0 z
    by_cases c : (n, i + 1) ∈ te
    · have c2 : (n, i) ∈ te := (h.mem n i).mpr ⟨i0, by have := ((h.mem n _).mp c).2; omega⟩
      rw [idx_left c, idx_left c2]
      exact ih n i i0 c
    · have e : (n, i + 1) = (m, (cnt m te : Int)) := by
        rcases List.mem_append.mp z with q | q
        · exact absurd q c
        · exact List.mem_singleton.mp q
      have c2 : (n, i) ∈ te := by
        obtain ⟨e1, e2⟩ := Prod.mk.inj e
        subst e1
        exact (h.mem n i).mpr ⟨i0, by omega⟩
      have nx : (m, (cnt m te : Int)) ∉ te := e ▸ c
      rw [e, idx_left c2, idx_right nx]
      exact List.idxOf_lt_length_of_mem c2
/-- a message: it comes to a later event of another machine -/
def LtOk (te : List Ev) (l : Ev × Ev) : Prop := l.1 ∈ te ∧ l.2 ∈ te ∧ te.idxOf l.1 < te.idxOf l.2 ∧ l.1.1 ≠ l.2.1
theorem LtOk.snoc {te : List Ev} {l : Ev × Ev} {x : Ev} (h : LtOk te l) : LtOk (te ++ [x]) l :=
  ⟨List.mem_append_left _ h.1, List.mem_append_left _ h.2.1, by rw [idx_left h.1, idx_left h.2.1]; exact h.2.2.1, h.2.2.2⟩
theorem LtOk.new {te : List Ev} {a x : Ev} (ha : a ∈ te) (hx : x ∉ te) (hn : a.1 ≠ x.1) : LtOk (te ++ [x]) (a, x) :=
  ⟨List.mem_append_left _ ha, List.mem_append_right _ (List.mem_singleton.mpr rfl), by
    show (te ++ [x]).idxOf a < (te ++ [x]).idxOf x
    rw [idx_left ha, idx_right hx]
    exact List.idxOf_lt_length_of_mem ha, hn⟩
/-! ### a log, as data -/
structure Lg where
  ms : List (Str × Nat × List Int)
  ls : List (Ev × Ev)
def encM (m : Str × Nat × List Int) : PyData := .tuple [.str m.1, .int m.2.1, .tuple (m.2.2.map .int)]
def encL (l : Ev × Ev) : PyData := .tuple [evD l.1, evD l.2]
def encLog (L : Lg) : PyData := .tuple [.tuple (L.ms.map encM), .tuple (L.ls.map encL)]
def evsM (m : Str × Nat × List Int) : List Ev := (List.range m.2.1).map fun (i : Nat) => (m.1, (i : Int))
def evs (L : Lg) : List Ev := L.ms.flatMap evsM
def mkd (L : Lg) : List Ev := L.ms.flatMap fun m => m.2.2.map fun i => (m.1, i)
structure Good (L : Lg) : Prop where
  asc : Asc (L.ms.map (·.1))
  mks : ∀ m ∈ L.ms, m.2.2.Pairwise (· < ·) ∧ ∀ i ∈ m.2.2, 0 ≤ i ∧ i < (m.2.1 : Int)
  ends : ∀ l ∈ L.ls, l.1 ∈ evs L ∧ l.2 ∈ evs L ∧ l.1.1 ≠ l.2.1
  rnk : ∃ r : Ev → Nat, (∀ l ∈ L.ls, r l.1 < r l.2) ∧ ∀ (n : Str) (i : Int), 0 ≤ i → (n, i + 1) ∈ evs L → r (n, i) < r (n, i + 1)
  lsp : L.ls.Pairwise fun x y => PySem.W.dataLt (encL y) (encL x) = false
  lsn : L.ls.Nodup
  txt : ∀ m ∈ L.ms, PyData.strOk m.1 = true
  few : (evs L).length ≤ 16 ∧ L.ls.length ≤ 16 ∧ L.ms.length ≤ 5
theorem mem_evs {L : Lg} {n : Str} {i : Int} : (n, i) ∈ evs L ↔ ∃ k mk, (n, k, mk) ∈ L.ms ∧ 0 ≤ i ∧ i < (k : Int) := by
  unfold evs
  rw [List.mem_flatMap]
  constructor
  · rintro ⟨⟨m, k, mk⟩, hm, he⟩
    obtain ⟨j, hj, e⟩ := List.mem_map.mp he
    cases e
    have hj : j < k := List.mem_range.mp hj
    exact ⟨k, mk, hm, by omega, by omega⟩
  · rintro ⟨k, mk, hm, i0, ik⟩
    refine ⟨_, hm, List.mem_map.mpr ⟨i.toNat, List.mem_range.mpr (by show i.toNat < k; omega), ?_⟩⟩
    show (n, ((i.toNat : Nat) : Int)) = (n, i)
    rw [show ((i.toNat : Nat) : Int) = i by omega]
/-- the machines that a drawn log gets -/
def msOf (names : List Str) (te : List Ev) (mk : List Ev) : List (Str × Nat × List Int) := names.map fun n => (n, cnt n te, (mk.filter fun e => decide (e.1 = n)).map (·.2))
theorem mem_evsOf {names : List Str} {te mk : List Ev} {ls : List (Ev × Ev)} (h : Told names te) (e : Ev) : e ∈ evs ⟨msOf names te mk, ls⟩ ↔ e ∈ te := by
  obtain ⟨n, i⟩ := e
  rw [mem_evs]
  constructor
  · rintro ⟨k, m, hm, i0, ik⟩
    obtain ⟨n', hn, e⟩ := List.mem_map.mp hm
    cases e
    exact (h.mem n i).mpr ⟨i0, ik⟩
  · intro z
    obtain ⟨a, b⟩ := (h.mem n i).mp z
    exact ⟨_, _, List.mem_map.mpr ⟨n, h.names _ z, rfl⟩, a, b⟩
theorem evs_nodup {L : Lg} (h : Asc (L.ms.map (·.1))) : (evs L).Nodup := by
  unfold evs
  refine List.pairwise_flatMap.mpr ⟨fun m _ => ?_, ?_⟩
  · unfold evsM
    refine List.Pairwise.map _ (fun a b ne e => ?_) List.nodup_range
    have := (Prod.mk.inj e).2
    exact ne (by omega)
  · have := List.pairwise_map.mp h
    refine this.imp fun {a b} hab => ?_
    intro x hx y hy exy
    subst exy
    obtain ⟨i, _, e1⟩ := List.mem_map.mp hx
    obtain ⟨j, _, e2⟩ := List.mem_map.mp hy
    have : a.1 = b.1 := by rw [← e1] at e2; exact ((Prod.mk.inj e2).1).symm
    rw [this, sLt_irr] at hab
    cases hab
theorem evs_len {names : List Str} {te mk : List Ev} {ls : List (Ev × Ev)} (h : Told names te) (ha : Asc names) : (evs ⟨msOf names te mk, ls⟩).length = te.length := by
  have nd : (evs ⟨msOf names te mk, ls⟩).Nodup := evs_nodup (by
    show Asc ((msOf names te mk).map (·.1))
    unfold msOf
    rw [List.map_map]
    have : ((fun (x : Str × Nat × List Int) => x.1) ∘ fun n => (n, cnt n te, (mk.filter fun e => decide (e.1 = n)).map (·.2))) = id := by funext n; rfl
    rw [this, List.map_id]
    exact ha)
  exact ((List.perm_ext_iff_of_nodup nd h.nodup).mpr fun e => mem_evsOf h e).length_eq
/-- ascending by place of a sorted list of events -/
theorem good_of {names : List Str} {te mk : List Ev} {ls : List (Ev × Ev)} (ha : Asc names) (h : Told names te) (hm : mk.Pairwise HQ.le) (hmn : mk.Nodup) (hms : ∀ e ∈ mk, e ∈ te) (hl : ∀ l ∈ ls, LtOk te l)
    (lsp : ls.Pairwise fun x y => PySem.W.dataLt (encL y) (encL x) = false) (lsn : ls.Nodup) (f1 : te.length ≤ 16) (f2 : ls.length ≤ 16) (f3 : names.length ≤ 5) (hx : ∀ n ∈ names, PyData.strOk n = true) : Good ⟨msOf names te mk, ls⟩ := by
  have nm : (msOf names te mk).map (·.1) = names := by
    unfold msOf
    rw [List.map_map]
    exact map_self fun n _ => rfl
  refine ⟨by show Asc ((msOf names te mk).map (·.1)); rw [nm]; exact ha, fun m hmm => ?_, fun l hl' => ?_, ⟨fun e => te.idxOf e, fun l hl' => (hl l hl').2.2.1, fun n i i0 z => h.rank n i i0 ((mem_evsOf h _).mp z)⟩, lsp, lsn, fun m hmm => by obtain ⟨n, hn, rfl⟩ := List.mem_map.mp hmm; exact hx n hn, by rw [evs_len h ha]; exact f1, f2, by show (msOf names te mk).length ≤ 5; unfold msOf; rw [List.length_map]; exact f3⟩
  · obtain ⟨n, hn, rfl⟩ := List.mem_map.mp hmm
    refine ⟨?_, fun i hi => ?_⟩
    · refine List.pairwise_map.mpr ?_
      have pw : (mk.filter fun e => decide (e.1 = n)).Pairwise fun x y => HQ.le x y ∧ x ≠ y := (List.Pairwise.and hm hmn).filter _
      refine List.Pairwise.imp_of_mem (fun {x y} hx hy q => ?_) pw
      have ex : x.1 = n := by simpa using (List.mem_filter.mp hx).2
      have ey : y.1 = n := by simpa using (List.mem_filter.mp hy).2
      have d := q.1
      unfold HQ.le HQ.ltB HQ.evD at d
      rw [ex, ey, PySem.W.dataLt_pair (by simp [PySem.W.alike]) (by simp [PySem.W.alike]), if_pos (PySem.W.eqv_refl_alike _ (by simp [PySem.W.alike])), PySem.W.dataLt_int] at d
      have ne : x.2 ≠ y.2 := fun z => q.2 (Prod.ext (ex.trans ey.symm) z)
      split at d
      · rename_i z
        have : y.2 = x.2 := by simpa [PyData.eqv] using z
        exact absurd this.symm ne
      · have := of_decide_eq_false d
        omega
    · obtain ⟨e, he, rfl⟩ := List.mem_map.mp hi
      obtain ⟨h1, h2⟩ := List.mem_filter.mp he
      have en : e.1 = n := by simpa using h2
      have := (h.mem e.1 e.2).mp (hms e h1)
      rw [en] at this
      exact this
  · have := hl l hl'
    exact ⟨(mem_evsOf h _).mpr this.1, (mem_evsOf h _).mpr this.2.1, this.2.2.2⟩
end L2.My

namespace L2.My
open PySem PySem.Spec PyProof.Rows
open HQ (Ev evD)
/-! ### dicts over a list of names -/
def nd (names : List Str) (f : Str → Int) : List (Key × V) := names.map fun n => (Sum.inr n, V.int (f n))
theorem nd_val {names : List Str} {f : Str → Int} {m : Str} (h : m ∈ names) : valV (nd names f) (Sum.inr m) = some (.int (f m)) := by
  unfold valV nd
  induction names with
  | nil => cases h
  | cons n r ih =>
    rw [List.map_cons, List.find?_cons]
    by_cases e : n = m
    · subst e
      simp
    · have : decide ((Sum.inr n : Key) = Sum.inr m) = false := decide_eq_false fun z => e (Sum.inr.inj z)
      simp only [this]
      rcases List.mem_cons.mp h with z | z
      · exact absurd z.symm e
      · exact ih z
theorem nd_put {names : List Str} {f : Str → Int} {m : Str} {z : Int} (h : m ∈ names) : putK (nd names f) (Sum.inr m) (.int z) = nd names fun n => if n = m then z else f n := by
  unfold putK
  have q : ((nd names f).any fun kv => decide (kv.1 = (Sum.inr m : Key))) = true := by
    rw [List.any_eq_true]
    exact ⟨_, List.mem_map.mpr ⟨m, h, rfl⟩, by simp⟩
  rw [if_pos q]
  unfold nd
  rw [List.map_map]
  refine List.map_congr_left fun n _ => ?_
  by_cases e : n = m
  · subst e
    simp
  · have e' : ¬ (Sum.inr n : Key) = Sum.inr m := fun z => e (Sum.inr.inj z)
    simp [e]
theorem merge_nd : ∀ (l acc : List (Key × V)), ((acc ++ l).map (·.1)).Nodup → mergeK acc l = acc ++ l
  | [], acc, _ => by rw [List.append_nil]; rfl
  | kv :: l, acc, h => by
    have h' : (acc.map (·.1) ++ (kv.1 :: l.map (·.1))).Nodup := by simpa using h
    have nk : kv.1 ∉ acc.map (·.1) := fun z => (List.nodup_append.mp h').2.2 _ z _ List.mem_cons_self rfl
    have vn : valV acc kv.1 = none := by
      cases e : valV acc kv.1 with
      | none => rfl
      | some v => exact absurd (valV_in e) nk
    show mergeK (putK acc kv.1 kv.2) l = acc ++ kv :: l
    rw [putK_new _ vn, merge_nd l (acc ++ [(kv.1, kv.2)]) (by simpa using h), List.append_assoc]
    rfl
theorem nd_keys (names : List Str) (f : Str → Int) (h : names.Nodup) : ((nd names f).map (·.1)).Nodup := by
  unfold nd
  rw [List.map_map]
  exact List.Pairwise.map _ (fun a b ne e => ne (Sum.inr.inj e)) h
theorem prs_named {H : Hp} : ∀ {ys : List V} {names : List Str}, ys.length = names.length → (∀ (j : Nat) (y : V), ys[j]? = some y → ∃ a nm, y = V.ref a ∧ names[j]? = some nm ∧ H a = some (.tup [.str nm, .int 0])) →
    ∃ ps : List Addr, ys = ps.map V.ref ∧ Paired (fun p (kv : Key × V) => H p = some (.tup [kV kv.1, kv.2])) ps (nd names fun _ => 0)
  | [], [], _, _ => ⟨[], rfl, .nil⟩
  | y :: ys, n :: ns, hl, h => by
    obtain ⟨a, nm, e1, e2, e3⟩ := h 0 y rfl
    have e2 : n = nm := Option.some.inj e2
    subst e2
    obtain ⟨ps, e4, pp⟩ := prs_named (Nat.succ.inj hl) fun j y hy => h (j + 1) y hy
    exact ⟨a :: ps, by rw [e1, e4]; rfl, .cons e3 pp⟩
  | [], _ :: _, hl, _ => by cases hl
  | _ :: _, [], hl, _ => by cases hl
/-! ### the state of a log that is drawn -/
abbrev ZE := List (Addr × Ev)
abbrev ZL := List (Addr × (Addr × Ev) × (Addr × Ev))
structure LS (H0 H : Hp) (b pN pM pL pT pS : Addr) (names : List Str) (te tx : List Ev) (zm zt : ZE) (zl : ZL) : Prop where
  hN : H pN = some (.lst (names.map V.str))
  hM : H pM = some (.lst (zm.map fun z => V.ref z.1))
  hL : H pL = some (.lst (zl.map fun z => V.ref z.1))
  hT : H pT = some (.lst (zt.map fun z => V.ref z.1))
  hS : H pS = some (.dK (nd names fun n => (cnt n te : Int)))
  et : zt.map (·.2) = te
  rM : ∀ z ∈ zm, EvR H z
  rT : ∀ z ∈ zt, EvR H z
  rL : ∀ z ∈ zl, H z.1 = some (.tup [.ref z.2.1.1, .ref z.2.2.1]) ∧ EvR H z.2.1 ∧ EvR H z.2.2
  told : Told names te
  mkI : ∀ z ∈ zm, z.2 ∈ te
  mkn : (zm.map (·.2)).Nodup
  lt : ∀ z ∈ zl, LtOk tx (z.2.1.2, z.2.2.2)
  old : ∀ a o, a ≠ b → H0 a = some o → H a = some o
structure Ds (b pN pM pL pT pS : Addr) (H0 : Hp) : Prop where
  nd : [b, pN, pM, pL, pT, pS].Nodup
  nw : ∀ a ∈ [pN, pM, pL, pT, pS], H0 a = none
section
variable {H0 H H' : Hp} {b pN pM pL pT pS : Addr} {names : List Str} {te tx : List Ev} {zm zt : ZE} {zl : ZL}
theorem EvR.keep {z : Addr × Ev} (h : EvR H z) (k : TK H H') : EvR H' z := k _ _ h
theorem LS.lift (h : LS H0 H b pN pM pL pT pS names te tx zm zt zl) (k : TK H H') (kN : H' pN = H pN) (kM : H' pM = H pM) (kL : H' pL = H pL) (kT : H' pT = H pT) (kS : H' pS = H pS) (ko : ∀ a o, a ≠ b → H0 a = some o → H' a = some o) :
    LS H0 H' b pN pM pL pT pS names te tx zm zt zl :=
  ⟨kN.trans h.hN, kM.trans h.hM, kL.trans h.hL, kT.trans h.hT, kS.trans h.hS, h.et, fun z hz => (h.rM z hz).keep k, fun z hz => (h.rT z hz).keep k, fun z hz => ⟨k _ _ (h.rL z hz).1, (h.rL z hz).2.1.keep k, (h.rL z hz).2.2.keep k⟩, h.told, h.mkI, h.mkn, h.lt, ko⟩
theorem LS.but {xs : List V} (D : Ds b pN pM pL pT pS H0) (hb : H b = some (.lst xs)) (h : LS H0 H b pN pM pL pT pS names te tx zm zt zl) (k : But b H H') : LS H0 H' b pN pM pL pT pS names te tx zm zt zl := by
  have nd := D.nd
  simp only [List.nodup_cons, List.mem_cons, List.not_mem_nil, or_false, not_or] at nd
  obtain ⟨⟨n1, n2, n3, n4, n5⟩, _⟩ := nd
  refine h.lift (k.tk hb) ?_ ?_ ?_ ?_ ?_ fun a o ne e => k a o ne (h.old a o ne e)
  · rw [h.hN]; exact k _ _ (Ne.symm n1) h.hN
  · rw [h.hM]; exact k _ _ (Ne.symm n2) h.hM
  · rw [h.hL]; exact k _ _ (Ne.symm n3) h.hL
  · rw [h.hT]; exact k _ _ (Ne.symm n4) h.hT
  · rw [h.hS]; exact k _ _ (Ne.symm n5) h.hS
theorem LS.same (h : LS H0 H b pN pM pL pT pS names te tx zm zt zl) (k : Same H H') : LS H0 H' b pN pM pL pT pS names te tx zm zt zl :=
  h.lift (.same k) ((k _ _ h.hN).trans h.hN.symm) ((k _ _ h.hM).trans h.hM.symm) ((k _ _ h.hL).trans h.hL.symm) ((k _ _ h.hT).trans h.hT.symm) ((k _ _ h.hS).trans h.hS.symm) fun a o ne e => k a o (h.old a o ne e)
/-- a letter more -/
theorem LS.letter (D : Ds b pN pM pL pT pS H0) (h : LS H0 H b pN pM pL pT pS names te tx zm zt zl) {x : Addr × (Addr × Ev) × (Addr × Ev)} (hx : H x.1 = some (.tup [.ref x.2.1.1, .ref x.2.2.1])) (h1 : EvR H x.2.1) (h2 : EvR H x.2.2) (hl : LtOk tx (x.2.1.2, x.2.2.2)) :
    LS H0 (upd H pL (.lst ((zl ++ [x]).map fun z => V.ref z.1))) b pN pM pL pT pS names te tx zm zt (zl ++ [x]) := by
  have nd := D.nd
  simp only [List.nodup_cons, List.mem_cons, List.not_mem_nil, or_false, not_or] at nd
  obtain ⟨⟨n1, n2, n3, n4, n5⟩, ⟨m1, m2, m3, m4⟩, ⟨k1, k2, k3⟩, ⟨j1, j2⟩, _⟩ := nd
  have k := tk_upd h.hL (.lst ((zl ++ [x]).map fun z => V.ref z.1))
  refine ⟨by rw [upd_ne m2]; exact h.hN, by rw [upd_ne k1]; exact h.hM, upd_same, by rw [upd_ne (Ne.symm j1)]; exact h.hT, by rw [upd_ne (Ne.symm j2)]; exact h.hS, h.et, fun z hz => (h.rM z hz).keep k, fun z hz => (h.rT z hz).keep k, fun z hz => ?_, h.told, h.mkI, h.mkn, fun z hz => ?_, fun a o ne e => ?_⟩
  · rcases List.mem_append.mp hz with z1 | z1
    · exact ⟨k _ _ (h.rL z z1).1, (h.rL z z1).2.1.keep k, (h.rL z z1).2.2.keep k⟩
    · rw [List.mem_singleton.mp z1]
      exact ⟨k _ _ hx, h1.keep k, h2.keep k⟩
  · rcases List.mem_append.mp hz with z1 | z1
    · exact h.lt z z1
    · rw [List.mem_singleton.mp z1]
      exact hl
  · rw [upd_ne (ne_of_none e (D.nw pL (by simp)))]
    exact h.old a o ne e
/-- the event e is told; maybe marked before -/
theorem LS.tell {x : Addr} {n : Str} (D : Ds b pN pM pL pT pS H0) (h : LS H0 H b pN pM pL pT pS names te (te ++ [(n, (cnt n te : Int))]) zm zt zl) (hn : n ∈ names) (hx : EvR H (x, (n, (cnt n te : Int)))) :
    LS H0 (upd (upd H pT (.lst ((zt ++ [(x, (n, (cnt n te : Int)))]).map fun z => V.ref z.1))) pS (.dK (nd names fun m => (cnt m (te ++ [(n, (cnt n te : Int))]) : Int)))) b pN pM pL pT pS names (te ++ [(n, (cnt n te : Int))]) (te ++ [(n, (cnt n te : Int))]) zm (zt ++ [(x, (n, (cnt n te : Int)))]) zl := by
  have nd' := D.nd
  simp only [List.nodup_cons, List.mem_cons, List.not_mem_nil, or_false, not_or] at nd'
  obtain ⟨⟨n1, n2, n3, n4, n5⟩, ⟨m1, m2, m3, m4⟩, ⟨k1, k2, k3⟩, ⟨j1, j2⟩, i1, _⟩ := nd'
  have k1' := tk_upd h.hT (.lst ((zt ++ [(x, (n, (cnt n te : Int)))]).map fun z => V.ref z.1))
  have k : TK H (upd (upd H pT (.lst ((zt ++ [(x, (n, (cnt n te : Int)))]).map fun z => V.ref z.1))) pS (.dK (nd names fun m => (cnt m (te ++ [(n, (cnt n te : Int))]) : Int)))) := fun a xs e => by
    rw [upd_ne (ne_of e h.hS (by intro z; cases z))]
    exact k1' a xs e
  refine ⟨by rw [upd_ne m4, upd_ne m3]; exact h.hN, by rw [upd_ne k3, upd_ne k2]; exact h.hM, by rw [upd_ne j2, upd_ne j1]; exact h.hL, by rw [upd_ne i1, upd_same], upd_same, by rw [List.map_append, h.et]; rfl, fun z hz => (h.rM z hz).keep k, fun z hz => ?_,
    fun z hz => ⟨k _ _ (h.rL z hz).1, (h.rL z hz).2.1.keep k, (h.rL z hz).2.2.keep k⟩, .snoc h.told hn, fun z hz => List.mem_append_left _ (h.mkI z hz), h.mkn, h.lt, fun a o ne e => ?_⟩
  · rcases List.mem_append.mp hz with z1 | z1
    · exact (h.rT z z1).keep k
    · rw [List.mem_singleton.mp z1]
      exact hx.keep k
  · rw [upd_ne (ne_of_none e (D.nw pS (by simp))), upd_ne (ne_of_none e (D.nw pT (by simp)))]
    exact h.old a o ne e
/-- letters to the event that comes next -/
theorem LS.ahead {e : Ev} (h : LS H0 H b pN pM pL pT pS names te te zm zt zl) : LS H0 H b pN pM pL pT pS names te (te ++ [e]) zm zt zl :=
  ⟨h.hN, h.hM, h.hL, h.hT, h.hS, h.et, h.rM, h.rT, h.rL, h.told, h.mkI, h.mkn, fun z hz => (h.lt z hz).snoc, h.old⟩
end
end L2.My

namespace L2.My
open PySem PySem.Spec PyProof.Rows
open HQ (Ev evD)
section
variable {K : PySem.W.Frag} {a : Addr} {xs : List V} {i : Nat} {te : TE} {tt : TT} {vs : List Nat} {σ : St} {H : Hp} {Qd : VK}
/-- [f x for x in xs if p x], of values alone: the test may make new things -/
theorem lc_filt {J : It} {D : Addr} {Qd : Hp → Prop} (nD : H D = none) (go : ∀ j H', Same H H' → j < xs.length → J.go j H') (stop : ∀ H', Same H H' → J.stop xs.length H') (yld : ∀ j x H1 H2, Same H H1 → J.yld j H1 x H2 → H2 = H1 ∧ (j < xs.length → xs[j]? = some x))
    (len : xs.length ≤ sizeLine) (p : V → Bool) (f : V → V) (hw : ∀ x : V, wipe ((wipe σ vs).set i (some x)) vs = wipe σ vs)
    (tst : ∀ x H1 (Q' : Bool → Hp → Prop), x ∈ xs → Same H H1 → (∀ H2, Same H1 H2 → Q' (p x) H2) → tt ((wipe σ vs).set i (some x)) H1 Q')
    (turn : ∀ x H1 Q', x ∈ xs → p x = true → Same H H1 → (∀ H2, Same H1 H2 → Q' (f x) H2) → te ((wipe σ vs).set i (some x)) H1 Q')
    (done : ∀ H', Same H H' → H' D = some (.lst ((xs.filter p).map f)) → Qd H') :
    ∃ W : Nat → Nat → Hp → Prop, (∃ m, W 0 m (upd H D (.lst []))) ∧ ∀ k m H', W k m H' → (J.stop k H' ∧ Qd H') ∨ (J.go k H' ∧ ∃ Nx : Hp → Prop, (∀ H', Nx H' → ∃ m', m' < m ∧ W (k + 1) m' H') ∧
      ∀ x H2, J.yld k H' x H2 → gName i x (wipe σ vs) H2 fun σ2 H2 => wipe σ2 vs = wipe σ vs ∧ tt σ2 H2 fun b H3 => if b = true then te σ2 H3 fun y H4 => ∃ acc, H4 D = some (.lst acc) ∧ acc.length < sizeLine ∧ Nx (upd H4 D (.lst (acc ++ [y]))) else Nx H3) := by
  have same_of : ∀ {H1 : Hp}, (∀ b o, b ≠ D → H b = some o → H1 b = some o) → Same H H1 := fun k b o e => k b o (ne_of_none e nD) e
  refine ⟨fun k m H1 => k + m = xs.length ∧ (∀ b o, b ≠ D → H b = some o → H1 b = some o) ∧ H1 D = some (.lst (((xs.take k).filter p).map f)), ⟨xs.length, by omega, fun b o n e => by rw [upd_ne n]; exact e, upd_same⟩, ?_⟩
  rintro k m H1 ⟨km, old, hD⟩
  by_cases hk : k < xs.length
  · refine .inr ⟨go k H1 (same_of old) hk, fun H2 => (∀ b o, b ≠ D → H b = some o → H2 b = some o) ∧ H2 D = some (.lst (((xs.take (k + 1)).filter p).map f)), fun H2 h2 => ⟨m - 1, by omega, by omega, h2.1, h2.2⟩, fun x H2 hy => ?_⟩
    obtain ⟨rfl, hx⟩ := yld k x H1 H2 (same_of old) hy
    have hx := hx hk
    have tk : xs.take (k + 1) = xs.take k ++ [x] := by rw [List.take_succ, hx]; rfl
    refine ⟨hw x, ?_⟩
    show tt ((wipe σ vs).set i (some x)) H2 _
    refine tst x H2 _ (List.mem_of_getElem? hx) (same_of old) fun H3 s3 => ?_
    cases hp : p x with
    | false =>
      refine iteF ⟨fun b o n e => s3 _ _ (old b o n e), ?_⟩
      rw [tk, List.filter_append, List.filter_cons, hp, if_neg (by decide), List.filter_nil, List.append_nil]
      exact s3 _ _ hD
    | true =>
      refine iteT (turn x H3 _ (List.mem_of_getElem? hx) hp ((same_of old).trans s3) fun H4 s4 => ⟨_, s4 _ _ (s3 _ _ hD), ?_, fun b o n e => by rw [upd_ne n]; exact s4 _ _ (s3 _ _ (old b o n e)), ?_⟩)
      · rw [List.length_map]
        refine Nat.lt_of_le_of_lt (List.length_filter_le _ _) ?_
        rw [List.length_take]
        exact Nat.lt_of_le_of_lt (Nat.min_le_left _ _) (Nat.lt_of_lt_of_le hk len)
      · rw [tk, List.filter_append, List.filter_cons, hp, if_pos rfl, List.filter_nil, List.map_append, upd_same]
        rfl
  · have : k = xs.length := by omega
    subst this
    rw [List.take_length] at hD
    exact .inl ⟨stop H1 (same_of old), done H1 (same_of old) hD⟩
theorem lc_filtL {D : Addr} {Qd : Hp → Prop} (hx : H a = some (.lst xs)) (nD : H D = none)
    (len : xs.length ≤ sizeLine) (p : V → Bool) (f : V → V) (hw : ∀ x : V, wipe ((wipe σ vs).set i (some x)) vs = wipe σ vs)
    (tst : ∀ x H1 (Q' : Bool → Hp → Prop), x ∈ xs → Same H H1 → (∀ H2, Same H1 H2 → Q' (p x) H2) → tt ((wipe σ vs).set i (some x)) H1 Q')
    (turn : ∀ x H1 Q', x ∈ xs → p x = true → Same H H1 → (∀ H2, Same H1 H2 → Q' (f x) H2) → te ((wipe σ vs).set i (some x)) H1 Q')
    (done : ∀ H', Same H H' → H' D = some (.lst ((xs.filter p).map f)) → Qd H') :
    ∃ W : Nat → Nat → Hp → Prop, (∃ m, W 0 m (upd H D (.lst []))) ∧ ∀ k m H', W k m H' → ((Itl K a).stop k H' ∧ Qd H') ∨ ((Itl K a).go k H' ∧ ∃ Nx : Hp → Prop, (∀ H', Nx H' → ∃ m', m' < m ∧ W (k + 1) m' H') ∧
      ∀ x H2, (Itl K a).yld k H' x H2 → gName i x (wipe σ vs) H2 fun σ2 H2 => wipe σ2 vs = wipe σ vs ∧ tt σ2 H2 fun b H3 => if b = true then te σ2 H3 fun y H4 => ∃ acc, H4 D = some (.lst acc) ∧ acc.length < sizeLine ∧ Nx (upd H4 D (.lst (acc ++ [y]))) else Nx H3) :=
  lc_filt (J := Itl K a) nD (fun j H' s h => ⟨xs, xs[j], (.inl (.inl (s _ _ hx))), List.getElem?_eq_getElem h⟩) (fun H' s => ⟨xs, (.inl (.inl (s _ _ hx))), Nat.le_refl _⟩) (fun j x H1 H2 s y => ⟨y.1, fun _ => y.2 xs (.inl (.inl (s _ _ hx)))⟩) len p f hw tst turn done
theorem lc_filtT {D : Addr} {Qd : Hp → Prop} (hx : H a = some (.tup xs)) (nD : H D = none)
    (len : xs.length ≤ sizeLine) (p : V → Bool) (f : V → V) (hw : ∀ x : V, wipe ((wipe σ vs).set i (some x)) vs = wipe σ vs)
    (tst : ∀ x H1 (Q' : Bool → Hp → Prop), x ∈ xs → Same H H1 → (∀ H2, Same H1 H2 → Q' (p x) H2) → tt ((wipe σ vs).set i (some x)) H1 Q')
    (turn : ∀ x H1 Q', x ∈ xs → p x = true → Same H H1 → (∀ H2, Same H1 H2 → Q' (f x) H2) → te ((wipe σ vs).set i (some x)) H1 Q')
    (done : ∀ H', Same H H' → H' D = some (.lst ((xs.filter p).map f)) → Qd H') :
    ∃ W : Nat → Nat → Hp → Prop, (∃ m, W 0 m (upd H D (.lst []))) ∧ ∀ k m H', W k m H' → ((Itt K a).stop k H' ∧ Qd H') ∨ ((Itt K a).go k H' ∧ ∃ Nx : Hp → Prop, (∀ H', Nx H' → ∃ m', m' < m ∧ W (k + 1) m' H') ∧
      ∀ x H2, (Itt K a).yld k H' x H2 → gName i x (wipe σ vs) H2 fun σ2 H2 => wipe σ2 vs = wipe σ vs ∧ tt σ2 H2 fun b H3 => if b = true then te σ2 H3 fun y H4 => ∃ acc, H4 D = some (.lst acc) ∧ acc.length < sizeLine ∧ Nx (upd H4 D (.lst (acc ++ [y]))) else Nx H3) :=
  lc_filt (J := Itt K a) nD (fun j H' s h => ⟨xs, xs[j], (.inl (.inl (s _ _ hx))), List.getElem?_eq_getElem h⟩) (fun H' s => ⟨xs, (.inl (.inl (s _ _ hx))), Nat.le_refl _⟩) (fun j x H1 H2 s y => ⟨y.1, fun _ => y.2 xs (.inl (.inl (s _ _ hx)))⟩) len p f hw tst turn done
end
/-! ### filters over tracked events -/
theorem filt_refs (q : Ev → Bool) (p : V → Bool) : ∀ {zs : List (Addr × Ev)}, (∀ z ∈ zs, p (.ref z.1) = q z.2) → (zs.map fun z => V.ref z.1).filter p = (zs.filter fun z => q z.2).map fun z => V.ref z.1
  | [], _ => rfl
  | z :: zs, h => by
    rw [List.map_cons, List.filter_cons, List.filter_cons, h z List.mem_cons_self]
    have ih := filt_refs q p (zs := zs) fun y hy => h y (List.mem_cons_of_mem _ hy)
    cases q z.2 with
    | true => rw [if_pos rfl, if_pos rfl, List.map_cons, ih]
    | false => rw [if_neg (by decide), if_neg (by decide), ih]
/-! ### marks -/
section
variable {H0 H H' : Hp} {b pN pM pL pT pS : Addr} {names : List Str} {te tx : List Ev} {zm zt : ZE} {zl : ZL}
/-- the event that is told next is marked: one does it before it is told -/
theorem LS.tellM {x : Addr} {n : Str} (D : Ds b pN pM pL pT pS H0) (h : LS H0 H b pN pM pL pT pS names te (te ++ [(n, (cnt n te : Int))]) zm zt zl) (hn : n ∈ names) (hx : EvR H (x, (n, (cnt n te : Int)))) :
    LS H0 (upd (upd (upd H pM (.lst ((zm ++ [(x, (n, (cnt n te : Int)))]).map fun z => V.ref z.1))) pT (.lst ((zt ++ [(x, (n, (cnt n te : Int)))]).map fun z => V.ref z.1))) pS (.dK (nd names fun m => (cnt m (te ++ [(n, (cnt n te : Int))]) : Int)))) b pN pM pL pT pS names (te ++ [(n, (cnt n te : Int))]) (te ++ [(n, (cnt n te : Int))]) (zm ++ [(x, (n, (cnt n te : Int)))]) (zt ++ [(x, (n, (cnt n te : Int)))]) zl := by
  have nd' := D.nd
  simp only [List.nodup_cons, List.mem_cons, List.not_mem_nil, or_false, not_or] at nd'
  obtain ⟨⟨n1, n2, n3, n4, n5⟩, ⟨m1, m2, m3, m4⟩, ⟨k1, k2, k3⟩, ⟨j1, j2⟩, i1, _⟩ := nd'
  have nx : (n, (cnt n te : Int)) ∉ te := fun z => by
    have := ((h.told.mem n _).mp z).2
    omega
  have t := h.tell D hn hx
  have hm : (upd (upd H pT (.lst ((zt ++ [(x, (n, (cnt n te : Int)))]).map fun z => V.ref z.1))) pS (.dK (nd names fun m => (cnt m (te ++ [(n, (cnt n te : Int))]) : Int)))) pM = some (.lst (zm.map fun z => V.ref z.1)) := t.hM
  have hE : upd (upd (upd H pM (.lst ((zm ++ [(x, (n, (cnt n te : Int)))]).map fun z => V.ref z.1))) pT (.lst ((zt ++ [(x, (n, (cnt n te : Int)))]).map fun z => V.ref z.1))) pS (.dK (nd names fun m => (cnt m (te ++ [(n, (cnt n te : Int))]) : Int))) =
      upd (upd (upd H pT (.lst ((zt ++ [(x, (n, (cnt n te : Int)))]).map fun z => V.ref z.1))) pS (.dK (nd names fun m => (cnt m (te ++ [(n, (cnt n te : Int))]) : Int)))) pM (.lst ((zm ++ [(x, (n, (cnt n te : Int)))]).map fun z => V.ref z.1)) := by
    funext q
    by_cases q1 : q = pM
    · rw [q1, upd_same, upd_ne k3, upd_ne k2, upd_same]
    · rw [upd_ne q1]
      by_cases q2 : q = pS
      · rw [q2, upd_same, upd_same]
      · rw [upd_ne q2, upd_ne q2]
        by_cases q3 : q = pT
        · rw [q3, upd_same, upd_same]
        · rw [upd_ne q3, upd_ne q3, upd_ne q1]
  rw [hE]
  have k := tk_upd hm (.lst ((zm ++ [(x, (n, (cnt n te : Int)))]).map fun z => V.ref z.1))
  have hx' : EvR (upd (upd H pT (.lst ((zt ++ [(x, (n, (cnt n te : Int)))]).map fun z => V.ref z.1))) pS (.dK (nd names fun m => (cnt m (te ++ [(n, (cnt n te : Int))]) : Int)))) (x, (n, (cnt n te : Int))) := t.rT _ (List.mem_append_right _ (List.mem_singleton.mpr rfl))
  refine ⟨by rw [upd_ne m1]; exact t.hN, upd_same, by rw [upd_ne (Ne.symm k1)]; exact t.hL, by rw [upd_ne (Ne.symm k2)]; exact t.hT, by rw [upd_ne (Ne.symm k3)]; exact t.hS, t.et, fun z hz => ?_, fun z hz => (t.rT z hz).keep k,
    fun z hz => ⟨k _ _ (t.rL z hz).1, (t.rL z hz).2.1.keep k, (t.rL z hz).2.2.keep k⟩, t.told, fun z hz => ?_, ?_, t.lt, fun a o ne e => ?_⟩
  · rcases List.mem_append.mp hz with z1 | z1
    · exact (t.rM z z1).keep k
    · rw [List.mem_singleton.mp z1]
      exact hx'.keep k
  · rcases List.mem_append.mp hz with z1 | z1
    · exact t.mkI z z1
    · rw [List.mem_singleton.mp z1]
      exact List.mem_append_right _ (List.mem_singleton.mpr rfl)
  · rw [List.map_append]
    refine nd_snoc h.mkn fun z => nx ?_
    obtain ⟨y, hy, e⟩ := List.mem_map.mp z
    have := h.mkI y hy
    rw [e] at this
    exact this
  · rw [upd_ne (ne_of_none e (D.nw pM (by simp)))]
    exact t.old a o ne e
end
/-! ### letters as keys of a set -/
def evK (e : Ev) : NestedKey := .tup [.text e.1, .num e.2]
def kL (l : Ev × Ev) : NestedKey := .tup [evK l.1, evK l.2]
theorem kL_data (l : Ev × Ev) : (kL l).data = encL l := by simp [kL, evK, encL, evD, NestedKey.data, NestedKey.datas]
theorem kL_depth (l : Ev × Ev) : (kL l).depth ≤ 8 := by simp [kL, evK, NestedKey.depth, NestedKey.depthAll]
theorem encL_depth (l : Ev × Ev) : (encL l).depth ≤ 8 := by simp [encL, evD, PyData.depth, PyData.depthAll]
theorem kL_inj {l m : Ev × Ev} (h : kL l = kL m) : l = m := by
  obtain ⟨⟨a, b⟩, c, d⟩ := l
  obtain ⟨⟨a', b'⟩, c', d'⟩ := m
  simp only [kL, evK, NestedKey.tup.injEq, List.cons.injEq, NestedKey.text.injEq, NestedKey.num.injEq, and_true] at h
  obtain ⟨⟨rfl, rfl⟩, rfl, rfl⟩ := h
  rfl
theorem evK_nk {H : Hp} {z : Addr × Ev} (h : EvR H z) : NK H (.ref z.1) (evK z.2) := .tup h (.cons (.text _) (.cons (.num _) .nil))
theorem encL_alike (l m : Ev × Ev) : PySem.W.alike (encL l) (encL m) = true := by simp [encL, evD, PySem.W.alike, PySem.W.alikeAll]
theorem ev_tp {H : Hp} {z : Addr × Ev} (h : EvR H z) : Tp H (.ref z.1) (evD z.2) := .tup h (.cons (.str _) (.cons (.int _) .nil))
/-- the event that stands at a tracked tuple -/
def evOf (H : Hp) : V → Ev
  | .ref a => match H a with
    | some (.tup [.str x, .int i]) => (x, i)
    | _ => (⟨#[]⟩, 0)
  | _ => (⟨#[]⟩, 0)
theorem evOf_of {H : Hp} {z : Addr × Ev} (h : EvR H z) : evOf H (.ref z.1) = z.2 := by
  have h : H z.1 = some (.tup [.str z.2.1, .int z.2.2]) := h
  unfold evOf
  simp only [h]
theorem le_as {a b : Ev} (h1 : HQ.le a b) (h2 : HQ.le b a) : a = b := by
  have q := (PyProof.Rows.listOrd PyProof.Rows.itemOrd).total (PySem.W.keyToks (evD a)) (PySem.W.keyToks (evD b)) h2 h1
  obtain ⟨x, i⟩ := a
  obtain ⟨y, j⟩ := b
  have q1 : PySem.W.dataLt (evD (x, i)) (evD (y, j)) = false := h2
  have q2 : PySem.W.dataLt (evD (y, j)) (evD (x, i)) = false := h1
  unfold evD at q1 q2
  rw [PySem.W.dataLt_pair (by simp [PySem.W.alike]) (by simp [PySem.W.alike])] at q1 q2
  by_cases e : x = y
  · subst e
    rw [if_pos (PySem.W.eqv_refl_alike _ (by simp [PySem.W.alike])), PySem.W.dataLt_int] at q1 q2
    by_cases z : i = j
    · rw [z]
    · have n1 : ¬ PyData.eqv (.int i) (.int j) = true := by simp [PyData.eqv, z]
      have n2 : ¬ PyData.eqv (.int j) (.int i) = true := by simp [PyData.eqv, Ne.symm z]
      rw [if_neg n1] at q1
      rw [if_neg n2] at q2
      have := of_decide_eq_false q1
      have := of_decide_eq_false q2
      dsimp only at *
      omega
  · have n1 : PyData.eqv (.str x) (.str y) = false := by simp [PyData.eqv, e]
    have n2 : PyData.eqv (.str y) (.str x) = false := by simp [PyData.eqv, Ne.symm e]
    rw [if_neg (by rw [n1]; decide)] at q1
    rw [if_neg (by rw [n2]; decide)] at q2
    exact absurd (sLt_tot q1 q2) e
theorem sorted_eq : ∀ {l m : List Ev}, l.Perm m → l.Pairwise HQ.le → m.Pairwise HQ.le → l = m
  | [], m, p, _, _ => (List.nil_perm.mp p).symm
  | a :: l, [], p, _, _ => absurd p.length_eq (by simp)
  | a :: l, b :: m, p, h1, h2 => by
    have e : a = b := by
      have ha : a ∈ b :: m := p.mem_iff.mp List.mem_cons_self
      have hb : b ∈ a :: l := p.mem_iff.mpr List.mem_cons_self
      rcases List.mem_cons.mp ha with z | z
      · exact z
      · rcases List.mem_cons.mp hb with y | y
        · exact y.symm
        · exact le_as ((List.pairwise_cons.mp h1).1 b y) ((List.pairwise_cons.mp h2).1 a z)
    subst e
    rw [sorted_eq (List.perm_cons a |>.mp p) (List.pairwise_cons.mp h1).2 (List.pairwise_cons.mp h2).2]
theorem len_sub {α : Type} [DecidableEq α] : ∀ {l m : List α}, l.Nodup → (∀ x ∈ l, x ∈ m) → l.length ≤ m.length
  | [], _, _, _ => Nat.zero_le _
  | x :: l, m, nd, h => by
    have hx := h x List.mem_cons_self
    have p := List.perm_cons_erase hx
    rw [p.length_eq, List.length_cons, List.length_cons]
    refine Nat.succ_le_succ (len_sub (List.nodup_cons.mp nd).2 fun y hy => ?_)
    have ne : y ≠ x := fun e => (List.nodup_cons.mp nd).1 (e ▸ hy)
    exact (List.mem_erase_of_ne ne).mpr (h y (List.mem_cons_of_mem _ hy))
theorem sub_map {α β : Type} {g : α → β} {m : List α} : ∀ {l : List β}, (∀ y ∈ l, y ∈ m.map g) → ∃ l' : List α, l = l'.map g ∧ ∀ x ∈ l', x ∈ m
  | [], _ => ⟨[], rfl, fun _ h => nomatch h⟩
  | y :: l, h => by
    obtain ⟨x, hx, rfl⟩ := List.mem_map.mp (h y List.mem_cons_self)
    obtain ⟨l', rfl, hl⟩ := sub_map (l := l) fun y hy => h y (List.mem_cons_of_mem _ hy)
    exact ⟨x :: l', rfl, fun z hz => (List.mem_cons.mp hz).elim (fun e => e ▸ hx) (hl z)⟩
theorem cut_mem {xs : List V} {lo hi : Option Int} {x : V} (h : x ∈ cutV xs lo hi) : x ∈ xs := List.mem_of_mem_drop (List.mem_of_mem_take h)
theorem cut_last {xs : List V} (h : xs ≠ []) : cutV xs (some (-5)) none ≠ [] := by
  have l0 := List.length_pos_iff.mpr h
  refine List.length_pos_iff.mp ?_
  unfold cutV
  rw [List.length_take, List.length_drop]
  have : HT.sIx xs.length xs.length none = xs.length := by unfold HT.sIx; simp
  have : HT.sIx xs.length 0 (some (-5)) < xs.length := by unfold HT.sIx; simp; omega
  omega
theorem cut_first {xs : List V} : cutV xs none (some 16) = xs.take 16 := by
  unfold cutV
  have : HT.sIx xs.length 0 none = 0 := by unfold HT.sIx; simp
  rw [this]
  have : HT.sIx xs.length xs.length (some 16) = min 16 xs.length := by unfold HT.sIx; simp
  rw [this]
  simp
theorem ev_rp {H : Hp} {z : Addr × Ev} (h : EvR H z) : Rp H (.ref z.1) (evD z.2) := (ev_tp h).rp
theorem evs_rp {H : Hp} : ∀ {zs : List (Addr × Ev)}, (∀ z ∈ zs, EvR H z) → RpAll H (zs.map fun z => V.ref z.1) (zs.map fun z => evD z.2)
  | [], _ => .nil
  | z :: zs, h => .cons (ev_rp (h z List.mem_cons_self)) (evs_rp fun y hy => h y (List.mem_cons_of_mem _ hy))
theorem evs_lay : ∀ {es : List Ev}, (∀ e ∈ es, PyData.strOk e.1 = true) → PyData.canLayAll0 (es.map evD) = true ∧ PyData.depthAll (es.map evD) ≤ 1
  | [], _ => ⟨rfl, by simp [PyData.depthAll]⟩
  | e :: es, h => by
    obtain ⟨h1, h2⟩ := evs_lay (es := es) fun y hy => h y (List.mem_cons_of_mem _ hy)
    have h0 := h e List.mem_cons_self
    refine ⟨by simp [PyData.canLayAll0, PyData.canLay0, evD, h0, h1], ?_⟩
    simp only [List.map_cons, PyData.depthAll]
    have : (evD e).depth = 1 := HQ.evD_depth e
    omega
theorem evs_shaped {es : List Ev} (h : ∀ e ∈ es, PyData.strOk e.1 = true) : SeqAt.shaped (.list (es.map evD)) = true := by
  obtain ⟨h1, h2⟩ := evs_lay h
  simp only [SeqAt.shaped, PyData.canLay0, PyData.depth, h1, Bool.true_and]
  exact decide_eq_true (by omega)
theorem ev_shaped {e : Ev} (h : PyData.strOk e.1 = true) : SeqAt.shaped (evD e) = true := by
  simp only [SeqAt.shaped, evD, PyData.canLay0, PyData.canLayAll0, h, Bool.true_and]
  exact decide_eq_true (by have := HQ.evD_depth e; unfold evD at this; omega)
abbrev prL (z : Addr × (Addr × Ev) × (Addr × Ev)) : Ev × Ev := (z.2.1.2, z.2.2.2)
def LtR (H : Hp) (z : Addr × (Addr × Ev) × (Addr × Ev)) : Prop := H z.1 = some (.tup [.ref z.2.1.1, .ref z.2.2.1]) ∧ EvR H z.2.1 ∧ EvR H z.2.2
theorem LtR.keep {H H' : Hp} {z : Addr × (Addr × Ev) × (Addr × Ev)} (h : LtR H z) (k : TK H H') : LtR H' z := ⟨k _ _ h.1, h.2.1.keep k, h.2.2.keep k⟩
theorem LtR.nk {H : Hp} {z : Addr × (Addr × Ev) × (Addr × Ev)} (h : LtR H z) : NK H (.ref z.1) (kL (prL z)) := .tup h.1 (.cons (evK_nk h.2.1) (.cons (evK_nk h.2.2) .nil))
theorem letters_tp {H : Hp} : ∀ {zl : List (Addr × (Addr × Ev) × (Addr × Ev))}, (∀ z ∈ zl, LtR H z) → TpAll H (zl.map fun z => V.ref z.1) ((zl.map prL).map encL)
  | [], _ => .nil
  | z :: zl, h => .cons (.tup (h z List.mem_cons_self).1 (.cons (ev_tp (h z List.mem_cons_self).2.1) (.cons (ev_tp (h z List.mem_cons_self).2.2) .nil))) (letters_tp fun y hy => h y (List.mem_cons_of_mem _ hy))
theorem evs_alike (es : List Ev) : PySem.W.AllAlike (es.map evD) := fun d hd d' hd' => by
  obtain ⟨x, _, rfl⟩ := List.mem_map.mp hd
  obtain ⟨y, _, rfl⟩ := List.mem_map.mp hd'
  exact HQ.evD_alike x y
theorem evs_sortable (es : List Ev) : PySem.W.Sortable (es.map evD) := .inl fun d hd => by
  obtain ⟨x, _, rfl⟩ := List.mem_map.mp hd
  exact ⟨_, _, rfl⟩
theorem ls_alike (es : List (Ev × Ev)) : PySem.W.AllAlike (es.map encL) := fun d hd d' hd' => by
  obtain ⟨x, _, rfl⟩ := List.mem_map.mp hd
  obtain ⟨y, _, rfl⟩ := List.mem_map.mp hd'
  exact encL_alike x y
theorem ls_sortable (es : List (Ev × Ev)) : PySem.W.Sortable (es.map encL) := .inl fun d hd => by
  obtain ⟨x, _, rfl⟩ := List.mem_map.mp hd
  exact ⟨_, _, rfl⟩
theorem le_tot (a b : Ev) : HQ.le a b ∨ HQ.le b a := by
  cases e : HQ.ltB b a with
  | false => exact .inl e
  | true => exact .inr (HQ.le_of_lt e)
theorem ex_sorted (l : List Ev) : ∃ m : List Ev, m.Perm l ∧ m.Pairwise HQ.le := by
  refine ⟨l.mergeSort (fun a b => !HQ.ltB b a), List.mergeSort_perm _ _, ?_⟩
  have := List.pairwise_mergeSort (le := fun a b => !HQ.ltB b a) (fun a b c h1 h2 => by
    have h1 : HQ.ltB b a = false := by simpa using h1
    have h2 : HQ.ltB c b = false := by simpa using h2
    have := HQ.le_tr a b c h1 h2
    unfold HQ.le at this
    simpa using this) (fun a b => by
    rcases le_tot a b with h | h <;> unfold HQ.le at h <;> simp [h]) l
  refine this.imp fun {a b} h => ?_
  show HQ.ltB b a = false
  simpa using h
theorem ints_tp {H : Hp} : ∀ (ns : List Int), TpAll H (ns.map V.int) (ns.map PyData.int)
  | [] => .nil
  | n :: ns => .cons (.int n) (ints_tp ns)
theorem pool_ok : ∀ x ∈ pool, PyData.strOk x = true := by decide +kernel
end L2.My

namespace L2.My
open PySem PySem.Spec PyProof.Rows
open HQ (Ev evD)
/-! ### lists or tuples -/
def SqH (H : Hp) (a : Addr) (xs : List V) : Prop := H a = some (.lst xs) ∨ H a = some (.tup xs)
theorem SqH.same {H H' : Hp} {a : Addr} {xs : List V} (h : SqH H a xs) (k : Same H H') : SqH H' a xs := h.imp (fun z => k _ _ z) (fun z => k _ _ z)
def rIxS : R2 := fun x y H Q => ∃ p xs i v, x = .ref p ∧ y = .int i ∧ SqH H p xs ∧ atI xs i = some v ∧ Q v H
theorem ixS {X : Cx} : IxR X rIxS := fun value slice pins s σ H x y v u Q I rx ry ⟨p, xs, i, z, e1, e2, h, e3, q⟩ hs => by
  rcases h with h | h
  · exact ixL value slice pins s σ H x y v u Q I rx ry ⟨p, xs, i, z, e1, e2, h, e3, q⟩ hs
  · exact ixT value slice pins s σ H x y v u Q I rx ry ⟨p, xs, i, z, e1, e2, h, e3, q⟩ hs
/-- what J yields from H on: the items vs -/
def Wk (J : It) (H : Hp) (vs : List V) : Prop := ∀ H', Same H H' → (∀ j, j < vs.length → J.go j H') ∧ J.stop vs.length H' ∧ ∀ j x H2, J.yld j H' x H2 → H2 = H' ∧ (j < vs.length → vs[j]? = some x)
theorem wk_lst {K : PySem.W.Frag} {H : Hp} {a : Addr} {xs : List V} (h : H a = some (.lst xs)) : Wk (Itl K a) H xs := fun H' s =>
  ⟨fun j hj => ⟨xs, xs[j], (.inl (.inl (s _ _ h))), List.getElem?_eq_getElem hj⟩, ⟨xs, (.inl (.inl (s _ _ h))), Nat.le_refl _⟩, fun j x H2 y => ⟨y.1, fun _ => y.2 xs (.inl (.inl (s _ _ h)))⟩⟩
theorem wk_tup {K : PySem.W.Frag} {H : Hp} {a : Addr} {xs : List V} (h : H a = some (.tup xs)) : Wk (Itt K a) H xs := fun H' s =>
  ⟨fun j hj => ⟨xs, xs[j], (.inl (.inl (s _ _ h))), List.getElem?_eq_getElem hj⟩, ⟨xs, (.inl (.inl (s _ _ h))), Nat.le_refl _⟩, fun j x H2 y => ⟨y.1, fun _ => y.2 xs (.inl (.inl (s _ _ h)))⟩⟩
def upto (n : Nat) : List Int := (List.range n).map fun (i : Nat) => (i : Int)
theorem wk_rng {H : Hp} {n : Nat} : Wk (Itr 0 n) H ((upto n).map V.int) := fun H' s => by
  have l : ((upto n).map V.int).length = n := by unfold upto; simp
  rw [l]
  refine ⟨fun j hj => hj, Nat.le_refl _, fun j x H2 y => ⟨y.1, fun hj => ?_⟩⟩
  obtain ⟨_, rfl⟩ := y
  unfold upto
  rw [List.map_map, List.getElem?_map, List.getElem?_range hj]
  simp
theorem Wk.same {J : It} {H H' : Hp} {vs : List V} (h : Wk J H vs) (k : Same H H') : Wk J H' vs := fun H2 s => h H2 (k.trans s)
/-- the walk over a list or a tuple -/
theorem seq_wk {K : PySem.W.Frag} {H : Hp} {a : Addr} {xs : List V} {R : It → Hp → Prop} (h : SqH H a xs) (k : ∀ J, Wk J H xs → R J H) : (∃ ys, SqL K H a ys) ∧ R (Itl K a) H ∨ (∃ ys, SqT K H a ys) ∧ R (Itt K a) H := by
  rcases h with h | h
  · exact .inl ⟨⟨_, .inl (.inl h)⟩, k _ (wk_lst h)⟩
  · exact .inr ⟨⟨_, .inl (.inl h)⟩, k _ (wk_tup h)⟩
/-! ### [(m, v) for m in ms for v in the numbers of m] -/
def flat (ms : List (Str × List Int)) : List Ev := ms.flatMap fun m => m.2.map fun v => (m.1, v)
theorem flat_snoc (ms : List (Str × List Int)) (m : Str × List Int) : flat (ms ++ [m]) = flat ms ++ m.2.map fun v => (m.1, v) := by
  unfold flat
  rw [List.flatMap_append]
  simp
theorem flat_take {ms : List (Str × List Int)} {k : Nat} {m : Str × List Int} (h : ms[k]? = some m) : flat (ms.take (k + 1)) = flat (ms.take k) ++ m.2.map fun v => (m.1, v) := by
  rw [List.take_succ, h, Option.toList_some, flat_snoc]
theorem flat_le {ms : List (Str × List Int)} {k : Nat} : (flat (ms.take k)).length ≤ (flat ms).length := by
  have : flat ms = flat (ms.take k) ++ flat (ms.drop k) := by
    unfold flat
    rw [← List.flatMap_append, List.take_append_drop]
  rw [this, List.length_append]
  omega
section
variable {σ : St} {H : Hp} {vs vs1 : List Nat} {i i1 : Nat} {wi1 : TI} {te : TE}
theorem lc2_evs {J : It} {D : Addr} {Qd : Hp → Prop} {xs : List V} {ms : List (Str × List Int)} (wJ : Wk J H xs) (nD : H D = none) (lx : xs.length = ms.length) (few : (flat ms).length ≤ sizeLine)
    (hw : ∀ x : V, wipe ((wipe σ vs).set i (some x)) vs = wipe σ vs) (hw1 : ∀ x v : V, wipe ((wipe ((wipe σ vs).set i (some x)) vs1).set i1 (some v)) vs1 = wipe ((wipe σ vs).set i (some x)) vs1)
    (inn : ∀ (k : Nat) (x : V) (m : Str × List Int) (H1 : Hp) (R : It → Hp → Prop), xs[k]? = some x → ms[k]? = some m → Same H H1 → (∀ J1, Wk J1 H (m.2.map V.int) → R J1 H1) → wi1 ((wipe σ vs).set i (some x)) H1 R)
    (elt : ∀ (k : Nat) (x : V) (m : Str × List Int) (v : Int) (H1 : Hp) (Q' : VK), xs[k]? = some x → ms[k]? = some m → Same H H1 → (∀ p, H1 p = none → Q' (V.ref p) (upd H1 p (.tup [.str m.1, .int v]))) → te ((wipe ((wipe σ vs).set i (some x)) vs1).set i1 (some (.int v))) H1 Q')
    (done : ∀ (H' : Hp) (zs : List (Addr × Ev)), Same H H' → H' D = some (.lst (zs.map fun z => V.ref z.1)) → (∀ z ∈ zs, EvR H' z) → zs.map (·.2) = flat ms → Qd H') :
    ∃ W : Nat → Nat → Hp → Prop, (∃ m, W 0 m (upd H D (.lst []))) ∧ ∀ k m H', W k m H' → (J.stop k H' ∧ Qd H') ∨ (J.go k H' ∧ ∃ Nx : Hp → Prop, (∀ H', Nx H' → ∃ m', m' < m ∧ W (k + 1) m' H') ∧ ∀ x H2', J.yld k H' x H2' → gName i x (wipe σ vs) H2' fun σ2 H2 => wipe σ2 vs = wipe σ vs ∧ tYes σ2 H2 fun b H3 =>
    if b = true then wi1 σ2 H3 fun J1 H4 => ∃ W1 : Nat → Nat → Hp → Prop, (∃ m, W1 0 m H4) ∧ ∀ j k H, W1 j k H →
      (J1.stop j H ∧ Nx H) ∨ (J1.go j H ∧ ∃ Nx1 : Hp → Prop, (∀ H', Nx1 H' → ∃ k', k' < k ∧ W1 (j + 1) k' H') ∧ ∀ x H', J1.yld j H x H' → gName i1 x (wipe σ2 vs1) H' fun σ3 H5 => wipe σ3 vs1 = wipe σ2 vs1 ∧ tYes σ3 H5 fun b H6 =>
        if b = true then te σ3 H6 fun y H7 => ∃ acc, H7 D = some (.lst acc) ∧ acc.length < sizeLine ∧ Nx1 (upd H7 D (.lst (acc ++ [y]))) else Nx1 H6)
    else Nx H3) := by
  have same_of : ∀ {H1 : Hp}, (∀ b o, b ≠ D → H b = some o → H1 b = some o) → Same H H1 := fun k b o e => k b o (ne_of_none e nD) e
  refine ⟨fun k m H1 => k + m = xs.length ∧ (∀ b o, b ≠ D → H b = some o → H1 b = some o) ∧ ∃ zs : List (Addr × Ev), H1 D = some (.lst (zs.map fun z => V.ref z.1)) ∧ (∀ z ∈ zs, EvR H1 z) ∧ zs.map (·.2) = flat (ms.take k), ⟨xs.length, by omega, fun b o n e => by rw [upd_ne n]; exact e, [], upd_same, (fun _ h => nomatch h), rfl⟩, ?_⟩
  rintro k m H1 ⟨km, old, zs, hD, hz, ez⟩
  obtain ⟨go, stop, yld⟩ := wJ H1 (same_of old)
  by_cases hk : k < xs.length
  · refine .inr ⟨go k hk, fun H2 => (∀ b o, b ≠ D → H b = some o → H2 b = some o) ∧ ∃ zs : List (Addr × Ev), H2 D = some (.lst (zs.map fun z => V.ref z.1)) ∧ (∀ z ∈ zs, EvR H2 z) ∧ zs.map (·.2) = flat (ms.take (k + 1)), fun H2 h2 => ⟨m - 1, by omega, by omega, h2⟩, fun x H2 hy => ?_⟩
    obtain ⟨rfl, hx⟩ := yld k x H2 hy
    have hx := hx hk
    have hm : ms[k]? = some (ms[k]'(by omega)) := List.getElem?_eq_getElem _
    generalize ms[k]'(by omega) = mm at hm
    have ft := flat_take hm
    refine ⟨hw x, ?_⟩
    show wi1 ((wipe σ vs).set i (some x)) H2 _
    refine inn k x mm H2 _ hx hm (same_of old) fun J1 w1 => ?_
    refine ⟨fun j n H3 => j + n = mm.2.length ∧ (∀ b o, b ≠ D → H b = some o → H3 b = some o) ∧ ∃ zs : List (Addr × Ev), H3 D = some (.lst (zs.map fun z => V.ref z.1)) ∧ (∀ z ∈ zs, EvR H3 z) ∧ zs.map (·.2) = flat (ms.take k) ++ (mm.2.take j).map fun v => (mm.1, v), ⟨mm.2.length, by omega, old, zs, hD, hz, by rw [ez]; simp⟩, ?_⟩
    rintro j n H3 ⟨jn, old3, zs3, hD3, hz3, ez3⟩
    obtain ⟨go1, stop1, yld1⟩ := w1 H3 (same_of old3)
    rw [List.length_map] at go1 stop1 yld1
    by_cases hj : j < mm.2.length
    · refine .inr ⟨go1 j hj, fun H4 => (∀ b o, b ≠ D → H b = some o → H4 b = some o) ∧ ∃ zs : List (Addr × Ev), H4 D = some (.lst (zs.map fun z => V.ref z.1)) ∧ (∀ z ∈ zs, EvR H4 z) ∧ zs.map (·.2) = flat (ms.take k) ++ (mm.2.take (j + 1)).map fun v => (mm.1, v), fun H4 h4 => ⟨n - 1, by omega, by omega, h4⟩, fun y H4 hy => ?_⟩
      obtain ⟨rfl, hv⟩ := yld1 j y H4 hy
      have hv := hv hj
      rw [List.getElem?_map, List.getElem?_eq_getElem hj] at hv
      have hv : V.int mm.2[j] = y := Option.some.inj hv
      subst hv
      refine ⟨hw1 x _, ?_⟩
      show te ((wipe ((wipe σ vs).set i (some x)) vs1).set i1 (some (.int _))) H4 _
      refine elt k x mm _ H4 _ hx hm (same_of old3) fun p np => ⟨_, same_new np _ _ _ hD3, ?_, ?_⟩
      · rw [List.length_map, ← List.length_map (·.2), ez3, List.length_append, List.length_map, List.length_take]
        have := flat_le (ms := ms) (k := k + 1)
        rw [ft, List.length_append, List.length_map] at this
        omega
      · have npD : p ≠ D := fun e => by rw [e, hD3] at np; cases np
        have sp := same_new np (.tup [V.str mm.1, V.int mm.2[j]])
        have tk := tk_upd (sp _ _ hD3) (.lst ((zs3.map fun z => V.ref z.1) ++ [V.ref p]))
        refine ⟨fun b o nb e => by rw [upd_ne nb]; exact sp _ _ (old3 b o nb e), zs3 ++ [(p, (mm.1, mm.2[j]))], ?_, fun z hz => ?_, ?_⟩
        · rw [upd_same, List.map_append]
          rfl
        · rcases List.mem_append.mp hz with q | q
          · exact tk _ _ (sp _ _ (hz3 z q))
          · rw [List.mem_singleton.mp q]
            exact tk _ _ upd_same
        · have et : mm.2.take (j + 1) = mm.2.take j ++ [mm.2[j]] := by rw [List.take_succ, List.getElem?_eq_getElem hj]; rfl
          rw [et, List.map_append, List.map_append, ez3, List.append_assoc]
          rfl
    · have : j = mm.2.length := by omega
      subst this
      refine .inl ⟨stop1, old3, zs3, hD3, hz3, ?_⟩
      rw [ez3, ft, List.take_length]
  · have : k = xs.length := by omega
    subst this
    refine .inl ⟨stop, done H1 zs (same_of old) hD hz ?_⟩
    rw [ez, lx, List.take_length]
end
/-! ### a log as it stands, of tuples or lists -/
def LogAt (H : Hp) (v : V) (L : Lg) : Prop := ∃ (a m l : Addr) (xs ys : List V), v = .ref a ∧ SqH H a [.ref m, .ref l] ∧ SqH H m xs ∧ SqH H l ys ∧ xs.length = L.ms.length ∧ ys.length = L.ls.length ∧
  (∀ (k : Nat) (x : V), xs[k]? = some x → ∃ mm q r, L.ms[k]? = some mm ∧ x = .ref q ∧ SqH H q [.str mm.1, .int mm.2.1, .ref r] ∧ SqH H r (mm.2.2.map .int)) ∧
  ∀ (k : Nat) (y : V), ys[k]? = some y → ∃ ll q r1 r2, L.ls[k]? = some ll ∧ y = .ref q ∧ SqH H q [.ref r1, .ref r2] ∧ SqH H r1 (evV ll.1) ∧ SqH H r2 (evV ll.2)
theorem LogAt.same {H H' : Hp} {v : V} {L : Lg} (h : LogAt H v L) (k : Same H H') : LogAt H' v L := by
  obtain ⟨a, m, l, xs, ys, e, h1, h2, h3, l1, l2, f1, f2⟩ := h
  refine ⟨a, m, l, xs, ys, e, h1.same k, h2.same k, h3.same k, l1, l2, fun i x hx => ?_, fun i y hy => ?_⟩
  · obtain ⟨mm, q, r, e1, e2, e3, e4⟩ := f1 i x hx
    exact ⟨mm, q, r, e1, e2, e3.same k, e4.same k⟩
  · obtain ⟨ll, q, r1, r2, e1, e2, e3, e4, e5⟩ := f2 i y hy
    exact ⟨ll, q, r1, r2, e1, e2, e3.same k, e4.same k, e5.same k⟩
theorem sq_of {H : Hp} {v : V} {d : PyData} {es : List PyData} (h : Rp H v d) (e : tupD d = .tuple es) : ∃ (a : Addr) (xs : List V) (ds : List PyData), v = .ref a ∧ SqH H a xs ∧ RpAll H xs ds ∧ ds.map tupD = es := by
  cases h with
  | lst h t =>
    simp only [tupD, PyData.tuple.injEq, tupDs_map] at e
    exact ⟨_, _, _, rfl, .inl h, t, e⟩
  | tup h t =>
    simp only [tupD, PyData.tuple.injEq, tupDs_map] at e
    exact ⟨_, _, _, rfl, .inr h, t, e⟩
  | _ => simp [tupD] at e
theorem int_of {H : Hp} {v : V} {d : PyData} {i : Int} (h : Rp H v d) (e : tupD d = .int i) : v = .int i := by
  cases h with
  | int j => simp only [tupD, PyData.int.injEq] at e; rw [e]
  | _ => simp [tupD] at e
theorem str_of {H : Hp} {v : V} {d : PyData} {x : Str} (h : Rp H v d) (e : tupD d = .str x) : v = .str x := by
  cases h with
  | str j => simp only [tupD, PyData.str.injEq] at e; rw [e]
  | _ => simp [tupD] at e
theorem rp2 {H : Hp} {xs : List V} {ds : List PyData} {a b : PyData} (h : RpAll H xs ds) (e : ds.map tupD = [a, b]) : ∃ x y d d', xs = [x, y] ∧ Rp H x d ∧ Rp H y d' ∧ tupD d = a ∧ tupD d' = b := by
  cases h with
  | nil => cases e
  | cons h1 t =>
    cases t with
    | nil => cases e
    | cons h2 t =>
      cases t with
      | nil =>
        simp only [List.map_cons, List.map_nil, List.cons.injEq, and_true] at e
        exact ⟨_, _, _, _, rfl, h1, h2, e.1, e.2⟩
      | cons _ _ => simp at e
theorem rp3 {H : Hp} {xs : List V} {ds : List PyData} {a b c : PyData} (h : RpAll H xs ds) (e : ds.map tupD = [a, b, c]) : ∃ x y z d d' d'', xs = [x, y, z] ∧ Rp H x d ∧ Rp H y d' ∧ Rp H z d'' ∧ tupD d = a ∧ tupD d' = b ∧ tupD d'' = c := by
  cases h with
  | nil => cases e
  | cons h1 t =>
    simp only [List.map_cons, List.cons.injEq] at e
    obtain ⟨x, y, d, d', rfl, r1, r2, e1, e2⟩ := rp2 t e.2
    exact ⟨_, _, _, _, _, _, rfl, h1, r1, r2, e.1, e1, e2⟩
theorem ev_of {H : Hp} {v : V} {d : PyData} {e : Ev} (h : Rp H v d) (z : tupD d = evD e) : ∃ a, v = .ref a ∧ SqH H a (evV e) := by
  obtain ⟨a, xs, ds, rfl, h1, h2, h3⟩ := sq_of h z
  obtain ⟨x, y, d, d', rfl, r1, r2, e1, e2⟩ := rp2 h2 h3
  exact ⟨a, rfl, by rw [str_of r1 e1, int_of r2 e2] at h1; exact h1⟩
theorem ints_of {H : Hp} : ∀ {xs : List V} {ds : List PyData} {is : List Int}, RpAll H xs ds → ds.map tupD = is.map PyData.int → xs = is.map V.int
  | _, _, [], .nil, _ => rfl
  | _, _, i :: is, .cons h t, e => by
    simp only [List.map_cons, List.cons.injEq] at e
    rw [int_of h e.1, ints_of t e.2]
    rfl
  | _, _, _ :: _, .nil, e => by cases e
  | _, _, [], .cons _ _, e => by cases e
theorem logAt {H : Hp} {v : V} {d : PyData} {L : Lg} (h : Rp H v d) (e : tupD d = encLog L) : LogAt H v L := by
  obtain ⟨a, xs, ds, rfl, h1, h2, h3⟩ := sq_of h e
  obtain ⟨x, y, dm, dl, rfl, r1, r2, e1, e2⟩ := rp2 h2 h3
  obtain ⟨m, xm, dms, rfl, hm, rm, em⟩ := sq_of r1 e1
  obtain ⟨l, xl, dls, rfl, hl, rl, el⟩ := sq_of r2 e2
  refine ⟨a, m, l, xm, xl, rfl, h1, hm, hl, ?_, ?_, fun k x hx => ?_, fun k y hy => ?_⟩
  · rw [rm.length, ← List.length_map (as := dms) tupD, em, List.length_map]
  · rw [rl.length, ← List.length_map (as := dls) tupD, el, List.length_map]
  · obtain ⟨d, hd, rd⟩ := rm.get hx
    have q : (dms.map tupD)[k]? = some (tupD d) := by rw [List.getElem?_map, hd]; rfl
    rw [em, List.getElem?_map] at q
    obtain ⟨mm, hmm, eq⟩ := Option.map_eq_some_iff.mp q
    obtain ⟨qa, xq, dq, rfl, hq, rq, eq'⟩ := sq_of rd eq.symm
    obtain ⟨x1, x2, x3, d1, d2, d3, rfl, s1, s2, s3, t1, t2, t3⟩ := rp3 rq eq'
    obtain ⟨r, xr, dr, rfl, hr, rr, er⟩ := sq_of s3 t3
    rw [str_of s1 t1, int_of s2 t2] at hq
    rw [ints_of rr er] at hr
    exact ⟨mm, qa, r, hmm, rfl, hq, hr⟩
  · obtain ⟨d, hd, rd⟩ := rl.get hy
    have q : (dls.map tupD)[k]? = some (tupD d) := by rw [List.getElem?_map, hd]; rfl
    rw [el, List.getElem?_map] at q
    obtain ⟨ll, hll, eq⟩ := Option.map_eq_some_iff.mp q
    obtain ⟨qa, xq, dq, rfl, hq, rq, eq'⟩ := sq_of rd eq.symm
    obtain ⟨x1, x2, d1, d2, rfl, s1, s2, t1, t2⟩ := rp2 rq eq'
    obtain ⟨r1, rfl, g1⟩ := ev_of s1 t1
    obtain ⟨r2, rfl, g2⟩ := ev_of s2 t2
    exact ⟨ll, qa, r1, r2, hll, rfl, hq, g1, g2⟩
theorem flat_part {ms : List (Str × List Int)} {k : Nat} {m : Str × List Int} (h : ms[k]? = some m) : m.2.length ≤ (flat ms).length := by
  have := flat_le (ms := ms) (k := k + 1)
  rw [flat_take h, List.length_append, List.length_map] at this
  omega
theorem upto_len (n : Nat) : (upto n).length = n := by unfold upto; simp
theorem mkd_sub {L : Lg} (h : Good L) {e : Ev} (he : e ∈ mkd L) : e ∈ evs L := by
  unfold mkd at he
  obtain ⟨⟨n, k, mk⟩, hm, he⟩ := List.mem_flatMap.mp he
  obtain ⟨i, hi, rfl⟩ := List.mem_map.mp he
  have := (h.mks _ hm).2 i hi
  exact mem_evs.mpr ⟨k, mk, hm, this.1, this.2⟩
theorem mkd_nodup {L : Lg} (h : Good L) : (mkd L).Nodup := by
  unfold mkd
  refine List.pairwise_flatMap.mpr ⟨fun m hm => ?_, ?_⟩
  · refine List.pairwise_map.mpr ((h.mks m hm).1.imp fun {a b} hab e => ?_)
    have := (Prod.mk.inj e).2
    omega
  · refine (List.pairwise_map.mp h.asc).imp fun {a b} hab => ?_
    intro x hx y hy exy
    subst exy
    obtain ⟨i, _, e1⟩ := List.mem_map.mp hx
    obtain ⟨j, _, e2⟩ := List.mem_map.mp hy
    have : a.1 = b.1 := by rw [← e1] at e2; exact ((Prod.mk.inj e2).1).symm
    rw [this, sLt_irr] at hab
    cases hab
theorem mkd_len {L : Lg} (h : Good L) : (mkd L).length ≤ 16 := Nat.le_trans (len_sub (mkd_nodup h) fun _ he => mkd_sub h he) h.few.1
theorem evs_flat (L : Lg) : evs L = flat (L.ms.map fun m => (m.1, upto m.2.1)) := by
  unfold evs flat
  rw [List.flatMap_map]
  refine congrArg (fun f => L.ms.flatMap f) ?_
  funext m
  unfold evsM upto
  rw [List.map_map]
  rfl
theorem mkd_flat (L : Lg) : mkd L = flat (L.ms.map fun m => (m.1, m.2.2)) := by
  unfold mkd flat
  rw [List.flatMap_map]
end L2.My

namespace L2.My
open PySem PySem.Spec PyProof.Rows
open HQ (Ev evD)
/-! ### the order of events -/
theorem ev_lt (a b : Ev) : HQ.ltB a b = if a.1 = b.1 then decide (a.2 < b.2) else sLt a.1 b.1 := by
  obtain ⟨x, i⟩ := a
  obtain ⟨y, j⟩ := b
  unfold HQ.ltB evD
  rw [PySem.W.dataLt_pair (by simp [PySem.W.alike]) (by simp [PySem.W.alike])]
  by_cases e : x = y
  · subst e
    rw [if_pos (PySem.W.eqv_refl_alike _ (by simp [PySem.W.alike])), if_pos rfl, PySem.W.dataLt_int]
    by_cases z : i = j
    · subst z
      simp [PyData.eqv]
    · have n1 : ¬ PyData.eqv (.int i) (.int j) = true := by simp [PyData.eqv, z]
      rw [if_neg n1]
  · have n1 : PyData.eqv (.str x) (.str y) = false := by simp [PyData.eqv, e]
    rw [if_neg (by rw [n1]; decide), if_neg e]
    rfl
def SL (es : List Ev) : Prop := es.Pairwise fun a b => HQ.ltB a b = true
theorem evs_sl {L : Lg} (h : Asc (L.ms.map (·.1))) : SL (evs L) := by
  unfold evs
  refine List.pairwise_flatMap.mpr ⟨fun m _ => ?_, ?_⟩
  · unfold evsM
    refine List.pairwise_map.mpr (List.pairwise_lt_range.imp fun {a b} hab => ?_)
    rw [ev_lt, if_pos rfl]
    exact decide_eq_true (by show (a : Int) < (b : Int); omega)
  · refine (List.pairwise_map.mp h).imp fun {a b} hab => ?_
    intro x hx y hy
    obtain ⟨i, _, e1⟩ := List.mem_map.mp hx
    obtain ⟨j, _, e2⟩ := List.mem_map.mp hy
    subst e1 e2
    rw [ev_lt]
    have ne : ¬ a.1 = b.1 := fun e => by rw [e, sLt_irr] at hab; cases hab
    rw [if_neg ne]
    exact hab
theorem lt_irr (a : Ev) : HQ.ltB a a = false := HQ.le_rf a
theorem lt_tr {a b c : Ev} (h1 : HQ.ltB a b = true) (h2 : HQ.ltB b c = true) : HQ.ltB a c = true := by
  cases e : HQ.ltB a c with
  | true => rfl
  | false =>
    have h : HQ.le c a := e
    have := le_as (HQ.le_of_lt h1) (HQ.le_tr b c a (HQ.le_of_lt h2) h)
    rw [this, lt_irr] at h1
    cases h1
theorem sl_get {es : List Ev} (h : SL es) {i j : Nat} {a b : Ev} (hi : es[i]? = some a) (hj : es[j]? = some b) (hij : i < j) : HQ.ltB a b = true := by
  have l1 : i < es.length := by
    rcases Nat.lt_or_ge i es.length with z | z
    · exact z
    · rw [List.getElem?_eq_none z] at hi; cases hi
  have l2 : j < es.length := by
    rcases Nat.lt_or_ge j es.length with z | z
    · exact z
    · rw [List.getElem?_eq_none z] at hj; cases hj
  rw [List.getElem?_eq_getElem l1] at hi
  rw [List.getElem?_eq_getElem l2] at hj
  have := List.pairwise_iff_getElem.mp h i j l1 l2 hij
  rw [← Option.some.inj hi, ← Option.some.inj hj]
  exact this
/-- the one before in the list, if it is of the same machine: that is the previous event -/
theorem prev_idx {L : Lg} (h : Good L) {j : Nat} {e p : Ev} (he : (evs L)[j + 1]? = some e) (hp : (evs L)[j]? = some p) : (p.1 = e.1 ↔ (e.1, e.2 - 1) ∈ evs L) ∧ (p.1 = e.1 → p = (e.1, e.2 - 1)) := by
  have sl := evs_sl h.asc
  have pe := sl_get sl hp he (Nat.lt_succ_self j)
  have fw : (e.1, e.2 - 1) ∈ evs L → p = (e.1, e.2 - 1) := fun hq => by
    obtain ⟨i, hi⟩ := List.getElem?_of_mem hq
    have qe : HQ.ltB (e.1, e.2 - 1) e = true := by
      rw [ev_lt, if_pos rfl]
      exact decide_eq_true (by show e.2 - 1 < e.2; omega)
    rcases Nat.lt_trichotomy i j with c | c | c
    · have qp := sl_get sl hi hp c
      rw [ev_lt] at qp pe
      by_cases z : p.1 = e.1
      · rw [if_pos z] at pe
        rw [if_pos z.symm] at qp
        have a1 := of_decide_eq_true pe
        have a2 := of_decide_eq_true qp
        dsimp only at a2
        omega
      · rw [if_neg z] at pe
        rw [if_neg (fun y => z y.symm)] at qp
        have := sLt_tr pe qp
        rw [sLt_irr] at this
        cases this
    · subst c
      exact Option.some.inj (hp.symm.trans hi)
    · rcases Nat.lt_or_ge (j + 1) i with d | d
      · have := lt_tr qe (sl_get sl he hi d)
        rw [lt_irr] at this
        cases this
      · have : i = j + 1 := by omega
        subst this
        have : (e.1, e.2 - 1) = e := Option.some.inj (hi.symm.trans he)
        have := congrArg Prod.snd this
        dsimp only at this
        omega
  have bw : p.1 = e.1 → (e.1, e.2 - 1) ∈ evs L := fun z => by
    rw [ev_lt, if_pos z] at pe
    have a1 := of_decide_eq_true pe
    obtain ⟨k, mk, hm, i0, ik⟩ := mem_evs.mp (List.mem_of_getElem? hp : (p.1, p.2) ∈ evs L)
    obtain ⟨k', mk', hm', i0', ik'⟩ := mem_evs.mp (List.mem_of_getElem? he : (e.1, e.2) ∈ evs L)
    exact mem_evs.mpr ⟨k', mk', hm', by omega, by omega⟩
  exact ⟨⟨bw, fun q => by rw [fw q]⟩, fun z => fw (bw z)⟩
theorem prev_0 {L : Lg} (h : Good L) {e : Ev} (he : (evs L)[0]? = some e) : (e.1, e.2 - 1) ∉ evs L := fun hq => by
  obtain ⟨i, hi⟩ := List.getElem?_of_mem hq
  have qe : HQ.ltB (e.1, e.2 - 1) e = true := by
    rw [ev_lt, if_pos rfl]
    exact decide_eq_true (by show e.2 - 1 < e.2; omega)
  cases i with
  | zero =>
    have : (e.1, e.2 - 1) = e := Option.some.inj (hi.symm.trans he)
    have := congrArg Prod.snd this
    dsimp only at this
    omega
  | succ i =>
    have := lt_tr qe (sl_get (evs_sl h.asc) he hi (Nat.succ_pos i))
    rw [lt_irr] at this
    cases this
/-! ### what must come before -/
def prevs (L : Lg) (e : Ev) : List Ev := if (e.1, e.2 - 1) ∈ evs L then [(e.1, e.2 - 1)] else []
def sents (ls : List (Ev × Ev)) (e : Ev) : List Ev := (ls.filter fun l => decide (l.2 = e)).map (·.1)
def befs (L : Lg) (e : Ev) : List Ev := prevs L e ++ sents L.ls e
theorem befs_sub {L : Lg} (h : Good L) {e b : Ev} (hb : b ∈ befs L e) : b ∈ evs L := by
  unfold befs at hb
  rcases List.mem_append.mp hb with z | z
  · unfold prevs at z
    split at z
    · rename_i q
      rw [List.mem_singleton.mp z]
      exact q
    · cases z
  · unfold sents at z
    obtain ⟨l, hl, rfl⟩ := List.mem_map.mp z
    exact (h.ends l (List.mem_filter.mp hl).1).1
/-! ### first the least that is ready -/
section
variable {es : List Ev} {bef : Ev → List Ev}
def Rdy (es : List Ev) (bef : Ev → List Ev) (o : List Ev) (e : Ev) : Prop := e ∈ es ∧ e ∉ o ∧ ∀ b ∈ bef e, b ∈ o
inductive Kd (es : List Ev) (bef : Ev → List Ev) : List Ev → Prop
  | nil : Kd es bef []
  | snoc {o : List Ev} {e : Ev} : Kd es bef o → Rdy es bef o e → (∀ y, Rdy es bef o y → HQ.le e y) → Kd es bef (o ++ [e])
theorem Kd.sub {o : List Ev} (h : Kd es bef o) : ∀ e ∈ o, e ∈ es := by
  induction h with
  | nil => intro e he; cases he
  | snoc _ r _ ih =>
    intro e he
    rcases List.mem_append.mp he with z | z
    · exact ih e z
    · rw [List.mem_singleton.mp z]; exact r.1
theorem Kd.nodup {o : List Ev} (h : Kd es bef o) : o.Nodup := by
  induction h with
  | nil => exact List.nodup_nil
  | snoc _ r _ ih => exact nd_snoc ih r.2.1
theorem Kd.closed {o : List Ev} (h : Kd es bef o) : ∀ e ∈ o, ∀ b ∈ bef e, b ∈ o := by
  induction h with
  | nil => intro e he; cases he
  | snoc _ r _ ih =>
    intro e he b hb
    rcases List.mem_append.mp he with z | z
    · exact List.mem_append_left _ (ih e z b hb)
    · rw [List.mem_singleton.mp z] at hb
      exact List.mem_append_left _ (r.2.2 b hb)
theorem Kd.take {o : List Ev} (h : Kd es bef o) : ∀ i, Kd es bef (o.take i) := by
  induction h with
  | nil => intro i; rw [List.take_nil]; exact .nil
  | @snoc o e ho r l ih =>
    intro i
    rcases Nat.lt_or_ge o.length i with z | z
    · rw [List.take_of_length_le (by rw [List.length_append, List.length_singleton]; omega)]
      exact .snoc ho r l
    · rw [List.take_append_of_le_length z]
      exact ih i
theorem kd_step {o : List Ev} {i : Nat} {e : Ev} (h : Kd es bef o) (he : o[i]? = some e) : Rdy es bef (o.take i) e ∧ ∀ y, Rdy es bef (o.take i) y → HQ.le e y := by
  induction h with
  | nil => simp at he
  | @snoc o f ho r l ih =>
    rcases Nat.lt_trichotomy i o.length with z | z | z
    · rw [List.getElem?_append_left z] at he
      rw [List.take_append_of_le_length (Nat.le_of_lt z)]
      exact ih he
    · subst z
      rw [List.getElem?_append_right (Nat.le_refl _), Nat.sub_self] at he
      have : f = e := Option.some.inj he
      subst this
      rw [List.take_append_of_le_length (Nat.le_refl _), List.take_length]
      exact ⟨r, l⟩
    · rw [List.getElem?_append_right (Nat.le_of_lt z), List.getElem?_eq_none (by rw [List.length_singleton]; omega)] at he
      cases he
def Fin (es : List Ev) (bef : Ev → List Ev) (o : List Ev) : Prop := Kd es bef o ∧ ∀ e, ¬ Rdy es bef o e
theorem fin_take {o p : List Ev} (h : Fin es bef o) (h' : Fin es bef p) : ∀ i, o.take i = p.take i
  | 0 => by rw [List.take_zero, List.take_zero]
  | i + 1 => by
    have ih := fin_take h h' i
    rw [List.take_succ, List.take_succ, ih]
    cases a : o[i]? with
    | none =>
      cases b : p[i]? with
      | none => rfl
      | some f =>
        have q := (kd_step h'.1 b).1
        rw [← ih, List.take_of_length_le (List.getElem?_eq_none_iff.mp a)] at q
        exact absurd q (h.2 f)
    | some e =>
      cases b : p[i]? with
      | none =>
        have q := (kd_step h.1 a).1
        rw [ih, List.take_of_length_le (List.getElem?_eq_none_iff.mp b)] at q
        exact absurd q (h'.2 e)
      | some f =>
        have q1 := kd_step h.1 a
        have q2 := kd_step h'.1 b
        rw [ih] at q1
        rw [le_as (q1.2 f q2.1) (q2.2 e q1.1)]
theorem fin_uniq {o p : List Ev} (h : Fin es bef o) (h' : Fin es bef p) : o = p := by
  have := fin_take h h' (max o.length p.length)
  rw [List.take_of_length_le (Nat.le_max_left _ _), List.take_of_length_le (Nat.le_max_right _ _)] at this
  exact this
/-! ### counting what is waited for -/
def behd (es : List Ev) (bef : Ev → List Ev) (y : Ev) : List Ev := es.flatMap fun x => ((bef x).filter fun b => decide (b = y)).map fun _ => x
theorem behd_snoc (es : List Ev) (bef : Ev → List Ev) (x y : Ev) : behd (es ++ [x]) bef y = behd es bef y ++ ((bef x).filter fun b => decide (b = y)).map fun _ => x := by
  unfold behd
  rw [List.flatMap_append]
  simp
theorem behd_mem {y x : Ev} (h : x ∈ behd es bef y) : x ∈ es := by
  obtain ⟨z, hz, hx⟩ := List.mem_flatMap.mp h
  obtain ⟨_, _, rfl⟩ := List.mem_map.mp hx
  exact hz
theorem count_const (x z : Ev) (l : List Ev) : (l.map fun _ => z).count x = if z = x then l.length else 0 := by
  induction l with
  | nil => simp
  | cons a l ih =>
    rw [List.map_cons, List.count_cons, ih]
    by_cases e : z = x
    · simp [e]
    · simp [e]
theorem behd_count (nd : es.Nodup) (y x : Ev) : (behd es bef y).count x = if x ∈ es then ((bef x).filter fun b => decide (b = y)).length else 0 := by
  induction es with
  | nil => simp [behd]
  | cons z es ih =>
    have nd' := List.nodup_cons.mp nd
    have e : behd (z :: es) bef y = (((bef z).filter fun b => decide (b = y)).map fun _ => z) ++ behd es bef y := rfl
    rw [e, List.count_append, count_const, ih nd'.2]
    by_cases q : z = x
    · subst q
      rw [if_pos rfl, if_neg nd'.1, if_pos List.mem_cons_self]
      omega
    · rw [if_neg q]
      by_cases r : x ∈ es
      · rw [if_pos r, if_pos (List.mem_cons_of_mem _ r)]
        omega
      · rw [if_neg r, if_neg (fun h => (List.mem_cons.mp h).elim (fun k => q k.symm) r)]
/-- how many of l are not in o -/
def wt (o l : List Ev) : Nat := (l.filter fun b => decide (b ∉ o)).length
theorem wt_snoc {o l : List Ev} {e : Ev} (h : e ∉ o) : wt o l = wt (o ++ [e]) l + (l.filter fun b => decide (b = e)).length := by
  unfold wt
  induction l with
  | nil => rfl
  | cons b l ih =>
    rw [List.filter_cons, List.filter_cons, List.filter_cons]
    by_cases c : b = e
    · subst c
      have h1 : decide (b ∉ o) = true := decide_eq_true h
      have h2 : decide (b ∉ o ++ [b]) = false := decide_eq_false fun z => z (List.mem_append_right _ (List.mem_singleton.mpr rfl))
      have h3 : decide (b = b) = true := decide_eq_true rfl
      simp only [h1, h2, decide_true, if_true, Bool.false_eq_true, if_false, List.length_cons, ih]
      omega
    · have h3 : decide (b = e) = false := decide_eq_false c
      by_cases d : b ∈ o
      · have h1 : decide (b ∉ o) = false := decide_eq_false fun z => z d
        have h2 : decide (b ∉ o ++ [e]) = false := decide_eq_false fun z => z (List.mem_append_left _ d)
        simp only [h1, h2, h3, Bool.false_eq_true, if_false]
        exact ih
      · have h1 : decide (b ∉ o) = true := decide_eq_true d
        have h2 : decide (b ∉ o ++ [e]) = true := decide_eq_true fun z => (List.mem_append.mp z).elim d fun k => c (List.mem_singleton.mp k)
        simp only [h1, h2, h3, if_true, Bool.false_eq_true, if_false, List.length_cons, ih]
        omega
theorem wt_zero {o l : List Ev} : wt o l = 0 ↔ ∀ b ∈ l, b ∈ o := by
  unfold wt
  rw [List.length_eq_zero_iff, List.filter_eq_nil_iff]
  constructor
  · intro h b hb
    have := h b hb
    simpa using this
  · intro h b hb
    simpa using h b hb
end
end L2.My

namespace L2.My
open PySem PySem.Spec PyProof.Rows
open HQ (Ev evD)
/-! ### dicts keyed by events -/
def kE (e : Ev) : List Key := [.inr e.1, .inl e.2]
theorem kE_inj {a b : Ev} (h : kE a = kE b) : a = b := by
  simp only [kE, List.cons.injEq, Sum.inr.injEq, Sum.inl.injEq, and_true] at h
  exact Prod.ext h.1 h.2
def dE (es : List Ev) (g : Ev → V) : List (List Key × V) := es.map fun e => (kE e, g e)
theorem dE_val {es : List Ev} {g : Ev → V} {e : Ev} (h : e ∈ es) : valV (dE es g) (kE e) = some (g e) := by
  unfold valV dE
  induction es with
  | nil => cases h
  | cons n r ih =>
    rw [List.map_cons, List.find?_cons]
    by_cases q : n = e
    · subst q
      simp
    · have : decide (kE n = kE e) = false := decide_eq_false fun z => q (kE_inj z)
      simp only [this]
      rcases List.mem_cons.mp h with z | z
      · exact absurd z.symm q
      · exact ih z
theorem dE_none {es : List Ev} {g : Ev → V} {e : Ev} (h : e ∉ es) : valV (dE es g) (kE e) = none := by
  cases q : valV (dE es g) (kE e) with
  | none => rfl
  | some v =>
    have := valV_in q
    unfold dE at this
    rw [List.map_map] at this
    obtain ⟨x, hx, z⟩ := List.mem_map.mp this
    exact absurd (kE_inj z ▸ hx) h
theorem dE_put {es : List Ev} {g : Ev → V} {e : Ev} {v : V} (h : e ∈ es) : putK (dE es g) (kE e) v = dE es fun x => if x = e then v else g x := by
  unfold putK
  have q : ((dE es g).any fun kv => decide (kv.1 = kE e)) = true := by
    rw [List.any_eq_true]
    exact ⟨_, List.mem_map.mpr ⟨e, h, rfl⟩, by simp⟩
  rw [if_pos q]
  unfold dE
  rw [List.map_map]
  refine List.map_congr_left fun n _ => ?_
  by_cases z : n = e
  · subst z
    simp
  · have e' : ¬ kE n = kE e := fun y => z (kE_inj y)
    simp [z, e']
theorem dE_congr {es : List Ev} {g g' : Ev → V} (h : ∀ e ∈ es, g e = g' e) : dE es g = dE es g' := by
  unfold dE
  exact List.map_congr_left fun e he => by rw [h e he]
theorem dE_new {es : List Ev} {g : Ev → V} {e : Ev} {v : V} (h : e ∉ es) : putK (dE es g) (kE e) v = dE (es ++ [e]) fun x => if x = e then v else g x := by
  rw [putK_new _ (dE_none h)]
  unfold dE
  rw [List.map_append]
  congr 1
  · refine List.map_congr_left fun x hx => ?_
    have : ¬ x = e := fun z => h (z ▸ hx)
    simp [this]
  · simp
/-- a dict of lists of events, by event -/
structure BD (H : Hp) (d : Addr) (es : List Ev) (ad : Ev → Addr) (f : Ev → List (Addr × Ev)) : Prop where
  hD : Rd H d (.dT (dE es fun e => .ref (ad e)))
  hz : ∀ e ∈ es, H (ad e) = some (.lst ((f e).map fun z => V.ref z.1))
  he : ∀ e ∈ es, ∀ y ∈ f e, EvR H y
  inj : ∀ e ∈ es, ∀ e' ∈ es, ad e = ad e' → e = e'
section
variable {H H' : Hp} {d : Addr} {es : List Ev} {ad : Ev → Addr} {f : Ev → List (Addr × Ev)}
theorem BD.get (h : BD H d es ad f) {b : Addr} {e : Ev} (hb : EvR H (b, e)) (he : e ∈ es) : DGet H d (.ref b) (some (.ref (ad e))) := by
  refine .inr ⟨_, kE e, b, h.hD, rfl, hb, ?_⟩
  rw [dE_val he]
theorem BD.same (h : BD H d es ad f) (k : Same H H') : BD H' d es ad f :=
  ⟨h.hD.imp (fun z => k _ _ z) (fun ⟨o, z⟩ => ⟨o, k _ _ z⟩), fun e he => k _ _ (h.hz e he), fun e he y hy => (h.he e he y hy).keep (.same k), h.inj⟩
theorem BD.ne (h : BD H d es ad f) {e : Ev} (he : e ∈ es) : ad e ≠ d := fun z => by
  have := h.hz e he
  rw [z] at this
  rcases h.hD with q | ⟨o, q⟩ <;> rw [q] at this <;> cases this
/-- one event more in the list of e -/
theorem BD.app (h : BD H d es ad f) {e : Ev} {y : Addr × Ev} (he : e ∈ es) (hy : EvR H y) : BD (upd H (ad e) (.lst ((f e).map (fun z => V.ref z.1) ++ [V.ref y.1]))) d es ad (fun x => if x = e then f x ++ [y] else f x) := by
  have k := tk_upd (h.hz e he) (.lst ((f e).map (fun z => V.ref z.1) ++ [V.ref y.1]))
  have nd := h.ne he
  refine ⟨by rw [Rd, upd_ne (Ne.symm nd)]; exact h.hD, fun x hx => ?_, fun x hx z hz => ?_, h.inj⟩
  · by_cases c : x = e
    · subst c
      rw [upd_same, if_pos rfl, List.map_append]
      rfl
    · rw [if_neg c, upd_ne fun z => c (h.inj x hx e he z)]
      exact h.hz x hx
  · split at hz
    · rcases List.mem_append.mp hz with q | q
      · exact (h.he x hx z q).keep k
      · rw [List.mem_singleton.mp q]
        exact hy.keep k
    · exact (h.he x hx z hz).keep k
/-- a key more, its list at p -/
theorem BD.new (h : BD H d es ad f) {e : Ev} {p : Addr} {ys : List (Addr × Ev)} (he : e ∉ es) (hd : H d = some (.dT (dE es fun e => .ref (ad e)))) (hp : H p = some (.lst (ys.map fun z => V.ref z.1))) (hy : ∀ y ∈ ys, EvR H y) (np : ∀ x ∈ es, ad x ≠ p) :
    BD (upd H d (.dT (putK (dE es fun e => .ref (ad e)) (kE e) (.ref p)))) d (es ++ [e]) (fun x => if x = e then p else ad x) (fun x => if x = e then ys else f x) ∧
    (upd H d (.dT (putK (dE es fun e => .ref (ad e)) (kE e) (.ref p)))) d = some (.dT (dE (es ++ [e]) fun x => .ref (if x = e then p else ad x))) := by
  have e1 : putK (dE es fun e => V.ref (ad e)) (kE e) (.ref p) = dE (es ++ [e]) fun x => .ref (if x = e then p else ad x) := by
    rw [dE_new he]
    refine dE_congr fun x _ => ?_
    split <;> rfl
  have pd : p ≠ d := fun z => by rw [z, hd] at hp; cases hp
  have k : TK H (upd H d (.dT (putK (dE es fun e => .ref (ad e)) (kE e) (.ref p)))) := fun a xs q => by
    rw [upd_ne (ne_of q hd (by intro z; cases z))]
    exact q
  refine ⟨⟨.inl (by rw [upd_same, e1]), fun x hx => ?_, fun x hx y hy' => ?_, fun x hx x' hx' z => ?_⟩, by rw [upd_same, e1]⟩
  · by_cases c : x = e
    · rw [if_pos c, if_pos c, upd_ne pd]
      exact hp
    · rcases List.mem_append.mp hx with q | q
      · rw [if_neg c, if_neg c, upd_ne (h.ne q)]
        exact h.hz x q
      · exact absurd (List.mem_singleton.mp q) c
  · by_cases c : x = e
    · rw [if_pos c] at hy'
      exact (hy y hy').keep k
    · rw [if_neg c] at hy'
      rcases List.mem_append.mp hx with q | q
      · exact (h.he x q y hy').keep k
      · exact absurd (List.mem_singleton.mp q) c
  · by_cases c : x = e
    · by_cases c' : x' = e
      · rw [c, c']
      · rcases List.mem_append.mp hx' with q | q
        · rw [if_pos c, if_neg c'] at z
          exact absurd z.symm (np x' q)
        · exact absurd (List.mem_singleton.mp q) c'
    · rcases List.mem_append.mp hx with q | q
      · by_cases c' : x' = e
        · rw [if_neg c, if_pos c'] at z
          exact absurd z (np x q)
        · rcases List.mem_append.mp hx' with q' | q'
          · rw [if_neg c, if_neg c'] at z
            exact h.inj x q x' q' z
          · exact absurd (List.mem_singleton.mp q') c'
      · exact absurd (List.mem_singleton.mp q) c
end
theorem Same.put {H H' : Hp} {p : Addr} (k : Same H H') (h : H p = none) (o : HO) : Same H (upd H' p o) := fun a u e => by
  rw [upd_ne (ne_of_none e h)]
  exact k a u e
theorem sents_take {ls : List (Ev × Ev)} {k : Nat} {l : Ev × Ev} (h : ls[k]? = some l) (e : Ev) : sents (ls.take (k + 1)) e = if e = l.2 then sents (ls.take k) e ++ [l.1] else sents (ls.take k) e := by
  unfold sents
  rw [List.take_succ, h, Option.toList_some, List.filter_append, List.map_append, List.filter_cons]
  by_cases c : l.2 = e
  · rw [if_pos c.symm, if_pos (decide_eq_true c)]
    rfl
  · have c' : ¬ e = l.2 := fun z => c z.symm
    have d : decide (l.2 = e) = false := decide_eq_false c
    rw [if_neg c', d]
    simp
theorem sents_len (ls : List (Ev × Ev)) (e : Ev) : (sents ls e).length ≤ ls.length := by
  unfold sents
  rw [List.length_map]
  exact List.length_filter_le _ _
theorem prevs_len (L : Lg) (e : Ev) : (prevs L e).length ≤ 1 := by
  unfold prevs
  split <;> simp
theorem gmap_of {α β : Type} {g : α → β} {l : List α} {m : List β} (e : l.map g = m) {i : Nat} {x : α} (h : l[i]? = some x) : m[i]? = some (g x) := by
  rw [← e, List.getElem?_map, h]
  rfl
end L2.My

namespace L2.My
open PySem PySem.Spec PyProof.Rows
open HQ (Ev evD)
/-- a test that is a tracked list's truth -/
def tTruH (ta : TE) : TT := fun σ H Q => ta σ H fun x H' => ∃ a xs, x = .ref a ∧ H' a = some (.lst xs) ∧ Q (!xs.isEmpty) H'
theorem pt_truH {X : Cx} {a : Expr} {ta : TE} (ha : PE X a ta) (he : ∀ whole, isTrue a X.env whole = (do let v ← whole; standAt a.pos; holding [v] (truthy v))) : PT X a (tTruH ta) := by
  constructor
  intro pins s σ H Q I h
  refine isTrue_plain (thn (ha.run pins s σ H _ I h) fun v s1 ⟨x, H1, I1, r1, p, xs, e1, e2, q1⟩ => ?_) (he _)
  subst e1
  exact tru_ok pins s1 σ H1 _ v Q I1 r1 ⟨_, .inl ⟨xs, .inl (.inl e2), rfl⟩, q1⟩
theorem tk_off {H : Hp} {d : Addr} {u o : HO} (hd : H d = some u) (nt : ∀ xs, u ≠ .tup xs) : TK H (upd H d o) := fun a xs q => by
  rw [upd_ne (ne_of q hd (fun z => nt xs z.symm))]
  exact q
section
variable {H H' : Hp} {d p : Addr} {es : List Ev} {ad : Ev → Addr} {f : Ev → List (Addr × Ev)}
/-- another thing changes, no list and no tuple -/
theorem BD.off (h : BD H p es ad f) {u o : HO} (hd : H d = some u) (nl : ∀ xs, u ≠ .lst xs) (nt : ∀ xs, u ≠ .tup xs) (ne : p ≠ d) : BD (upd H d o) p es ad f := by
  have k := tk_off (o := o) hd nt
  refine ⟨by rw [Rd, upd_ne ne]; exact h.hD, fun e he => ?_, fun e he y hy => (h.he e he y hy).keep k, h.inj⟩
  rw [upd_ne (ne_of (h.hz e he) hd fun z => nl _ z.symm)]
  exact h.hz e he
theorem BD.lock (h : BD H d es ad f) (hd : H d = some (.dT (dE es fun e => .ref (ad e)))) (od : Obj) : BD (upd H d (.frz od (.dT (dE es fun e => .ref (ad e))))) d es ad f := by
  have k := tk_off (o := .frz od (.dT (dE es fun e => .ref (ad e)))) hd (fun _ z => nomatch z)
  refine ⟨.inr ⟨od, upd_same⟩, fun e he => ?_, fun e he y hy => (h.he e he y hy).keep k, h.inj⟩
  rw [upd_ne (ne_of (h.hz e he) hd (by intro z; cases z))]
  exact h.hz e he
theorem unlock_same {u o : HO} (hd : H d = some u) (k : Same (upd H d o) H') : Same H (upd H' d u) := fun a v e => by
  by_cases c : a = d
  · rw [c] at e ⊢
    rw [upd_same]
    exact hd.symm.trans e
  · rw [upd_ne c]
    exact k a v (by rw [upd_ne c]; exact e)
end
theorem same_upd2 {H H' : Hp} {d : Addr} {o : HO} (k : Same H H') : Same (upd H d o) (upd H' d o) := fun a v e => by
  by_cases c : a = d
  · subst c
    rw [upd_same] at e ⊢
    exact e
  · rw [upd_ne c] at e ⊢
    exact k a v e
theorem BD.cg {H : Hp} {d : Addr} {es : List Ev} {ad : Ev → Addr} {f f' : Ev → List (Addr × Ev)} (h : BD H d es ad f) (e : f = f') : BD H d es ad f' := e ▸ h
/-! ### walks over the keys of a locked dict -/
section
variable {d : Addr} {od : Obj} {es : List Ev} {g0 : Ev → V} {i : Nat} {vs : List Nat} {σ : St} {H0 : Hp}
theorem keys_comp {Qd : Hp → Prop} {B : (Hp → Prop) → St → Hp → Prop} (Iv : Nat → Hp → Prop) (h0 : Iv 0 H0) (hl : ∀ k H', Iv k H' → H' d = some (.frz od (.dT (dE es g0)))) (hw : ∀ x : V, wipe ((wipe σ vs).set i (some x)) vs = wipe σ vs)
    (turn : ∀ (k : Nat) (q : Addr) (e : Ev) (H1 : Hp), es[k]? = some e → EvR H1 (q, e) → Iv k H1 → B (Iv (k + 1)) ((wipe σ vs).set i (some (.ref q))) H1) (done : ∀ H', Iv es.length H' → Qd H') :
    ∃ W : Nat → Nat → Hp → Prop, (∃ m, W 0 m H0) ∧ ∀ k m H', W k m H' → ((Itkt d od (dE es g0)).stop k H' ∧ Qd H') ∨ ((Itkt d od (dE es g0)).go k H' ∧ ∃ Nx : Hp → Prop, (∀ H', Nx H' → ∃ m', m' < m ∧ W (k + 1) m' H') ∧
      ∀ x H2, (Itkt d od (dE es g0)).yld k H' x H2 → gName i x (wipe σ vs) H2 fun σ2 H2 => wipe σ2 vs = wipe σ vs ∧ B Nx σ2 H2) := by
  have ll : (dE es g0).length = es.length := by unfold dE; rw [List.length_map]
  refine ⟨fun k m H1 => k + m = es.length ∧ Iv k H1, ⟨es.length, by omega, h0⟩, ?_⟩
  rintro k m H1 ⟨km, iv⟩
  have hd := hl k H1 iv
  by_cases hk : k < es.length
  · refine .inr ⟨⟨hd, by rw [ll]; exact hk⟩, Iv (k + 1), fun H2 h2 => ⟨m - 1, by omega, by omega, h2⟩, fun x H2 hy => ?_⟩
    obtain ⟨rfl, kk, v, q, h1, rfl, h3⟩ := hy
    have h1' : (dE es g0)[k]? = some (kE es[k], g0 es[k]) := by unfold dE; rw [List.getElem?_map, List.getElem?_eq_getElem hk]; rfl
    have e := (Prod.mk.inj (Option.some.inj (h1'.symm.trans h1))).1
    subst e
    exact ⟨hw _, turn k q es[k] H2 (List.getElem?_eq_getElem hk) h3 iv⟩
  · have : k = es.length := by omega
    subst this
    exact .inl ⟨⟨hd, by rw [ll]; exact Nat.le_refl _⟩, done H1 iv⟩
theorem for_keys {g : TG} {tb : TS} {D : Ends} {σ : St} {H : Hp} (Pv : Nat → St → Hp → Prop) (h0 : Pv 0 σ H) (hl : ∀ k σ H', Pv k σ H' → H' d = some (.frz od (.dT (dE es g0))))
    (hs : ∀ (k : Nat) (q : Addr) (e : Ev) (σ : St) (H1 : Hp), es[k]? = some e → EvR H1 (q, e) → Pv k σ H1 → g (.ref q) σ H1 fun σ2 H2 => tb { D with nx := Pv (k + 1), ct := Pv (k + 1), bk := D.nx } σ2 H2) (hd : ∀ σ H, Pv es.length σ H → D.nx σ H) :
    ∃ W : Nat → Nat → St → Hp → Prop, (∃ m, W 0 m σ H) ∧ ∀ i m σ H, W i m σ H →
      ((Itkt d od (dE es g0)).stop i H ∧ D.nx σ H) ∨ ((Itkt d od (dE es g0)).go i H ∧ ∃ N : St → Hp → Prop, (∀ σ' H', N σ' H' → ∃ m', m' < m ∧ W (i + 1) m' σ' H') ∧ ∀ x H', (Itkt d od (dE es g0)).yld i H x H' → g x σ H' fun σ2 H2 => tb { D with nx := N, ct := N, bk := D.nx } σ2 H2) := by
  have ll : (dE es g0).length = es.length := by unfold dE; rw [List.length_map]
  refine ⟨fun k m σ H => k + m = es.length ∧ Pv k σ H, ⟨es.length, by omega, h0⟩, ?_⟩
  rintro k m σ H ⟨km, iv⟩
  have hq := hl k σ H iv
  by_cases hk : k < es.length
  · refine .inr ⟨⟨hq, by rw [ll]; exact hk⟩, Pv (k + 1), fun σ' H2 h2 => ⟨m - 1, by omega, by omega, h2⟩, fun x H2 hy => ?_⟩
    obtain ⟨rfl, kk, v, q, h1, rfl, h3⟩ := hy
    have h1' : (dE es g0)[k]? = some (kE es[k], g0 es[k]) := by unfold dE; rw [List.getElem?_map, List.getElem?_eq_getElem hk]; rfl
    have e := (Prod.mk.inj (Option.some.inj (h1'.symm.trans h1))).1
    subst e
    exact hs k q es[k] σ H2 (List.getElem?_eq_getElem hk) h3 iv
  · have : k = es.length := by omega
    subst this
    exact .inl ⟨⟨hq, by rw [ll]; exact Nat.le_refl _⟩, hd σ H iv⟩
end
theorem tk_snoc {α : Type} {l : List α} {i : Nat} {x : α} (h : l[i]? = some x) : l.take (i + 1) = l.take i ++ [x] := by rw [List.take_succ, h]; rfl
theorem nin_take {l : List Ev} (nd : l.Nodup) {i : Nat} {x : Ev} (h : l[i]? = some x) : x ∉ l.take i := fun y => by
  have li : i < l.length := by
    rcases Nat.lt_or_ge i l.length with z | z
    · exact z
    · rw [List.getElem?_eq_none z] at h; cases h
  have e : l = l.take i ++ l.drop i := (List.take_append_drop i l).symm
  have hd : x ∈ l.drop i := by
    rw [List.getElem?_eq_getElem li] at h
    rw [← Option.some.inj h, List.drop_eq_getElem_cons li]
    exact List.mem_cons_self
  rw [e] at nd
  exact (List.nodup_append.mp nd).2.2 x y x hd rfl
theorem behd_len {es : List Ev} {bef : Ev → List Ev} {c : Nat} (h : ∀ x ∈ es, (bef x).length ≤ c) (y : Ev) : (behd es bef y).length ≤ es.length * c := by
  induction es with
  | nil => simp [behd]
  | cons z es ih =>
    have e : behd (z :: es) bef y = (((bef z).filter fun b => decide (b = y)).map fun _ => z) ++ behd es bef y := rfl
    rw [e, List.length_append, List.length_map, List.length_cons, Nat.succ_mul]
    have a := ih fun x hx => h x (List.mem_cons_of_mem _ hx)
    have b := h z List.mem_cons_self
    have d := List.length_filter_le (fun b => decide (b = y)) (bef z)
    omega
theorem heap_sorted {es : List Ev} (h : es.Pairwise HQ.le) : heapL es := by
  intro c c0 cn
  have cn : c < es.length := cn
  have pl : (c - 1) / 2 < es.length := by omega
  show HQ.le ((es[(c - 1) / 2]?).getD _) ((es[c]?).getD _)
  rw [List.getElem?_eq_getElem pl, List.getElem?_eq_getElem cn]
  exact List.pairwise_iff_getElem.mp h _ _ pl cn (by omega)
theorem dE_int {H : Hp} {d b : Addr} {es : List Ev} {g : Ev → V} {e : Ev} (hd : Rd H d (.dT (dE es g))) (hb : EvR H (b, e)) (he : e ∈ es) : DGet H d (.ref b) (some (g e)) := by
  refine .inr ⟨_, kE e, b, hd, rfl, hb, ?_⟩
  rw [dE_val he]
end L2.My

namespace L2.My
open PySem PySem.Spec PyProof.Rows
open HQ (Ev evD)
section
variable {es : List Ev} {bef : Ev → List Ev} {o : List Ev} {e x y : Ev} {j : Nat}
/-- ready when j of those behind e have been told -/
def RJ (es : List Ev) (bef : Ev → List Ev) (o : List Ev) (e : Ev) (j : Nat) (y : Ev) : Prop := y ∈ es ∧ y ∉ o ++ [e] ∧ wt o (bef y) = ((behd es bef e).take j).count y
theorem rj_zero (hr : Rdy es bef o e) : RJ es bef o e 0 y ↔ Rdy es bef o y ∧ y ≠ e := by
  unfold RJ Rdy
  rw [List.take_zero, List.count_nil, wt_zero, List.mem_append, List.mem_singleton, not_or]
  constructor
  · rintro ⟨a, ⟨b, c⟩, d⟩
    exact ⟨⟨a, b, d⟩, c⟩
  · rintro ⟨⟨a, b, d⟩, c⟩
    exact ⟨a, ⟨b, c⟩, d⟩
theorem behd_wt (nd : es.Nodup) (he : e ∉ o) (hy : y ∈ es) : wt o (bef y) = wt (o ++ [e]) (bef y) + (behd es bef e).count y := by
  rw [behd_count nd, if_pos hy]
  exact wt_snoc he
theorem rj_end (nd : es.Nodup) (he : e ∉ o) : RJ es bef o e (behd es bef e).length y ↔ Rdy es bef (o ++ [e]) y := by
  unfold RJ Rdy
  rw [List.take_length, ← wt_zero]
  constructor
  · rintro ⟨a, b, c⟩
    have := behd_wt (bef := bef) nd he a
    exact ⟨a, b, by omega⟩
  · rintro ⟨a, b, c⟩
    have := behd_wt (bef := bef) nd he a
    exact ⟨a, b, by omega⟩
theorem count_take (hx : (behd es bef e)[j]? = some x) (y : Ev) : ((behd es bef e).take (j + 1)).count y = ((behd es bef e).take j).count y + if x = y then 1 else 0 := by
  rw [tk_snoc hx, List.count_append, List.count_cons, List.count_nil]
  by_cases c : x = y
  · simp [c]
  · simp [c]
theorem count_le (hx : (behd es bef e)[j]? = some x) : ((behd es bef e).take j).count x + 1 ≤ (behd es bef e).count x := by
  have h := count_take hx x
  rw [if_pos rfl] at h
  rw [← h]
  exact List.Sublist.count_le x (List.take_sublist _ _)
theorem rj_push (hk : Kd es bef o) (hr : Rdy es bef o e) (hx : (behd es bef e)[j]? = some x) (c : wt o (bef x) = ((behd es bef e).take (j + 1)).count x) : (∀ y, RJ es bef o e (j + 1) y ↔ y = x ∨ RJ es bef o e j y) ∧ ¬ RJ es bef o e j x := by
  have cx := count_take hx x
  rw [if_pos rfl] at cx
  have ix := behd_mem (List.mem_of_getElem? hx)
  have no : x ∉ o ++ [e] := fun z => by
    have : wt o (bef x) = 0 := by
      rw [wt_zero]
      rcases List.mem_append.mp z with q | q
      · exact hk.closed x q
      · rw [List.mem_singleton.mp q]
        exact hr.2.2
    omega
  refine ⟨fun y => ?_, fun ⟨_, _, h⟩ => by omega⟩
  unfold RJ
  rw [count_take hx y]
  by_cases d : y = x
  · subst d
    rw [if_pos rfl]
    exact ⟨fun _ => .inl rfl, fun _ => ⟨ix, no, by omega⟩⟩
  · rw [if_neg fun z => d z.symm, Nat.add_zero]
    exact ⟨.inr, fun h => h.resolve_left d⟩
theorem rj_stay (nd : es.Nodup) (he : e ∉ o) (hx : (behd es bef e)[j]? = some x) (c : wt o (bef x) ≠ ((behd es bef e).take (j + 1)).count x) (y : Ev) : RJ es bef o e (j + 1) y ↔ RJ es bef o e j y := by
  have cx := count_take hx x
  rw [if_pos rfl] at cx
  unfold RJ
  by_cases d : y = x
  · subst d
    constructor
    · rintro ⟨_, _, h⟩
      exact absurd h c
    · rintro ⟨iy, _, h⟩
      have a1 := behd_wt (bef := bef) nd he iy
      have a2 := count_le hx
      omega
  · rw [count_take hx y, if_neg fun z => d z.symm, Nat.add_zero]
end
theorem BD.lst {H : Hp} {p d : Addr} {es : List Ev} {ad : Ev → Addr} {f : Ev → List (Addr × Ev)} (h : BD H p es ad f) {xs : List V} {o : HO} (hd : H d = some (.lst xs)) (ne : ∀ e ∈ es, ad e ≠ d) : BD (upd H d o) p es ad f := by
  have k := tk_upd hd o
  have pd : p ≠ d := fun z => by
    rcases h.hD with q | ⟨u, q⟩ <;> rw [z, hd] at q <;> cases q
  exact ⟨by rw [Rd, upd_ne pd]; exact h.hD, fun e he => by rw [upd_ne (ne e he)]; exact h.hz e he, fun e he y hy => (h.he e he y hy).keep k, h.inj⟩
theorem evs_keep {H H' : Hp} {zs : List (Addr × Ev)} (h : ∀ z ∈ zs, EvR H z) (k : TK H H') : ∀ z ∈ zs, EvR H' z := fun z hz => (h z hz).keep k
end L2.My

namespace L2.My
open PySem PySem.Spec PyProof.Rows
open HQ (Ev evD)
theorem rdy_cg {es : List Ev} {bef bef' : Ev → List Ev} (h : ∀ e ∈ es, bef e = bef' e) {o : List Ev} {e : Ev} : Rdy es bef o e ↔ Rdy es bef' o e := by
  unfold Rdy
  constructor
  · rintro ⟨a, b, c⟩
    exact ⟨a, b, h e a ▸ c⟩
  · rintro ⟨a, b, c⟩
    exact ⟨a, b, (h e a).symm ▸ c⟩
theorem fin_cg {es : List Ev} {bef bef' : Ev → List Ev} (h : ∀ e ∈ es, bef e = bef' e) {o : List Ev} (f : Fin es bef o) : Fin es bef' o := by
  refine ⟨?_, fun e q => f.2 e ((rdy_cg h).mpr q)⟩
  have k := f.1
  clear f
  induction k with
  | nil => exact .nil
  | snoc _ r l ih => exact .snoc ih ((rdy_cg h).mp r) fun y hy => l y ((rdy_cg h).mpr hy)
theorem ev_tp_of {H : Hp} {v : V} {e : Ev} (h : Tp H v (evD e)) : ∃ a, v = .ref a ∧ EvR H (a, e) := by
  cases h with
  | tup h t =>
    cases t with
    | cons h1 t =>
      cases t with
      | cons h2 t =>
        cases t
        cases h1
        cases h2
        exact ⟨_, rfl, h⟩
theorem lt_tp_of {H : Hp} {v : V} {l : Ev × Ev} (h : Tp H v (encL l)) : ∃ z : Addr × (Addr × Ev) × (Addr × Ev), v = .ref z.1 ∧ LtR H z ∧ prL z = l := by
  cases h with
  | tup h t =>
    cases t with
    | cons h1 t =>
      cases t with
      | cons h2 t =>
        cases t
        obtain ⟨a1, rfl, e1⟩ := ev_tp_of h1
        obtain ⟨a2, rfl, e2⟩ := ev_tp_of h2
        exact ⟨(_, (a1, l.1), (a2, l.2)), rfl, ⟨h, e1, e2⟩, rfl⟩
theorem lts_of {H : Hp} : ∀ {ys : List V} {ls : List (Ev × Ev)}, TpAll H ys (ls.map encL) → ∃ zl : List (Addr × (Addr × Ev) × (Addr × Ev)), ys = zl.map (fun z => V.ref z.1) ∧ (∀ z ∈ zl, LtR H z) ∧ zl.map prL = ls
  | _, [], .nil => ⟨[], rfl, (fun _ h => nomatch h), rfl⟩
  | _, l :: ls, .cons h t => by
    obtain ⟨z, rfl, h1, h2⟩ := lt_tp_of h
    obtain ⟨zl, rfl, h3, h4⟩ := lts_of t
    exact ⟨z :: zl, rfl, fun y hy => (List.mem_cons.mp hy).elim (fun e => e ▸ h1) (h3 y), by rw [List.map_cons, h2, h4]⟩
mutual
theorem tup_tup : ∀ d : PyData, tupD (tupD d) = tupD d
  | .list ds => by simp only [tupD, tups_tups ds]
  | .tuple ds => by simp only [tupD, tups_tups ds]
  | .none => rfl
  | .bool _ => rfl
  | .int _ => rfl
  | .str _ => rfl
  | .dict _ => rfl
theorem tups_tups : ∀ ds : List PyData, tupDs (tupDs ds) = tupDs ds
  | [] => rfl
  | d :: ds => by simp only [tupDs, tup_tup d, tups_tups ds]
end
mutual
theorem tup_lst : ∀ d : PyData, tupD (lstD d) = tupD d
  | .list ds => by simp only [tupD, lstD, tups_lsts ds]
  | .tuple ds => by simp only [tupD, lstD, tups_lsts ds]
  | .none => rfl
  | .bool _ => rfl
  | .int _ => rfl
  | .str _ => rfl
  | .dict _ => rfl
theorem tups_lsts : ∀ ds : List PyData, tupDs (lstDs ds) = tupDs ds
  | [] => rfl
  | d :: ds => by simp only [tupDs, lstDs, tup_lst d, tups_lsts ds]
end
theorem tup_ev (e : Ev) : tupD (evD e) = evD e := by simp [evD, tupD, tupDs]
theorem tup_l (l : Ev × Ev) : tupD (encL l) = encL l := by simp [encL, tupD, tupDs, tup_ev]
theorem tup_ints (is : List Int) : tupDs (is.map PyData.int) = is.map PyData.int := by
  rw [tupDs_map, List.map_map]
  exact List.map_congr_left fun i _ => rfl
theorem tup_m (m : Str × Nat × List Int) : tupD (encM m) = encM m := by simp [encM, tupD, tupDs, tup_ints]
theorem tup_log (L : Lg) : tupD (encLog L) = encLog L := by
  unfold encLog
  simp only [tupD, tupDs, tupDs_map, List.map_map]
  refine congrArg PyData.tuple ?_
  refine congr (congrArg List.cons (congrArg PyData.tuple ?_)) (congrArg (fun x => [x]) (congrArg PyData.tuple ?_))
  · exact List.map_congr_left fun m _ => tup_m m
  · exact List.map_congr_left fun l _ => tup_l l
theorem befs_len {L : Lg} (h : Good L) (e : Ev) : (befs L e).length ≤ 20 := by
  unfold befs
  rw [List.length_append]
  have a1 := prevs_len L e
  have a2 := sents_len L.ls e
  have a3 := h.few.2.1
  omega
end L2.My

namespace L2.My
open PySem PySem.Spec PyProof.Rows
open HQ (Ev evD)
/-- a list of events, by place -/
theorem zs_of {H : Hp} : ∀ {ys : List V} {es : List Ev}, ys.length = es.length → (∀ (j : Nat) (y : V), ys[j]? = some y → ∃ a e, y = V.ref a ∧ es[j]? = some e ∧ EvR H (a, e)) →
    ∃ zs : List (Addr × Ev), ys = zs.map (fun z => V.ref z.1) ∧ (∀ z ∈ zs, EvR H z) ∧ zs.map (·.2) = es
  | [], [], _, _ => ⟨[], rfl, (fun _ h => nomatch h), rfl⟩
  | y :: ys, e :: es, hl, h => by
    obtain ⟨a, e', rfl, e2, r⟩ := h 0 y rfl
    have e2 : e = e' := Option.some.inj e2
    subst e2
    obtain ⟨zs, rfl, h1, h2⟩ := zs_of (Nat.succ.inj hl) fun j y hy => h (j + 1) y hy
    exact ⟨(a, e) :: zs, rfl, fun z hz => (List.mem_cons.mp hz).elim (fun q => q ▸ r) (h1 z), by rw [List.map_cons, h2]⟩
  | [], _ :: _, hl, _ => by cases hl
  | _ :: _, [], hl, _ => by cases hl
/-- a log, of tuples -/
structure LogTup (H : Hp) (v : V) (L : Lg) (a m l : Addr) (xs : List V) (zl : List (Addr × (Addr × Ev) × (Addr × Ev))) : Prop where
  ea : v = .ref a
  ha : H a = some (.tup [.ref m, .ref l])
  hm : H m = some (.tup xs)
  lx : xs.length = L.ms.length
  hx : ∀ (k : Nat) (x : V), xs[k]? = some x → ∃ mm q r, L.ms[k]? = some mm ∧ x = .ref q ∧ H q = some (.tup [.str mm.1, .int mm.2.1, .ref r]) ∧ H r = some (.tup (mm.2.2.map .int))
  hl : H l = some (.tup (zl.map fun z => V.ref z.1))
  hz : ∀ z ∈ zl, LtR H z
  el : zl.map prL = L.ls
theorem ints_tp_of {H : Hp} : ∀ {xs : List V} {is : List Int}, TpAll H xs (is.map PyData.int) → xs = is.map V.int
  | _, [], .nil => rfl
  | _, i :: is, .cons h t => by
    cases h
    rw [ints_tp_of t]
    rfl
theorem ms_of {H : Hp} : ∀ {xs : List V} {ms : List (Str × Nat × List Int)}, TpAll H xs (ms.map encM) → ∀ (k : Nat) (x : V), xs[k]? = some x → ∃ mm q r, ms[k]? = some mm ∧ x = .ref q ∧ H q = some (.tup [.str mm.1, .int mm.2.1, .ref r]) ∧ H r = some (.tup (mm.2.2.map .int))
  | _, [], .nil, k, x, e => by simp at e
  | _, m :: ms, .cons h t, 0, x, e => by
    have e := Option.some.inj e
    subst e
    cases h with
    | tup h t =>
      cases t with
      | cons h1 t =>
        cases t with
        | cons h2 t =>
          cases t with
          | cons h3 t =>
            cases t
            cases h1
            cases h2
            cases h3 with
            | tup h3 t3 => exact ⟨m, _, _, rfl, rfl, h, by rw [← ints_tp_of t3]; exact h3⟩
  | _, m :: ms, .cons h t, k + 1, x, e => ms_of t k x e
theorem logTup {H : Hp} {v : V} {L : Lg} (h : Tp H v (encLog L)) : ∃ a m l xs zl, LogTup H v L a m l xs zl := by
  cases h with
  | @tup a _ _ ha t =>
    cases t with
    | cons t1 t =>
      cases t with
      | cons t2 t =>
        cases t
        cases t1 with
        | @tup m _ _ hm tm =>
          cases t2 with
          | @tup l _ _ hl tl =>
            obtain ⟨zl, rfl, h3, h4⟩ := lts_of tl
            exact ⟨a, m, l, _, zl, rfl, ha, hm, by rw [tm.length, List.length_map], ms_of tm, hl, h3, h4⟩
theorem LogTup.keep {H H' : Hp} {v : V} {L : Lg} {a m l : Addr} {xs : List V} {zl : List (Addr × (Addr × Ev) × (Addr × Ev))} (h : LogTup H v L a m l xs zl) (k : TK H H') : LogTup H' v L a m l xs zl :=
  ⟨h.ea, k _ _ h.ha, k _ _ h.hm, h.lx, fun i x hx => let ⟨mm, q, r, e1, e2, e3, e4⟩ := h.hx i x hx; ⟨mm, q, r, e1, e2, k _ _ e3, k _ _ e4⟩, k _ _ h.hl, fun z hz => (h.hz z hz).keep k, h.el⟩
theorem eqv_ev (a b : Ev) : PyData.eqv (evD a) (evD b) = decide (a = b) := by
  obtain ⟨x, i⟩ := a
  obtain ⟨y, j⟩ := b
  simp only [evD, PyData.eqv, PyData.eqvAll, Bool.and_true, Prod.mk.injEq]
  by_cases h1 : x = y <;> by_cases h2 : i = j <;> simp [h1, h2]
theorem any_ev (es : List Ev) (e : Ev) : ((es.map evD).any fun z => PyData.eqv z (evD e)) = decide (e ∈ es) := by
  rw [List.any_map]
  induction es with
  | nil => rfl
  | cons a es ih =>
    rw [List.any_cons, ih, Function.comp_apply, eqv_ev]
    by_cases c : a = e
    · simp [c]
    · have : ¬ e = a := fun z => c z.symm
      simp [c, this]
/-- the second part of a tracked pair -/
def sndOf (H : Hp) : V → V
  | .ref a => match H a with
    | some (.tup [_, y]) => y
    | _ => .non
  | _ => .non
theorem sndOf_lt {H : Hp} {z : Addr × (Addr × Ev) × (Addr × Ev)} (h : LtR H z) : sndOf H (.ref z.1) = .ref z.2.2.1 := by
  unfold sndOf
  simp only [h.1]
/-- the letter that stands at a tracked pair: its first event -/
def fstEv (H : Hp) : V → Ev
  | .ref a => match H a with
    | some (.tup [x, _]) => evOf H x
    | _ => (⟨#[]⟩, 0)
  | _ => (⟨#[]⟩, 0)
theorem fstEv_lt {H : Hp} {z : Addr × (Addr × Ev) × (Addr × Ev)} (h : LtR H z) : fstEv H (.ref z.1) = (prL z).1 := by
  unfold fstEv
  simp only [h.1]
  exact evOf_of h.2.1
/-- there is a ready one as long as one is left -/
theorem ex_rdy {L : Lg} (h : Good L) {o : List Ev} : ∀ (n : Nat) (r : Ev → Nat), (∀ l ∈ L.ls, r l.1 < r l.2) → (∀ (n : Str) (i : Int), 0 ≤ i → (n, i + 1) ∈ evs L → r (n, i) < r (n, i + 1)) → ∀ y, r y < n → y ∈ evs L → y ∉ o → ∃ e, Rdy (evs L) (befs L) o e
  | 0, _, _, _, _, hn, _, _ => absurd hn (Nat.not_lt_zero _)
  | n + 1, r, h1, h2, y, hn, hy, ho => by
    by_cases c : ∀ b ∈ befs L y, b ∈ o
    · exact ⟨y, hy, ho, c⟩
    · have : ∃ b, b ∈ befs L y ∧ b ∉ o := by
        refine Classical.byContradiction fun q => c fun b hb => Classical.byContradiction fun z => q ⟨b, hb, z⟩
      obtain ⟨b, hb, hbo⟩ := this
      have lt : r b < r y := by
        unfold befs at hb
        rcases List.mem_append.mp hb with z | z
        · unfold prevs at z
          split at z
          · rename_i q
            rw [List.mem_singleton.mp z]
            obtain ⟨k, mk, hm, i0, ik⟩ := mem_evs.mp q
            have := h2 y.1 (y.2 - 1) i0 (by rw [show y.2 - 1 + 1 = y.2 by omega]; exact hy)
            rw [show y.2 - 1 + 1 = y.2 by omega] at this
            exact this
          · cases z
        · unfold sents at z
          obtain ⟨l, hl, rfl⟩ := List.mem_map.mp z
          obtain ⟨hl1, hl2⟩ := List.mem_filter.mp hl
          have := h1 l hl1
          rw [of_decide_eq_true hl2] at this
          exact this
      exact ex_rdy h n r h1 h2 b (by omega) (befs_sub h hb) hbo
end L2.My

namespace L2.My
open PySem PySem.Spec PyProof.Rows
open HQ (Ev evD)
section
variable {σ : St} {H : Hp} {vs : List Nat} {i : Nat} {te : TE}
/-- [(n, v) for v in numbers] -/
theorem lc_evs {J : It} {D : Addr} {Qd : Hp → Prop} {is : List Int} {n : Str} (wJ : Wk J H (is.map V.int)) (nD : H D = none) (few : is.length ≤ sizeLine) (hw : ∀ x : V, wipe ((wipe σ vs).set i (some x)) vs = wipe σ vs)
    (elt : ∀ (v : Int) (H1 : Hp) (Q' : VK), Same H H1 → (∀ p, H1 p = none → Q' (V.ref p) (upd H1 p (.tup [.str n, .int v]))) → te ((wipe σ vs).set i (some (.int v))) H1 Q')
    (done : ∀ (H' : Hp) (zs : List (Addr × Ev)), Same H H' → H' D = some (.lst (zs.map fun z => V.ref z.1)) → (∀ z ∈ zs, EvR H' z) → zs.map (·.2) = is.map (fun v => (n, v)) → Qd H') :
    ∃ W : Nat → Nat → Hp → Prop, (∃ m, W 0 m (upd H D (.lst []))) ∧ ∀ k m H', W k m H' → (J.stop k H' ∧ Qd H') ∨ (J.go k H' ∧ ∃ Nx : Hp → Prop, (∀ H', Nx H' → ∃ m', m' < m ∧ W (k + 1) m' H') ∧
      ∀ x H2, J.yld k H' x H2 → gName i x (wipe σ vs) H2 fun σ2 H2 => wipe σ2 vs = wipe σ vs ∧ tYes σ2 H2 fun b H3 => if b = true then te σ2 H3 fun y H4 => ∃ acc, H4 D = some (.lst acc) ∧ acc.length < sizeLine ∧ Nx (upd H4 D (.lst (acc ++ [y]))) else Nx H3) := by
  have ll : (is.map V.int).length = is.length := List.length_map _
  refine lc_map (J := J) (xs := is.map V.int) nD (fun j H' s h => (wJ H' s).1 j h) (fun H' s => (wJ H' s).2.1) (fun j x H1 H2 s y => (wJ H1 s).2.2 j x H2 y) (by rw [ll]; exact few)
    (fun j y H' => ∃ a e, y = V.ref a ∧ (is.map fun v => (n, v))[j]? = some e ∧ EvR H' (a, e)) (fun j y H1 H2 s ⟨a, e, e1, e2, e3⟩ => ⟨a, e, e1, e2, EvR.keep e3 (.same s)⟩) (fun j y H1 zs o hD ⟨a, e, e1, e2, e3⟩ => ⟨a, e, e1, e2, EvR.keep e3 (tk_upd hD o)⟩) hw ?_ ?_
  · intro j x H1 Q' hx s1 _ k
    rw [List.getElem?_map] at hx
    obtain ⟨v, hv, rfl⟩ := Option.map_eq_some_iff.mp hx
    refine elt v H1 Q' s1 fun p np => k _ _ (same_new np _) ⟨p, (n, v), rfl, by rw [List.getElem?_map, hv]; rfl, upd_same⟩
  · intro H' ys s1 hD ly hR
    obtain ⟨zs, rfl, h1, h2⟩ := zs_of (es := is.map fun v => (n, v)) (by rw [ly, List.length_map, List.length_map]) hR
    exact done H' zs s1 hD h1 h2
end
end L2.My

namespace L2.My
open PySem PySem.Spec PyProof.Rows
open HQ (Ev evD)
/-- one value, given by name -/
def g1 : List Value → List Value → List Value
  | [], [w] => [w]
  | _, _ => []
def gV1 : List V → List V → List V
  | [], [w] => [w]
  | _, _ => []
theorem kb1 {K : PySem.W.Frag} {fd : FuncData} {x : Str} (h : ∀ w : Value, bindArgs fd ⟨[], [(x, w)]⟩ = pure [(x, w)]) : KBinds K fd [x] [x] g1 gV1 := by
  refine ⟨fun s us ws _ hl => ?_, fun {vs us zs ws} r1 r2 => ?_⟩
  · match us, ws, hl with
    | [], [w], _ => exact .of_eq (h w)
  · cases r1 with
    | nil =>
      cases r2 with
      | nil => exact .nil
      | cons a r2 =>
        cases r2 with
        | nil => exact .cons a .nil
        | cons _ _ => exact .nil
    | cons _ _ => exact .nil
section
variable {X : Cx} {CX : CXT} {k : Nat} {f : Addr} {fd : FuncData} {ps ks : List Str} {sp : Sp} {E : XK} {x : Str} {p pos : Pos} {kws : List Keyword} {tk : TA} {g : List Value → List Value → List Value} {gV : List V → List V → List V}
/-- f(k = v, ..), all by name -/
theorem pe_named (F : FnOk X.prog X.w X.K X.mg X.base CX k f fd ps sp) (hr : Room k X.A) (hg : Gl X x) (hm : X.mg x = some (.ref f)) (kp : PySem.W.keepIn X.K (.ref f) = true) (hb : KBinds X.K fd ps ks g gV) (hx : Passes CX X E) (hkw : PK X kws tk)
    (some_ : (backToKw pos (keywordEach kws X.env)).all (·.1.isSome) = true := by rfl) (hks : (backToKw pos (keywordEach kws X.env)).filterMap (·.1) = ks := by rfl) (hdb : (x == ("__debug__" : Str)) = false := by decide)
    (plain : ((backTo pos (starEach [] X.env)).any (·.1) || (backToKw pos (keywordEach kws X.env)).any (·.1.isNone)) = false := by rfl) : PE X (.Call (.Name x p) [] kws pos) (tCallK sp gV E tNil tk) := by
  constructor
  intro pins s σ H Q I h
  refine wpAny_Call_Name_kw (ld_glob I hg hm ?_ hdb)
  refine PySem.W.callWith_KW0 (h₀ := X.base) I.ok.mod.kin kp some_ (thn (hkw.run pos pins s σ H _ I h) fun ws s2 ⟨zs, H2, I2, rz, q2⟩ => ⟨I2.kIn, ?_⟩) plain
  subst hks
  exact run_fnk (us := []) (vs := []) F hr hb hx I2 .nil rz q2
end
end L2.My

namespace L2.My
open PySem PySem.Spec PyProof.Rows
open HQ (Ev evD)
theorem rp_evs {H : Hp} {p : Addr} {zs : List (Addr × Ev)} {es : List Ev} (h : H p = some (.lst (zs.map fun z => V.ref z.1))) (hz : ∀ z ∈ zs, EvR H z) (e : zs.map (·.2) = es) : Rp H (.ref p) (.list (es.map evD)) := by
  subst e
  rw [List.map_map]
  exact .lst h (evs_rp hz)
theorem slims_all : ∀ {ds : List PyData}, (∀ d ∈ ds, slim d = true) → slims ds = true
  | [], _ => rfl
  | d :: ds, h => by
    simp only [slims, h d List.mem_cons_self, slims_all fun e he => h e (List.mem_cons_of_mem _ he), Bool.and_true]
theorem slim_tup {ds : List PyData} (l : ds.length ≤ 1000) (h : ∀ d ∈ ds, slim d = true) : slim (.tuple ds) = true := by
  simp only [slim, slims_all h, Bool.and_true]
  exact decide_eq_true l
theorem slim_lst {ds : List PyData} (l : ds.length ≤ 1000) (h : ∀ d ∈ ds, slim d = true) : slim (.list ds) = true := by
  simp only [slim, slims_all h, Bool.and_true]
  exact decide_eq_true l
theorem depths_le {n : Nat} : ∀ {ds : List PyData}, (∀ d ∈ ds, d.depth ≤ n) → PyData.depthAll ds ≤ n
  | [], _ => by simp [PyData.depthAll]
  | d :: ds, h => by
    simp only [PyData.depthAll]
    have a := h d List.mem_cons_self
    have b := depths_le fun e he => h e (List.mem_cons_of_mem _ he)
    omega
theorem depth_tup {ds : List PyData} {n : Nat} (h : ∀ d ∈ ds, d.depth ≤ n) : (PyData.tuple ds).depth ≤ n + 1 := by
  simp only [PyData.depth]
  have := depths_le h
  omega
theorem depth_lst {ds : List PyData} {n : Nat} (h : ∀ d ∈ ds, d.depth ≤ n) : (PyData.list ds).depth ≤ n + 1 := by
  simp only [PyData.depth]
  have := depths_le h
  omega
theorem slim_ev (e : Ev) : slim (evD e) = true := by simp [evD, slim, slims]
theorem slim_evs {es : List Ev} (h : es.length ≤ 16) : slim (.list (es.map evD)) = true := slim_lst (by rw [List.length_map]; omega) fun d hd => by
  obtain ⟨e, _, rfl⟩ := List.mem_map.mp hd
  exact slim_ev e
theorem depth_evs (es : List Ev) : (PyData.list (es.map evD)).depth ≤ 2 := depth_lst fun d hd => by
  obtain ⟨e, _, rfl⟩ := List.mem_map.mp hd
  exact Nat.le_of_eq (HQ.evD_depth e)
theorem lays_all : ∀ {ds : List PyData}, (∀ d ∈ ds, d.canLay0 = true) → PyData.canLayAll0 ds = true
  | [], _ => rfl
  | d :: ds, h => by
    simp only [PyData.canLayAll0, h d List.mem_cons_self, lays_all fun e he => h e (List.mem_cons_of_mem _ he), Bool.and_true]
theorem mks_len {L : Lg} (h : Good L) {m : Str × Nat × List Int} (hm : m ∈ L.ms) : m.2.2.length ≤ 16 := by
  obtain ⟨k, hk⟩ := List.getElem?_of_mem hm
  have hmm : (L.ms.map fun m => (m.1, m.2.2))[k]? = some (m.1, m.2.2) := by rw [List.getElem?_map, hk]; rfl
  have := flat_part hmm
  rw [← mkd_flat] at this
  have := mkd_len h
  dsimp only at *
  omega
theorem log_facts {L : Lg} (h : Good L) : slim (encLog L) = true ∧ (encLog L).depth ≤ 4 ∧ (encLog L).canLay0 = true := by
  have okN : ∀ e ∈ evs L, PyData.strOk e.1 = true := fun e he => by
    obtain ⟨k, mk, hm, _⟩ := mem_evs.mp (show (e.1, e.2) ∈ evs L from he)
    exact h.txt _ hm
  have l1 := h.few.2.2
  have l2 := h.few.2.1
  have sm : ∀ d ∈ L.ms.map encM, slim d = true ∧ d.depth ≤ 2 ∧ d.canLay0 = true := fun d hd => by
    obtain ⟨m, hm, rfl⟩ := List.mem_map.mp hd
    have lm := mks_len h hm
    have si : slim (.tuple (m.2.2.map PyData.int)) = true := slim_tup (by rw [List.length_map]; omega) fun d hd => by
      obtain ⟨i, _, rfl⟩ := List.mem_map.mp hd
      rfl
    have di : (PyData.tuple (m.2.2.map PyData.int)).depth ≤ 1 := depth_tup fun d hd => by
      obtain ⟨i, _, rfl⟩ := List.mem_map.mp hd
      exact Nat.le_refl _
    have ci : PyData.canLayAll0 (m.2.2.map PyData.int) = true := lays_all fun d hd => by
      obtain ⟨i, _, rfl⟩ := List.mem_map.mp hd
      rfl
    refine ⟨slim_tup (by show 3 ≤ 1000; decide) fun d hd => ?_, depth_tup fun d hd => ?_, ?_⟩
    · simp only [List.mem_cons, List.not_mem_nil, or_false] at hd
      rcases hd with rfl | rfl | rfl
      · rfl
      · rfl
      · exact si
    · simp only [List.mem_cons, List.not_mem_nil, or_false] at hd
      rcases hd with rfl | rfl | rfl
      · simp [PyData.depth]
      · simp [PyData.depth]
      · exact di
    · simp only [encM, PyData.canLay0, PyData.canLayAll0, h.txt m hm, ci, Bool.and_true]
  have sl : ∀ d ∈ L.ls.map encL, slim d = true ∧ d.depth ≤ 2 ∧ d.canLay0 = true := fun d hd => by
    obtain ⟨x, hx, rfl⟩ := List.mem_map.mp hd
    have ie := h.ends x hx
    refine ⟨by simp [encL, slim, slims, slim_ev], ?_, by simp [encL, evD, PyData.canLay0, PyData.canLayAll0, okN _ ie.1, okN _ ie.2.1]⟩
    exact depth_tup fun d hd => by
      simp only [List.mem_cons, List.not_mem_nil, or_false] at hd
      rcases hd with rfl | rfl <;> exact Nat.le_of_eq (HQ.evD_depth _)
  have s1 : slim (.tuple (L.ms.map encM)) = true := slim_tup (by rw [List.length_map]; omega) fun d hd => (sm d hd).1
  have s2 : slim (.tuple (L.ls.map encL)) = true := slim_tup (by rw [List.length_map]; omega) fun d hd => (sl d hd).1
  have d1 : (PyData.tuple (L.ms.map encM)).depth ≤ 3 := depth_tup fun d hd => (sm d hd).2.1
  have d2 : (PyData.tuple (L.ls.map encL)).depth ≤ 3 := depth_tup fun d hd => (sl d hd).2.1
  refine ⟨slim_tup (by show 2 ≤ 1000; decide) fun d hd => ?_, depth_tup fun d hd => ?_, ?_⟩
  · simp only [List.mem_cons, List.not_mem_nil, or_false] at hd
    rcases hd with rfl | rfl
    · exact s1
    · exact s2
  · simp only [List.mem_cons, List.not_mem_nil, or_false] at hd
    rcases hd with rfl | rfl
    · exact d1
    · exact d2
  · simp only [encLog, PyData.canLay0, PyData.canLayAll0, lays_all fun d hd => (sm d hd).2.2, lays_all fun d hd => (sl d hd).2.2, Bool.and_true]
mutual
theorem lst_facts : ∀ d : PyData, slim (lstD d) = slim d ∧ (lstD d).depth = d.depth ∧ (lstD d).canLay0 = d.canLay0
  | .list ds => by have := lsts_facts ds; simp [lstD, slim, PyData.depth, PyData.canLay0, this]
  | .tuple ds => by have := lsts_facts ds; simp [lstD, slim, PyData.depth, PyData.canLay0, this]
  | .none => ⟨rfl, rfl, rfl⟩
  | .bool _ => ⟨rfl, rfl, rfl⟩
  | .int _ => ⟨rfl, rfl, rfl⟩
  | .str _ => ⟨rfl, rfl, rfl⟩
  | .dict _ => ⟨rfl, rfl, rfl⟩
theorem lsts_facts : ∀ ds : List PyData, slims (lstDs ds) = slims ds ∧ PyData.depthAll (lstDs ds) = PyData.depthAll ds ∧ PyData.canLayAll0 (lstDs ds) = PyData.canLayAll0 ds ∧ (lstDs ds).length = ds.length
  | [] => ⟨rfl, rfl, rfl, rfl⟩
  | d :: ds => by
    obtain ⟨a1, a2, a3⟩ := lst_facts d
    obtain ⟨b1, b2, b3, b4⟩ := lsts_facts ds
    simp [lstDs, slims, PyData.depthAll, PyData.canLayAll0, a1, a2, a3, b1, b2, b3, b4]
end
theorem good_nil : Good ⟨[], []⟩ := by
  refine ⟨List.Pairwise.nil, (fun _ h => nomatch h), (fun _ h => nomatch h), ⟨fun _ => 0, (fun _ h => nomatch h), fun n i _ h => ?_⟩, .nil, List.nodup_nil, (fun _ h => nomatch h), ?_⟩
  · cases h
  · exact ⟨by decide, by decide, by decide⟩
theorem fin_len {es : List Ev} {bef : Ev → List Ev} {o : List Ev} (h : Fin es bef o) : o.length ≤ es.length := len_sub h.1.nodup h.1.sub
end L2.My

namespace L2.My
open PySem PySem.Spec PyProof.Rows
open HQ (Ev evD)
/-! ### what is ahead -/
inductive Ah (L : Lg) : Ev → Ev → Prop
  | one {x e : Ev} : x ∈ befs L e → Ah L x e
  | more {x b e : Ev} : Ah L x b → b ∈ befs L e → Ah L x e
theorem Ah.step {L : Lg} {x e : Ev} : Ah L x e ↔ ∃ b ∈ befs L e, x = b ∨ Ah L x b := by
  constructor
  · intro h
    cases h with
    | one h => exact ⟨_, h, .inl rfl⟩
    | more h k => exact ⟨_, k, .inr h⟩
  · rintro ⟨b, hb, rfl | h⟩
    · exact .one hb
    · exact .more h hb
theorem Ah.mem {L : Lg} (g : Good L) {x e : Ev} (h : Ah L x e) : x ∈ evs L := by
  induction h with
  | one h => exact befs_sub g h
  | more _ _ ih => exact ih
def addE (fs : List Ev) (e : Ev) : List Ev := if e ∈ fs then fs else fs ++ [e]
theorem mem_addE {fs : List Ev} {e x : Ev} : x ∈ addE fs e ↔ x ∈ fs ∨ x = e := by
  unfold addE
  split
  · rename_i h
    exact ⟨.inl, fun k => k.elim id fun z => z ▸ h⟩
  · rw [List.mem_append, List.mem_singleton]
theorem addE_nd {fs : List Ev} {e : Ev} (h : fs.Nodup) : (addE fs e).Nodup := by
  unfold addE
  split
  · exact h
  · rename_i k
    exact nd_snoc h k
/-- a dict that is a set of events -/
def dS (fs : List Ev) : List (List Key × V) := dE fs fun _ => .bl true
theorem dS_put (fs : List Ev) (e : Ev) : putK (dS fs) (kE e) (.bl true) = dS (addE fs e) := by
  unfold dS addE
  split
  · rename_i h
    rw [dE_put h]
    refine dE_congr fun x _ => ?_
    split <;> rfl
  · rename_i h
    rw [dE_new h]
    refine dE_congr fun x _ => ?_
    split <;> rfl
/-- a dict of such, by event -/
structure AD (H : Hp) (d : Addr) (es : List Ev) (ad : Ev → Addr) (af : Ev → List Ev) : Prop where
  hD : Rd H d (.dT (dE es fun e => .ref (ad e)))
  hz : ∀ e ∈ es, H (ad e) = some (.dT (dS (af e)))
section
variable {H H' : Hp} {d : Addr} {es : List Ev} {ad : Ev → Addr} {af : Ev → List Ev}
theorem AD.get (h : AD H d es ad af) {b : Addr} {e : Ev} (hb : EvR H (b, e)) (he : e ∈ es) : DGet H d (.ref b) (some (.ref (ad e))) := dE_int h.hD hb he
theorem AD.same (h : AD H d es ad af) (k : Same H H') : AD H' d es ad af :=
  ⟨h.hD.imp (fun z => k _ _ z) (fun ⟨o, z⟩ => ⟨o, k _ _ z⟩), fun e he => k _ _ (h.hz e he)⟩
/-- a key more -/
theorem AD.new (h : AD H d es ad af) {e : Ev} {p : Addr} {fs : List Ev} (he : e ∉ es) (hd : H d = some (.dT (dE es fun e => .ref (ad e)))) (hp : H p = some (.dT (dS fs))) (pd : p ≠ d) (nd : ∀ x ∈ es, ad x ≠ d) :
    AD (upd H d (.dT (putK (dE es fun e => .ref (ad e)) (kE e) (.ref p)))) d (es ++ [e]) (fun x => if x = e then p else ad x) (fun x => if x = e then fs else af x) ∧
    (upd H d (.dT (putK (dE es fun e => .ref (ad e)) (kE e) (.ref p)))) d = some (.dT (dE (es ++ [e]) fun x => .ref (if x = e then p else ad x))) := by
  have e1 : putK (dE es fun e => V.ref (ad e)) (kE e) (.ref p) = dE (es ++ [e]) fun x => .ref (if x = e then p else ad x) := by
    rw [dE_new he]
    refine dE_congr fun x _ => ?_
    split <;> rfl
  refine ⟨⟨.inl (by rw [upd_same, e1]), fun x hx => ?_⟩, by rw [upd_same, e1]⟩
  by_cases c : x = e
  · rw [if_pos c, if_pos c, upd_ne pd]
    exact hp
  · rcases List.mem_append.mp hx with q | q
    · rw [if_neg c, if_neg c, upd_ne (nd x q)]
      exact h.hz x q
    · exact absurd (List.mem_singleton.mp q) c
end
/-- all events come -/
theorem fin_all {L : Lg} (h : Good L) {o : List Ev} (f : Fin (evs L) (befs L) o) (e : Ev) : e ∈ o ↔ e ∈ evs L := by
  refine ⟨f.1.sub e, fun he => Classical.byContradiction fun c => ?_⟩
  obtain ⟨r, r1, r2⟩ := h.rnk
  obtain ⟨y, hy⟩ := ex_rdy h (o := o) (r e + 1) r r1 r2 e (Nat.lt_succ_self _) he c
  exact f.2 y hy
end L2.My

namespace L2.My
open PySem PySem.Spec PyProof.Rows
open HQ (Ev evD)
theorem dE_set (es : List Ev) (g : Ev → V) (e : Ev) (v : V) : putK (dE es g) (kE e) v = dE (addE es e) fun x => if x = e then v else g x := by
  unfold addE
  split
  · rename_i h
    exact dE_put h
  · rename_i h
    exact dE_new h
/-- a dict of lists of events; a list is put, never changed -/
structure BQ (H : Hp) (d : Addr) (es : List Ev) (ad : Ev → Addr) (f : Ev → List (Addr × Ev)) : Prop where
  hD : H d = some (.dT (dE es fun e => .ref (ad e)))
  hz : ∀ e ∈ es, H (ad e) = some (.lst ((f e).map fun z => V.ref z.1))
  he : ∀ e ∈ es, ∀ y ∈ f e, EvR H y
section
variable {H H' : Hp} {d : Addr} {es : List Ev} {ad : Ev → Addr} {f : Ev → List (Addr × Ev)}
theorem BQ.get (h : BQ H d es ad f) {b : Addr} {e : Ev} (hb : EvR H (b, e)) (he : e ∈ es) : DGet H d (.ref b) (some (.ref (ad e))) := dE_int (.inl h.hD) hb he
theorem BQ.same (h : BQ H d es ad f) (k : Same H H') : BQ H' d es ad f :=
  ⟨k _ _ h.hD, fun e he => k _ _ (h.hz e he), fun e he y hy => (h.he e he y hy).keep (.same k)⟩
theorem BQ.put (h : BQ H d es ad f) {e : Ev} {p : Addr} {ys : List (Addr × Ev)} (hp : H p = some (.lst (ys.map fun z => V.ref z.1))) (hy : ∀ y ∈ ys, EvR H y) :
    BQ (upd H d (.dT (putK (dE es fun e => .ref (ad e)) (kE e) (.ref p)))) d (addE es e) (fun x => if x = e then p else ad x) (fun x => if x = e then ys else f x) := by
  have k := tk_off (o := .dT (putK (dE es fun e => .ref (ad e)) (kE e) (.ref p))) h.hD (fun _ z => nomatch z)
  refine ⟨?_, fun x hx => ?_, fun x hx y hy' => ?_⟩
  · rw [upd_same, dE_set]
    refine congrArg (fun x => some (HO.dT x)) (dE_congr fun x _ => ?_)
    split <;> rfl
  · by_cases c : x = e
    · simp only [c, if_true]
      rw [upd_ne (ne_of hp h.hD (by intro z; cases z))]
      exact hp
    · simp only [c, if_false]
      have := h.hz x ((mem_addE.mp hx).resolve_right c)
      rw [upd_ne (ne_of this h.hD (by intro z; cases z))]
      exact this
  · by_cases c : x = e
    · simp only [c, if_true] at hy'
      exact (hy y hy').keep k
    · simp only [c, if_false] at hy'
      exact (h.he x ((mem_addE.mp hx).resolve_right c) y hy').keep k
end
end L2.My

namespace L2.My
open PySem PySem.Spec PyProof.Rows
open HQ (Ev evD)
theorem pick {α : Type} {P : Nat → α → Prop} {g : α → V} : ∀ {ys : List V}, (∀ (j : Nat) (y : V), ys[j]? = some y → ∃ a, y = g a ∧ P j a) → ∃ as : List α, ys = as.map g ∧ ∀ (j : Nat) (a : α), as[j]? = some a → P j a
  | [], _ => ⟨[], rfl, fun j a e => by simp at e⟩
  | y :: ys, h => by
    obtain ⟨a, e, p⟩ := h 0 y rfl
    obtain ⟨as, e2, p2⟩ := pick (P := fun j => P (j + 1)) (ys := ys) fun j z hz => h (j + 1) z hz
    refine ⟨a :: as, by rw [List.map_cons, ← e, ← e2], fun j b hb => ?_⟩
    cases j with
    | zero => rw [← Option.some.inj hb]; exact p
    | succ j => exact p2 j b hb
theorem look {α : Type} (k : α → Ev) (d : α) {as : List α} (nd : (as.map k).Nodup) : ∃ F : Ev → α, ∀ t ∈ as, F (k t) = t := by
  induction as with
  | nil => exact ⟨fun _ => d, fun t h => nomatch h⟩
  | cons a as ih =>
    rw [List.map_cons] at nd
    obtain ⟨F, hF⟩ := ih (List.nodup_cons.mp nd).2
    refine ⟨fun e => if e = k a then a else F e, fun t ht => ?_⟩
    rcases List.mem_cons.mp ht with c | c
    · rw [c]
      exact if_pos rfl
    · have : k t ≠ k a := fun z => (List.nodup_cons.mp nd).1 (z ▸ List.mem_map.mpr ⟨t, c, rfl⟩)
      exact (if_neg this).trans (hF t c)
theorem list_of {α : Type} {k : α → Ev} {as : List α} {es : List Ev} (hl : as.length = es.length) (h : ∀ (j : Nat) (a : α), as[j]? = some a → es[j]? = some (k a)) : as.map k = es := by
  refine List.ext_getElem? fun j => ?_
  rw [List.getElem?_map]
  cases c : as[j]? with
  | some a => rw [h j a c]; rfl
  | none =>
    have := List.getElem?_eq_none_iff.mp c
    rw [List.getElem?_eq_none (by omega)]
    rfl
theorem prevs_pos {L : Lg} {e : Ev} (he : e ∈ evs L) (h : 0 < e.2) : prevs L e = [(e.1, e.2 - 1)] := by
  obtain ⟨k, mk, hm, i0, ik⟩ := mem_evs.mp (show (e.1, e.2) ∈ evs L from he)
  unfold prevs
  rw [if_pos (mem_evs.mpr ⟨k, mk, hm, by omega, by omega⟩)]
theorem prevs_zero {L : Lg} {e : Ev} (h : ¬ 0 < e.2) : prevs L e = [] := by
  unfold prevs
  rw [if_neg fun c => ?_]
  obtain ⟨k, mk, hm, i0, ik⟩ := mem_evs.mp c
  omega
theorem addE_in {es : List Ev} {e : Ev} (h : e ∈ es) : addE es e = es := if_pos h
/-- what a drawn log asks before each event, as the law writes it down -/
abbrev OrdRow := (Addr × Addr) × Ev × Addr × List (Addr × Ev)
def OrdP (L : Lg) (D : Addr) (H' : Hp) (j : Nat) (t : OrdRow) : Prop := (evs L)[j]? = some t.2.1 ∧ H' t.1.1 = some (.tup [.ref t.1.2, .ref t.2.2.1]) ∧ EvR H' (t.1.2, t.2.1) ∧ t.2.2.1 ≠ D ∧ H' t.2.2.1 = some (.lst (t.2.2.2.map fun z => V.ref z.1)) ∧ (∀ y ∈ t.2.2.2, EvR H' y) ∧ t.2.2.2.map (·.2) = prevs L t.2.1
theorem OrdP.same {L : Lg} {D : Addr} {H H' : Hp} {j : Nat} {t : OrdRow} (h : OrdP L D H j t) (k : Same H H') : OrdP L D H' j t :=
  ⟨h.1, k _ _ h.2.1, k _ _ h.2.2.1, h.2.2.2.1, k _ _ h.2.2.2.2.1, fun y hy => (h.2.2.2.2.2.1 y hy).keep (.same k), h.2.2.2.2.2.2⟩
theorem OrdP.upd {L : Lg} {D : Addr} {H : Hp} {j : Nat} {t : OrdRow} {zs : List V} (h : OrdP L D H j t) (hD : H D = some (.lst zs)) (o : HO) : OrdP L D (upd H D o) j t := by
  have k := tk_upd hD o
  exact ⟨h.1, k _ _ h.2.1, k _ _ h.2.2.1, h.2.2.2.1, by rw [upd_ne h.2.2.2.1]; exact h.2.2.2.2.1, fun y hy => (h.2.2.2.2.2.1 y hy).keep k, h.2.2.2.2.2.2⟩
/-- the dict of them -/
theorem ord_dict {L : Lg} {D : Addr} {H : Hp} (hG : Good L) {as : List OrdRow} (hl : as.length = (evs L).length) (h : ∀ (j : Nat) (t : OrdRow), as[j]? = some t → OrdP L D H j t) :
    (∀ r ∈ as.map (fun t => ((t.1.1, (kE t.2.1, t.1.2), V.ref t.2.2.1) : Prow)), H r.1 = some (.tup [.ref r.2.1.2, r.2.2]) ∧ H r.2.1.2 = some (.tup (r.2.1.1.map kV))) ∧ ((as.map (fun t => ((t.1.1, (kE t.2.1, t.1.2), V.ref t.2.2.1) : Prow))).map fun r => r.2.1.1).Nodup ∧
    ∀ p, H p = none → ∃ (ad : Ev → Addr) (f : Ev → List (Addr × Ev)), BQ (upd H p (.dT ((as.map (fun t => ((t.1.1, (kE t.2.1, t.1.2), V.ref t.2.2.1) : Prow))).map fun r => (r.2.1.1, r.2.2)))) p (evs L) ad f ∧ ∀ e ∈ evs L, (f e).map (·.2) = prevs L e := by
  have em : as.map (fun t => t.2.1) = evs L := list_of hl fun j a ha => (h j a ha).1
  have ndE := evs_nodup hG.asc
  obtain ⟨F, hF⟩ := look (fun t : OrdRow => t.2.1) ((0, 0), (⟨#[]⟩, 0), 0, []) (by rw [em]; exact ndE)
  refine ⟨fun r hr => ?_, ?_, fun p np => ⟨fun e => (F e).2.2.1, fun e => (F e).2.2.2, ?_, fun e he => ?_⟩⟩
  · obtain ⟨t, ht, rfl⟩ := List.mem_map.mp hr
    obtain ⟨j, hj⟩ := List.getElem?_of_mem ht
    exact ⟨(h j t hj).2.1, (h j t hj).2.2.1⟩
  · have : (as.map (fun t => ((t.1.1, (kE t.2.1, t.1.2), V.ref t.2.2.1) : Prow))).map (fun r => r.2.1.1) = (evs L).map kE := by
      rw [← em, List.map_map, List.map_map]
      rfl
    rw [this]
    exact List.pairwise_map.mpr (ndE.imp fun {a b} ne e => ne (kE_inj e))
  · have e1 : (as.map (fun t => ((t.1.1, (kE t.2.1, t.1.2), V.ref t.2.2.1) : Prow))).map (fun r => (r.2.1.1, r.2.2)) = dE (evs L) fun e => .ref (F e).2.2.1 := by
      unfold dE
      rw [← em, List.map_map, List.map_map]
      refine List.map_congr_left fun t ht => ?_
      show (kE t.2.1, V.ref t.2.2.1) = (kE t.2.1, V.ref (F t.2.1).2.2.1)
      rw [hF t ht]
    have sp := same_new np (.dT ((as.map (fun t => ((t.1.1, (kE t.2.1, t.1.2), V.ref t.2.2.1) : Prow))).map fun r => (r.2.1.1, r.2.2)))
    refine ⟨by rw [upd_same, e1], fun e he => ?_, fun e he y hy => ?_⟩
    · rw [← em] at he
      obtain ⟨t, ht, rfl⟩ := List.mem_map.mp he
      obtain ⟨j, hj⟩ := List.getElem?_of_mem ht
      rw [hF t ht]
      exact sp _ _ (h j t hj).2.2.2.2.1
    · rw [← em] at he
      obtain ⟨t, ht, rfl⟩ := List.mem_map.mp he
      obtain ⟨j, hj⟩ := List.getElem?_of_mem ht
      rw [hF t ht] at hy
      exact ((h j t hj).2.2.2.2.2.1 y hy).keep (.same sp)
  · rw [← em] at he
    obtain ⟨t, ht, rfl⟩ := List.mem_map.mp he
    obtain ⟨j, hj⟩ := List.getElem?_of_mem ht
    dsimp only
    rw [hF t ht]
    exact (h j t hj).2.2.2.2.2.2
theorem BQ.off {H : Hp} {p d : Addr} {es : List Ev} {ad : Ev → Addr} {f : Ev → List (Addr × Ev)} (h : BQ H p es ad f) {kvs : List (List Key × V)} {o : HO} (hd : H d = some (.dT kvs)) (ne : p ≠ d) : BQ (upd H d o) p es ad f := by
  have k := tk_off (o := o) hd (fun _ z => nomatch z)
  refine ⟨by rw [upd_ne ne]; exact h.hD, fun e he => ?_, fun e he y hy => (h.he e he y hy).keep k⟩
  rw [upd_ne (ne_of (h.hz e he) hd (by intro z; cases z))]
  exact h.hz e he
theorem dE_some (es : List Ev) (g : Ev → V) (e : Ev) : (valV (dE es g) (kE e)).isSome = decide (e ∈ es) := by
  by_cases c : e ∈ es
  · rw [dE_val c, decide_eq_true c]
    rfl
  · rw [dE_none c, decide_eq_false c]
    rfl
theorem ah_lt {L : Lg} {r : Ev → Nat} (h1 : ∀ l ∈ L.ls, r l.1 < r l.2) (h2 : ∀ (n : Str) (i : Int), 0 ≤ i → (n, i + 1) ∈ evs L → r (n, i) < r (n, i + 1)) {x e : Ev} (h : Ah L x e) : e ∈ evs L → (∀ b ∈ evs L, ∀ c ∈ befs L b, c ∈ evs L) → r x < r e := by
  have one : ∀ {x e : Ev}, e ∈ evs L → x ∈ befs L e → r x < r e := fun {x e} he hb => by
    unfold befs at hb
    rcases List.mem_append.mp hb with z | z
    · unfold prevs at z
      split at z
      · rename_i q
        rw [List.mem_singleton.mp z]
        obtain ⟨k, mk, hm, i0, ik⟩ := mem_evs.mp q
        have := h2 e.1 (e.2 - 1) i0 (by rw [show e.2 - 1 + 1 = e.2 by omega]; exact he)
        rw [show e.2 - 1 + 1 = e.2 by omega] at this
        exact this
      · cases z
    · unfold sents at z
      obtain ⟨l, hl, rfl⟩ := List.mem_map.mp z
      obtain ⟨hl1, hl2⟩ := List.mem_filter.mp hl
      have := h1 l hl1
      rw [of_decide_eq_true hl2] at this
      exact this
  intro he hs
  induction h with
  | one h => exact one he h
  | more _ hb ih => exact Nat.lt_trans (ih (hs _ he _ hb)) (one he hb)
theorem ah_irr {L : Lg} (g : Good L) {e : Ev} (he : e ∈ evs L) : ¬ Ah L e e := fun h => by
  obtain ⟨r, r1, r2⟩ := g.rnk
  exact Nat.lt_irrefl _ (ah_lt r1 r2 h he fun b hb c hc => befs_sub g hc)
end L2.My

namespace L2.My
open PySem PySem.Spec PyProof.Rows
open HQ (Ev evD)
/-- a statement that is not reached -/
theorem ps_never {X : Cx} {st : Stmt} : PS X st (fun _ _ _ => False) := ⟨fun _ _ _ _ _ _ h => False.elim h⟩
theorem ev_slim {d : PyData} {e : Ev} (h : tupD d = evD e) : slim d = true ∧ d.depth < 6 := by
  have two : ∀ {ds : List PyData}, tupDs ds = [.str e.1, .int e.2] → slims ds = true ∧ PyData.depthAll ds ≤ 1 ∧ ds.length ≤ 1000 := fun {ds} q => by
    match ds, q with
    | [a, b], q =>
      simp only [tupDs, List.cons.injEq, and_true] at q
      obtain ⟨qa, qb⟩ := q
      cases a <;> simp [tupD] at qa
      cases b <;> simp [tupD] at qb
      simp [slims, slim, PyData.depthAll, PyData.depth]
    | [], q => simp [tupDs] at q
    | [_], q => simp [tupDs] at q
    | _ :: _ :: _ :: _, q => simp [tupDs] at q
  cases d with
  | list ds =>
    simp only [tupD, evD, PyData.tuple.injEq] at h
    obtain ⟨a, b, c⟩ := two h
    simp only [slim, a, PyData.depth, Bool.and_true]
    exact ⟨decide_eq_true c, by omega⟩
  | tuple ds =>
    simp only [tupD, evD, PyData.tuple.injEq] at h
    obtain ⟨a, b, c⟩ := two h
    simp only [slim, a, PyData.depth, Bool.and_true]
    exact ⟨decide_eq_true c, by omega⟩
  | _ => simp [tupD, evD] at h
theorem wk_comp {J : It} {H H0 : Hp} {xs : List V} {i : Nat} {vs : List Nat} {σ : St} {Qd : Hp → Prop} {B : (Hp → Prop) → St → Hp → Prop} (wJ : Wk J H xs) (Iv : Nat → Hp → Prop) (h0 : Iv 0 H0) (hl : ∀ k H', Iv k H' → Same H H') (hw : ∀ x : V, wipe ((wipe σ vs).set i (some x)) vs = wipe σ vs)
    (turn : ∀ (k : Nat) (x : V) (H1 : Hp), xs[k]? = some x → Iv k H1 → B (Iv (k + 1)) ((wipe σ vs).set i (some x)) H1) (done : ∀ H', Iv xs.length H' → Qd H') :
    ∃ W : Nat → Nat → Hp → Prop, (∃ m, W 0 m H0) ∧ ∀ k m H', W k m H' → (J.stop k H' ∧ Qd H') ∨ (J.go k H' ∧ ∃ Nx : Hp → Prop, (∀ H', Nx H' → ∃ m', m' < m ∧ W (k + 1) m' H') ∧
      ∀ x H2, J.yld k H' x H2 → gName i x (wipe σ vs) H2 fun σ2 H2 => wipe σ2 vs = wipe σ vs ∧ B Nx σ2 H2) := by
  refine ⟨fun k m H1 => k + m = xs.length ∧ Iv k H1, ⟨xs.length, by omega, h0⟩, ?_⟩
  rintro k m H1 ⟨km, iv⟩
  obtain ⟨go, stop, yld⟩ := wJ H1 (hl k H1 iv)
  by_cases hk : k < xs.length
  · refine .inr ⟨go k hk, Iv (k + 1), fun H2 h2 => ⟨m - 1, by omega, by omega, h2⟩, fun x H2 hy => ?_⟩
    obtain ⟨rfl, hx⟩ := yld k x H2 hy
    exact ⟨hw _, turn k x H2 (hx hk) iv⟩
  · have : k = xs.length := by omega
    subst this
    exact .inl ⟨stop, done H1 iv⟩
/-- how many events each machine has -/
def szs (ms : List (Str × Nat × List Int)) : List (Key × V) := ms.map fun m => (Sum.inr m.1, V.int m.2.1)
theorem szs_snoc {ms : List (Str × Nat × List Int)} {k : Nat} {m : Str × Nat × List Int} (ha : Asc (ms.map (·.1))) (h : ms[k]? = some m) : putK (szs (ms.take k)) (Sum.inr m.1) (.int m.2.1) = szs (ms.take (k + 1)) := by
  have nd := asc_nodup ha
  have vn : valV (szs (ms.take k)) (Sum.inr m.1) = none := by
    cases e : valV (szs (ms.take k)) (Sum.inr m.1) with
    | none => rfl
    | some v =>
      have := valV_in e
      unfold szs at this
      rw [List.map_map] at this
      obtain ⟨x, hx, ex⟩ := List.mem_map.mp this
      have ex : x.1 = m.1 := Sum.inr.inj ex
      have e2 : (ms.map (·.1)) = (ms.take k).map (·.1) ++ (ms.drop k).map (·.1) := by rw [← List.map_append, List.take_append_drop]
      have lk : k < ms.length := (List.getElem?_eq_some_iff.mp h).1
      have hd : m ∈ ms.drop k := by
        rw [List.getElem?_eq_getElem lk] at h
        rw [← Option.some.inj h, List.drop_eq_getElem_cons lk]
        exact List.mem_cons_self
      rw [e2] at nd
      exact absurd ex ((List.nodup_append.mp nd).2.2 _ (List.mem_map.mpr ⟨x, hx, rfl⟩) _ (List.mem_map.mpr ⟨m, hd, rfl⟩))
  rw [putK_new _ vn, tk_snoc h]
  unfold szs
  rw [List.map_append]
  rfl
theorem szs_some {ms : List (Str × Nat × List Int)} (ha : Asc (ms.map (·.1))) {m : Str × Nat × List Int} (h : m ∈ ms) : valV (szs ms) (Sum.inr m.1) = some (.int m.2.1) := by
  have nd := asc_nodup ha
  clear ha
  unfold valV szs
  induction ms with
  | nil => cases h
  | cons x r ih =>
    rw [List.map_cons] at nd
    rw [List.map_cons, List.find?_cons]
    by_cases c : x.1 = m.1
    · rcases List.mem_cons.mp h with z | z
      · subst z
        simp
      · exact absurd (List.mem_map.mpr ⟨m, z, c.symm⟩) (List.nodup_cons.mp nd).1
    · have : decide ((Sum.inr x.1 : Key) = Sum.inr m.1) = false := decide_eq_false fun z => c (Sum.inr.inj z)
      simp only [this]
      rcases List.mem_cons.mp h with z | z
      · exact absurd (by rw [z]) c
      · exact ih z (List.nodup_cons.mp nd).2
theorem szs_none {ms : List (Str × Nat × List Int)} {x : Str} (h : ∀ m ∈ ms, m.1 ≠ x) : valV (szs ms) (Sum.inr x) = none := by
  cases e : valV (szs ms) (Sum.inr x) with
  | none => rfl
  | some v =>
    have := valV_in e
    unfold szs at this
    rw [List.map_map] at this
    obtain ⟨m, hm, ex⟩ := List.mem_map.mp this
    exact absurd (Sum.inr.inj ex) (h m hm)
end L2.My

namespace L2.My
open PySem PySem.Spec PyProof.Rows
open HQ (Ev evD)
theorem dict_len_slot : typeLookup (.type "dict") "__len__" = pure (some (.builtin "dict.__len__")) := by rw [typeLookup_type, builtinLookup_eq_fast]; kernel_rfl
section
variable {prog : Program} {w : World} {A : Around} {E : Value → Shared → Prop} {s : Shared} {d it : Addr} {od : Obj} {es : Array DictEntry} {ep : Nat}
theorem dict_hint (hT : s.TypeIs (.ref d) "dict") {Q : Bool → Shared → Prop} (h : Q false s) : wpAny (model prog w) A (Builtin.List.listLengthHint (.ref d)) Q E s := by
  unfold Builtin.List.listLengthHint
  refine wpAny_bind (wpAny_specialOf hT dict_len_slot ?_)
  generalize q : ("dict.__len__" : String) = id0
  wp_delta
  rw [show splitId id0 = some ("dict", "__len__") from by subst q; decide +kernel]
  subst q
  refine wpAny_bind (wpAny_isInstance (T := "dict") (b := true) hT (by rw [isSubtype_type]; kernel_rfl) ?_)
  refine wpAny_ite_split (fun c => absurd c (by decide)) fun _ => ?_
  refine wpAny_ite_split (fun _ => ?_) fun c => absurd (by decide +kernel) c
  exact wpAny_bind (wpAny_typeOf hT (wpAny_pure h))
theorem walks_keys (hh : A.handled = none) (hod : od.data = .dict es ep) (ne : it ≠ d) : Walks prog w A it [it, d] [it] es.size (fun j v => ∃ en, es[j]? = some en ∧ v = en.key) (fun i h => h.IsKeyIter it d i es.size ep ∧ h.get? d = some od) where
  sub := fun b hb => by simp at hb; simp [hb]
  frame := fun i h h' st k => ⟨st.1.at fun o e => k it (by simp) o e, k d (by simp) od st.2⟩
  item := fun i s Q E hi st hQ => next_key_item st.1 st.2 hod rfl (Array.getElem?_eq_getElem hi) fun h' st' sb =>
    hQ _ h' s.toks ⟨_, Array.getElem?_eq_getElem hi, rfl⟩ ⟨st', (sb.2 d (Ne.symm ne)).trans st.2⟩ fun b o hb e => (sb.2 b (by simpa using hb)).trans e
  done := fun s Q E st hQ => next_key_end hh st.1 st.2 hod rfl (Nat.le_refl _) fun h' eb => hQ h' s.toks fun b o hb e => eb b o (by simpa using hb) e
  self := fun i s Q E st h => by
    refine wpAny_pyIter_slot st.1.typeIs F.slot_dict_keyiterator_iter (wpAny_call_entry F.slot_dict_keyiterator_iter st.1.typeIs F.entry_dict_keyiterator_iter ?_ (F.args_dict_keyiterator_iter_1 _))
    show wpAny _ _ (ret (.ref it)) _ _ s
    exact wpAny_pure ⟨_, rfl, "dict_keyiterator", _, st.1.typeIs, F.slot_dict_keyiterator_next.lookup, h⟩
theorem collect_keys {Q : List Value → Shared → Prop} (hh : A.handled = none) (hs : (d == sysModules) = false) (ho : s.heap.get? d = some od) (hx : od.ExactDict) (hod : od.data = .dict es ep) (hn : es.size ≤ sizeLine)
    (hQ : ∀ s' acc, (∀ b o, s.heap.get? b = some o → s'.heap.get? b = some o) → s'.gens = s.gens → s'.os = s.os → s.heap.objs.size ≤ s'.heap.objs.size → ItemsOf (fun j v => ∃ en, es[j]? = some en ∧ v = en.key) acc es.size → Q acc.toList s') :
    wpAny (model prog w) A (collect (.ref d)) Q E s := by
  have dl := Heap.lt_size ho
  have hT : s.TypeIs (.ref d) "dict" := ⟨od, ho, hx.1⟩
  unfold collect
  refine wpAny_bind (wpAny_runValue (codeAny_builtin F.entry_proto_collect ?_))
  rw [Around.under_plainId F.plain_proto_collect _]
  show wpAny _ A.in1 (newList [] >>= fun l => again (.builtin "list.__iadd__" ⟨[l, .ref d], []⟩)) _ _ s
  refine wpAny_bind (wpAny_newObj_type ?_)
  refine wpAny_pure ⟨plainId_quiet F.plain_list_iadd _, codeAny_builtin F.entry_list_iadd ?_⟩
  rw [Around.under_plainId F.plain_list_iadd _]
  have kS : ∀ b o, s.heap.get? b = some o → (s.heap.push { cls := .type "list", data := .seq ([] : List Value).toArray }).get? b = some o := fun b o e => Heap.get?_push_of_some _ e
  have hS : (s.heap.push { cls := .type "list", data := .seq ([] : List Value).toArray }).get? s.heap.objs.size = some { cls := .type "list", data := .seq ([] : List Value).toArray } := Heap.get?_push_size _ rfl
  have nSd : s.heap.objs.size ≠ d := Nat.ne_of_gt dl
  have h1 : Builtin.List.listSameRef (.ref s.heap.objs.size) (.ref d) = false := by simp [Builtin.List.listSameRef, nSd]
  show wpAny _ A.in1 (Builtin.List.listExtendWith (.ref s.heap.objs.size) (.ref d) (.ref s.heap.objs.size)) _ _ _
  unfold Builtin.List.listExtendWith
  refine wpAny_bind (wpAny_typeOf (T := "dict") ⟨od, kS _ _ ho, hx.1⟩ ?_)
  rw [if_neg (by rw [h1]; decide)]
  refine wpAny_bind (iter_keys hs (kS _ _ ho) hx hod ?_)
  have hI : ((s.heap.push { cls := .type "list", data := .seq ([] : List Value).toArray }).push { cls := .type "dict_keyiterator", data := .fields #[.ref d, .int 0 0, .int es.size 0, .int ep 0] }).get? (s.heap.push { cls := .type "list", data := .seq ([] : List Value).toArray }).objs.size = _ := Heap.get?_push_size _ rfl
  have kI : ∀ b o, (s.heap.push { cls := .type "list", data := .seq ([] : List Value).toArray }).get? b = some o → ((s.heap.push { cls := .type "list", data := .seq ([] : List Value).toArray }).push { cls := .type "dict_keyiterator", data := .fields #[.ref d, .int 0 0, .int es.size 0, .int ep 0] }).get? b = some o := fun b o e => Heap.get?_push_of_some _ e
  have nSI : s.heap.objs.size ≠ (s.heap.push { cls := .type "list", data := .seq ([] : List Value).toArray }).objs.size := Nat.ne_of_lt (Heap.lt_size hS)
  have nId : (s.heap.push { cls := .type "list", data := .seq ([] : List Value).toArray }).objs.size ≠ d := Nat.ne_of_gt (Heap.lt_size (kS _ _ ho))
  refine wpAny_bind (wpAny_holding (dict_hint ⟨od, kI _ _ (kS _ _ ho), hx.1⟩ ?_))
  have W := (walks_keys (prog := prog) (w := w) (A := A.in1) hh (it := (s.heap.push { cls := .type "list", data := .seq ([] : List Value).toArray }).objs.size) hod nId).toS
  have hS2 := kI _ _ hS
  have ld := kI _ _ (kS _ _ ho)
  have ks2 : ∀ b o, s.heap.get? b = some o → ((s.heap.push { cls := .type "list", data := .seq ([] : List Value).toArray }).push { cls := .type "dict_keyiterator", data := .fields #[.ref d, .int 0 0, .int es.size 0, .int ep 0] }).get? b = some o := fun b o e => kI b o (kS b o e)
  have nb : ∀ b o, s.heap.get? b = some o → b ≠ s.heap.objs.size ∧ b ≠ (s.heap.push { cls := .type "list", data := .seq ([] : List Value).toArray }).objs.size := fun b o e => ⟨Nat.ne_of_lt (Heap.lt_size e), Nat.ne_of_lt (Heap.lt_size (kS b o e))⟩
  generalize ((s.heap.push { cls := .type "list", data := .seq ([] : List Value).toArray }).push { cls := .type "dict_keyiterator", data := .fields #[.ref d, .int 0 0, .int es.size 0, .int ep 0] }) = h2 at hI kI hS2 ld ks2 ⊢
  generalize (s.heap.push { cls := .type "list", data := .seq ([] : List Value).toArray }).objs.size = I at hI nSI nId W nb ⊢
  have loop : ∀ (h : Heap) (c : Nat), (∀ b o, b ≠ s.heap.objs.size → h2.get? b = some o → h.get? b = some o) → h.get? s.heap.objs.size = some { cls := .type "list", data := .seq #[] c } →
      codeAny (model prog w) A (.builtin "list.extend.loop" ⟨[.ref s.heap.objs.size, .ref I, .ref s.heap.objs.size], []⟩) (fun r s' => ∃ acc c', r = .ok (.ret (.ref s.heap.objs.size)) ∧ s'.heap.get? s.heap.objs.size = some { cls := .type "list", dict := none, data := .seq acc c', slots := #[] } ∧ Q acc.toList s') { s with heap := h } := by
    intro h c hk hc
    refine codeAny_extend_loopS W hn s.heap.objs.size (by simp [nSI, nSd]) _ es.size 0 _ #[] c rfl (Nat.zero_le _) ⟨⟨_, hk _ _ (Ne.symm nSI) hI, rfl, rfl⟩, hk _ _ (Ne.symm nSd) ld⟩ hc (ItemsOf.nil _) fun s' acc' c' hm hS' hacc => ⟨acc', c', rfl, hS', ?_⟩
    refine hQ s' acc' (fun b o e => ?_) hm.gens hm.os (Nat.le_of_lt (Heap.lt_size hS')) hacc
    obtain ⟨b1, b2⟩ := nb b o e
    exact hm.heap b o (by simp [b1, b2]) (hk b o b1 (ks2 b o e))
  refine wpAny_ite_split (fun _ => ?_) (fun _ => ?_)
  · refine wpAny_bind (wpAny_rule ?_)
    refine wpAny_bind ?_
    show wpAny _ _ (updateSeq s.heap.objs.size (·.push .none) >>= fun _ => updateSeq s.heap.objs.size (·.pop)) _ _ _
    refine wpAny_bind (wpAny_updateSeq hS2 rfl ?_)
    have hS3 := Heap.get?_update_self (Obj.mapSeq (·.push Value.none)) hS2 rfl
    refine wpAny_updateSeq (hz := by seq_fits) hS3 rfl ?_
    have hS4 := Heap.get?_update_self (Obj.mapSeq (·.pop)) hS3 rfl
    refine wpAny_pure ⟨plainId_quiet PySem.F.plain_extend_loop _, codeAny_mono (loop _ _ (fun b o hb e => ?_) hS4) fun r s' x => ?_⟩
    · exact (Heap.get?_update_other _ _ (Ne.symm hb)).trans ((Heap.get?_update_other _ _ (Ne.symm hb)).trans e)
    · obtain ⟨acc, c', rfl, hS', hq⟩ := x
      show wpAny _ A (load s.heap.objs.size >>= _) _ _ _
      exact wpAny_bind (wpAny_load hS' (wpAny_pure hq))
  · refine wpAny_pure ⟨plainId_quiet PySem.F.plain_extend_loop _, codeAny_mono (loop _ _ (fun b o hb e => e) hS2) fun r s' x => ?_⟩
    obtain ⟨acc, c', rfl, hS', hq⟩ := x
    show wpAny _ A (load s.heap.objs.size >>= _) _ _ _
    exact wpAny_bind (wpAny_load hS' (wpAny_pure hq))
/-- sorted(d), the keys tuples -/
theorem d_sorted {L : NL} {Q : Value → Shared → Prop} (hh : A.handled = none) (hu : A.units + 20 < cLine) (hs : (d == sysModules) = false) (ho : s.heap.get? d = some od) (hx : od.ExactDict) (hod : od.data = .dict es ep) (few : L.length < 64)
    (hk : es.toList.map (·.key) = L.map fun q => Value.ref q.1) (rd : ∀ h', (∀ b o, s.heap.get? b = some o → h'.get? b = some o) → ∀ p ∈ L, Reads h' (.ref p.1) p.2.data []) (hal : PySem.W.AllAlike (L.map fun p => p.2.data)) (hso : PySem.W.Sortable (L.map fun p => p.2.data)) (hdp : ∀ p ∈ L, p.2.data.depth ≤ 8)
    (hQ : ∀ s' p (out : Array Value) (c : Nat) (L' : NL), (∀ b o, s.heap.get? b = some o → s'.heap.get? b = some o) → s'.gens = s.gens → s'.os = s.os → s.heap.objs.size ≤ p →
      s'.heap.get? p = some (seqObj "list" out c) → out.toList = L'.map (fun q => Value.ref q.1) → L'.Perm L → L'.Pairwise leN → Q (.ref p) s') :
    wpAny (model prog w) A (call (.builtin "sorted") [.ref d]) Q E s := by
  have sz : es.size = L.length := by
    have := congrArg List.length hk
    simpa using this
  refine Calls.call_function_entry kind_sorted plain_sorted entry_sorted (args_sorted1 _) ?_
  unfold Builtin.«sorted»
  refine wpAny_bind (m := checkCount "sorted" 1 1 _) (wpAny_pure ?_)
  refine wpAny_bind (collect_keys (A := A.in1) hh hs ho hx hod (by rw [sz, sizeLine_eq]; omega) fun s1 acc k1 g1 o1 hz hit => ?_)
  have hvs : (L.map fun q => Value.ref q.1) = acc.toList := by
    rw [← hk]
    refine List.ext_getElem? fun j => ?_
    rw [List.getElem?_map]
    cases c : acc.toList[j]? with
    | some v =>
      obtain ⟨en, h1, rfl⟩ := hit.2 j v (by simpa using c)
      rw [show es.toList[j]? = some en by simpa using h1]
      rfl
    | none =>
      have h1 : acc.size ≤ j := by simpa using List.getElem?_eq_none_iff.mp c
      rw [List.getElem?_eq_none (by rw [Array.length_toList, ← hit.1]; exact h1)]
      rfl
  have lv : acc.toList.length = L.length := by rw [← hvs, List.length_map]
  generalize acc.toList = vs at lv hvs ⊢
  refine wpAny_bind (wpAny_newList ?_ (by rw [sizeLine_eq]; omega))
  have hoL : (s1.heap.push (seqObj "list" vs.toArray 0)).get? s1.heap.objs.size = some (seqObj "list" vs.toArray 0) := Heap.get?_push_size _ rfl
  have kp : ∀ b u, s.heap.get? b = some u → (s1.heap.push (seqObj "list" vs.toArray 0)).get? b = some u := fun b u e => Heap.get?_push_of_some _ (k1 b u e)
  refine wpAny_bind (wpAny_holding (PySem.W.list_sort_data (s := { s1 with heap := s1.heap.push (seqObj "list" vs.toArray 0) }) (vs := vs) (bs := L) (enc := fun p => p.2.data) (R := fun v b => v = Value.ref b.1) hoL (by rw [← hvs]; exact each_is L)
    (by rw [← hvs]; exact each_refs' _ _ fun p hp => rd _ (by rw [hvs]; exact kp) p hp) hal hso (by rw [sizeLine_eq]; omega) (fun b hb => ?_) fun out lo eo => ?_))
  · have := hdp b hb
    show A.units + 1 + 1 + b.2.data.depth < cLine
    omega
  · obtain ⟨c, hc⟩ := sortedHeap_at (vs := vs) (out := out.toArray) hoL
    have pm2 : (L.mergeSort (PySem.W.dataLe false fun p => p.2.data)).Perm L := List.mergeSort_perm _ _
    have pw := PySem.W.sort_pairwise (PySem.W.sortLe_total (PyProof.Rows.listOrd PyProof.Rows.itemOrd) false (fun b : Addr × NestedKey => PySem.W.keyToks b.2.data)) L
    refine wpAny_pure ⟨_, rfl, hQ _ s1.heap.objs.size out.toArray c _ (fun b u e => ?_) g1 o1 hz hc (by simpa using of_each eo) pm2 (pw.imp fun {x y} hxy => ?_)⟩
    · have q := k1 b u e
      have lt := Heap.lt_size q
      show (sortedHeap (s1.heap.push (seqObj "list" vs.toArray 0)) s1.heap.objs.size vs out.toArray).get? b = some u
      rw [sortedHeap_old (Nat.ne_of_lt lt) (by rw [size_push']; exact Nat.lt_succ_of_lt lt)]
      exact Heap.get?_push_of_some _ q
    · exact (Bool.not_eq_true' _).mp (show (!PySem.W.dataLt y.2.data x.2.data) = true from hxy)
end
section
variable {X : Cx} {pins : List (Addr × Obj)} {σ : St} {H : Hp} {s : Shared}
def keyE (e : Ev) : NestedKey := .tup [.text e.1, .num e.2]
theorem keyE_data (e : Ev) : (keyE e).data = evD e := by simp [keyE, evD, NestedKey.data, NestedKey.datas]
theorem keyE_nk {z : Addr × Ev} (h : EvR H z) : NK H (.ref z.1) (keyE z.2) := .tup h (.cons (.text _) (.cons (.num _) .nil))
theorem de_rows : ∀ {kvs : List (List Key × V)} {xs : List (List Key × Addr × Value)} {es : List Ev}, KT H kvs xs → kvs.map (·.1) = es.map (fun e => [Sum.inr e.1, Sum.inl e.2]) → ∃ zs : List (Addr × Ev), xs.map (·.2.1) = zs.map (·.1) ∧ zs.map (·.2) = es ∧ ∀ z ∈ zs, EvR H z
  | _, _, [], .nil, _ => ⟨[], rfl, rfl, fun _ h => nomatch h⟩
  | _, _, e :: es, .cons (b := x) h t, q => by
    simp only [List.map_cons, List.cons.injEq] at q
    obtain ⟨zs, h1, h2, h3⟩ := de_rows t q.2
    refine ⟨(x.2.1, e) :: zs, by rw [List.map_cons, List.map_cons, h1], by rw [List.map_cons, h2], fun z hz => ?_⟩
    rcases List.mem_cons.mp hz with c | c
    · subst c
      have := h.2.1
      rw [q.1] at this
      exact this
    · exact h3 z c
  | _, _, _ :: _, .nil, q => by cases q
  | _, _, [], .cons _ _, q => by cases q
/-- sorted(d) of a dict whose keys are events -/
def rSortDE : List V → Hp → VK → Prop := fun vs H Q => ∃ (d : Addr) (kvs : List (List Key × V)) (es : List Ev), vs = [.ref d] ∧ H d = some (.dT kvs) ∧ kvs.map (·.1) = es.map (fun e => [.inr e.1, .inl e.2]) ∧ es.length < 64 ∧
  ∀ (zs : List (Addr × Ev)) (p : Addr), (zs.map (·.2)).Perm es → zs.Pairwise (fun x y => HQ.le x.2 y.2) → (∀ z ∈ zs, EvR H z) → H p = none → Q (.ref p) (upd H p (.lst (zs.map fun z => V.ref z.1)))
theorem cr_sortedDE (hc : X.calm = true) (hu : X.A.units + 64 < cLine) : CallR X (.builtin "sorted") rSortDE := by
  rintro pins s σ H vs us Q I r ⟨d, kvs, es, rfl, hd, hke, few, q⟩
  rw [Vals.ref1 r]
  obtain ⟨z, hs, xs, pr, o, ents, ep, ho, hx, hdt, he, _⟩ := I.hok d _ hd
  obtain ⟨zs, z1, z2, z3⟩ := de_rows pr hke
  have eD : ((zs.map fun z => (z.1, keyE z.2)).map fun p => p.2.data) = es.map evD := by
    rw [List.map_map, ← z2, List.map_map]
    exact List.map_congr_left fun z _ => keyE_data _
  refine d_sorted (L := zs.map fun z => (z.1, keyE z.2)) (I.ok.hd hc) (by omega) hs ho hx hdt ?_ ?_ (fun h' k p hp => ?_) ?_ ?_ (fun p hp => ?_) fun s' p out c L' k g o hp hg hout pm pw => ?_
  · rw [List.length_map, ← List.length_map (·.2), z2]
    exact few
  · rw [he, List.map_map, List.map_map]
    have : (xs.map fun x => Value.ref x.2.1) = zs.map fun z => Value.ref z.1 := by
      have := congrArg (List.map Value.ref) z1
      rw [List.map_map, List.map_map] at this
      exact this
    exact this
  · obtain ⟨z, hz, rfl⟩ := List.mem_map.mp hp
    exact (NK.is I _ _ _ (keyE_nk (z3 z hz)) rfl).2 h' k
  · rw [eD]
    intro x hx y hy
    obtain ⟨a, _, rfl⟩ := List.mem_map.mp hx
    obtain ⟨b, _, rfl⟩ := List.mem_map.mp hy
    exact HQ.evD_alike a b
  · rw [eD]
    exact .inl fun x hx => by
      obtain ⟨a, _, rfl⟩ := List.mem_map.mp hx
      exact ⟨_, _, rfl⟩
  · obtain ⟨z, hz, rfl⟩ := List.mem_map.mp hp
    show (keyE z.2).data.depth ≤ 8
    rw [keyE_data, HQ.evD_depth]
    decide
  · obtain ⟨zs', rfl, pz⟩ := perm_inv pm rfl
    have hn : H p = none := I.hok.fresh hp
    have hl : zs'.length < 64 := by rw [pz.length_eq, ← List.length_map (·.2), z2]; exact few
    have eo : out.toList = zs'.map fun z => Value.ref z.1 := by rw [hout, List.map_map]; rfl
    have hv : Vals (zs'.map fun z => V.ref z.1) out.toList := eo ▸ vals_refs zs'
    have J : Inv X pins σ (upd H p (.lst (zs'.map fun z => V.ref z.1))) { s with heap := s'.heap, gens := s'.gens, drawn := s'.drawn, toks := s'.toks } :=
      I.call (ch := []) (Un.laid k hp hn) (I.hok.laid k hp ⟨by rw [List.length_map, sizeLine_eq]; omega, out.toList, c, hv, hg⟩) (g ▸ I.bare) (fun _ z => nomatch z)
    have e : s' = { s with heap := s'.heap, gens := s'.gens, drawn := s'.drawn, toks := s'.toks } := by
      cases s'
      cases s
      cases o
      rfl
    rw [e]
    refine ⟨.ref p, _, J, rfl, q zs' p ((pz.map (·.2)).trans (by rw [z2])) ?_ (fun z hz => z3 z (pz.mem_iff.mp hz)) hn⟩
    refine (List.pairwise_map.mp pw).imp fun {x y} h => ?_
    have h : PySem.W.dataLt (keyE y.2).data (keyE x.2).data = false := h
    rw [keyE_data, keyE_data] at h
    exact h
end
end L2.My

namespace L2.My
open PySem PySem.Spec PyProof.Rows
open HQ (Ev evD)
/-! ### rows of events -/
abbrev RowZ := Addr × List (Addr × Ev)
def encR (rows : List (List Ev)) : PyData := .tuple (rows.map fun r => .tuple (r.map evD))
structure RowsTup (H : Hp) (c : Addr) (rws : List RowZ) : Prop where
  hc : H c = some (.tup (rws.map fun r => V.ref r.1))
  hr : ∀ r ∈ rws, H r.1 = some (.tup (r.2.map fun z => V.ref z.1))
  he : ∀ r ∈ rws, ∀ z ∈ r.2, EvR H z
theorem RowsTup.keep {H H' : Hp} {c : Addr} {rws : List RowZ} (h : RowsTup H c rws) (k : TK H H') : RowsTup H' c rws :=
  ⟨k _ _ h.hc, fun r hr => k _ _ (h.hr r hr), fun r hr z hz => (h.he r hr z hz).keep k⟩
theorem evs_of_tp {H : Hp} : ∀ {xs : List V} {es : List Ev}, TpAll H xs (es.map evD) → ∃ zs : List (Addr × Ev), xs = zs.map (fun z => V.ref z.1) ∧ (∀ z ∈ zs, EvR H z) ∧ zs.map (·.2) = es
  | _, [], .nil => ⟨[], rfl, (fun _ h => nomatch h), rfl⟩
  | _, e :: es, .cons h t => by
    obtain ⟨a, rfl, r⟩ := ev_tp_of h
    obtain ⟨zs, rfl, h1, h2⟩ := evs_of_tp t
    exact ⟨(a, e) :: zs, rfl, fun z hz => (List.mem_cons.mp hz).elim (fun q => q ▸ r) (h1 z), by rw [List.map_cons, h2]⟩
theorem rows_of_tp {H : Hp} : ∀ {xs : List V} {rows : List (List Ev)}, TpAll H xs (rows.map fun r => .tuple (r.map evD)) → ∃ rws : List RowZ, xs = rws.map (fun r => V.ref r.1) ∧ (∀ r ∈ rws, H r.1 = some (.tup (r.2.map fun z => V.ref z.1)) ∧ ∀ z ∈ r.2, EvR H z) ∧ rws.map (fun r => r.2.map (·.2)) = rows
  | _, [], .nil => ⟨[], rfl, (fun _ h => nomatch h), rfl⟩
  | _, r :: rows, .cons h t => by
    cases h with
    | @tup a _ _ ha tr =>
      obtain ⟨zs, rfl, h1, h2⟩ := evs_of_tp tr
      obtain ⟨rws, rfl, h3, h4⟩ := rows_of_tp t
      exact ⟨(a, zs) :: rws, rfl, fun x hx => (List.mem_cons.mp hx).elim (fun q => q ▸ ⟨ha, h1⟩) (h3 x), by rw [List.map_cons, h4]; exact congrArg (· :: rows) h2⟩
theorem rowsTup {H : Hp} {v : V} {rows : List (List Ev)} (h : Tp H v (encR rows)) : ∃ c rws, v = .ref c ∧ RowsTup H c rws ∧ rws.map (fun r => r.2.map (·.2)) = rows := by
  unfold encR at h
  cases h with
  | @tup c _ _ hc t =>
    obtain ⟨rws, rfl, h3, h4⟩ := rows_of_tp t
    exact ⟨c, rws, rfl, ⟨hc, fun r hr => (h3 r hr).1, fun r hr => (h3 r hr).2⟩, h4⟩
/-- how many of a row are e or among fs -/
def cntIn (fs : List Ev) (e : Ev) (row : List Ev) : Nat := (row.filter fun y => decide (y = e) || decide (y ∈ fs)).length
end L2.My

namespace L2.My
open PySem PySem.Spec PyProof.Rows
open HQ (Ev evD)
section
variable {σ : St} {H : Hp} {vs vs1 : List Nat} {i i1 : Nat} {wi1 : TI} {te : TE}
/-- [y for x in xs for y in x]: what stands there, no new thing -/
theorem lc2_ids {J : It} {D : Addr} {Qd : Hp → Prop} {xs : List V} {its : List (List V)} (wJ : Wk J H xs) (nD : H D = none) (lx : xs.length = its.length) (few : its.flatten.length ≤ sizeLine)
    (hw : ∀ x : V, wipe ((wipe σ vs).set i (some x)) vs = wipe σ vs) (hw1 : ∀ x v : V, wipe ((wipe ((wipe σ vs).set i (some x)) vs1).set i1 (some v)) vs1 = wipe ((wipe σ vs).set i (some x)) vs1)
    (inn : ∀ (k : Nat) (x : V) (m : List V) (H1 : Hp) (R : It → Hp → Prop), xs[k]? = some x → its[k]? = some m → Same H H1 → (∀ J1, Wk J1 H m → R J1 H1) → wi1 ((wipe σ vs).set i (some x)) H1 R)
    (elt : ∀ (x v : V) (H1 : Hp) (Q' : VK), Q' v H1 → te ((wipe ((wipe σ vs).set i (some x)) vs1).set i1 (some v)) H1 Q')
    (done : ∀ (H' : Hp), Same H H' → H' D = some (.lst its.flatten) → Qd H') :
    ∃ W : Nat → Nat → Hp → Prop, (∃ m, W 0 m (upd H D (.lst []))) ∧ ∀ k m H', W k m H' → (J.stop k H' ∧ Qd H') ∨ (J.go k H' ∧ ∃ Nx : Hp → Prop, (∀ H', Nx H' → ∃ m', m' < m ∧ W (k + 1) m' H') ∧ ∀ x H2', J.yld k H' x H2' → gName i x (wipe σ vs) H2' fun σ2 H2 => wipe σ2 vs = wipe σ vs ∧ tYes σ2 H2 fun b H3 =>
    if b = true then wi1 σ2 H3 fun J1 H4 => ∃ W1 : Nat → Nat → Hp → Prop, (∃ m, W1 0 m H4) ∧ ∀ j k H, W1 j k H →
      (J1.stop j H ∧ Nx H) ∨ (J1.go j H ∧ ∃ Nx1 : Hp → Prop, (∀ H', Nx1 H' → ∃ k', k' < k ∧ W1 (j + 1) k' H') ∧ ∀ x H', J1.yld j H x H' → gName i1 x (wipe σ2 vs1) H' fun σ3 H5 => wipe σ3 vs1 = wipe σ2 vs1 ∧ tYes σ3 H5 fun b H6 =>
        if b = true then te σ3 H6 fun y H7 => ∃ acc, H7 D = some (.lst acc) ∧ acc.length < sizeLine ∧ Nx1 (upd H7 D (.lst (acc ++ [y]))) else Nx1 H6)
    else Nx H3) := by
  have same_of : ∀ {H1 : Hp}, (∀ b o, b ≠ D → H b = some o → H1 b = some o) → Same H H1 := fun k b o e => k b o (ne_of_none e nD) e
  have ftk : ∀ {k : Nat} {m : List V}, its[k]? = some m → (its.take (k + 1)).flatten = (its.take k).flatten ++ m := fun {k m} h => by rw [tk_snoc h, List.flatten_append]; simp
  have fle : ∀ k, (its.take k).flatten.length ≤ its.flatten.length := fun k => by
    have : its.flatten = (its.take k).flatten ++ (its.drop k).flatten := by rw [← List.flatten_append, List.take_append_drop]
    rw [this, List.length_append]
    omega
  refine ⟨fun k m H1 => k + m = xs.length ∧ (∀ b o, b ≠ D → H b = some o → H1 b = some o) ∧ H1 D = some (.lst (its.take k).flatten), ⟨xs.length, by omega, fun b o n e => by rw [upd_ne n]; exact e, upd_same⟩, ?_⟩
  rintro k m H1 ⟨km, old, hD⟩
  obtain ⟨go, stop, yld⟩ := wJ H1 (same_of old)
  by_cases hk : k < xs.length
  · refine .inr ⟨go k hk, fun H2 => (∀ b o, b ≠ D → H b = some o → H2 b = some o) ∧ H2 D = some (.lst (its.take (k + 1)).flatten), fun H2 h2 => ⟨m - 1, by omega, by omega, h2⟩, fun x H2 hy => ?_⟩
    obtain ⟨rfl, hx⟩ := yld k x H2 hy
    have hx := hx hk
    have hm : its[k]? = some (its[k]'(by omega)) := List.getElem?_eq_getElem _
    generalize its[k]'(by omega) = mm at hm
    have ft := ftk hm
    refine ⟨hw x, ?_⟩
    show wi1 ((wipe σ vs).set i (some x)) H2 _
    refine inn k x mm H2 _ hx hm (same_of old) fun J1 w1 => ?_
    refine ⟨fun j n H3 => j + n = mm.length ∧ (∀ b o, b ≠ D → H b = some o → H3 b = some o) ∧ H3 D = some (.lst ((its.take k).flatten ++ mm.take j)), ⟨mm.length, by omega, old, by rw [List.take_zero, List.append_nil]; exact hD⟩, ?_⟩
    rintro j n H3 ⟨jn, old3, hD3⟩
    obtain ⟨go1, stop1, yld1⟩ := w1 H3 (same_of old3)
    by_cases hj : j < mm.length
    · refine .inr ⟨go1 j hj, fun H4 => (∀ b o, b ≠ D → H b = some o → H4 b = some o) ∧ H4 D = some (.lst ((its.take k).flatten ++ mm.take (j + 1))), fun H4 h4 => ⟨n - 1, by omega, by omega, h4⟩, fun y H4 hy => ?_⟩
      obtain ⟨rfl, hv⟩ := yld1 j y H4 hy
      have hv := hv hj
      refine ⟨hw1 x _, ?_⟩
      show te ((wipe ((wipe σ vs).set i (some x)) vs1).set i1 (some y)) H4 _
      refine elt x y H4 _ ⟨_, hD3, ?_, fun b o n e => by rw [upd_ne n]; exact old3 b o n e, ?_⟩
      · rw [List.length_append, List.length_take]
        have := fle (k + 1)
        rw [ft, List.length_append] at this
        omega
      · rw [upd_same, tk_snoc hv, List.append_assoc]
    · have : j = mm.length := by omega
      subst this
      refine .inl ⟨stop1, old3, ?_⟩
      rw [ft]
      rw [List.take_length] at hD3
      exact hD3
  · have : k = xs.length := by omega
    subst this
    rw [lx, List.take_length] at hD
    exact .inl ⟨stop, done H1 (same_of old) hD⟩
end
end L2.My

namespace ZT
open PySem PySem.W RZ
section
variable {prog : Program} {w : World} {A : Around} {E : Value → Shared → Prop} {s : Shared}
theorem far_ne {a n j : Nat} (h : a < n) : n + j ≠ a := by omega
/-- the next pair, the one ahead being held -/
theorem next_held0 {z TI TO T i1 i2 l1 l2 : Addr} {f : Bool} {oT : Obj} {k : Nat} {xs ys : Array Value} {x y : Value} {Q : Value → Shared → Prop} (D : ZipApart z TI TO i1 i2 l1 l2)
    (hz : IsZipHeld s.heap z TI TO T f) (hT : s.heap.get? T = some oT) (hp : IsPair s.heap TI (.ref i1) (.ref i2)) (h1 : s.heap.IsTupleIter i1 l1 k) (h2 : s.heap.IsTupleIter i2 l2 k)
    (g1 : s.heap.IsTuple l1 xs) (g2 : s.heap.IsTuple l2 ys) (hx : xs[k]? = some x) (hy : ys[k]? = some y)
    (hQ : ∀ h', IsZipHeld h' z TI TO T true → h'.IsTupleIter i1 l1 (k + 1) → h'.IsTupleIter i2 l2 (k + 1) → IsPair h' s.heap.objs.size x y → h'.objs.size = s.heap.objs.size + 1 →
      (∀ c o, c ≠ z → c ≠ i1 → c ≠ i2 → s.heap.get? c = some o → h'.get? c = some o) → Q (.ref s.heap.objs.size) { s with heap := h' }) :
    wpAny (model prog w) A (Builtin.«zip.__next__» ⟨[.ref z], []⟩) (fun fin s' => ∃ v, fin = .done (.ret v) ∧ Q v s') E s := by
  show wpAny (model prog w) A (field (.ref z) 2 >>= _) _ _ s
  refine wpAny_bind (wpAny_field hz rfl (x := .bool false) rfl ?_)
  show wpAny (model prog w) A (field (.ref z) 3 >>= _) _ _ s
  refine wpAny_bind (wpAny_field hz rfl (x := .ref TI) rfl ?_)
  refine wpAny_bind (wpAny_seqItems hp rfl ?_)
  show wpAny (model prog w) A (Builtin.SmallTypes.ownedTupleIsFree (.ref z) >>= _) _ _ s
  refine wpAny_bind (wpAny_tupleHeld_zip hz hT fun ha za sa => ?_)
  simp only [Bool.false_eq_true, if_false]
  refine wpAny_bind ?_
  rw [← Array.forIn_toList]
  simp only [List.forIn_cons, List.forIn_nil]
  refine wpAny_bind (wpAny_bind (wpAny_holding ?_))
  show wpAny (model prog w) A (Builtin.SmallTypes.nextOf (.ref i1) >>= _) _ _ _
  refine (wpAny_bind (nextOf_tuple_item (s := { s with heap := ha }) (h1.extBut sa.extBut D.i1z) (g1.extBut sa.extBut D.l1z) hx fun hb h1b sb => wpAny_pure ?_))
  refine wpAny_pure (wpAny_bind (wpAny_bind (wpAny_holding ?_)))
  show wpAny (model prog w) A (Builtin.SmallTypes.nextOf (.ref i2) >>= _) _ _ _
  refine wpAny_bind (nextOf_tuple_item (s := { s with heap := hb }) ((h2.extBut sa.extBut D.i2z).extBut sb.extBut D.i12.symm) ((g2.extBut sa.extBut D.l2z).extBut sb.extBut D.l2i1) hy fun hc h2c sc => wpAny_pure ?_)
  refine wpAny_pure (wpAny_pure ?_)
  show wpAny (model prog w) A (newTuple [x, y] >>= _) _ _ _
  refine (wpAny_bind (wpAny_newTuple (wpAny_pure ⟨_, rfl, ?_⟩)))
  have sz : hc.objs.size = s.heap.objs.size := by rw [sc.1, sb.1, sa.1]
  have zc : IsZipHeld hc z TI TO T true := sc.extBut _ _ D.i2z.symm (sb.extBut _ _ D.i1z.symm za)
  have hk : ∀ c o, c ≠ z → c ≠ i1 → c ≠ i2 → s.heap.get? c = some o → hc.get? c = some o := fun c o c1 c2 c3 e => sc.extBut _ _ c3 (sb.extBut _ _ c2 (sa.extBut _ _ c1 e))
  have h1c : hc.IsTupleIter i1 l1 (k + 1) := h1b.extBut sc.extBut D.i12
  have np : IsPair (hc.push { cls := .type "tuple", data := .seq #[x, y] }) hc.objs.size x y := Heap.get?_push_size _ rfl
  have nz : (hc.push { cls := .type "tuple", data := .seq #[x, y] }).objs.size = hc.objs.size + 1 := Heap.size_push ..
  show Q (.ref hc.objs.size) _
  rw [sz] at np nz ⊢
  exact hQ _ (Heap.get?_push_of_some _ zc) (h1c.at fun o e => Heap.get?_push_of_some _ e) (h2c.at fun o e => Heap.get?_push_of_some _ e) np nz fun c o c1 c2 c3 e => Heap.get?_push_of_some _ (hk c o c1 c2 c3 e)
theorem next_held {z TI TO T i1 i2 l1 l2 : Addr} {f : Bool} {oT : Obj} {k : Nat} {xs ys : Array Value} {x y : Value} {Q : Option Value → Shared → Prop} (D : ZipApart z TI TO i1 i2 l1 l2)
    (hz : IsZipHeld s.heap z TI TO T f) (hT : s.heap.get? T = some oT) (hp : IsPair s.heap TI (.ref i1) (.ref i2)) (h1 : s.heap.IsTupleIter i1 l1 k) (h2 : s.heap.IsTupleIter i2 l2 k)
    (g1 : s.heap.IsTuple l1 xs) (g2 : s.heap.IsTuple l2 ys) (hx : xs[k]? = some x) (hy : ys[k]? = some y)
    (hQ : ∀ h', IsZipHeld h' z TI TO T true → h'.IsTupleIter i1 l1 (k + 1) → h'.IsTupleIter i2 l2 (k + 1) → IsPair h' s.heap.objs.size x y → h'.objs.size = s.heap.objs.size + 1 →
      (∀ c o, c ≠ z → c ≠ i1 → c ≠ i2 → s.heap.get? c = some o → h'.get? c = some o) → Q (some (.ref s.heap.objs.size)) { s with heap := h' }) : wpAny (model prog w) A (pyNext (.ref z)) Q E s := by
  have ty : s.TypeIs (.ref z) "zip" := ⟨_, hz, rfl⟩
  unfold pyNext
  refine wpAny_bind (wpAny_attempt (wpAny_callSpecial?_slot (name := Str.ofString "__next__") ty F.slot_zip_next (wpAny_call_entry F.slot_zip_next ty F.entry_zip_next ?_ (F.args_zip_next_1 _))))
  exact next_held0 D hz hT hp h1 h2 g1 g2 hx hy fun h' a b c d e k => wpAny_pure (hQ h' a b c d e k)
theorem end_held {z TI TO T i1 i2 l1 l2 : Addr} {f : Bool} {oT : Obj} {k : Nat} {xs : Array Value} {Q : Option Value → Shared → Prop} (hh : A.handled = none) (D : ZipApart z TI TO i1 i2 l1 l2)
    (hz : IsZipHeld s.heap z TI TO T f) (hT : s.heap.get? T = some oT) (hp : IsPair s.heap TI (.ref i1) (.ref i2)) (h1 : s.heap.IsTupleIter i1 l1 k) (g1 : s.heap.IsTuple l1 xs) (hx : xs[k]? = none)
    (hQ : ∀ h', (∀ c o, c ≠ z → c ≠ i1 → s.heap.get? c = some o → h'.get? c = some o) → Q none { s with heap := h' }) : wpAny (model prog w) A (pyNext (.ref z)) Q E s := by
  have ty : s.TypeIs (.ref z) "zip" := ⟨_, hz, rfl⟩
  unfold pyNext
  refine wpAny_bind (wpAny_attempt (wpAny_callSpecial?_slot (name := Str.ofString "__next__") ty F.slot_zip_next (wpAny_call_entry F.slot_zip_next ty F.entry_zip_next ?_ (F.args_zip_next_1 _))))
  show wpAny (model prog w) _ (field (.ref z) 2 >>= _) _ _ s
  refine wpAny_bind (wpAny_field hz rfl (x := .bool false) rfl ?_)
  show wpAny (model prog w) _ (field (.ref z) 3 >>= _) _ _ s
  refine wpAny_bind (wpAny_field hz rfl (x := .ref TI) rfl ?_)
  refine wpAny_bind (wpAny_seqItems hp rfl ?_)
  show wpAny (model prog w) _ (Builtin.SmallTypes.ownedTupleIsFree (.ref z) >>= _) _ _ s
  refine wpAny_bind (wpAny_tupleHeld_zip hz hT fun ha za sa => ?_)
  simp only [Bool.false_eq_true, if_false]
  refine wpAny_bind ?_
  rw [← Array.forIn_toList]
  simp only [List.forIn_cons, List.forIn_nil]
  refine wpAny_bind (wpAny_bind (wpAny_holding ?_))
  show wpAny (model prog w) _ (Builtin.SmallTypes.nextOf (.ref i1) >>= _) _ _ _
  refine wpAny_bind (nextOf_tuple_end (s := { s with heap := ha }) hh (h1.extBut sa.extBut D.i1z) (g1.extBut sa.extBut D.l1z) hx fun hb e kb he => ?_)
  obtain ⟨o, ho, hc⟩ := he
  refine wpAny_bind (wpAny_isInstance (T := "StopIteration") (b := true) ⟨o, ho, hc⟩ isSubtype_stop (wpAny_pure (hQ _ fun c u c1 c2 q => kb _ _ c2 (sa.extBut _ _ c1 q))))
/-- where a walk over zip(two tuples) stands: i pairs have been told, laid from n0 on -/
structure StA (h : Heap) (z TI TO i1 i2 l1 l2 n0 : Addr) (xs ys : Array Value) (i : Nat) : Prop where
  hz : (i = 0 ∧ IsZip h z TI TO .none ∧ ∃ a b, IsPair h TO a b) ∨ (∃ T oT f, IsZipHeld h z TI TO T f ∧ h.get? T = some oT ∧ n0 ≤ T)
  hp : IsPair h TI (.ref i1) (.ref i2)
  h1 : h.IsTupleIter i1 l1 i
  h2 : h.IsTupleIter i2 l2 i
  g1 : h.IsTuple l1 xs
  g2 : h.IsTuple l2 ys
  sz : h.objs.size = n0 + i
  pr : ∀ j x y, j < i → xs[j]? = some x → ys[j]? = some y → IsPair h (n0 + j) x y
abbrev lsO (acc : Array Value) (c : Nat) : Obj := { cls := .type "list", dict := none, data := .seq acc c, slots := #[] }
theorem StA.off {h h' : Heap} {z TI TO i1 i2 l1 l2 n0 S : Addr} {xs ys : Array Value} {i : Nat} (a : StA h z TI TO i1 i2 l1 l2 n0 xs ys i) (k : ∀ b o, b ≠ S → h.get? b = some o → h'.get? b = some o) (sz : h'.objs.size = h.objs.size) (lS : S < n0)
    (aS : S ≠ z ∧ S ≠ TI ∧ S ≠ TO ∧ S ≠ i1 ∧ S ≠ i2 ∧ S ≠ l1 ∧ S ≠ l2) : StA h' z TI TO i1 i2 l1 l2 n0 xs ys i := by
  obtain ⟨a1, a2, a3, a4, a5, a6, a7⟩ := aS
  refine ⟨?_, k _ _ (Ne.symm a2) a.hp, a.h1.at fun o e => k _ _ (Ne.symm a4) e, a.h2.at fun o e => k _ _ (Ne.symm a5) e, ?_, ?_, sz.trans a.sz, fun j x y hj hx hy => k _ _ (Nat.ne_of_gt (Nat.lt_of_lt_of_le lS (Nat.le_add_right _ _))) (a.pr j x y hj hx hy)⟩
  · rcases a.hz with ⟨e, q, c, d, r⟩ | ⟨T, oT, f, q, r, l⟩
    · exact .inl ⟨e, k _ _ (Ne.symm a1) q, c, d, k _ _ (Ne.symm a3) r⟩
    · exact .inr ⟨T, oT, f, k _ _ (Ne.symm a1) q, k _ _ (Nat.ne_of_gt (Nat.lt_of_lt_of_le lS l)) r, l⟩
  · obtain ⟨o, e, r⟩ := a.g1
    exact ⟨o, k _ _ (Ne.symm a6) e, r⟩
  · obtain ⟨o, e, r⟩ := a.g2
    exact ⟨o, k _ _ (Ne.symm a7) e, r⟩
theorem zt_loop {z TI TO i1 i2 l1 l2 n0 S : Addr} {xs ys : Array Value} {n : Nat} {R : Result → Shared → Prop} (D : ZipApart z TI TO i1 i2 l1 l2) (hh : A.handled = none) (nx : xs.size = n) (ny : ys.size = n) (hn : n ≤ sizeLine)
    (aS : S ≠ z ∧ S ≠ TI ∧ S ≠ TO ∧ S ≠ i1 ∧ S ≠ i2 ∧ S ≠ l1 ∧ S ≠ l2) (lS : S < n0) (lt : z < n0 ∧ TI < n0 ∧ TO < n0 ∧ i1 < n0 ∧ i2 < n0) (res : Value) :
    ∀ (k i : Nat) (s : Shared) (acc : Array Value) (c : Nat), n - i = k → i ≤ n → StA s.heap z TI TO i1 i2 l1 l2 n0 xs ys i → s.heap.get? S = some (lsO acc c) → acc.size = i → (∀ (j : Nat) (v : Value), acc[j]? = some v → v = Value.ref (n0 + j)) →
    (∀ h' acc' c', (∀ b o, b ≠ S → b ≠ z → b ≠ TO → b ≠ i1 → b ≠ i2 → s.heap.get? b = some o → h'.get? b = some o) → h'.get? S = some (lsO acc' c') → acc'.size = n → (∀ (j : Nat) (v : Value), acc'[j]? = some v → v = Value.ref (n0 + j)) →
      (∀ j x y, j < n → xs[j]? = some x → ys[j]? = some y → IsPair h' (n0 + j) x y) → R (.ok (.ret res)) { s with heap := h' }) →
    codeAny (model prog w) A (.builtin "list.extend.loop" ⟨[.ref S, .ref z, res], []⟩) R s := by
  intro k
  induction k with
  | zero =>
    intro i s acc c hk hi a hS hacc hv hR
    obtain rfl : i = n := by omega
    obtain ⟨a1, a2, a3, a4, a5, a6, a7⟩ := aS
    obtain ⟨t1, t2, t3, t4, t5⟩ := lt
    have hx : xs[i]? = none := Array.getElem?_eq_none (by omega)
    have fin : ∀ h', (∀ b o, b ≠ z → b ≠ TO → b ≠ i1 → b ≠ i2 → s.heap.get? b = some o → h'.get? b = some o) → R (.ok (.ret res)) { s with heap := h' } := fun h' kk =>
      hR h' acc c (fun b o _ b1 b2 b3 b4 e => kk b o b1 b2 b3 b4 e) (kk _ _ a1 a3 a4 a5 hS) hacc hv fun j x y hj q1 q2 => kk _ _ (far_ne t1) (far_ne t3) (far_ne t4) (far_ne t5) (a.pr j x y hj q1 q2)
    refine codeAny_builtin F.entry_extend_loop ?_
    rw [Around.under_plainId F.plain_extend_loop _]
    show wpAny (model prog w) A.in1 (pyNext (.ref z) >>= _) _ _ s
    rcases a.hz with ⟨_, q, c1, d1, r⟩ | ⟨T, oT, f, q, r, l⟩
    · exact wpAny_bind (pyNext_zipT_end hh D q a.hp r a.h1 a.h2 a.g1 a.g2 (.inl hx) fun h' kk => wpAny_pure (fin h' kk))
    · exact wpAny_bind (end_held hh D q r a.hp a.h1 a.g1 hx fun h' kk => wpAny_pure (fin h' fun b o b1 _ b3 _ e => kk b o b1 b3 e))
  | succ k ih =>
    intro i s acc c hk hi a hS hacc hv hR
    have hlt : i < n := by omega
    have aS' := aS
    obtain ⟨a1, a2, a3, a4, a5, a6, a7⟩ := aS
    obtain ⟨t1, t2, t3, t4, t5⟩ := lt
    have hx : xs[i]? = some xs[i] := Array.getElem?_eq_getElem (by omega)
    have hy : ys[i]? = some ys[i] := Array.getElem?_eq_getElem (by omega)
    have step : ∀ h', ((∃ f, IsZipHeld h' z TI TO (n0 + i) f) ∨ ∃ T oT f, IsZipHeld h' z TI TO T f ∧ h'.get? T = some oT ∧ n0 ≤ T) → h'.IsTupleIter i1 l1 (i + 1) → h'.IsTupleIter i2 l2 (i + 1) → IsPair h' (n0 + i) xs[i] ys[i] → h'.objs.size = s.heap.objs.size + 1 →
        (∀ b o, b ≠ z → b ≠ TO → b ≠ i1 → b ≠ i2 → s.heap.get? b = some o → h'.get? b = some o) →
        wpAny (model prog w) A.in1 (updateSeq S (·.push (Value.ref (n0 + i))) >>= fun _ => again (.builtin "list.extend.loop" ⟨[.ref S, .ref z, res], []⟩))
          (fun fin s' => match fin with | .done f => R (.ok f) s' | .again c' => c'.quiet = true ∧ codeAny (model prog w) A c' R s') (fun e s' => R (.error e) s') { s with heap := h' } := by
      intro h' hz' b1 b2 b3 b4 kk
      have hS' := kk _ _ a1 a3 a4 a5 hS
      have keep1 : ∀ {b : Addr} {o : Obj}, n0 ≤ b → s.heap.get? b = some o → h'.get? b = some o := fun {b o} l e => kk b o (Nat.ne_of_gt (Nat.lt_of_lt_of_le t1 l)) (Nat.ne_of_gt (Nat.lt_of_lt_of_le t3 l)) (Nat.ne_of_gt (Nat.lt_of_lt_of_le t4 l)) (Nat.ne_of_gt (Nat.lt_of_lt_of_le t5 l)) e
      have st : StA h' z TI TO i1 i2 l1 l2 n0 xs ys (i + 1) := by
        refine ⟨.inr ?_, kk _ _ D.TIz D.TITO D.TIi1 D.TIi2 a.hp, b1, b2, ?_, ?_, by rw [b4, a.sz]; rfl, fun j x y hj q1 q2 => ?_⟩
        · rcases hz' with ⟨f, q⟩ | q
          · exact ⟨_, _, f, q, b3, Nat.le_add_right _ _⟩
          · exact q
        · obtain ⟨o, e, r⟩ := a.g1
          exact ⟨o, kk _ _ D.l1z D.l1TO D.l1i1 D.l1i2 e, r⟩
        · obtain ⟨o, e, r⟩ := a.g2
          exact ⟨o, kk _ _ D.l2z D.l2TO D.l2i1 D.l2i2 e, r⟩
        · by_cases c : j = i
          · subst c
            rw [hx] at q1
            rw [hy] at q2
            cases q1
            cases q2
            exact b3
          · exact keep1 (Nat.le_add_right _ _) (a.pr j x y (by omega) q1 q2)
      refine wpAny_bind (wpAny_updateSeq hS' rfl (wpAny_pure ⟨plainId_quiet F.plain_extend_loop _, ?_⟩) (by rw [hacc]; omega) (by show (acc.push _).size ≤ sizeLine + 1; rw [Array.size_push, hacc]; omega))
      have oth : ∀ b o, b ≠ S → h'.get? b = some o → (h'.update S (Obj.mapSeq (·.push (Value.ref (n0 + i))))).get? b = some o := fun b o hb e => (Heap.get?_update_other _ _ (Ne.symm hb)).trans e
      refine ih (i + 1) _ (acc.push (Value.ref (n0 + i))) _ (by omega) hlt (st.off oth (Heap.size_update ..) lS aS') (Heap.get?_update_self _ hS' rfl) (by rw [Array.size_push, hacc]) (fun j v e => ?_) fun h'' acc' c' kk' q1 q2 q3 q4 => ?_
      · rw [Array.getElem?_push] at e
        split at e
        · rename_i z
          rw [hacc] at z
          cases e
          rw [z]
        · exact hv j v e
      · exact hR h'' acc' c' (fun b o b0 b1 b2 b3 b4 e => kk' b o b0 b1 b2 b3 b4 (oth b o b0 (kk b o b1 b2 b3 b4 e))) q1 q2 q3 q4
    refine codeAny_builtin F.entry_extend_loop ?_
    rw [Around.under_plainId F.plain_extend_loop _]
    show wpAny (model prog w) A.in1 (pyNext (.ref z) >>= _) _ _ s
    have sz := a.sz
    rcases a.hz with ⟨_, q, c1, d1, r⟩ | ⟨T, oT, f, q, r, l⟩
    · refine wpAny_bind (pyNext_zipT_item D q a.hp r a.h1 a.h2 a.g1 a.g2 hx hy fun h' b0 _ b1 b2 b3 b4 kk => ?_)
      rw [sz] at b0 b3 ⊢
      exact step h' (.inl ⟨false, b0⟩) b1 b2 b3 b4 kk
    · refine wpAny_bind (next_held D q r a.hp a.h1 a.h2 a.g1 a.g2 hx hy fun h' b0 b1 b2 b3 b4 kk => ?_)
      rw [sz] at b3 ⊢
      exact step h' (.inr ⟨T, oT, true, b0, kk _ _ (Nat.ne_of_gt (Nat.lt_of_lt_of_le t1 l)) (Nat.ne_of_gt (Nat.lt_of_lt_of_le t4 l)) (Nat.ne_of_gt (Nat.lt_of_lt_of_le t5 l)) r, l⟩) b1 b2 b3 b4 fun b o c1 _ c3 c4 e => kk b o c1 c3 c4 e
theorem zip_no_len : typeLookup (.type "zip") "__len__" = pure none := am_miss_of_fast (by decide +kernel)
theorem zip_no_hint : typeLookup (.type "zip") "__length_hint__" = pure none := am_miss_of_fast (by decide +kernel)
/-- list(zip(a, b)), the zip just made of two tuples of one length -/
theorem call_list_zip {z TI TO i1 i2 l1 l2 : Addr} {xs ys : Array Value} {n : Nat} {Q : Value → Shared → Prop} (D : ZipApart z TI TO i1 i2 l1 l2) (hh : A.handled = none) (nx : xs.size = n) (ny : ys.size = n) (hn : n ≤ sizeLine)
    (hz : IsZip s.heap z TI TO .none) (hp : IsPair s.heap TI (.ref i1) (.ref i2)) (hto : ∃ a b, IsPair s.heap TO a b) (h1 : s.heap.IsTupleIter i1 l1 0) (h2 : s.heap.IsTupleIter i2 l2 0) (g1 : s.heap.IsTuple l1 xs) (g2 : s.heap.IsTuple l2 ys)
    (hQ : ∀ (h' : Heap) (acc : Array Value) (c : Nat), (∀ b o, b ≠ z → b ≠ TO → b ≠ i1 → b ≠ i2 → s.heap.get? b = some o → h'.get? b = some o) → h'.get? s.heap.objs.size = some (lsO acc c) → acc.size = n →
      (∀ (j : Nat) (v : Value), acc[j]? = some v → v = Value.ref (s.heap.objs.size + 1 + j)) → (∀ j x y, j < n → xs[j]? = some x → ys[j]? = some y → IsPair h' (s.heap.objs.size + 1 + j) x y) → Q (.ref s.heap.objs.size) { s with heap := h' }) :
    wpAny (model prog w) A (call (.type "list") [.ref z]) Q E s := by
  refine callType_codes (Q₁ := fun ob s1 => ob = .ref s.heap.objs.size ∧ s1 = { s with heap := s.heap.push { cls := .type "list", data := .seq #[] } }) PySem.F.called_list (PySem.F.typeCall_list_1 _) PySem.F.entry_list_init (code_list_new _ ⟨rfl, rfl⟩) fun ob s1 e1 => ?_
  obtain ⟨rfl, rfl⟩ := e1
  have oS : (s.heap.push { cls := .type "list", data := .seq #[] }).get? s.heap.objs.size = some { cls := .type "list", data := .seq #[] } := Heap.get?_push_size _ rfl
  refine ⟨⟨_, oS, rfl⟩, PySem.F.args_list_init_2 _ _, ?_⟩
  have kp : ∀ b o, s.heap.get? b = some o → (s.heap.push { cls := .type "list", data := .seq #[] }).get? b = some o := fun b o e => Heap.get?_push_of_some _ e
  have ne : ∀ {b : Addr} {o : Obj}, s.heap.get? b = some o → s.heap.objs.size ≠ b := fun {b o} e => Nat.ne_of_gt (Heap.lt_size e)
  obtain ⟨a, b, hto⟩ := hto
  obtain ⟨o1, e1, r1⟩ := h1
  obtain ⟨o2, e2, r2⟩ := h2
  obtain ⟨o3, e3, r3⟩ := g1
  obtain ⟨o4, e4, r4⟩ := g2
  have ap : s.heap.objs.size ≠ z ∧ s.heap.objs.size ≠ TI ∧ s.heap.objs.size ≠ TO ∧ s.heap.objs.size ≠ i1 ∧ s.heap.objs.size ≠ i2 ∧ s.heap.objs.size ≠ l1 ∧ s.heap.objs.size ≠ l2 := ⟨ne hz, ne hp, ne hto, ne e1, ne e2, ne e3, ne e4⟩
  have lt : z < s.heap.objs.size + 1 ∧ TI < s.heap.objs.size + 1 ∧ TO < s.heap.objs.size + 1 ∧ i1 < s.heap.objs.size + 1 ∧ i2 < s.heap.objs.size + 1 := ⟨Nat.lt_succ_of_lt (Heap.lt_size hz), Nat.lt_succ_of_lt (Heap.lt_size hp), Nat.lt_succ_of_lt (Heap.lt_size hto), Nat.lt_succ_of_lt (Heap.lt_size e1), Nat.lt_succ_of_lt (Heap.lt_size e2)⟩
  have st0 : StA (s.heap.push { cls := .type "list", data := .seq #[] }) z TI TO i1 i2 l1 l2 (s.heap.objs.size + 1) xs ys 0 :=
    ⟨.inl ⟨rfl, kp _ _ hz, a, b, kp _ _ hto⟩, kp _ _ hp, ⟨o1, kp _ _ e1, r1⟩, ⟨o2, kp _ _ e2, r2⟩, ⟨o3, kp _ _ e3, r3⟩, ⟨o4, kp _ _ e4, r4⟩, Heap.size_push .., fun j x y hj => absurd hj (Nat.not_lt_zero _)⟩
  have go : ∀ (h : Heap) (c : Nat), StA h z TI TO i1 i2 l1 l2 (s.heap.objs.size + 1) xs ys 0 → (∀ b o, s.heap.get? b = some o → h.get? b = some o) → h.get? s.heap.objs.size = some (lsO #[] c) →
      codeAny (model prog w) A.in1 (.builtin "list.extend.loop" ⟨[.ref s.heap.objs.size, .ref z, .none], []⟩) (wants (fun r s2 => r = .none ∧ Q (.ref s.heap.objs.size) s2) E) { s with heap := h } := by
    intro h c st kk hS
    refine zt_loop (A := A.in1) D hh nx ny hn ap (Nat.lt_succ_self _) lt .none n 0 _ #[] c rfl (Nat.zero_le _) st hS rfl (fun j v e => by simp at e) fun h' acc' c' k' q1 q2 q3 q4 => ?_
    exact ⟨rfl, hQ h' acc' c' (fun b o b1 b2 b3 b4 e => k' b o (Ne.symm (ne e)) b1 b2 b3 b4 (kk b o e)) q1 q2 q3 q4⟩
  have sr : Builtin.List.listSameRef (.ref s.heap.objs.size) (.ref z) = false := by simp [Builtin.List.listSameRef, ap.1]
  have q1 : (Value.type "zip" == Value.type "list") = false := by decide
  have q2 : (Value.type "zip" == Value.type "tuple") = false := by decide
  have q3 : ∀ (h : Heap), IsZip h z TI TO .none → ∀ {A' : Around} {E' : Value → Shared → Prop} {Q' : Bool → Shared → Prop}, Q' true { s with heap := h } → wpAny (model prog w) A' (Builtin.List.listLengthHint (.ref z)) Q' E' { s with heap := h } := by
    intro h hz' A' E' Q' q
    have ty : ({ s with heap := h } : Shared).TypeIs (.ref z) "zip" := ⟨_, hz', rfl⟩
    unfold Builtin.List.listLengthHint
    refine wpAny_bind (wpAny_specialOf ty zip_no_len ?_)
    show wpAny (model prog w) A' (specialOf (Value.ref z) (Str.ofString "__length_hint__") >>= _) _ _ _
    exact wpAny_bind (wpAny_specialOf ty zip_no_hint (wpAny_pure q))
  show wpAny (model prog w) _ (do let old ← Builtin.List.listItems (.ref s.heap.objs.size); Builtin.List.listUpdate (.ref s.heap.objs.size) (fun _ => #[]); letGo old.toList.reverse; Builtin.List.listExtendWith (.ref s.heap.objs.size) (.ref z) .none) _ _ _
  refine wpAny_bind ?_
  unfold Builtin.List.listItems
  refine wpAny_bind (wpAny_seqItems oS rfl (wpAny_pure ?_))
  show wpAny (model prog w) _ (updateSeq s.heap.objs.size (fun _ => #[]) >>= fun _ => letGo (#[] : Array Value).toList.reverse >>= fun _ => Builtin.List.listExtendWith (.ref s.heap.objs.size) (.ref z) .none) _ _ _
  refine wpAny_bind (wpAny_updateSeq oS rfl (wpAny_bind (wpAny_letGo ?_)))
  have oS2 := Heap.get?_update_self (Obj.mapSeq (fun _ => (#[] : Array Value))) oS rfl
  have oth : ∀ b o, b ≠ s.heap.objs.size → (s.heap.push { cls := .type "list", data := .seq #[] }).get? b = some o → ((s.heap.push { cls := .type "list", data := .seq #[] }).update s.heap.objs.size (Obj.mapSeq (fun _ => (#[] : Array Value)))).get? b = some o :=
    fun b o hb e => (Heap.get?_update_other _ _ (Ne.symm hb)).trans e
  have st1 := st0.off oth (Heap.size_update ..) (Nat.lt_succ_self _) ap
  have kp1 : ∀ b o, s.heap.get? b = some o → ((s.heap.push { cls := .type "list", data := .seq #[] }).update s.heap.objs.size (Obj.mapSeq (fun _ => (#[] : Array Value)))).get? b = some o := fun b o e => oth b o (Ne.symm (ne e)) (kp b o e)
  generalize ((s.heap.push { cls := .type "list", data := .seq #[] }).update s.heap.objs.size (Obj.mapSeq (fun _ => (#[] : Array Value)))) = g at oS2 st1 kp1 ⊢
  unfold Builtin.List.listExtendWith
  refine wpAny_bind (wpAny_typeOf (T := "zip") ⟨_, kp1 _ _ hz, rfl⟩ ?_)
  simp only [sr, q1, q2, Bool.or_false, Bool.false_eq_true, if_false]
  refine wpAny_bind (wpAny_pyIter_zip (kp1 _ _ hz) (wpAny_bind (wpAny_holding (q3 g (kp1 _ _ hz) ?_))))
  simp only [Bool.true_or, if_true]
  refine wpAny_bind (wpAny_rule (wpAny_bind ?_))
  show wpAny (model prog w) _ (updateSeq s.heap.objs.size (·.push .none) >>= fun _ => updateSeq s.heap.objs.size (·.pop)) _ _ _
  refine wpAny_bind (wpAny_updateSeq oS2 rfl ?_)
  have oS3 := Heap.get?_update_self (Obj.mapSeq (·.push Value.none)) oS2 rfl
  refine wpAny_updateSeq (hz := by seq_fits) oS3 rfl ?_
  have oS4 := Heap.get?_update_self (Obj.mapSeq (·.pop)) oS3 rfl
  have ot2 : ∀ b o, b ≠ s.heap.objs.size → g.get? b = some o → ((g.update s.heap.objs.size (Obj.mapSeq (·.push Value.none))).update s.heap.objs.size (Obj.mapSeq (·.pop))).get? b = some o :=
    fun b o hb e => (Heap.get?_update_other _ _ (Ne.symm hb)).trans ((Heap.get?_update_other _ _ (Ne.symm hb)).trans e)
  exact wpAny_pure ⟨plainId_quiet PySem.F.plain_extend_loop _, go _ _ (st1.off ot2 ((Heap.size_update ..).trans (Heap.size_update ..)) (Nat.lt_succ_self _) ap) (fun b o e => ot2 b o (Ne.symm (ne e)) (kp1 b o e)) oS4⟩
end
end ZT

namespace L2.My
open PySem PySem.Spec PyProof.Rows
open HQ (Ev evD)
/-! ### x in t, t.index(x): t a tuple of tuples -/
section
variable {X : Cx}
def rInTH : R2 := fun x y H Q => ∃ d ds, Rp H x d ∧ Rp H y (.tuple ds) ∧ SeqAt.shaped d = true ∧ SeqAt.shaped (.tuple ds) = true ∧ Q (.bl (ds.any fun z => PyData.eqv z d)) H
theorem inTH (hu : X.A.units + 65 < cLine) : OpR X (compareOp .In) rInTH := fun pins s σ H x y v u Q I rx ry ⟨d, ds, h1, h2, h3, h4, q⟩ => by
  obtain ⟨as, r1⟩ := Dp.reads I d x v h1.dp rx
  obtain ⟨bs, r2⟩ := Dp.reads I (.tuple ds) y u h2.dp ry
  exact SeqAt.in_tuple_reads r2 r1 (SeqAt.canLay_of_shaped h4) (SeqAt.canLay_of_shaped h3) (room_in_shaped h3 hu) ⟨.bl _, H, I, rfl, q⟩
def rIdxTH : V → List V → Hp → VK → Prop := fun x vs H Q => ∃ (a : Addr) (y : V) (d : PyData) (xs : List V) (ds : List PyData) (j : Nat) (z : PyData), x = V.ref a ∧ vs = [y] ∧ H a = some (.tup xs) ∧ RpAll H xs ds ∧ Rp H y d ∧
  SeqAt.shaped (.tuple ds) = true ∧ SeqAt.shaped d = true ∧ ds[j]? = some z ∧ PyData.eqv z d = true ∧ (∀ (m : Nat) (z' : PyData), m < j → ds[m]? = some z' → PyData.eqv z' d = false) ∧ Q (.int (j : Nat)) H
theorem mt_idxTH (hu : X.A.units + 65 < cLine) : MtR X "tuple.index" rIdxTH := by
  intro pins s σ H x vs v us Q I rx rxs ⟨a, y, d, xs, ds, j, z, e1, e2, ha, hs, hy, sl, sd, hz, hzj, hno, q⟩
  subst e1
  subst e2
  cases rx
  obtain ⟨uy, rfl, ry⟩ := rxs.one
  obtain ⟨bs, rd⟩ := Dp.reads I d y uy hy.dp ry
  have lay : PyData.canLayAll0 ds = true := SeqAt.canLay_of_shaped sl
  have room : X.A.units + 1 + min (PyData.depthAll ds) d.depth < cLine := room_in_shaped sd hu
  obtain ⟨its, rv, ⟨⟨cls, dd, data, sls⟩, ho, hc, n, hdt⟩, hlen⟩ := I.tuple (.inl (.inl ha))
  simp only at hc hdt
  subst hc hdt
  obtain ⟨as, r4⟩ := Dp.readsAll I ds xs its hs.dp rv
  have ln : its.length = ds.length := SeqAt.ReadsAll.length ds its as r4
  have mp : its.map (SeqAt.readOf s.heap) = ds := SeqAt.readsAll_map ds its as lay r4
  have jd : j < ds.length := (List.getElem?_eq_some_iff.mp hz).1
  have jl : j < its.toArray.size := by rw [List.size_toArray]; omega
  have at_ : ∀ (m : Nat) (hm : m < its.toArray.size) (z' : PyData), ds[m]? = some z' → SeqAt.readOf s.heap its.toArray[m] = z' := fun m hm z' hz' => by
    have hml : m < its.length := by simpa using hm
    rw [← mp, List.getElem?_map, List.getElem?_eq_getElem hml] at hz'
    simpa using Option.some.inj hz'
  refine call_meets PySem.F.slot_tuple_index ⟨_, ho, rfl⟩ PySem.F.entry_tuple_index (PySem.F.args_tuple_index_2 _ _) (TI.tuple_indexAt a its.toArray n dd sls uy (fun u => PyData.eqv (SeqAt.readOf s.heap u) d) j jl ?_ ?_)
    ⟨ho, SeqAt.items_eqAt (vs := its.toArray) (show ReadsAll s.heap its.toArray.toList ds as from r4) rd lay (SeqAt.canLay_of_shaped sd) room, ⟨.int (j : Nat), H, I.tok _, ⟨_, rfl⟩, q⟩⟩
  · show PyData.eqv (SeqAt.readOf s.heap its.toArray[j]) d = true
    rw [at_ j jl z hz]
    exact hzj
  · intro m hm hmj
    have hz' : ds[m]? = some ds[m] := List.getElem?_eq_getElem (by omega)
    show PyData.eqv (SeqAt.readOf s.heap its.toArray[m]) d = false
    rw [at_ m hm _ hz']
    exact hno m _ hmj hz'
/-! ### len of a set of tuples, max of a list of numbers -/
def rLenN (w : World) : List V → Hp → VK → Prop := fun xs H Q => ∃ (a : Addr) (L : NL), xs = [.ref a] ∧ H a = some (NSO w a L) ∧ Q (.int (L.length : Nat)) H
theorem lenN {w : World} : CallR X (.builtin "len") (rLenN w) := by
  intro pins s σ H xs us Q I r ⟨a, L, e, ha, q⟩
  subst e
  rw [Vals.ref1 r]
  have ok : ObjOk X.prog X.w H s.heap a (NSO w a L) := I.hok a _ ha
  obtain ⟨⟨es, ep, t, ⟨o, ho, hx, hd⟩, rw_, tb, dis, led, spc, few⟩⟩ := (show NS0 w s.heap a L from ok.1)
  have sz := rows_size rw_
  have h1 := tb.sz
  rw [List.length_map] at h1
  refine Calls.call_function_entry kind_len plain_len entry_len (args_len1 _) (wpAny_len_body_set ho hx hd (fits_of (by omega) tb.dm (by omega)) (by omega) ?_)
  rw [sz]
  exact ⟨.int (L.length : Nat), H, I.tok _, ⟨_, rfl⟩, q⟩
def rMaxH : List V → Hp → VK → Prop := fun vs H Q => ∃ (a : Addr) (ns : List Int), vs = [V.ref a] ∧ H a = some (.lst (ns.map V.int)) ∧ 0 < ns.length ∧ ∀ m, m ∈ ns → (∀ y, y ∈ ns → y ≤ m) → Q (.int m) H
theorem maxH (hc : X.calm = true) : CallR X (.builtin "max") rMaxH := fun pins s σ H xs us Q I r ⟨a, ns, e, h, z, q⟩ => cr_max hc pins s σ H xs us Q I r ⟨a, ns, e, .inl (.inl h), z, q⟩
end
end L2.My

namespace ZT
open PySem PySem.W RZ
set_option maxHeartbeats 1000000 in
theorem enum_newT (l : Addr) (items : Array Value) :
    Meets (Builtin.«enumerate.__new__» ⟨[.type "enumerate", .ref l], []⟩) (fun _ R s => s.heap.IsTuple l items ∧
      R (.ok (.ret (.ref (s.heap.push { cls := .type "tuple_iterator", data := .fields #[.ref l, .int 0 0] }).objs.size)))
        { s with heap := (s.heap.push { cls := .type "tuple_iterator", data := .fields #[.ref l, .int 0 0] }).push { cls := .type "enumerate", data := .fields #[.none, .bool false, .ref s.heap.objs.size, rawInt 0, .none, .none] } }) :=
  .of_wp fun prog w A R s h => by
    obtain ⟨hp, g, d, tk, os⟩ := s
    obtain ⟨h1, h2⟩ := h
    have su := sub_enumerate
    have q1 : ∀ {A' : Around} {E : Value → Shared → Prop} {Q : Value → Shared → Prop}, Q (.ref hp.objs.size) ⟨hp.push { cls := .type "tuple_iterator", data := .fields #[.ref l, .int 0 0] }, g, d, tk, os⟩ → wpAny (model prog w) A' (pyIter (.ref l)) Q E ⟨hp, g, d, tk, os⟩ :=
      fun q => wpAny_pyIter_tuple h1 q
    wp_walk using q1
    refine wpAny_stack_any fun st => wpAny_pure ?_
    split
    · rename_i c _ _ _ _ _
      cases (c == Value.type "enumerate") <;> (wp_walk using q1; exact ⟨_, rfl, h2⟩)
    · wp_walk using q1
      exact ⟨_, rfl, h2⟩
section
variable {prog : Program} {w : World} {A : Around} {E : Value → Shared → Prop} {s : Shared}
theorem call_enumT {l : Addr} {items : Array Value} {Q : Value → Shared → Prop} (hL : s.heap.IsTuple l items)
    (h : ∀ h', IsEnum h' (s.heap.objs.size + 1) s.heap.objs.size 0 .none → h'.IsTupleIter s.heap.objs.size l 0 → (∀ b o, s.heap.get? b = some o → h'.get? b = some o) → Q (.ref (s.heap.objs.size + 1)) { s with heap := h' }) :
    wpAny (model prog w) A (call (.type "enumerate") [.ref l]) Q E s := by
  refine callType_new F.called_enumerate (by decide) (F.typeCall_enumerate_1 _) (F.newCall_enumerate_1 _) (fun ob => F.args_object_init_2 ob _) F.entry_enumerate_new (enum_newT l items) ⟨hL, ?_⟩
  have sz : (s.heap.push { cls := .type "tuple_iterator", data := .fields #[.ref l, .int 0 0] }).objs.size = s.heap.objs.size + 1 := Heap.size_push ..
  show _ ∧ _
  rw [sz]
  have he := Heap.get?_push_size (s.heap.push { cls := .type "tuple_iterator", data := .fields #[.ref l, .int 0 0] }) (o := { cls := .type "enumerate", data := .fields #[.none, .bool false, .ref s.heap.objs.size, rawInt 0, .none, .none] }) rfl
  rw [sz] at he
  exact ⟨⟨_, he, rfl⟩, h _ he ⟨_, Heap.get?_push_of_some _ (Heap.get?_push_size _ rfl), rfl, rfl⟩ fun b o x => Heap.get?_push_of_some _ (Heap.get?_push_of_some _ x)⟩
end
end ZT
namespace L2.My
open PySem PySem.Spec PyProof.Rows
open HQ (Ev evD)
/-- enumerate(t), t a tuple: each item in a new pair -/
def Itet (K : PySem.W.Frag) (a : Addr) : It :=
  ⟨fun i H => ∃ (xs : List V) (x : V), SqT K H a xs ∧ xs[i]? = some x, fun i H v H' => ∃ T x, v = .ref T ∧ H T = none ∧ H' = upd H T (.tup [.int (i : Nat), x]) ∧ ∀ xs, SqT K H a xs → xs[i]? = some x, fun i H => ∃ xs : List V, SqT K H a xs ∧ xs.length ≤ i⟩
theorem turn_enumT {P : Program} {w : World} {K : PySem.W.Frag} {elts : List Expr} {kk : Nat} {tpos : Pos} (a e it : Addr) :
    Turn P w K (.Tuple elts kk tpos) (Itet K a) [e, it] e (fun i h => (∃ old, IsEnum h e it ((i : Nat) : Int) old) ∧ h.IsTupleIter it a i ∧ e ≠ it) where
  mem := List.mem_cons_self
  obj := fun i h ⟨⟨old, he⟩, ⟨o, ho, hc, hd⟩, _⟩ b hb => by
    rcases List.mem_cons.mp hb with z | z
    · subst z
      exact ⟨_, he, fun v q => nomatch q⟩
    · rw [List.mem_singleton.mp z]
      exact ⟨o, ho, fun v q => by rw [hd] at q; cases q⟩
  keep := fun i h h' ⟨⟨old, he⟩, hi, hne⟩ k => ⟨⟨old, k e List.mem_cons_self _ he⟩, hi.at fun o q => k it (List.mem_cons_of_mem _ List.mem_cons_self) o q, hne⟩
  item := by
    intro X eP ew eK hc i pins s σ H E I hf ⟨⟨old, he⟩, hit, hne⟩ ⟨xs, x, hq, hx⟩
    subst eP ew eK
    obtain ⟨its, rv, p, hz⟩ := I.tuple hq
    obtain ⟨u, hu, ru⟩ := rv.get hx
    have el : e < s.heap.objs.size := Heap.lt_size he
    have il : it < s.heap.objs.size := by obtain ⟨_, q, _⟩ := hit; exact Heap.lt_size q
    have pt : s.heap.IsTuple a its.toArray := p
    have ni : a ≠ it := fun z => by
      obtain ⟨o1, q1, c1, _⟩ := pt
      obtain ⟨o2, q2, c2, _⟩ := hit
      rw [z, q2] at q1
      cases q1
      rw [c1] at c2
      exact absurd c2 (by decide)
    have ne : a ≠ e := fun z => by
      obtain ⟨o1, q1, c1, _⟩ := pt
      rw [z, he] at q1
      cases q1
      have c1 : Value.type "enumerate" = Value.type "tuple" := c1
      exact absurd c1 (by decide)
    have D := PySem.Draws.tuple (prog := X.prog) (w := X.w) (A := X.A.in1) (I.ok.hd hc) it a ni its.toArray
    have lt : i < its.toArray.size := by
      have := (List.getElem?_eq_some_iff.mp hu).1
      rw [List.size_toArray]
      exact this
    refine PySem.wpAny_pyNext_enum_itemD D he ⟨hit, pt⟩ lt hne (by simp [hne, Ne.symm ne]) fun x' h' tk px ho st' hT hsz hk => ?_
    have ex : x' = u := by
      rw [List.getElem?_toArray, hu] at px
      exact (Option.some.inj px).symm
    subst ex
    refine ⟨_, rfl, wpAny_letOwnedTupleGo_enum (s := { s with heap := h', toks := tk + 1 }) ho fun h'' he' sb => ?_⟩
    have hT2 : h''.get? s.heap.objs.size = some { cls := .type "tuple", data := .seq #[.int i tk, x'] } := (sb.2 _ (Nat.ne_of_gt el)).trans hT
    have new : ObjOk X.prog X.w (upd H s.heap.objs.size (.tup [.int (i : Nat), x])) h'' s.heap.objs.size (.tup [.int (i : Nat), x]) :=
      ⟨by show 2 ≤ sizeLine; decide, [.int i tk, x'], .cons ⟨_, rfl⟩ (.cons ru .nil), ⟨_, hT2, rfl, _, rfl⟩⟩
    have I1 : Inv X pins σ (upd H s.heap.objs.size (.tup [.int (i : Nat), x])) { s with heap := h'', toks := tk + 1 } :=
      I.turnedNew (t' := tk + 1) (ch := [e, it]) (fun b o hb q => (sb.2 b (fun z => hb (by simp [z]))).trans (hk b o (fun z => hb (by simp [z])) (fun z => hb (by simp [z])) q)) hf (Nat.le_refl _) new
    refine ⟨.ref s.heap.objs.size, _, I1, rfl, ⟨_, x, rfl, I.hok.fresh (Nat.le_refl _), rfl, fun ys hy => by rw [I.tuple_inj hy hq]; exact hx⟩, ⟨⟨x', ?_⟩, st'.1.at fun o q => (sb.2 it (Ne.symm hne)).trans q, hne⟩, fun b hb => ?_⟩
    · rw [show ((i + 1 : Nat) : Int) = (i : Int) + 1 by omega]
      exact he'
    · have lb : b < s.heap.objs.size := by
        rcases List.mem_cons.mp hb with z | z
        · rw [z]; exact el
        · rw [List.mem_singleton.mp z]; exact il
      rw [upd_ne (Nat.ne_of_lt lb)]
      exact (hf b hb).1
  done := by
    intro X eP ew eK hc i pins s σ H E I hf ⟨⟨old, he⟩, hit, hne⟩ ⟨xs, hq, hx⟩
    subst eP ew eK
    obtain ⟨its, rv, p, hz⟩ := I.tuple hq
    obtain ⟨f0, f1, f2, f3, f4, f5⟩ := hf it (List.mem_cons_of_mem _ List.mem_cons_self)
    have pt : s.heap.IsTuple a its.toArray := p
    have ni : a ≠ it := fun z => by
      obtain ⟨o1, q1, c1, _⟩ := pt
      obtain ⟨o2, q2, c2, _⟩ := hit
      rw [z, q2] at q1
      cases q1
      rw [c1] at c2
      exact absurd c2 (by decide)
    have hl := rv.length
    have D : PySem.Draws X.prog X.w X.A.in1 it [it, a] i (fun _ _ => True) (fun j h => j = i ∧ h.IsTupleIter it a j ∧ h.IsTuple a its.toArray) := {
      live := fun _ _ st => let ⟨o, ho, _⟩ := st.2.1; ⟨o, ho⟩
      frame := fun _ _ _ st hk => ⟨st.1, st.2.1.at fun o e => hk it (by simp) o e, st.2.2.at fun o e => hk a (by simp) o e⟩
      item := fun j s Q E hj st => absurd hj (by rw [st.1]; exact Nat.lt_irrefl _)
      done := fun s Q E st hE => PySem.wpAny_nextOf_tuple_end (I.ok.hd hc) st.2.1 st.2.2 (by rw [List.getElem?_toArray, List.getElem?_eq_none]; omega) hE }
    exact PySem.wpAny_pyNext_enum_endD D he ⟨rfl, hit, pt⟩ fun h' eb => ⟨rfl, I.turned (t' := s.toks) (fun b o hb q => eb b o hb q) f0 f1 f3 f4 f5⟩
  self := fun A i s Q E ⟨⟨_, he⟩, _⟩ h => wpAny_pyIter_enum he h
end L2.My

namespace L2.My
open PySem PySem.Spec PyProof.Rows
open HQ (Ev evD)
def iEnumT (K : PySem.W.Frag) (ta : TA) : TI := fun σ H R => ta σ H fun vs H1 => ∃ a xs, vs = [.ref a] ∧ H1 a = some (.tup xs) ∧ R (Itet K a) H1
theorem pi_enumT {X : Cx} {e : Expr} {ta : TA} {p pos tpos : Pos} {elts : List Expr} {kk : Nat} (hg : Gl X "enumerate") (hm : X.mg "enumerate" = none) (ha : PA X [e] ta) (hs : starEach [e] X.env = [(false, eval e X.env)] := by rfl) :
    PI X (.Tuple elts kk tpos) (.Call (.Name "enumerate" p) [e] [] pos) (iEnumT X.K ta) := by
  refine ⟨fun pins s σ H R I h => Call_ (ld_blt I hg hm boot_enumerate (PyProof.Rows.callWith_type1 (thn (ha.run pos pins s σ H _ I h) fun us s1 ⟨vs, H1, I1, r1, a, xs, ex, hq, q⟩ => ?_) hs rfl))⟩
  subst ex
  obtain ⟨u, rfl, ru⟩ := r1.one
  obtain rfl : u = Value.ref a := ru
  obtain ⟨its, rv, pt, hz⟩ := I1.tuple (.inl (.inl hq))
  refine ZT.call_enumT pt fun h' he hit hk => wpAny_pyIter_enum he ?_
  refine ⟨s1.heap.objs.size + 1, [s1.heap.objs.size + 1, s1.heap.objs.size], _, _, H1, rfl, I1.kept (t' := s1.toks) hk, turn_enumT a (s1.heap.objs.size + 1) s1.heap.objs.size, ⟨⟨.none, he⟩, hit, Nat.succ_ne_self _⟩, fun b hb => ?_, q⟩
  have le : s1.heap.objs.size ≤ b := by
    rcases List.mem_cons.mp hb with z | z
    · rw [z]; exact Nat.le_succ _
    · rw [List.mem_singleton.mp z]; exact Nat.le_refl _
  exact I1.fpOk le (I1.hok.fresh le)
/-- for i, x in enumerate(t) -/
theorem for_enumT {K : PySem.W.Frag} {a : Addr} {xs : List V} {g : TG} {tb : TS} {D : Ends} {σ : St} {H : Hp} (Pv : Nat → St → Hp → Prop) (h0 : Pv 0 σ H) (hq : ∀ i σ H, Pv i σ H → H a = some (.tup xs))
    (hs : ∀ (i : Nat) (x : V) (T : Addr) (σ : St) (H : Hp), xs[i]? = some x → Pv i σ H → H T = none → g (.ref T) σ (upd H T (.tup [.int (i : Nat), x])) fun σ2 H2 => tb { D with nx := Pv (i + 1), ct := Pv (i + 1), bk := D.nx } σ2 H2) (hd : ∀ σ H, Pv xs.length σ H → D.nx σ H) :
    ∃ W : Nat → Nat → St → Hp → Prop, (∃ m, W 0 m σ H) ∧ ∀ i m σ H, W i m σ H →
      ((Itet K a).stop i H ∧ D.nx σ H) ∨ ((Itet K a).go i H ∧ ∃ N : St → Hp → Prop, (∀ σ' H', N σ' H' → ∃ m', m' < m ∧ W (i + 1) m' σ' H') ∧ ∀ v H', (Itet K a).yld i H v H' → g v σ H' fun σ2 H2 => tb { D with nx := N, ct := N, bk := D.nx } σ2 H2) := by
  refine ⟨fun i m σ H => m = xs.length - i ∧ i ≤ xs.length ∧ Pv i σ H, ⟨xs.length, rfl, Nat.zero_le _, h0⟩, ?_⟩
  rintro i m σ H ⟨rfl, hi, pv⟩
  have hx := hq i σ H pv
  have hx' : SqT K H a xs := .inl (.inl hx)
  by_cases lt : i < xs.length
  · refine .inr ⟨⟨xs, _, hx', List.getElem?_eq_getElem lt⟩, Pv (i + 1), fun σ' H' p' => ⟨xs.length - (i + 1), by omega, rfl, lt, p'⟩, fun v H' ⟨T, x', e1, hT, e2, f1⟩ => ?_⟩
    subst e1 e2
    exact hs i x' T σ H (f1 xs hx') pv hT
  · obtain rfl : i = xs.length := by omega
    exact .inl ⟨⟨xs, hx', Nat.le_refl _⟩, hd σ H pv⟩
theorem idx_lt {b n m : Nat} (h1 : n < b) (h2 : b < n + 1 + m) : b - n - 1 < m := by omega
theorem idx_far {n j m : Nat} (h : j < m) : n + 1 + j ≠ n ∧ n < n + 1 + j ∧ n + 1 + j < n + 1 + m ∧ n + 1 + j - n - 1 = j := by omega
/-- list(zip(a, b)), a and b tuples of one length -/
def tListZip (ta : TA) : TE := fun σ H Q => ta σ H fun vs H1 => ∃ (a b : Addr) (xs ys : List V), vs = [.ref a, .ref b] ∧ H1 a = some (.tup xs) ∧ H1 b = some (.tup ys) ∧ xs.length = ys.length ∧ xs.length ≤ 1000 ∧
  ∀ (l : Addr) (ps : List Addr) (H' : Hp), Same H1 H' → H1 l = none → H' l = some (.lst (ps.map V.ref)) → ps.length = xs.length → (∀ (j : Nat) (p : Addr) (x y : V), ps[j]? = some p → xs[j]? = some x → ys[j]? = some y → H' p = some (.tup [x, y])) → Q (.ref l) H'
theorem vals_num : ∀ (n k : Nat), Vals ((List.range' k n).map fun (j : Nat) => V.ref j) ((List.range' k n).map fun (j : Nat) => Value.ref j)
  | 0, _ => .nil
  | n + 1, k => by
    rw [List.range'_succ, List.map_cons, List.map_cons]
    exact .cons rfl (vals_num n (k + 1))
theorem refs_num {acc : Array Value} {n k : Nat} (sz : acc.size = n) (h : ∀ (j : Nat) (v : Value), acc[j]? = some v → v = Value.ref (k + j)) : acc.toList = (List.range' k n).map fun (j : Nat) => Value.ref j := by
  refine List.ext_getElem? fun j => ?_
  rw [Array.getElem?_toList, List.getElem?_map]
  by_cases c : j < n
  · have hj : acc[j]? = some acc[j] := Array.getElem?_eq_getElem (by omega)
    have hr : (List.range' k n)[j]? = some (k + j) := by
      rw [List.getElem?_eq_getElem (by rw [List.length_range']; exact c), List.getElem_range']
      simp
    rw [hr, hj, h j _ hj]
    rfl
  · rw [Array.getElem?_eq_none (by omega), List.getElem?_eq_none (by rw [List.length_range']; omega)]
    rfl
section
variable {X : Cx}
theorem pe_listZip {e e2 : Expr} {ta : TA} {p p2 q pos : Pos} (hc : X.calm = true) (hg : Gl X "list") (hm : X.mg "list" = none) (hg2 : Gl X "zip") (hm2 : X.mg "zip" = none) (ha : PA X [e, e2] ta)
    (hs : starEach [e, e2] X.env = (false, eval e X.env) :: starEach [e2] X.env := by rfl) (hpl : (backTo q (starEach [e2] X.env)).any (·.1) = false := by rfl) :
    PE X (.Call (.Name "list" p) [.Call (.Name "zip" p2) [e, e2] [] q] [] pos) (tListZip ta) := by
  refine ⟨fun pins s σ H Q I h => Call_ (ld_blt I hg hm boot_list (PyProof.Rows.callWith_type1 (PyProof.Rows.args_cons ?_ rfl) rfl rfl))⟩
  refine Call_ (ld_blt I hg2 hm2 PyProof.Rows.boot_zip (PyProof.Rows.callWith_type1 (thn (ha.run q pins s σ H _ I h) fun us s1 ⟨vs, H1, I1, r1, a, b, xs, ys, ex, hqx, hqy, el, few, k⟩ => ?_) hs hpl))
  subst ex
  cases r1 with
  | cons r rr =>
    obtain ⟨u2, rfl, r2⟩ := Vals.one rr
    cases r
    cases r2
    obtain ⟨its, rv, pt1, _⟩ := I1.tuple (.inl (.inl hqx))
    obtain ⟨its2, rv2, pt2, _⟩ := I1.tuple (.inl (.inl hqy))
    have l1 := rv.length
    have l2 := rv2.length
    obtain ⟨o1, ho1, _⟩ := id pt1
    obtain ⟨o2, ho2, _⟩ := id pt2
    refine RZ.call_zipT (show s1.heap.IsTuple a its.toArray from pt1) (show s1.heap.IsTuple b its2.toArray from pt2) fun h' hz hTI hTO h1 h2 hsz hk => PyProof.Rows.args_nil ?_
    have hn : xs.length ≤ sizeLine := by rw [sizeLine_eq]; omega
    refine ZT.call_list_zip (s := { s1 with heap := h' }) (n := xs.length) (xs := its.toArray) (ys := its2.toArray) (PySem.W.ktu_apart s1.heap.objs.size a b (Heap.lt_size ho1) (Heap.lt_size ho2)) (I1.ok.hd hc) (by rw [List.size_toArray]; omega) (by rw [List.size_toArray]; omega) hn hz hTI ⟨_, _, hTO⟩ h1 h2
      (by obtain ⟨o, e0, r0⟩ := pt1; exact ⟨o, hk _ _ e0, r0⟩) (by obtain ⟨o, e0, r0⟩ := pt2; exact ⟨o, hk _ _ e0, r0⟩) fun h'' acc c k2 hL sz hacc hpr => ?_
    have N : ∃ n : Nat, n = s1.heap.objs.size + 5 := ⟨_, rfl⟩
    obtain ⟨n, en⟩ := N
    have hsz : (Shared.heap { s1 with heap := h' }).objs.size = n := by rw [en]; exact hsz
    rw [hsz] at hL hacc hpr ⊢
    have ln : s1.heap.objs.size < n := by rw [en]; exact Nat.lt_add_of_pos_right (by decide)
    have old : ∀ b o, s1.heap.get? b = some o → h''.get? b = some o := fun b o e => by
      have lb := Heap.lt_size e
      exact k2 b o (Nat.ne_of_lt (Nat.lt_of_lt_of_le lb (Nat.le_add_right _ _))) (Nat.ne_of_lt (Nat.lt_of_lt_of_le lb (Nat.le_add_right _ _))) (Nat.ne_of_lt lb) (Nat.ne_of_lt (Nat.lt_of_lt_of_le lb (Nat.le_add_right _ _))) (hk b o e)
    let HN : Hp := fun b => if b = n then some (.lst ((List.range' (n + 1) xs.length).map fun (j : Nat) => V.ref j)) else if n < b ∧ b < n + 1 + xs.length then some (.tup [(xs[b - n - 1]?).getD .non, (ys[b - n - 1]?).getD .non]) else H1 b
    have fr : ∀ {b : Addr} {u : HO}, H1 b = some u → b < s1.heap.objs.size := fun {b u} e => (I1.hok b u e).lt
    have lo : ∀ {b : Addr}, b < s1.heap.objs.size → HN b = H1 b := fun {b} l => by
      have l' : (b : Nat) < n := Nat.lt_trans l ln
      show (if b = n then _ else if n < b ∧ b < n + 1 + xs.length then _ else H1 b) = H1 b
      rw [if_neg (Nat.ne_of_lt l'), if_neg fun z => Nat.lt_asymm l' z.1]
    have same : Same H1 HN := fun b u e => by rw [lo (fr e)]; exact e
    have hl : HN n = some (.lst ((List.range' (n + 1) xs.length).map fun (j : Nat) => V.ref j)) := if_pos rfl
    have I2 : Inv X pins σ HN { s1 with heap := h'' } := by
      refine I1.un (t' := s1.toks) ⟨fun b o e _ _ _ => old b o e, fun b o e _ _ _ => ⟨o.slots, old b o e⟩, fun b o e nn _ => by rw [lo (Heap.lt_size e)]; exact nn, fun b o e _ => ⟨o, old b o e⟩, fun b u e => same b _ e, fun b o u e => same b _ e, fun b ps e => ⟨#[], by rw [same b _ e]; simp⟩⟩ fun b o e => ?_
      by_cases c1 : b = n
      · subst c1
        rw [hl] at e
        cases e
        refine ⟨by rw [List.length_map, List.length_range']; exact hn, acc.toList, c, ?_, by rw [Array.toArray_toList]; exact hL⟩
        rw [refs_num sz hacc]
        exact vals_num _ _
      · by_cases c2 : n < b ∧ b < n + 1 + xs.length
        · have e' : HN b = some (.tup [(xs[b - n - 1]?).getD .non, (ys[b - n - 1]?).getD .non]) := by
            show (if b = n then _ else if n < b ∧ b < n + 1 + xs.length then _ else H1 b) = _
            rw [if_neg c1, if_pos c2]
          rw [e'] at e
          cases e
          obtain ⟨c2a, c2b⟩ := c2
          have cb : n + 1 + (b - n - 1) = b := by have : n < (b : Nat) := c2a; show n + 1 + ((b : Nat) - n - 1) = b; omega
          have lj : (b : Nat) - n - 1 < xs.length := idx_lt c2a c2b
          generalize (b : Nat) - n - 1 = j at cb lj ⊢
          subst cb
          have hx : xs[j]? = some xs[j] := List.getElem?_eq_getElem lj
          have hy : ys[j]? = some (ys[j]'(by rw [← el]; exact lj)) := List.getElem?_eq_getElem _
          obtain ⟨v1, hv1, w1⟩ := rv.get hx
          obtain ⟨v2, hv2, w2⟩ := rv2.get hy
          rw [hx, hy]
          exact ⟨by show 2 ≤ sizeLine; decide, [v1, v2], .cons w1 (.cons w2 .nil), ⟨_, hpr j v1 v2 lj (by rw [List.getElem?_toArray]; exact hv1) (by rw [List.getElem?_toArray]; exact hv2), rfl, _, rfl⟩⟩
        · have e' : HN b = H1 b := by
            show (if b = n then _ else if n < b ∧ b < n + 1 + xs.length then _ else H1 b) = _
            rw [if_neg c1, if_neg c2]
          rw [e'] at e
          exact (I1.hok b o e).stay (fun c u _ r => old c u r) (fun c r => same c _ r) fun c us r => same c _ r
    refine ⟨.ref n, HN, I2, rfl, k n (List.range' (n + 1) xs.length) HN same (I1.hok.fresh (Nat.le_of_lt ln)) hl List.length_range' fun j pp x y hj hx hy => ?_⟩
    have lj : j < xs.length := (List.getElem?_eq_some_iff.mp hx).1
    rw [List.getElem?_eq_getElem (by rw [List.length_range']; exact lj), List.getElem_range'] at hj
    have hj := Option.some.inj hj
    simp at hj
    subst hj
    show (if n + 1 + j = n then _ else if n < n + 1 + j ∧ n + 1 + j < n + 1 + xs.length then _ else H1 _) = _
    obtain ⟨q1, q2, q3, q4⟩ := idx_far (n := n) lj
    rw [if_neg q1, if_pos ⟨q2, q3⟩, q4, hx, hy]
    rfl
end
end L2.My

namespace L2.My
open PySem PySem.Spec PyProof.Rows
open HQ (Ev evD)
/-! ### tuples known to be without a dict -/
mutual
inductive Fp (H : Hp) : V → PyData → Prop
  | non : Fp H .non .none
  | bl (b : Bool) : Fp H (.bl b) (.bool b)
  | int (i : Int) : Fp H (.int i) (.int i)
  | str (x : Str) : Fp H (.str x) (.str x)
  | tup {a : Addr} {o : Obj} {xs : List V} {ds : List PyData} : H a = some (.frz o (.tup xs)) → o.dict = none → FpAll H xs ds → Fp H (.ref a) (.tuple ds)
inductive FpAll (H : Hp) : List V → List PyData → Prop
  | nil : FpAll H [] []
  | cons {v : V} {vs : List V} {d : PyData} {ds : List PyData} : Fp H v d → FpAll H vs ds → FpAll H (v :: vs) (d :: ds)
end
def FK (H H' : Hp) : Prop := ∀ a o u, H a = some (.frz o u) → H' a = some (.frz o u)
theorem FK.same {H H' : Hp} (h : Same H H') : FK H H' := fun a o u e => h a _ e
theorem fk_upd {H : Hp} {p : Addr} {xs : List V} (h : H p = some (.lst xs)) (o : HO) : FK H (upd H p o) := fun a q u e => by
  rw [upd_ne (ne_of e h (by intro z; cases z))]
  exact e
mutual
theorem Fp.keep {H H' : Hp} (k : FK H H') : ∀ {v : V} {d : PyData}, Fp H v d → Fp H' v d
  | _, _, .non => .non
  | _, _, .bl b => .bl b
  | _, _, .int i => .int i
  | _, _, .str x => .str x
  | _, _, .tup h n t => .tup (k _ _ _ h) n (FpAll.keep k t)
theorem FpAll.keep {H H' : Hp} (k : FK H H') : ∀ {vs : List V} {ds : List PyData}, FpAll H vs ds → FpAll H' vs ds
  | _, _, .nil => .nil
  | _, _, .cons h t => .cons (Fp.keep k h) (FpAll.keep k t)
end
mutual
theorem Fp.dp {K : PySem.W.Frag} {H : Hp} : ∀ {v : V} {d : PyData}, Fp H v d → Dp K H v d
  | _, _, .non => .non
  | _, _, .bl b => .bl b
  | _, _, .int i => .int i
  | _, _, .str x => .str x
  | _, _, .tup h _ t => .tup (.inl (.inr ⟨_, h⟩)) (FpAll.dp t)
theorem FpAll.dp {K : PySem.W.Frag} {H : Hp} : ∀ {vs : List V} {ds : List PyData}, FpAll H vs ds → DpAll K H vs ds
  | _, _, .nil => .nil
  | _, _, .cons h t => .cons (Fp.dp h) (FpAll.dp t)
end
theorem FpAll.length {H : Hp} : ∀ {vs : List V} {ds : List PyData}, FpAll H vs ds → vs.length = ds.length
  | _, _, .nil => rfl
  | _, _, .cons _ t => by rw [List.length_cons, List.length_cons, FpAll.length t]
theorem fpAll_of {H : Hp} {f : PyData → PyData} : ∀ {ys : List V} {ds : List PyData}, ys.length = ds.length → (∀ (j : Nat) (y : V), ys[j]? = some y → ∃ d, ds[j]? = some d ∧ Fp H y (f d)) → FpAll H ys (ds.map f)
  | [], [], _, _ => .nil
  | y :: ys, d :: ds, hl, h => by
    obtain ⟨d', e, t⟩ := h 0 y rfl
    obtain rfl : d = d' := Option.some.inj e
    exact .cons t (fpAll_of (Nat.succ.inj hl) fun j y hy => h (j + 1) y hy)
  | [], _ :: _, hl, _ => by cases hl
  | _ :: _, [], hl, _ => by cases hl
theorem atom_fp {H H' : Hp} {v : V} {d : PyData} (h : Rp H v d) (hs : isSeq d = false) : Fp H' v (tupD d) := by
  cases h <;> first
    | exact .non
    | exact .bl _
    | exact .int _
    | exact .str _
    | cases hs
section
variable {X : Cx}
/-- tuple(a list): new, without a dict -/
def rTupF (K : PySem.W.Frag) : List V → Hp → VK → Prop := fun xs H Q => ∃ p ys, xs = [.ref p] ∧ SqL K H p ys ∧ ∀ (l : Addr) (o : Obj), H l = none → o.dict = none → Q (.ref l) (upd H l (.frz o (.tup ys)))
theorem tupF : CallR X (.type "tuple") (rTupF X.K) := fun pins s σ H xs us Q I r ⟨p, ys, e, hq, q⟩ => by
  subst e
  rw [Vals.ref1 r]
  obtain ⟨its, rv, pl, hz⟩ := I.list hq
  have ln := rv.length
  refine call_tuple_list pl.isList (fun h' kp => ?_) (by rw [List.size_toArray]; omega)
  have I1 : Inv X pins σ H { s with heap := h' } := I.kept (t' := s.toks) kp
  have new : ObjOk X.prog X.w (upd H h'.objs.size (.frz { cls := .type "tuple", data := .seq its.toArray } (.tup ys))) (h'.push { cls := .type "tuple", data := .seq its.toArray }) h'.objs.size (.frz { cls := .type "tuple", data := .seq its.toArray } (.tup ys)) :=
    ⟨Heap.get?_push_size _ rfl, hz, its, rv, IsTup.new _ _⟩
  exact ⟨.ref h'.objs.size, _, I1.laid (t' := s.toks) (fun b o e => Heap.get?_push_of_some _ e) (Nat.le_refl _) new, rfl, q _ _ (I1.hok.fresh (Nat.le_refl _)) rfl⟩
def rInTD (K : PySem.W.Frag) : R2 := fun x y H Q => ∃ d ds, Dp K H x d ∧ Dp K H y (.tuple ds) ∧ SeqAt.shaped d = true ∧ SeqAt.shaped (.tuple ds) = true ∧ Q (.bl (ds.any fun z => PyData.eqv z d)) H
theorem inTD (hu : X.A.units + 65 < cLine) : OpR X (compareOp .In) (rInTD X.K) := fun pins s σ H x y v u Q I rx ry ⟨d, ds, h1, h2, h3, h4, q⟩ => by
  obtain ⟨as, r1⟩ := Dp.reads I d x v h1 rx
  obtain ⟨bs, r2⟩ := Dp.reads I (.tuple ds) y u h2 ry
  exact SeqAt.in_tuple_reads r2 r1 (SeqAt.canLay_of_shaped h4) (SeqAt.canLay_of_shaped h3) (room_in_shaped h3 hu) ⟨.bl _, H, I, rfl, q⟩
def rIdxTD (K : PySem.W.Frag) : V → List V → Hp → VK → Prop := fun x vs H Q => ∃ (a : Addr) (y : V) (d : PyData) (xs : List V) (ds : List PyData) (j : Nat) (z : PyData), x = V.ref a ∧ vs = [y] ∧ SqT K H a xs ∧ DpAll K H xs ds ∧ Dp K H y d ∧
  SeqAt.shaped (.tuple ds) = true ∧ SeqAt.shaped d = true ∧ ds[j]? = some z ∧ PyData.eqv z d = true ∧ (∀ (m : Nat) (z' : PyData), m < j → ds[m]? = some z' → PyData.eqv z' d = false) ∧ Q (.int (j : Nat)) H
theorem mt_idxTD (hu : X.A.units + 65 < cLine) : MtR X "tuple.index" (rIdxTD X.K) := by
  intro pins s σ H x vs v us Q I rx rxs ⟨a, y, d, xs, ds, j, z, e1, e2, ha, hs, hy, sl, sd, hz, hzj, hno, q⟩
  subst e1
  subst e2
  cases rx
  obtain ⟨uy, rfl, ry⟩ := rxs.one
  obtain ⟨bs, rd⟩ := Dp.reads I d y uy hy ry
  have lay : PyData.canLayAll0 ds = true := SeqAt.canLay_of_shaped sl
  have room : X.A.units + 1 + min (PyData.depthAll ds) d.depth < cLine := room_in_shaped sd hu
  obtain ⟨its, rv, ⟨⟨cls, dd, data, sls⟩, ho, hc, n, hdt⟩, hlen⟩ := I.tuple ha
  simp only at hc hdt
  subst hc hdt
  obtain ⟨as, r4⟩ := Dp.readsAll I ds xs its hs rv
  have ln : its.length = ds.length := SeqAt.ReadsAll.length ds its as r4
  have mp : its.map (SeqAt.readOf s.heap) = ds := SeqAt.readsAll_map ds its as lay r4
  have jd : j < ds.length := (List.getElem?_eq_some_iff.mp hz).1
  have jl : j < its.toArray.size := by rw [List.size_toArray]; omega
  have at_ : ∀ (m : Nat) (hm : m < its.toArray.size) (z' : PyData), ds[m]? = some z' → SeqAt.readOf s.heap its.toArray[m] = z' := fun m hm z' hz' => by
    have hml : m < its.length := by simpa using hm
    rw [← mp, List.getElem?_map, List.getElem?_eq_getElem hml] at hz'
    simpa using Option.some.inj hz'
  refine call_meets PySem.F.slot_tuple_index ⟨_, ho, rfl⟩ PySem.F.entry_tuple_index (PySem.F.args_tuple_index_2 _ _) (TI.tuple_indexAt a its.toArray n dd sls uy (fun u => PyData.eqv (SeqAt.readOf s.heap u) d) j jl ?_ ?_)
    ⟨ho, SeqAt.items_eqAt (vs := its.toArray) (show ReadsAll s.heap its.toArray.toList ds as from r4) rd lay (SeqAt.canLay_of_shaped sd) room, ⟨.int (j : Nat), H, I.tok _, ⟨_, rfl⟩, q⟩⟩
  · show PyData.eqv (SeqAt.readOf s.heap its.toArray[j]) d = true
    rw [at_ j jl z hz]
    exact hzj
  · intro m hm hmj
    have hz' : ds[m]? = some ds[m] := List.getElem?_eq_getElem (by omega)
    show PyData.eqv (SeqAt.readOf s.heap its.toArray[m]) d = false
    rw [at_ m hm _ hz']
    exact hno m _ hmj hz'
/-- t.m(e, ..), t a tuple without a dict -/
def tBMT (r : V → List V → Hp → VK → Prop) (to : TE) (t : TA) : TE := fun σ H Q => to σ H fun x H1 => (∃ (p : Addr) (o : Obj) (xs : List V), x = .ref p ∧ H1 p = some (.frz o (.tup xs)) ∧ o.dict = none) ∧ t σ H1 fun vs H2 => r x vs H2 Q
theorem pe_bmT {o e : Expr} {es : List Expr} {to : TE} {t : TA} {name : Str} {apos cpos : Pos} {id : String} {r : V → List V → Hp → VK → Prop} (pa : PlainAttrs "tuple") (slot : Slot "tuple" name id) (hty : typeOf (.builtin id) = pure (.type "method_descriptor")) (hm : MtR X id r) (ho : PE X o to) (ha : PA X (e :: es) t)
    (hb : attributeBase o name X.env (eval o X.env) = eval o X.env := by rfl)
    (hf : ((backTo cpos (starEach (e :: es) X.env)).all (fun x => !x.1) && (backToKw cpos (keywordEach [] X.env)).all (fun x => x.1.isSome) && decide ((e :: es).length + ([] : List Keyword).length + (if ([] : List Keyword).isEmpty then 0 else 1) < 30)) = true := by rfl)
    (hl : (apos.endLine == cpos.line) = true := by rfl) (hs : starEach (e :: es) X.env = (false, eval e X.env) :: starEach es X.env := by rfl) (hp : (backTo cpos (starEach es X.env)).any (·.1) = false := by rfl) :
    PE X (.Call (.Attribute o name apos) (e :: es) [] cpos) (tBMT r to t) := by
  refine ⟨fun pins s σ H Q I h => wpAny_Call_method_late hb hf hl rfl (thn (ho.run pins s σ H _ I h) fun v s1 ⟨x, H1, I1, r1, ⟨p, ob, xs, ex, hp1, nd⟩, q1⟩ => ?_)⟩
  subst ex
  obtain rfl : v = Value.ref p := r1
  have ok : s1.heap.get? p = some ob ∧ ObjOk X.prog X.w H1 s1.heap p (.tup xs) := I1.hok p _ hp1
  obtain ⟨ho1, _, its, _, o2, ho2, hc2, _⟩ := ok
  rw [ho1] at ho2
  obtain rfl := Option.some.inj ho2
  refine ⟨"tuple", id, pa, slot, hty, ⟨ob, ho1, hc2⟩, fun a e2 => by cases e2; exact ⟨ob, ho1, nd⟩, ?_⟩
  have hA := ha.run cpos pins s1 σ H1 _ I1 q1
  rw [hs] at hA ⊢
  refine Calls.callWith_builtin (by show (false || (backTo cpos (starEach es X.env)).any (·.1)) = false; rw [hp] <;> rfl) (Calls.evalArgs_plain (thn hA fun us s2 ⟨vs, H2, I2, r2, q2⟩ => hm pins s2 σ H2 (.ref p) vs _ us Q I2 rfl r2 q2))
end
def iEnumTK (K : PySem.W.Frag) (ta : TA) : TI := fun σ H R => ta σ H fun vs H1 => ∃ a xs, vs = [.ref a] ∧ SqT K H1 a xs ∧ R (Itet K a) H1
theorem pi_enumTK {X : Cx} {e : Expr} {ta : TA} {p pos tpos : Pos} {elts : List Expr} {kk : Nat} (hg : Gl X "enumerate") (hm : X.mg "enumerate" = none) (ha : PA X [e] ta) (hs : starEach [e] X.env = [(false, eval e X.env)] := by rfl) :
    PI X (.Tuple elts kk tpos) (.Call (.Name "enumerate" p) [e] [] pos) (iEnumTK X.K ta) := by
  refine ⟨fun pins s σ H R I h => Call_ (ld_blt I hg hm boot_enumerate (PyProof.Rows.callWith_type1 (thn (ha.run pos pins s σ H _ I h) fun us s1 ⟨vs, H1, I1, r1, a, xs, ex, hq, q⟩ => ?_) hs rfl))⟩
  subst ex
  obtain ⟨u, rfl, ru⟩ := r1.one
  obtain rfl : u = Value.ref a := ru
  obtain ⟨its, rv, pt, hz⟩ := I1.tuple hq
  refine ZT.call_enumT pt fun h' he hit hk => wpAny_pyIter_enum he ?_
  refine ⟨s1.heap.objs.size + 1, [s1.heap.objs.size + 1, s1.heap.objs.size], _, _, H1, rfl, I1.kept (t' := s1.toks) hk, turn_enumT a (s1.heap.objs.size + 1) s1.heap.objs.size, ⟨⟨.none, he⟩, hit, Nat.succ_ne_self _⟩, fun b hb => ?_, q⟩
  have le : s1.heap.objs.size ≤ b := by
    rcases List.mem_cons.mp hb with z | z
    · rw [z]; exact Nat.le_succ _
    · rw [List.mem_singleton.mp z]; exact Nat.le_refl _
  exact I1.fpOk le (I1.hok.fresh le)
theorem for_enumTK {K : PySem.W.Frag} {a : Addr} {xs : List V} {g : TG} {tb : TS} {D : Ends} {σ : St} {H : Hp} (Pv : Nat → St → Hp → Prop) (h0 : Pv 0 σ H) (hq : ∀ i σ H, Pv i σ H → SqT K H a xs)
    (hs : ∀ (i : Nat) (x : V) (T : Addr) (σ : St) (H : Hp), xs[i]? = some x → Pv i σ H → H T = none → g (.ref T) σ (upd H T (.tup [.int (i : Nat), x])) fun σ2 H2 => tb { D with nx := Pv (i + 1), ct := Pv (i + 1), bk := D.nx } σ2 H2) (hd : ∀ σ H, Pv xs.length σ H → D.nx σ H) :
    ∃ W : Nat → Nat → St → Hp → Prop, (∃ m, W 0 m σ H) ∧ ∀ i m σ H, W i m σ H →
      ((Itet K a).stop i H ∧ D.nx σ H) ∨ ((Itet K a).go i H ∧ ∃ N : St → Hp → Prop, (∀ σ' H', N σ' H' → ∃ m', m' < m ∧ W (i + 1) m' σ' H') ∧ ∀ v H', (Itet K a).yld i H v H' → g v σ H' fun σ2 H2 => tb { D with nx := N, ct := N, bk := D.nx } σ2 H2) := by
  refine ⟨fun i m σ H => m = xs.length - i ∧ i ≤ xs.length ∧ Pv i σ H, ⟨xs.length, rfl, Nat.zero_le _, h0⟩, ?_⟩
  rintro i m σ H ⟨rfl, hi, pv⟩
  have hx' := hq i σ H pv
  by_cases lt : i < xs.length
  · refine .inr ⟨⟨xs, _, hx', List.getElem?_eq_getElem lt⟩, Pv (i + 1), fun σ' H' p' => ⟨xs.length - (i + 1), by omega, rfl, lt, p'⟩, fun v H' ⟨T, x', e1, hT, e2, f1⟩ => ?_⟩
    subst e1 e2
    exact hs i x' T σ H (f1 xs hx') pv hT
  · obtain rfl : i = xs.length := by omega
    exact .inl ⟨⟨xs, hx', Nat.le_refl _⟩, hd σ H pv⟩
/-- rows of events, tuples without a dict -/
abbrev RowF := (Addr × Obj) × List V × List Ev
theorem rowsF_of {H : Hp} : ∀ {xs : List V} {rows : List (List Ev)}, FpAll H xs (rows.map fun r => .tuple (r.map evD)) → ∃ rws : List RowF, xs = rws.map (fun r => V.ref r.1.1) ∧ (∀ r ∈ rws, H r.1.1 = some (.frz r.1.2 (.tup r.2.1)) ∧ r.1.2.dict = none ∧ FpAll H r.2.1 (r.2.2.map evD)) ∧ rws.map (fun r => r.2.2) = rows
  | _, [], .nil => ⟨[], rfl, (fun _ h => nomatch h), rfl⟩
  | _, r :: rows, .cons h t => by
    cases h with
    | @tup a o xs _ ha n tr =>
      obtain ⟨rws, rfl, h3, h4⟩ := rowsF_of t
      exact ⟨((a, o), xs, r) :: rws, rfl, fun x hx => (List.mem_cons.mp hx).elim (fun q => q ▸ ⟨ha, n, tr⟩) (h3 x), by rw [List.map_cons, h4]⟩
end L2.My

namespace L2.My
open PySem PySem.Spec PyProof.Rows
open HQ (Ev evD)
/-! ### (number, event) -/
def niD (p : Int × Ev) : PyData := .tuple [.int p.1, evD p.2]
theorem niD_alike (a b : Int × Ev) : PySem.W.alike (niD a) (niD b) = true := by simp [niD, evD, PySem.W.alike, PySem.W.alikeAll]
theorem nis_alike (l : List (Int × Ev)) : PySem.W.AllAlike (l.map niD) := fun d hd d' hd' => by
  obtain ⟨x, _, rfl⟩ := List.mem_map.mp hd
  obtain ⟨y, _, rfl⟩ := List.mem_map.mp hd'
  exact niD_alike x y
theorem nis_sortable (l : List (Int × Ev)) : PySem.W.Sortable (l.map niD) := .inl fun d hd => by
  obtain ⟨x, _, rfl⟩ := List.mem_map.mp hd
  exact ⟨_, _, rfl⟩
theorem niD_depth (p : Int × Ev) : (niD p).depth ≤ 20 := by simp [niD, evD, PyData.depth, PyData.depthAll]
/-! ### what is ahead, further -/
theorem ah_trans {L : Lg} {x y e : Ev} (h1 : Ah L x y) (h2 : Ah L y e) : Ah L x e := by
  induction h2 with
  | one h => exact .more h1 h
  | more _ hb ih => exact .more ih hb
theorem ah_asym {L : Lg} (g : Good L) {x y : Ev} (hx : x ∈ evs L) (h1 : Ah L x y) (h2 : Ah L y x) : False := ah_irr g hx (ah_trans h1 h2)
/-- up to e: e or ahead of it -/
def Up (L : Lg) (x e : Ev) : Prop := x = e ∨ Ah L x e
theorem up_trans {L : Lg} {x y e : Ev} (h1 : Up L x y) (h2 : Up L y e) : Up L x e := by
  rcases h1 with rfl | h1
  · exact h2
  · rcases h2 with rfl | h2
    · exact .inr h1
    · exact .inr (ah_trans h1 h2)
/-! ### rows -/
structure RowsOk (L : Lg) (rows : List (List Ev)) : Prop where
  ch : ∀ r ∈ rows, r.Pairwise (Ah L)
  nd : rows.flatten.Nodup
  mem : ∀ e ∈ rows.flatten, e ∈ mkd L
theorem flat_set {α : Type} {e : α} : ∀ {rows : List (List α)} {k : Nat} {r : List α}, rows[k]? = some r → (rows.set k (r ++ [e])).flatten.Perm (e :: rows.flatten)
  | [], k, r, h => by simp at h
  | a :: rows, 0, r, h => by
    obtain rfl : a = r := Option.some.inj h
    simp only [List.set_cons_zero, List.flatten_cons, List.append_assoc]
    exact (List.perm_middle (l₁ := a) (l₂ := rows.flatten) (a := e))
  | a :: rows, k + 1, r, h => by
    have ih := flat_set (e := e) (rows := rows) (k := k) (r := r) h
    simp only [List.set_cons_succ, List.flatten_cons]
    exact (ih.append_left a).trans List.perm_middle
theorem RowsOk.more {L : Lg} {rows : List (List Ev)} (h : RowsOk L rows) {k : Nat} {r : List Ev} {e : Ev} (hr : rows[k]? = some r) (he : e ∈ mkd L) (ne : e ∉ rows.flatten) (up : ∀ x ∈ r, Ah L x e) : RowsOk L (rows.set k (r ++ [e])) := by
  have pm := flat_set (e := e) hr
  refine ⟨fun q hq => ?_, (pm.nodup_iff).mpr (List.nodup_cons.mpr ⟨ne, h.nd⟩), fun x hx => ?_⟩
  · rcases List.mem_or_eq_of_mem_set hq with z | z
    · exact h.ch q z
    · rw [z]
      refine List.pairwise_append.mpr ⟨h.ch r (List.mem_of_getElem? hr), List.pairwise_singleton _ _, fun x hx y hy => ?_⟩
      rw [List.mem_singleton.mp hy]
      exact up x hx
  · rcases List.mem_cons.mp (pm.mem_iff.mp hx) with z | z
    · rw [z]; exact he
    · exact h.mem x z
/-- of a chain, whose last one is ahead of e, each is -/
theorem chain_last {L : Lg} {r : List Ev} (h : r.Pairwise (Ah L)) {y e : Ev} (hl : r.getLast? = some y) (hy : Ah L y e) : ∀ x ∈ r, Ah L x e := by
  intro x hx
  obtain ⟨l, rfl⟩ : ∃ l, r = l ++ [y] := by
    rcases List.eq_nil_or_concat r with rfl | ⟨l, z, rfl⟩
    · simp at hl
    · rw [List.concat_eq_append] at hl ⊢
      rw [List.getLast?_append] at hl
      simp at hl
      exact ⟨l, by rw [hl]⟩
  rcases List.mem_append.mp hx with z | z
  · exact ah_trans ((List.pairwise_append.mp h).2.2 x z y List.mem_cons_self) hy
  · rw [List.mem_singleton.mp z]
    exact hy
/-- the tracked rows -/
structure RowsL (H : Hp) (p : Addr) (rws : List RowZ) : Prop where
  hp : H p = some (.lst (rws.map fun r => V.ref r.1))
  hr : ∀ r ∈ rws, H r.1 = some (.tup (r.2.map fun z => V.ref z.1))
  he : ∀ r ∈ rws, ∀ z ∈ r.2, EvR H z
theorem RowsL.same {H H' : Hp} {p : Addr} {rws : List RowZ} (h : RowsL H p rws) (k : Same H H') : RowsL H' p rws := ⟨k _ _ h.hp, fun r hr => k _ _ (h.hr r hr), fun r hr z hz => (h.he r hr z hz).keep (.same k)⟩
theorem RowsL.tk {H H' : Hp} {p : Addr} {rws : List RowZ} (h : RowsL H p rws) (hp : H' p = H p) (k : TK H H') : RowsL H' p rws := ⟨hp.trans h.hp, fun r hr => k _ _ (h.hr r hr), fun r hr z hz => (h.he r hr z hz).keep k⟩
abbrev rwsEv (rws : List RowZ) : List (List Ev) := rws.map fun r => r.2.map (·.2)
theorem row_at {rws : List RowZ} {k : Nat} {r : RowZ} (h : rws[k]? = some r) : (rwsEv rws)[k]? = some (r.2.map (·.2)) := by
  unfold rwsEv
  rw [List.getElem?_map, h]
  rfl
theorem atI_last {xs : List V} {y : V} : atI (xs ++ [y]) (-1) = some y := by
  unfold atI ixN
  rw [if_neg (by decide), List.length_append, List.length_singleton, if_pos (by omega)]
  simp only [Option.bind_some]
  rw [show ((-1 : Int) + ((xs.length + 1 : Nat) : Int)).toNat = xs.length by omega]
  simp
theorem rws_set {rws : List RowZ} {k : Nat} {r : RowZ} {pa : Addr} {z : Addr × Ev} : rwsEv (rws.set k (pa, r.2 ++ [z])) = (rwsEv rws).set k (r.2.map (·.2) ++ [z.2]) := by
  unfold rwsEv
  rw [List.map_set]
  simp
theorem eqv_nilT (ds : List PyData) : PyData.eqv (.tuple ds) (.tuple []) = ds.isEmpty := by cases ds <;> simp [PyData.eqv, PyData.eqvAll]
theorem eqv_nilL (ds : List PyData) : PyData.eqv (.list ds) (.list []) = ds.isEmpty := by cases ds <;> simp [PyData.eqv, PyData.eqvAll]
/-- a row that e may join -/
def joins (rws : List RowZ) (fe : List Ev) : V → Bool
  | .int j => match rws[j.toNat]? with
    | some r => match r.2.getLast? with
      | some y => decide (y.2 ∈ fe)
      | none => true
    | none => false
  | _ => false
theorem ints_shaped (ns : List Int) : SeqAt.shaped (.list (ns.map PyData.int)) = true := by
  have h1 : ∀ ns : List Int, PyData.canLayAll0 (ns.map PyData.int) = true := fun ns => by induction ns with
    | nil => rfl
    | cons a l ih => simp [PyData.canLayAll0, PyData.canLay0, ih]
  have h2 : ∀ ns : List Int, PyData.depthAll (ns.map PyData.int) = 0 := fun ns => by induction ns with
    | nil => rfl
    | cons a l ih => simp [PyData.depthAll, PyData.depth, ih]
  simp [SeqAt.shaped, PyData.canLay0, PyData.depth, h1, h2]
theorem ints_rp {H : Hp} : ∀ (ns : List Int), RpAll H (ns.map V.int) (ns.map PyData.int)
  | [] => .nil
  | n :: ns => .cons (.int n) (ints_rp ns)
end L2.My

namespace L2.My
open PySem PySem.Spec PyProof.Rows
open HQ (Ev evD)
/-! ### what is counted along a chain -/
section
variable {L : Lg}
theorem filt_mono {α : Type} {p q : α → Bool} : ∀ {l : List α}, (∀ x ∈ l, p x = true → q x = true) → (l.filter p).length ≤ (l.filter q).length
  | [], _ => Nat.le_refl _
  | a :: l, h => by
    have ih := filt_mono (l := l) fun x hx => h x (List.mem_cons_of_mem _ hx)
    rw [List.filter_cons, List.filter_cons]
    cases e : p a with
    | true =>
      rw [h a List.mem_cons_self e]
      simp only [if_true, List.length_cons]
      omega
    | false =>
      cases q a with
      | true => simp only [Bool.false_eq_true, if_false, if_true, List.length_cons]; omega
      | false => simp only [Bool.false_eq_true, if_false]; exact ih
theorem cnt_ge {row : List Ev} (ch : row.Pairwise (Ah L)) {fs : List Ev} {e : Ev} (hf : ∀ y, y ∈ fs ↔ Ah L y e) {i : Nat} {x : Ev} (hx : row[i]? = some x) : i + 1 ≤ cntIn fs e row ↔ Up L x e := by
  have up : ∀ y, (decide (y = e) || decide (y ∈ fs)) = true ↔ Up L y e := fun y => by
    rw [Bool.or_eq_true, decide_eq_true_eq, decide_eq_true_eq, hf]
    rfl
  have lt := (List.getElem?_eq_some_iff.mp hx).1
  have sp : row = row.take i ++ x :: row.drop (i + 1) := by
    rw [List.getElem?_eq_getElem lt] at hx
    rw [← Option.some.inj hx, ← List.drop_eq_getElem_cons lt, List.take_append_drop]
  have l1 : (row.take i).length = i := by rw [List.length_take]; omega
  generalize row.take i = a at sp l1
  generalize row.drop (i + 1) = b at sp
  subst sp
  obtain ⟨_, c2, c3⟩ := List.pairwise_append.mp ch
  obtain ⟨c4, _⟩ := List.pairwise_cons.mp c2
  unfold cntIn
  rw [List.filter_append, List.length_append, List.filter_cons]
  by_cases u : Up L x e
  · rw [if_pos ((up x).mpr u), List.length_cons]
    have : (a.filter fun y => decide (y = e) || decide (y ∈ fs)) = a := List.filter_eq_self.mpr fun y hy => (up y).mpr (up_trans (.inr (c3 y hy x List.mem_cons_self)) u)
    rw [this, l1]
    exact ⟨fun _ => u, fun _ => by omega⟩
  · rw [if_neg fun z => u ((up x).mp z)]
    have : (b.filter fun y => decide (y = e) || decide (y ∈ fs)) = [] := List.filter_eq_nil_iff.mpr fun y hy z => u (up_trans (.inr (c4 y hy)) ((up y).mp z))
    rw [this, List.length_nil]
    have := List.length_filter_le (fun y => decide (y = e) || decide (y ∈ fs)) a
    exact ⟨fun h => by omega, fun h => absurd h u⟩
theorem cnt_mono {row : List Ev} {fa fb : List Ev} {a b : Ev} (ha : ∀ y, y ∈ fa ↔ Ah L y a) (hb : ∀ y, y ∈ fb ↔ Ah L y b) (h : Ah L a b) : cntIn fa a row ≤ cntIn fb b row := by
  refine filt_mono fun x _ hx => ?_
  rw [Bool.or_eq_true, decide_eq_true_eq, decide_eq_true_eq] at hx ⊢
  rcases hx with rfl | hx
  · exact .inr ((hb x).mpr h)
  · exact .inr ((hb x).mpr (ah_trans ((ha x).mp hx) h))
theorem idx_at {row : List Ev} {x : Ev} (h : x ∈ row) : row[row.idxOf x]? = some x := by
  have lt := List.idxOf_lt_length_iff.mpr h
  rw [List.getElem?_eq_getElem lt, List.getElem_idxOf]
theorem cnt_lt (g : Good L) {row : List Ev} (ch : row.Pairwise (Ah L)) {fa fb : List Ev} {a b : Ev} (ha : ∀ y, y ∈ fa ↔ Ah L y a) (hb : ∀ y, y ∈ fb ↔ Ah L y b) (h : Ah L a b) (ib : b ∈ row) (ia : a ∈ evs L) : cntIn fa a row < cntIn fb b row := by
  have h1 := (cnt_ge ch hb (idx_at ib)).mpr (.inl rfl)
  have h2 : ¬ row.idxOf b + 1 ≤ cntIn fa a row := fun z => by
    rcases (cnt_ge ch ha (idx_at ib)).mp z with e | e
    · rw [e] at h
      exact ah_irr g ia h
    · exact ah_asym g ia h e
  omega
theorem cnt_le_len (fs : List Ev) (e : Ev) (row : List Ev) : cntIn fs e row ≤ row.length := List.length_filter_le _ _
theorem cnt_cg {fs gs : List Ev} (h : ∀ y, y ∈ fs ↔ y ∈ gs) (e : Ev) (row : List Ev) : cntIn fs e row = cntIn gs e row := by
  unfold cntIn
  congr 1
  refine List.filter_congr fun y _ => ?_
  rw [decide_eq_decide.mpr (h y)]
/-- counted events have stamps of their own -/
theorem stamp_inj (g : Good L) {rows : List (List Ev)} (ok : RowsOk L rows) {f : Ev → List Ev} (hf : ∀ e ∈ evs L, ∀ y, y ∈ f e ↔ Ah L y e) {a b : Ev} (ia : a ∈ rows.flatten) (ib : b ∈ rows.flatten) (h : rows.map (cntIn (f a) a) = rows.map (cntIn (f b) b)) : a = b := by
  have one : ∀ {a b : Ev}, a ∈ rows.flatten → b ∈ rows.flatten → rows.map (cntIn (f a) a) = rows.map (cntIn (f b) b) → Up L a b := fun {a b} ia ib h => by
    obtain ⟨r, hr, ar⟩ := List.mem_flatten.mp ia
    obtain ⟨j, hj⟩ := List.getElem?_of_mem hr
    have e := congrArg (fun l => l[j]?) h
    simp only [List.getElem?_map, hj, Option.map_some, Option.some.injEq] at e
    have ch := ok.ch r hr
    have h1 := (cnt_ge ch (hf a (mkd_sub g (ok.mem a ia))) (idx_at ar)).mpr (.inl rfl)
    rw [e] at h1
    exact (cnt_ge ch (hf b (mkd_sub g (ok.mem b ib))) (idx_at ar)).mp h1
  rcases one ia ib h with e | e
  · exact e
  · rcases one ib ia h.symm with k | k
    · exact k.symm
    · exact (ah_asym g (mkd_sub g (ok.mem a ia)) e k).elim
end
/-! ### rows as data -/
theorem rows_rp {H : Hp} {c : Addr} {rws : List RowZ} (h : RowsTup H c rws) : Rp H (.ref c) (encR (rwsEv rws)) := by
  have : RpAll H (rws.map fun r => V.ref r.1) ((rwsEv rws).map fun r => PyData.tuple (r.map evD)) := by
    have go : ∀ l : List RowZ, (∀ r ∈ l, r ∈ rws) → RpAll H (l.map fun r => V.ref r.1) ((rwsEv l).map fun r => PyData.tuple (r.map evD)) := by
      intro l
      induction l with
      | nil => exact fun _ => .nil
      | cons r l ih =>
        intro hl
        have hr := hl r List.mem_cons_self
        refine .cons (.tup (h.hr r hr) ?_) (ih fun x hx => hl x (List.mem_cons_of_mem _ hx))
        show RpAll H _ ((r.2.map (·.2)).map evD)
        rw [List.map_map]
        exact evs_rp (h.he r hr)
    exact go rws fun _ h => h
  exact .tup h.hc this
theorem tup_encR (rows : List (List Ev)) : tupD (encR rows) = encR rows := by
  unfold encR
  simp only [tupD, tupDs_map, List.map_map]
  refine congrArg PyData.tuple (List.map_congr_left fun r _ => ?_)
  simp only [Function.comp_apply, tupD, tupDs_map, List.map_map]
  exact congrArg PyData.tuple (List.map_congr_left fun e _ => tup_ev e)
theorem slims_of : ∀ {ds : List PyData}, (∀ d ∈ ds, slim d = true) → slims ds = true
  | [], _ => rfl
  | d :: ds, h => by
    simp only [slims, Bool.and_eq_true]
    exact ⟨h d List.mem_cons_self, slims_of fun x hx => h x (List.mem_cons_of_mem _ hx)⟩
theorem slim_evD (e : Ev) : slim (evD e) = true := by simp [evD, slim, slims]
theorem slim_encR {rows : List (List Ev)} (h1 : rows.length ≤ 1000) (h2 : ∀ r ∈ rows, r.length ≤ 1000) : slim (encR rows) = true := by
  unfold encR
  simp only [slim, Bool.and_eq_true, decide_eq_true_eq, List.length_map]
  refine ⟨h1, slims_of fun d hd => ?_⟩
  obtain ⟨r, hr, rfl⟩ := List.mem_map.mp hd
  simp only [slim, Bool.and_eq_true, decide_eq_true_eq, List.length_map]
  refine ⟨h2 r hr, slims_of fun d hd => ?_⟩
  obtain ⟨e, _, rfl⟩ := List.mem_map.mp hd
  exact slim_evD e
theorem dall_le : ∀ {ds : List PyData} {n : Nat}, (∀ d ∈ ds, d.depth ≤ n) → PyData.depthAll ds ≤ n
  | [], _, _ => Nat.zero_le _
  | d :: ds, n, h => by
    have := dall_le (ds := ds) (n := n) fun x hx => h x (List.mem_cons_of_mem _ hx)
    have := h d List.mem_cons_self
    simp only [PyData.depthAll]
    omega
theorem depth_encR (rows : List (List Ev)) : (encR rows).depth < 6 := by
  unfold encR
  simp only [PyData.depth]
  have : PyData.depthAll (rows.map fun r => PyData.tuple (r.map evD)) ≤ 3 := dall_le fun d hd => by
    obtain ⟨r, _, rfl⟩ := List.mem_map.mp hd
    simp only [PyData.depth]
    have : PyData.depthAll (r.map evD) ≤ 1 := dall_le fun d hd => by
      obtain ⟨e, _, rfl⟩ := List.mem_map.mp hd
      rw [HQ.evD_depth]
      decide
    omega
  omega
theorem RowsOk.row_len {L : Lg} (g : Good L) {rows : List (List Ev)} (ok : RowsOk L rows) {r : List Ev} (h : r ∈ rows) : r.length ≤ 16 :=
  Nat.le_trans ((List.sublist_flatten_of_mem h).length_le) (Nat.le_trans (len_sub ok.nd fun e he => ok.mem e he) (mkd_len g))
theorem RowsOk.strs {L : Lg} (g : Good L) {rows : List (List Ev)} (ok : RowsOk L rows) {r : List Ev} (h : r ∈ rows) : ∀ y ∈ r, PyData.strOk y.1 = true := fun y hy => by
  obtain ⟨k, mk, hmm, _⟩ := mem_evs.mp (show (y.1, y.2) ∈ evs L from mkd_sub g (ok.mem y (List.mem_flatten.mpr ⟨r, h, hy⟩)))
  exact g.txt _ hmm
/-! ### [e for x, y in pairs], True of each -/
section
variable {K : PySem.W.Frag} {σ : St} {H : Hp} {vs : List Nat} {te : TE}
theorem lc_pairsT {a D : Addr} {i1 i2 : Nat} {ps : List Addr} {xs ys : List V} {Qd : Hp → Prop} (ha : H a = some (.lst (ps.map V.ref))) (nD : H D = none) (len : ps.length ≤ sizeLine)
    (hp : ∀ (j : Nat) (p : Addr), ps[j]? = some p → ∃ x y, xs[j]? = some x ∧ ys[j]? = some y ∧ H p = some (.tup [x, y])) (hw : ∀ x y : V, wipe (((wipe σ vs).set i1 (some x)).set i2 (some y)) vs = wipe σ vs)
    (turn : ∀ (j : Nat) (x y : V) H1 Q', xs[j]? = some x → ys[j]? = some y → Same H H1 → (∀ H2, Same H1 H2 → Q' (V.bl true) H2) → te (((wipe σ vs).set i1 (some x)).set i2 (some y)) H1 Q')
    (done : ∀ H', Same H H' → H' D = some (.lst (List.replicate ps.length (.bl true))) → Qd H') :
    ∃ W : Nat → Nat → Hp → Prop, (∃ m, W 0 m (upd H D (.lst []))) ∧ ∀ k m H', W k m H' → ((Itl K a).stop k H' ∧ Qd H') ∨ ((Itl K a).go k H' ∧ ∃ Nx : Hp → Prop, (∀ H', Nx H' → ∃ m', m' < m ∧ W (k + 1) m' H') ∧
      ∀ x H2, (Itl K a).yld k H' x H2 → gTup K 2 (gCons (gName i1) (gCons (gName i2) gNil)) x (wipe σ vs) H2 fun σ2 H2 => wipe σ2 vs = wipe σ vs ∧ tYes σ2 H2 fun b H3 => if b = true then te σ2 H3 fun y H4 => ∃ acc, H4 D = some (.lst acc) ∧ acc.length < sizeLine ∧ Nx (upd H4 D (.lst (acc ++ [y]))) else Nx H3) := by
  have same_of : ∀ {H1 : Hp}, (∀ b o, b ≠ D → H b = some o → H1 b = some o) → Same H H1 := fun k b o e => k b o (ne_of_none e nD) e
  refine ⟨fun k m H1 => k + m = ps.length ∧ (∀ b o, b ≠ D → H b = some o → H1 b = some o) ∧ H1 D = some (.lst (List.replicate k (.bl true))), ⟨ps.length, by omega, fun b o n e => by rw [upd_ne n]; exact e, upd_same⟩, ?_⟩
  rintro k m H1 ⟨km, old, hD⟩
  obtain ⟨go, stop, yld⟩ := wk_lst (K := K) ha H1 (same_of old)
  rw [List.length_map] at go stop yld
  by_cases hk : k < ps.length
  · refine .inr ⟨go k hk, fun H2 => (∀ b o, b ≠ D → H b = some o → H2 b = some o) ∧ H2 D = some (.lst (List.replicate (k + 1) (.bl true))), fun H2 h2 => ⟨m - 1, by omega, by omega, h2.1, h2.2⟩, fun v H2 hy => ?_⟩
    obtain ⟨rfl, hx⟩ := yld k v H2 hy
    have hx := hx hk
    rw [List.getElem?_map] at hx
    obtain ⟨p, hpk, rfl⟩ := Option.map_eq_some_iff.mp hx
    obtain ⟨x, y, h1, h2, h3⟩ := hp k p hpk
    refine ⟨p, [x, y], rfl, .inl (.inl (same_of old _ _ h3)), rfl, x, [y], rfl, y, [], rfl, rfl, hw x y, ?_⟩
    show te (((wipe σ vs).set i1 (some x)).set i2 (some y)) H2 _
    refine turn k x y H2 _ h1 h2 (same_of old) fun H4 s4 => ⟨_, s4 _ _ hD, by rw [List.length_replicate]; exact Nat.lt_of_lt_of_le hk len, fun b o n e => by rw [upd_ne n]; exact s4 _ _ (old b o n e), ?_⟩
    rw [upd_same, List.replicate_succ']
  · obtain rfl : k = ps.length := by omega
    exact .inl ⟨stop, done H1 (same_of old) hD⟩
end
theorem eqv_bool (a : Bool) : PyData.eqv (.bool a) (.bool a) = true := by cases a <;> simp [PyData.eqv]
/-- a list of True -/
theorem all_rep (n : Nat) : (List.replicate n true).all id = true := by rw [List.all_replicate]; cases n <;> rfl
end L2.My

namespace L2.My
open PySem PySem.Spec PyProof.Rows
open HQ (Ev evD)
/-! ### the last events of all machines -/
def endsOf (L : Lg) : List Ev := (L.ms.filter fun m => decide (0 < (m.2.1 : Int))).map fun m => (m.1, (m.2.1 : Int) - 1)
theorem up_machine {L : Lg} {n : Str} {i : Int} (i0 : 0 ≤ i) : ∀ d : Nat, (n, i + d) ∈ evs L → Up L (n, i) (n, i + d)
  | 0, _ => .inl (by simp)
  | d + 1, h => by
    obtain ⟨k, mk, hm, _, ik⟩ := mem_evs.mp h
    have hp : (n, i + (d : Int)) ∈ evs L := mem_evs.mpr ⟨k, mk, hm, by omega, by omega⟩
    refine up_trans (up_machine i0 d hp) (.inr (.one ?_))
    unfold befs prevs
    have e : (n, i + ((d + 1 : Nat) : Int)).2 - 1 = i + (d : Int) := by show i + ((d + 1 : Nat) : Int) - 1 = _; omega
    rw [e, if_pos hp]
    exact List.mem_append_left _ List.mem_cons_self
theorem ends_mem {L : Lg} {e : Ev} (h : e ∈ endsOf L) : e ∈ evs L := by
  unfold endsOf at h
  obtain ⟨m, hm, rfl⟩ := List.mem_map.mp h
  obtain ⟨h1, h2⟩ := List.mem_filter.mp hm
  have := of_decide_eq_true h2
  exact mem_evs.mpr ⟨m.2.1, m.2.2, h1, by omega, by omega⟩
theorem ends_up {L : Lg} {x : Ev} (h : x ∈ evs L) : ∃ e ∈ endsOf L, Up L x e := by
  obtain ⟨k, mk, hm, i0, ik⟩ := mem_evs.mp (show (x.1, x.2) ∈ evs L from h)
  refine ⟨(x.1, (k : Int) - 1), List.mem_map.mpr ⟨(x.1, k, mk), List.mem_filter.mpr ⟨hm, decide_eq_true (by show 0 < (k : Int); omega)⟩, rfl⟩, ?_⟩
  have e : (k : Int) - 1 = x.2 + (((k : Int) - 1 - x.2).toNat : Nat) := by omega
  rw [e]
  exact up_machine (n := x.1) i0 _ (by rw [← e]; exact mem_evs.mpr ⟨k, mk, hm, by omega, by omega⟩)
theorem ends_ne {L : Lg} (h : evs L ≠ []) : endsOf L ≠ [] := by
  cases e : evs L with
  | nil => exact absurd e h
  | cons x l =>
    obtain ⟨u, hu, _⟩ := ends_up (L := L) (x := x) (by rw [e]; exact List.mem_cons_self)
    intro z
    rw [z] at hu
    cases hu
theorem max_end {L : Lg} (hne : evs L ≠ []) {row : List Ev} (ch : row.Pairwise (Ah L)) (hin : ∀ x ∈ row, x ∈ evs L) {fs : Ev → List Ev} (hf : ∀ e ∈ evs L, ∀ y, y ∈ fs e ↔ Ah L y e) : ∃ e ∈ endsOf L, cntIn (fs e) e row = row.length := by
  rcases List.eq_nil_or_concat row with rfl | ⟨l, x, rfl⟩
  · cases e : endsOf L with
    | nil => exact absurd e (ends_ne hne)
    | cons u us => exact ⟨u, List.mem_cons_self, rfl⟩
  · rw [List.concat_eq_append] at ch hin ⊢
    obtain ⟨e, he, up⟩ := ends_up (hin x (by simp))
    refine ⟨e, he, ?_⟩
    unfold cntIn
    rw [List.filter_eq_self.mpr fun y hy => ?_]
    rw [Bool.or_eq_true, decide_eq_true_eq, decide_eq_true_eq, hf e (ends_mem he)]
    have : Up L y e := by
      rcases List.mem_append.mp hy with z | z
      · exact up_trans (.inr ((List.pairwise_append.mp ch).2.2 y z x List.mem_cons_self)) up
      · rw [List.mem_singleton.mp z]
        exact up
    exact this
theorem ends_len {L : Lg} (g : Good L) : (endsOf L).length ≤ 5 := by
  unfold endsOf
  rw [List.length_map]
  exact Nat.le_trans (List.length_filter_le _ _) g.few.2.2
/-! ### data that are the same -/
theorem eqv_int (a b : Int) : PyData.eqv (.int a) (.int b) = decide (a = b) := by
  simp [PyData.eqv]
  rfl
theorem eqv_intL : ∀ ns : List Int, PyData.eqvAll (ns.map PyData.int) (ns.map PyData.int) = true
  | [] => rfl
  | n :: ns => by simp [PyData.eqvAll, PyData.eqv, eqv_intL ns]
theorem eqv_ints (ns : List Int) : PyData.eqv (.list (ns.map PyData.int)) (.list (ns.map PyData.int)) = true := by
  simp [PyData.eqv, eqv_intL ns]
/-- a stamp as a key -/
def stK (ns : List Nat) : NestedKey := .tup (ns.map fun (n : Nat) => NestedKey.num (n : Int))
theorem stK_nks {H : Hp} : ∀ ns : List Nat, NKs H (ns.map fun (n : Nat) => V.int (n : Int)) (ns.map fun (n : Nat) => NestedKey.num (n : Int))
  | [] => .nil
  | n :: ns => .cons (.num _) (stK_nks ns)
theorem stK_dall : ∀ ns : List Nat, NestedKey.depthAll (ns.map fun (n : Nat) => NestedKey.num (n : Int)) = 0
  | [] => rfl
  | n :: ns => by simp [NestedKey.depthAll, NestedKey.depth, stK_dall ns]
theorem stK_depth (ns : List Nat) : (stK ns).depth ≤ 8 := by simp [stK, NestedKey.depth, stK_dall]
theorem stK_inj {a b : List Nat} (h : stK a = stK b) : a = b := by
  unfold stK at h
  injection h with h
  have : ∀ {a b : List Nat}, (a.map fun (n : Nat) => NestedKey.num (n : Int)) = (b.map fun (n : Nat) => NestedKey.num (n : Int)) → a = b := by
    intro a
    induction a with
    | nil => intro b h; cases b with | nil => rfl | cons _ _ => simp at h
    | cons x a ih =>
      intro b h
      cases b with
      | nil => simp at h
      | cons y b =>
        simp only [List.map_cons, List.cons.injEq, NestedKey.num.injEq] at h
        rw [ih h.2, Int.ofNat.inj h.1]
  exact this h
/-- two lists without repeats and with the same items are as long -/
theorem len_nd {α : Type} {l m : List α} (h1 : l.Nodup) (h2 : m.Nodup) (h : ∀ x, x ∈ l ↔ x ∈ m) : l.length = m.length := by
  classical
  exact Nat.le_antisymm (len_sub h1 fun x hx => (h x).mp hx) (len_sub h2 fun x hx => (h x).mpr hx)
/-! ### places in a text -/
def forBody (s : Stmt) (i : Nat) : Stmt := match s with
  | .For _ _ b _ _ => b.getD i (.Pass ⟨0, 0, 0, 0⟩)
  | x => x
def ifTest : Stmt → Expr
  | .If t _ _ _ => t
  | _ => .Constant .none 0 ⟨0, 0, 0, 0⟩
def cmpL : Expr → Expr
  | .Compare a _ _ _ => a
  | e => e
end L2.My

set_option maxHeartbeats 2000000
/-! an own exception class straight over a built-in one, with an __init__ that stores its one argument in a field f -/
namespace XB
open PySem PySem.W PySem.Calls PyProof.Rows PySem.HandSPX
section
open Builtin Builtin.ObjectAttr
variable {prog : Program} {w : World} {A : Around} {R : Result → Shared → Prop} {hp : Heap} {g : Array GenState} {d : Drawn} {t : Nat} {os : OsState} {B : String} {bmB : List Value}
/-- the first store lays the dict -/
theorem osaB {K : Frag} {name : Str} {tk : Tok} {v : Value} {x C : Addr} {fv : Array Value} {cd : ClassData} (SB : StoreFacts B bmB "object.__setattr__" "object") (X : K.In hp) (hx : hp.get? x = some { cls := .ref C, data := .fields fv })
    (hc : clsIn K C = some cd) (hm : cd.mro = .ref C :: bmB) (hd : cd.hasDict = true) (ha : findIn K (.ref C) name = some none)
    (hq : ∀ h' tk' dx, (∀ b o, b ≠ x → hp.get? b = some o → h'.get? b = some o) → hp.objs.size ≤ dx → dx ≠ x → h'.get? x = some { cls := .ref C, dict := some dx, data := .fields fv } → h'.Ns1 dx (fun y => if y = name then some v else none) → R (.ok (.ret .none)) ⟨h', g, d, tk', os⟩) :
    codeAny (model prog w) A (.call (.builtin "object.__setattr__") ⟨[.ref x, .str name tk, v], []⟩) R ⟨hp, g, d, t, os⟩ := by
  have IA : W.InstAt hp x { cls := .ref C, data := .fields fv } C none := ⟨hx, rfl, rfl, trivial⟩
  have SO := F.store_object
  have hob : cd.mro.contains (.type "object") = true := by rw [hm, List.contains_cons, SB.hasOwner, Bool.or_true]
  have hne : cd.mro.isEmpty = false := by rw [hm]; rfl
  have xs : x ≠ hp.objs.size := Nat.ne_of_lt (Heap.lt_size hx)
  have sub : W.Looks (model prog w) hp (isInstance (.ref x) (.type "object")) true := IA.type.andThen (W.looks_mroIn X (by unfold W.mroIn; rw [hc, Option.bind_some, if_neg (by rw [hne]; decide), hob]))
  refine codeAny_call_builtin SO.slot.plain SO.entry (@W.check_slot (model prog w) _ _ ⟨hp, g, d, t, os⟩ "object.__setattr__" "object" "__setattr__" (.ref x) [.str name tk, v] [] _ SO.kind SO.split sub (SO.args (.ref x) (.str name tk) v) ?_)
  have lm : W.Looks (model prog w) hp (mroOf (.ref C)) (.ref C :: bmB) := by rw [← hm]; exact (W.looks_clsIn X hc).andThen .now
  have lt : W.Looks (model prog w) hp (storeTaker? none) none := .now
  have lc : W.Looks (model prog w) hp (classData C) cd := W.looks_clsIn X hc
  rw [W.osa_eq, refuse_eq]
  refine wpAny_bind (wpAny_bind (IA.type.at (wpAny_bind (lm.at ?_))))
  rw [refuseLoop_ref, SB.passes]
  refine wpAny_pure (wpAny_bind (IA.type.at (wpAny_bind ((W.looks_findIn X ha).at (wpAny_bind (lt.at ?_))))))
  show wpAny (model prog w) _ (storeInOwnDict (.ref x) (.ref C) (.str name tk) name v false) _ _ _
  obtain ⟨nm, bs, mro, ns, qn, hdct, sn, sb, ab, col, del⟩ := cd
  dsimp only at hd
  subst hd
  unfold storeInOwnDict ownDictForStores
  repeat (first | with_reducible refine store_in_new ?_ ?_ | with_reducible refine wpAny_loadPart_at hx ?_ | with_reducible refine lc.at ?_ | wp_step)
  · exact ⟨_, #[], _, (Heap.get?_update_ne _ _ _ _ xs.symm).trans (Heap.get?_push_at rfl rfl), rfl, fun e he => absurd he (by simp), fun _ => rfl⟩
  · intro h' tk' hn hs
    have x1 : (hp.push { cls := .type "dict", data := .dict #[] }).get? x = some { cls := .ref C, data := .fields fv } := Heap.get?_push_of_some _ hx
    refine hq h' tk' hp.objs.size (fun b o hb ho => ?_) (Nat.le_refl _) xs.symm ?_ hn
    · exact (hs.2 b (Nat.ne_of_lt (Heap.lt_size ho))).trans ((Heap.get?_update_ne _ _ _ _ hb).trans (Heap.get?_push_of_some _ ho))
    · exact (hs.2 x xs).trans (Heap.get?_update_self _ x1 rfl)
end
/-! the text of NoEvent's own __init__ -/
def nA (p1 p2 : Pos) : Arguments := { posonlyargs := [], args := [{ arg := "self", annotation := none, pos := p1 }, { arg := "event", annotation := none, pos := p2 }], vararg := none, kwonlyargs := [], kw_defaults := [], kwarg := none, defaults := [] }
def nB (q1 q2 q3 q4 : Pos) : List Stmt := [.Assign [.Attribute (.Name "self" q1) "event" q2] (.Name "event" q3) q4]
def nS : Scope := { kind := .function, names := [(PySem.Str.ofString "self", .local), (PySem.Str.ofString "event", .local)], isGenerator := false, isCoroutine := false, more := [] }
abbrev leTail : List Value := [.type "LookupError", .type "Exception", .type "BaseException", .type "object"]
/-- what the written part says of NoEvent, at C, and of its __init__, at fI -/
structure NoEv (K : Frag) (mg : Str → Option Value) (C fI : Addr) : Prop where
  gC : mg "NoEvent" = some (.ref C)
  cls : ∃ nm q N bs sn sub ab col dd k0 k1 k2 k3 k5, K.lookup C = some (excClassObj nm q C N bs leTail true sn sub ab col dd k0 k1 k2 k3 k5 "LookupError.__new__")
  sa : findIn K (.ref C) "__setattr__" = some (some (.builtin "object.__setattr__"))
  ga : findIn K (.ref C) "__getattribute__" = some (some (.builtin "BaseException.__getattribute__"))
  gg : findIn K (.ref C) "__getattr__" = some none
  noN : findIn K (.ref C) "event" = some none
  iC : findIn K (.ref C) "__init__" = some (some (.ref fI))
  tC : typeIn K (.ref fI) = some (.type "function")
  kC : keepIn K (.ref C) = true
  exC : subIn K (.ref C) (.type "BaseException") = some true
  tyC : typeIn K (.ref C) = some (.type "type")
  hdC : hasDictIn K C = true
  fn : ∃ (oc : Value) (od : Option Addr) (doc pm : Value) (an : Option Addr) (cdv ct : Value) (osl : Array (Option Value)) (p1 p2 q1 q2 q3 q4 : Pos),
    K.lookup fI = some ⟨oc, od, .func (fnOf "__init__" "NoEvent.__init__" (nA p1 p2) (nB q1 q2 q3 q4) nS .none .none doc pm an cdv ct), osl⟩ ∧ codeIn K cdv "NoEvent.__init__" = true
theorem one_fits (v : Value) : [v].length ≤ sizeLine := by
  rw [sizeLine_eq]
  exact (by decide : 1 ≤ 16777216)
theorem ldN {M : Model} {s : Shared} {name : Str} {scope : Scope} {L a : Addr} {cd : Value} {m : Str → Option Value} {x : Str} {pos : Pos} {v : Value} {Q : Value → Shared → Prop} {A : Around} {E : Value → Shared → Prop} (hn : s.heap.Ns L m) (hv : m x = some v) (h : Q v s)
    (hk : scope.kind = .function := by rfl) (hl : (envOfC name scope L a cd).kindOf x = some .local := by rfl) (hd : (x == ("__debug__" : Str)) = false := by decide) :
    wpAny M A (eval (.Name x pos) (envOfC name scope L a cd)) Q E s := wpAny_Name (wpAny_loadName_local hk hl hn hv h) hd
/-- what __init__ leaves of the new exception at x -/
structure IniEnd (h h' : Heap) (x C dx t1 : Addr) (v : Value) : Prop where
  keep : ∀ b o, b ≠ x → h.get? b = some o → h'.get? b = some o
  obj : h'.get? x = some { cls := .ref C, dict := some dx, data := .fields #[.ref t1, .none, .none, .none, .bool false, .none] }
  dbig : h.objs.size ≤ dx
  dne : dx ≠ x
  ns : h'.Ns1 dx (fun y => if y = "event" then some v else none)
/-- a made NoEvent -/
structure NoEvMade (h h' : Heap) (e C d : Addr) (v : Value) : Prop where
  keep : ∀ b o, h.get? b = some o → h'.get? b = some o
  new : h.objs.size ≤ e
  obj : ∃ oe vs, h'.get? e = some oe ∧ oe.cls = .ref C ∧ oe.dict = some d ∧ oe.data = .fields vs ∧ vs[1]? = some .none
  dbig : h.objs.size ≤ d
  dne : d ≠ e
  ns : h'.Ns1 d (fun y => if y = "event" then some v else none)
section
variable {prog : Program} {w : World} {A : Around} {E : Value → Shared → Prop} {R : Result → Shared → Prop} {s : Shared} {K : Frag} {mg : Str → Option Value} {C fI : Addr}
theorem noev_init (T : NoEv K mg C fI) {x t0 : Addr} {v : Value} (X : K.In s.heap) (hlim : s.heap.NoLimit) (hx : s.heap.get? x = some (excO C t0)) (hnx : K.lookup x = none) (hroom : A.depth < recursionLimit)
    (hq : ∀ h' tk dx, IniEnd s.heap h' x C dx t0 v → R (.ok (.ret .none)) { s with heap := h', toks := tk }) :
    codeAny (model prog w) A (.call (.ref fI) ⟨[.ref x, v], []⟩) R s := by
  obtain ⟨oc, od, doc, pm, an, cdv, ct, osl, p1, p2, q1, q2, q3, q4, ho, hcd⟩ := T.fn
  obtain ⟨nm, q, N, bs, sn, sub, ab, col, dd, k0, k1, k2, k3, k5, hC⟩ := T.cls
  have hcl : clsIn K C = some { name := nm, bases := bs, mro := .ref C :: leTail, ns := N, qualname := q, hasDict := true, slotNames := sn, subclasses := sub, abstract := ab, collection := col, hasDel := false } := by unfold clsIn; rw [hC] <;> rfl
  refine Att.call_fn (binds := [("self", .ref x), ("event", v)]) X hlim ho hcd hroom (BindsTo.of_eq (by first | rfl | with_unfolding_all rfl)) (by first | rfl | decide | with_unfolding_all rfl) (fun s₁ IC => ?_) rfl rfl rfl
  obtain ⟨h₁, tk₁, rfl⟩ := IC.toInCall.same
  have k : ∀ b o, s.heap.get? b = some o → h₁.get? b = some o := IC.toInCall.keep
  have hn := IC.toInCall.ns
  have X₁ : K.In h₁ := X.keeps k
  have hx₁ := k _ _ hx
  show wpAny _ _ (execs _ _) _ _ _
  refine wpAny_execs_cons (plainObj_wpAny_Assign_Attribute ?_)
  refine ldN (v := v) hn (by first | rfl | with_unfolding_all rfl | kernel_rfl) (ldN (v := .ref x) hn (by first | rfl | with_unfolding_all rfl | kernel_rfl) ?_)
  refine set_plain X₁ (ox := excO C t0) (od := none) ⟨hx₁, rfl, rfl, trivial⟩ T.sa ?_
  refine osaB F.store_LookupError X₁ hx₁ hcl rfl rfl T.noN (fun h₃ tk₃ dx k₃ dn dne hx₃ hn₃ => ?_)
  show wpAny _ _ (execs _ _) _ _ _
  have z : s.heap.objs.size < h₁.objs.size := hn.lt
  exact wpAny_execs_nil (hq h₃ tk₃ dx ⟨fun b o hb e => k₃ b o hb (k b o e), hx₃, Nat.le_of_lt (Nat.lt_of_lt_of_le z dn), dne, hn₃⟩)
theorem noev_made (T : NoEv K mg C fI) {v : Value} (X : K.In s.heap) (hlim : s.heap.NoLimit) (hroom : A.depth + 1 < recursionLimit)
    (hq : ∀ h' tk e d, NoEvMade s.heap h' e C d v → R (.ok (.ret (.ref e))) { s with heap := h', toks := tk }) :
    codeAny (model prog w) A (.call (.ref C) ⟨[v], []⟩) R s := by
  obtain ⟨nm, q, N, bs, sn, sub, ab, col, dd, k0, k1, k2, k3, k5, hC⟩ := T.cls
  obtain ⟨hp, g, dr, tk, os⟩ := s
  have k : ∀ b o, hp.get? b = some o → ((hp.push (kdv_tup [v])).push (excO C hp.objs.size)).get? b = some o := fun b o e => Heap.get?_push_of_some _ (Heap.get?_push_of_some _ e)
  have hget : ((hp.push (kdv_tup [v])).push (excO C hp.objs.size)).get? (hp.objs.size + 1) = some (excO C hp.objs.size) := by heap_get
  have hnx : K.lookup (hp.objs.size + 1) = none := by
    cases e : K.lookup (hp.objs.size + 1) with
    | none => rfl
    | some o =>
      have z : hp.get? (hp.objs.size + 1) = some o := X _ _ e
      exact absurd (Nat.lt_of_succ_lt (Heap.lt_size z)) (Nat.lt_irrefl _)
  refine call_own F.excBase_LookupError (fun X => rfl) (X _ _ hC) (looks_findIn X T.iC) (fun self => bind_fn X self T.tC) (one_fits v) ?_
  refine noev_init (s := ⟨(hp.push (kdv_tup [v])).push (excO C hp.objs.size), g, dr, tk, os⟩) T (X.keeps k) (hlim.keeps k) hget hnx ?_ fun h' tk' dx ⟨k', hx, dn, dne, hns⟩ => ?_
  · show A.depth + 1 < recursionLimit
    exact hroom
  · have old : ∀ b o, hp.get? b = some o → h'.get? b = some o := fun b o e => k' b o (Nat.ne_of_lt (Nat.lt_succ_of_lt (Heap.lt_size e))) (k b o e)
    have z : hp.objs.size + 1 + 1 ≤ dx := by
      first
        | (simpa only [Heap.size_push] using dn)
        | exact dn
        | (have q := dn; rw [Heap.size_push, Heap.size_push] at q; exact q)
    exact ⟨rfl, hq h' tk' (hp.objs.size + 1) dx ⟨old, Nat.le_succ _, ⟨_, _, hx, rfl, rfl, rfl, rfl⟩, Nat.le_trans (Nat.le_trans (Nat.le_succ _) (Nat.le_succ _)) z, dne, hns⟩⟩
end
end XB
namespace L2
open PySem PySem.Spec PyProof.Rows
theorem relO_event {v : V} {v' : Value} (r : RelV v v') (f : Str) : RelO (List.lookup f [(("event" : Str), v)]) (if f = "event" then some v' else none) := by
  by_cases hw : f = "event"
  · subst hw
    rw [if_pos rfl]
    have q : List.lookup ("event" : Str) [(("event" : Str), v)] = some v := by simp [List.lookup]
    rw [q]
    exact r
  · rw [if_neg hw]
    have qw : (f == ("event" : Str)) = false := by simpa using hw
    have q2 : List.lookup f [(("event" : Str), v)] = none := by simp [List.lookup, qw]
    rw [q2]
    trivial
section
variable {X : Cx} {C fI : Addr}
/-- NoEvent(e) -/
def tMkNoEv (C : Addr) (ta : TA) : St → Hp → XK → Prop := fun σ H Q => ta σ H fun vs H1 => ∃ v, vs = [v] ∧ ∀ d, H1 d = none → Q (.ref C) (some d) (upd H1 d (.xd [(("event" : Str), v)]))
theorem pmk_noev {a : Expr} {ta : TA} {p pos : Pos} {k : Nat} (T : XB.NoEv X.K X.mg C fI) (hr : Room k X.A) (ha : PA X [a] ta) (hk : 1 ≤ k) (hg : Gl X "NoEvent" := by rfl)
    (he : starEach (a :: []) X.env = (false, eval a X.env) :: starEach [] X.env := by rfl) (hpl : (backTo pos (starEach [] X.env)).any (·.1) = false := by rfl) :
    PMk X (.Call (.Name "NoEvent" p) [a] [] pos) (tMkNoEv C ta) := by
  intro pins s σ H Q I h
  refine wpAny_Call_Name_kw (ld_glob I hg T.gC ?_)
  refine PySem.W.callWith_K (h₀ := X.base) I.ok.mod.kin T.kC (thn (ha.run pos pins s σ H _ I h) fun us s1 hh => ?_) he hpl
  obtain ⟨vs, H1, I1, r1, v, ev, q1⟩ := hh
  subst ev
  refine ⟨I1.kIn, ?_⟩
  cases r1 with
  | cons rv rn =>
    rename_i v' us'
    cases rn
    show wpAny _ _ (call (.ref C) [v']) _ _ _
    have hlim := I1.nolimit
    obtain ⟨hp, g, dr, tk, os⟩ := s1
    refine wpAny_call (XB.noev_made T I1.kIn hlim (by have := hr.dp; omega) fun h' tk' e d M => ?_)
    show MkP X pins σ Q (.ref e) ⟨h', g, dr, tk', os⟩
    obtain ⟨oe, fv, hoe, hc, hd, hdat, h1⟩ := M.obj
    have hns := M.ns
    obtain ⟨G', g1, g2⟩ := restrict h' fun b => decide (b ≠ e)
    have gk : ∀ b, b ≠ e → G'.get? b = h'.get? b := fun b hb => g1 b (decide_eq_true hb)
    have ge : G'.get? e = none := g2 e (by simp)
    have old : ∀ b o, hp.get? b = some o → G'.get? b = some o := fun b o q => (gk b (Nat.ne_of_lt (Nat.lt_of_lt_of_le (Heap.lt_size q) M.new))).trans (M.keep b o q)
    have ob : ObjOk X.prog X.w (upd H1 d (.xd [(("event" : Str), v)])) G' d (.xd [(("event" : Str), v)]) :=
      ⟨_, hns.at (fun o q => (gk d M.dne).trans q), fun f => relO_event rv f⟩
    have J : Inv X pins σ (upd H1 d (.xd [(("event" : Str), v)])) ⟨G', g, dr, tk', os⟩ := I1.laid (t' := tk') old M.dbig ob
    refine ⟨e, oe, fv, ⟨G', g, dr, tk', os⟩, _, .ref C, some d, rfl, J, fun b o q => ?_, ge, hoe, ⟨hc, hd⟩, hdat, h1, ?_, rfl, I1.bare, raises_own T.exC T.tyC, q1 d (I1.hok.fresh M.dbig)⟩
    · by_cases hb : b = e
      · have q' : G'.get? b = some o := q
        rw [hb, ge] at q'; cases q'
      · exact (gk b hb).symm.trans q
    · rw [upd_ne (Ne.symm M.dne)]
      exact I1.hok.fresh M.new
/-- raise NoEvent(e) -/
def tRaiseNoEv (C : Addr) (W : WX) (ta : TA) : TS := fun _ σ H => tMkNoEv C ta σ H fun cls d H' => W cls d σ H'
theorem ps_raiseNoEv {a : Expr} {ta : TA} {W : WX} {p pos pos2 : Pos} {k : Nat} (hc : X.calm = true) (T : XB.NoEv X.K X.mg C fI) (hr : Room k X.A) (hk : 1 ≤ k) (tk : Takes X W) (ha : PA X [a] ta) (hg : Gl X "NoEvent" := by rfl)
    (he : starEach (a :: []) X.env = (false, eval a X.env) :: starEach [] X.env := by rfl) (hpl : (backTo pos (starEach [] X.env)).any (·.1) = false := by rfl) :
    PS X (.Raise (some (.Call (.Name "NoEvent" p) [a] [] pos)) none pos2) (tRaiseNoEv C W ta) := ps_raise hc tk (pmk_noev T hr ha hk hg he hpl)
end
end L2

set_option maxHeartbeats 2000000
/-! try: .. except (A, B, C, D) as e: .. where the caught error lives on in another name: it is tracked behind the suite -/
namespace L2
open PySem PySem.Spec PyProof.Rows
/-- an own error that was caught: it stands at a, of the class at C, its own dict d -/
def ErrO (C : Addr) (d : Option Addr) (a : Addr) : HO := .ext fun h => ∃ (oe : Obj) (vs : Array Value), h.get? a = some oe ∧ Zc (.ref C) d oe ∧ oe.data = .fields vs
theorem errO_ok {P : Program} {w : World} {H : Hp} {h : Heap} {a C : Addr} {d : Option Addr} {oe : Obj} {vs : Array Value} (e : h.get? a = some oe) (z : Zc (.ref C) d oe) (f : oe.data = .fields vs) : ObjOk P w H h a (ErrO C d a) :=
  ⟨⟨oe, vs, e, z, f⟩, ⟨oe, e⟩, fun _ _ ⟨o, u, q, r⟩ k => ⟨o, u, k o q, r⟩⟩
theorem flying_on {B h h' : Heap} {l : List Env} {a : Addr} {Z : Obj → Prop} (x : HandSPX.FlyingZ B l a Z h) (k : ∀ b o, h.get? b = some o → h'.get? b = some o) : HandSPX.FlyingZ B l a Z h' := by
  obtain ⟨p, q, r, oe, vs, T, oT, ts, e1, e2, e3, e4, e5, e6, e7, e8, e9⟩ := x
  exact ⟨fun b o e => k b o (p b o e), q, r.of_keeps fun b o e _ => ⟨o, k b o e, rfl⟩, oe, vs, T, oT, ts, k _ _ e1, e2, e3, e4, e5, e6, k _ _ e7, e8, e9⟩
section
variable {X : Cx} {pins : List (Addr × Obj)} {σ : St} {H : Hp} {s : Shared}
/-- a record that stands there, new since the entry and not tracked, is tracked from here on -/
theorem Inv.taken (I : Inv X pins σ H s) {a : Addr} {oe : Obj} {vs : Array Value} {o : HO} (ha : s.heap.get? a = some oe) (hd : oe.data = .fields vs) (na : H a = none) (nL : a ≠ X.env.locals)
    (n0 : X.s_0.heap.get? a = none) (np : ∀ p ∈ X.pn ++ pins, p.1 ≠ a) (new : ObjOk X.prog X.w (upd H a o) s.heap a o) : Inv X pins σ (upd H a o) s := by
  refine ⟨I.ok, I.os, I.bare, ⟨I.base.keep, I.base.slot, fun b q e n hx => ?_, I.base.there, fun b xs e => ?_, fun b q u e => ?_, fun b ps e => ?_⟩, I.loc, I.cell, ?_, fun x c e => ?_, fun p hp => ?_, fun b u e => ?_, I.len⟩
  · rw [upd_ne (fun z => by rw [z, n0] at e; cases e)]
    exact I.base.free b q e n hx
  · rw [upd_ne (ne_of_none (I.base.tups b xs e) na)]
    exact I.base.tups b xs e
  · rw [upd_ne (ne_of_none (I.base.frzs b q u e) na)]
    exact I.base.frzs b q u e
  · obtain ⟨m, z⟩ := I.base.tbls b ps e
    exact ⟨m, by rw [upd_ne (ne_of_none z na)]; exact z⟩
  · rw [upd_ne (fun z => nL z.symm)]
    exact I.free
  · obtain ⟨v, o', ho, hc⟩ := I.cell x c e
    have nc : c ≠ a := fun z => by
      rw [z, ha] at ho
      cases ho
      rw [hd] at hc
      cases hc
    rw [upd_ne nc]
    exact I.freeC x c e
  · obtain ⟨z1, z2, z3⟩ := I.pin p hp
    exact ⟨z1, by rw [upd_ne (np p hp)]; exact z2, z3⟩
  · by_cases hb : b = a
    · subst hb
      rw [upd_same] at e
      cases e
      exact new
    · rw [upd_ne hb] at e
      exact (I.hok b u e).stay (fun _ _ _ q => q) (fun c q => by rw [upd_ne (ne_of_none q na)]; exact q) fun c xs q => by rw [upd_ne (ne_of_none q na)]; exact q
/-- an own class, by its name -/
def OwnN (X : Cx) (x : Str) (c : Addr) : Prop := Gl X x ∧ (x == ("__debug__" : Str)) = false ∧ X.mg x = some (.ref c)
/-- what the clause wishes of the body's error: it is one of the four; the suite runs with it in slot i, behind it the slot is empty and the error tracked -/
def wCaught (K : PySem.W.Frag) (c1 c2 c3 c4 : Addr) (i : Nat) (ts : Addr → Value → Option Addr → TS) (D : Ends) : WX := fun cls d σ H =>
  PySem.W.exmAny K cls [.ref c1, .ref c2, .ref c3, .ref c4] = some true ∧ ∃ C : Addr, cls = .ref C ∧ ∀ a, H a = none →
    ts a cls d { nx := fun σ' H' => D.nx (σ'.set i none) (upd H' a (ErrO C d a)), rt := fun _ _ => False, bk := fun _ _ => False, ct := fun _ _ => False } (σ.set i (some (.ref a))) H
section
variable {x1 x2 x3 x4 n : Str} {c1 c2 c3 c4 : Addr} {i k : Nat} {body suite : List Stmt} {b₀ : Stmt} {p1 p2 p3 p4 tp pos pos' : Pos} {tb : WX → TS} {ts : Addr → Value → Option Addr → TS}
/-- what becomes of an error that the body lets out -/
def caughtBy (X : Cx) (hd : ExceptHandler) (S : Flow → Shared → Prop) : Value → Shared → Prop := fun e t =>
  wpAny (model X.prog X.w) X.A (noteFrame e X.env) (fun _ t1 => wpAny (model X.prog X.w) X.A (setFlight e none) (fun _ t2 => wpAny (model X.prog X.w) X.A (handleBy e X.env [hd]) S X.xe t2) X.xe t1) X.xe t
theorem ps_try_four (hx : X.ex = []) (hs : X.stack = X.env :: X.outer) (hf : X.env.frame = some X.env.locals) (hN : X.N.Nodup) (hi : X.N[i]? = some n) (hln : X.env.kindOf n = some .local)
    (h1 : OwnN X x1 c1) (h2 : OwnN X x2 c2) (h3 : OwnN X x3 c3) (h4 : OwnN X x4 c4)
    (hb : ∀ (W : WX) (pn : List (Addr × Obj)) (xe : Value → Shared → Prop), Takes (X.tr pn xe) W → PassesOwn (model X.prog X.w) X.A X.env xe → PSs (X.tr pn xe) body (tb W))
    (hsu : ∀ (a : Addr) (oe : Obj) (cls : Value) (d : Option Addr) (pn : List (Addr × Obj)), Zc cls d oe → (∃ vs, oe.data = .fields vs) → PSs (X.suite a ((a, oe) :: pn)) (b₀ :: suite) (ts a cls d)) :
    PS X (.Try body [.ExceptHandler (some (.Tuple [.Name x1 p1, .Name x2 p2, .Name x3 p3, .Name x4 p4] k tp)) (some n) (b₀ :: suite) pos'] [] [] pos) (fun D σ H => tb (wCaught X.K c1 c2 c3 c4 i ts D) D σ H) := by
  refine ⟨fun pins s σ H D I h => ?_⟩
  have frE : X.A.frames = some (X.env :: X.outer) := by rw [I.ok.frames, hs]
  refine wpAny_Try_except (wpAny_mono ((hb (wCaught X.K c1 c2 c3 c4 i ts D) (X.pn ++ pins) (caughtBy X _ (SP X pins D)) (fun u t air => ?caught) PassesOwn.looking).run [] s σ H D (I.toTry _) h) (fun f t r => ?fine) fun _ _ z => z)
  case fine =>
    cases f with
    | next => obtain ⟨σ1, H1, J, q⟩ := r; exact wpAny_execs_nil ⟨σ1, H1, J.ofTry I.ok, q⟩
    | brk => obtain ⟨σ1, H1, J, q⟩ := r; exact ⟨σ1, H1, J.ofTry I.ok, q⟩
    | cont => obtain ⟨σ1, H1, J, q⟩ := r; exact ⟨σ1, H1, J.ofTry I.ok, q⟩
    | ret v => obtain ⟨y, σ1, H1, J, r1, q⟩ := r; exact ⟨y, σ1, H1, J.ofTry I.ok, r1, q⟩
  case caught =>
    obtain ⟨a, B, g0, pins', σ1, H1, cls, d, rfl, J0, below, up0, sky, na, os, ag, many, C, rfl, go⟩ := air
    have J : Inv X pins σ1 H1 g0 := J0.ofTry I.ok
    have sky1 : Sky B (X.env :: X.outer) a (Zc (.ref C) d) X.env.locals t.heap := by rw [← hs]; exact sky
    show wpAny (model X.prog X.w) X.A (noteFrame (.ref a) X.env) _ _ _
    refine Sky.land Zc.steady frE hf sky1 fun hA flA upA => ?_
    -- the error stands apart from the frames, from the ground, from what was there at the entry
    obtain ⟨oA, vA, getA, zA, dA⟩ := flA.there
    have noFr : ∀ b ∈ frs (X.env :: X.outer), b ≠ a := fun b hbm z => by
      subst z
      obtain ⟨_, o', e', nf⟩ := flA.2.2.1.mem hbm
      rw [getA] at e'
      cases e'
      exact nf _ dA
    have nL : a ≠ X.env.locals := fun z => noFr _ (List.mem_filterMap.mpr ⟨X.env, List.mem_cons_self, hf⟩) z.symm
    have nF : a ∉ X.fs := fun hm => by
      obtain ⟨e, he, q⟩ := List.mem_filterMap.mp hm
      exact noFr a (List.mem_filterMap.mpr ⟨e, List.mem_cons_of_mem _ he, q⟩) rfl
    have ga : g0.heap.get? a = none := by
      cases q : g0.heap.get? a with
      | none => rfl
      | some o =>
        have z := below a o q (by rw [hs]; exact fun hm => noFr a hm rfl)
        rw [flA.2.1] at z
        cases z
    have n0 : X.s_0.heap.get? a = none := by
      cases q : X.s_0.heap.get? a with
      | none => rfl
      | some o =>
        obtain ⟨o', z⟩ := J.base.there a o q (by rw [hx]; exact fun z => nomatch z)
        rw [ga] at z
        cases z
    have npin : ∀ p ∈ X.pn ++ pins, p.1 ≠ a := fun p hp z => by
      have e := (J.pin p hp).1
      rw [z, ga] at e
      cases e
    have JA : Inv X pins σ1 H1 { t with heap := hA } := J.landed below flA.1 (up0.trans upA) os ag
    have SA := JA.suite getA dA na nL nF
    refine wpAny_handleBy_cons (codeAny_handlers_test ?_) (by intro q; cases q)
    -- the four classes, in a new tuple
    have ld : ∀ {x : Str} {c : Addr} {p : Pos} {Q : Value → Shared → Prop} {E : Value → Shared → Prop}, OwnN X x c → Q (.ref c) { t with heap := hA } → wpAny (model X.prog X.w) (X.A.mark (some (.ref a))) (eval (.Name x p) X.env) Q E { t with heap := hA } :=
      fun {x c p Q E} o q => ld_glob (X := X.suite a ((a, oA) :: (X.pn ++ pins))) SA o.1 o.2.2 q o.2.1
    refine wpAny_Tuple_spliced ?_
    refine Calls.spliced_cons (ld h1 ?_)
    refine Calls.spliced_cons (ld h2 ?_)
    refine Calls.spliced_cons (ld h3 ?_)
    refine Calls.spliced_cons (ld h4 ?_)
    refine Calls.spliced_nil ⟨by rw [sizeLine_eq]; exact (by decide : 4 ≤ 16777216), ?_⟩
    obtain ⟨hB, eB⟩ : ∃ hB, hB = hA.push { cls := .type "tuple", data := .seq [Value.ref c1, Value.ref c2, Value.ref c3, Value.ref c4].toArray } := ⟨_, rfl⟩
    have kB : ∀ b o, hA.get? b = some o → hB.get? b = some o := fun b o e => by rw [eB]; exact Heap.get?_push_of_some _ e
    have tB : hB.get? hA.objs.size = some { cls := .type "tuple", data := .seq [Value.ref c1, Value.ref c2, Value.ref c3, Value.ref c4].toArray } := by rw [eB]; exact Heap.get?_push_size _ rfl
    show wpAny (model X.prog X.w) (X.A.mark (some (.ref a))) (excMatches (.ref a) (.ref hA.objs.size)) _ _ { t with heap := hA.push { cls := .type "tuple", data := .seq [Value.ref c1, Value.ref c2, Value.ref c3, Value.ref c4].toArray } }
    rw [← eB]
    have upB : hA.UpToSlots hB := Heap.UpToSlots.of_keeps kB
    have flB := flying_on flA kB
    have JB : Inv X pins σ1 H1 { t with heap := hB } := J.landed below flB.1 ((up0.trans upA).trans upB) os ag
    have LT : PySem.W.Looks (model X.prog X.w) hB (typeOf (.ref a)) (.ref C) := fun A Q E s k q => wpAny_typeOf_ref (k _ _ (kB _ _ getA)) (by rw [zA.1]; exact q)
    refine (PySem.W.exm_tup4 (M := model X.prog X.w) JB.kIn LT tB many).here ?_
    refine codeAny_handlers_suite_as ?_
    refine HandSPX.lands_againZ flB fun hC flC upC => ?_
    have JC : Inv X pins σ1 H1 { t with heap := hC } := J.landed below flC.1 (((up0.trans upA).trans upB).trans upC) os ag
    obtain ⟨oC, vC, getC, zC, dC⟩ := flC.there
    refine store_ok (X := X.suite a ((a, oC) :: (X.pn ++ pins))) (v := .ref a) (JC.suite getC dC na nL nF) hN hi (.inl hln) rfl (fun s5 S5 => ?_) (.inr hln)
    refine wpAny_mono ((hsu a oC (.ref C) d (X.pn ++ pins) zC ⟨_, dC⟩).run [] s5 _ H1 _ S5 (go a na)) (fun f s6 hsp => ?_) (fun _ _ z => False.elim z)
    cases f with
    | next =>
      obtain ⟨σ6, H6, S6, q6⟩ := hsp
      obtain ⟨g6, n6, _⟩ := S6.pin (a, oC) (List.mem_append_left _ List.mem_cons_self)
      have T6 : Inv X pins σ6 (upd H6 a (ErrO C d a)) s6 := (S6.unsuite I.ok).taken g6 dC n6 nL n0 npin (errO_ok g6 zC dC)
      exact gone_ok T6 hN hi hln fun s7 J7 => ⟨_, _, J7, q6⟩
    | brk => obtain ⟨_, _, _, z⟩ := hsp; exact z.elim
    | cont => obtain ⟨_, _, _, z⟩ := hsp; exact z.elim
    | ret v => obtain ⟨_, _, _, _, _, z⟩ := hsp; exact z.elim
end
end
end L2

set_option maxHeartbeats 2000000
/-! a caught error that is tracked: isinstance, its field -/
namespace L2
open PySem PySem.Spec PyProof.Rows
/-- what the class at C must say, so that isinstance asks rightly -/
structure ErrC (K : PySem.W.Frag) (C : Addr) : Prop where
  cl : (PySem.W.clsIn K C).isSome = true
  ga : PySem.W.findIn K (.ref C) "__getattribute__" = some (some (.builtin "BaseException.__getattribute__"))
  gg : PySem.W.findIn K (.ref C) "__getattr__" = some none
  ex : PySem.W.subIn K (.ref C) (.type "BaseException") = some true
  ha : PySem.W.findIn K (.ref C) "__class__" = some (some (.builtin "object.__class__"))
  hn : PySem.W.specialIn K (.builtin "object.__class__") "__get__" = some (some (.builtin "getset_descriptor.__get__"))
  ht : PySem.W.takesIn K (.builtin "object.__class__") = some true
  hm : PySem.W.mroIn K C (.type "object") = some true
section
variable {X : Cx} {pins : List (Addr × Obj)} {σ : St} {H : Hp} {s : Shared}
theorem Inv.errAt (I : Inv X pins σ H s) {a C dd : Addr} {fs : List (Str × V)} (e : H a = some (ErrO C (some dd) a)) (f : H dd = some (.xd fs)) :
    ∃ (oe od : Obj) (mA : Str → Option Value), PySem.W.InstAt s.heap a oe C (some od) ∧ s.heap.Ns1 dd mA ∧ (∀ y, RelO (fs.lookup y) (mA y)) ∧ ∀ y, PySem.W.lookIn y od = some (mA y) := by
  obtain ⟨⟨oe, vs, he, hz, hd⟩, _, _⟩ := I.hok a _ e
  obtain ⟨mA, hns, hr⟩ : ObjOk X.prog X.w H s.heap dd (.xd fs) := I.hok dd _ f
  obtain ⟨od, ho, hl⟩ := lookIn_ns hns
  exact ⟨oe, od, mA, ⟨he, hz.1, by unfold PySem.W.notCls; rw [hd] <;> rfl, by rw [hz.2]; exact ho⟩, hns, hr, fun y => hl y⟩
end
/-- isinstance(e, c), e a tracked error -/
def rIsErr (K : PySem.W.Frag) : List V → Hp → VK → Prop := fun xs H Q => ∃ (a C dd : Addr) (fs : List (Str × V)) (c : V) (cv : Value) (b : Bool),
  xs = [.ref a, c] ∧ H a = some (ErrO C (some dd) a) ∧ H dd = some (.xd fs) ∧ ErrC K C ∧ (∀ u, RelV c u → u = cv) ∧ PySem.W.kitOne K (.ref C) cv = some b ∧ Q (.bl b) H
theorem call_isErr {X : Cx} : CallR X (.builtin "isinstance") (rIsErr X.K) := by
  intro pins s σ H xs us Q I r h
  obtain ⟨a, C, dd, fs, c, cv, b, rfl, ea, ed, hC, hcv, e, q⟩ := h
  cases r with
  | cons rx rr =>
    cases rr with
    | cons rt rr =>
      cases rr
      cases rx
      have ec := hcv _ rt
      subst ec
      obtain ⟨oe, od, mA, J, _, _, _⟩ := I.errAt ea ed
      exact PySem.W.kia_one (PySem.W.kitx_exc hC.cl hC.ga hC.gg hC.ex hC.ha hC.hn hC.ht hC.hm) I.kIn J e (fun z => nomatch z) fun tk => ⟨.bl b, H, I.kept (t' := tk) fun _ _ z => z, rfl, q⟩
/-- e.event, e a tracked error of the class at C -/
def tEvent (C : Addr) (te : TE) : TE := fun σ H Q => te σ H fun x H1 => ∃ (a dd : Addr) (v : V), x = .ref a ∧ H1 a = some (ErrO C (some dd) a) ∧ H1 dd = some (.xd [(("event" : Str), v)]) ∧ Q v H1
theorem pe_event {X : Cx} {C fI : Addr} {e : Expr} {te : TE} {pos : Pos} (T : XB.NoEv X.K X.mg C fI) (he : PE X e te) (hb : attributeBase e "event" X.env (eval e X.env) = eval e X.env := by rfl) : PE X (.Attribute e "event" pos) (tEvent C te) := by
  refine ⟨fun pins s σ H Q I h => ?_⟩
  refine attr_of hb (thn (he.run pins s σ H _ I h) fun u s1 hh => ?_)
  obtain ⟨x, H1, I1, rx, a, dd, v, ex, ea, ed, q⟩ := hh
  subst ex
  obtain rfl : u = Value.ref a := rx
  obtain ⟨oe, od, mA, J, hns, hr, hl⟩ := I1.errAt ea ed
  have l : List.lookup ("event" : Str) [(("event" : Str), v)] = some v := by simp [List.lookup]
  obtain ⟨u, hu, ru⟩ := RelO.some_of (v := v) (o := mA "event") (by rw [← l]; exact hr "event")
  exact HandSPX.exc_get I1.kIn J T.ga T.gg T.exC (PySem.W.findObj_own T.hdC T.noN rfl (by rw [hl, hu])) (handed_of ru) ⟨v, H1, I1.tok _, ru, q⟩
end L2

namespace HQ
open PySem PySem.W PySem.Spec PyProof.Rows
theorem le_anti {a b : Ev} (h1 : le a b) (h2 : le b a) : a = b := by
  have h : keyToks (evD a) = keyToks (evD b) := (listOrd itemOrd).total _ _ h2 h1
  obtain ⟨n, i⟩ := a
  obtain ⟨m, j⟩ := b
  simp [evD, keyToks, keyToksAll] at h
  obtain ⟨h1, h2⟩ := h
  obtain ⟨⟨c⟩⟩ := n
  obtain ⟨⟨c'⟩⟩ := m
  simp_all
end HQ
namespace L2.My
open PySem PySem.Spec PyProof.Rows
open HQ (Ev evD)
theorem sorted_one {xs ys : List Ev} (p : xs.Perm ys) (h1 : xs.Pairwise HQ.le) (h2 : ys.Pairwise HQ.le) : xs = ys :=
  p.eq_of_pairwise (fun _ _ _ _ => HQ.le_anti) h1 h2
/-- nothing is raised: nothing is let out -/
theorem passF {P : Program} {w : World} {X : Cx} : Passes (L2.CX P w) X (fun _ _ _ => False) := fun _ _ _ _ _ _ _ c => by
  obtain ⟨_, _, _, _, _, _, _, _, _, _, _, _, z⟩ := c
  exact z.elim
/-- two, three values by name, from the last one to the first one -/
def g2 : List Value → List Value → List Value
  | [], [v, w] => [w, v]
  | _, _ => []
def gV2 : List V → List V → List V
  | [], [v, w] => [w, v]
  | _, _ => []
def g3 : List Value → List Value → List Value
  | [], [u, v, w] => [w, v, u]
  | _, _ => []
def gV3 : List V → List V → List V
  | [], [u, v, w] => [w, v, u]
  | _, _ => []
theorem kb2 {K : PySem.W.Frag} {fd : FuncData} {x y : Str} (h : ∀ v w : Value, bindArgs fd ⟨[], [(x, v), (y, w)]⟩ = pure [(y, w), (x, v)]) : KBinds K fd [y, x] [x, y] g2 gV2 := by
  refine ⟨fun s us ws _ hl => ?_, fun {vs us zs ws} r1 r2 => ?_⟩
  · match us, ws, hl with
    | [], [v, w], _ => exact .of_eq (h v w)
  · cases r1 with
    | cons _ _ => cases r2 with
      | nil => exact .nil
      | cons _ _ => exact .nil
    | nil =>
      cases r2 with
      | nil => exact .nil
      | cons a r2 =>
        cases r2 with
        | nil => exact .nil
        | cons b r2 =>
          cases r2 with
          | nil => exact .cons b (.cons a .nil)
          | cons _ _ => exact .nil
theorem kb3 {K : PySem.W.Frag} {fd : FuncData} {x y z : Str} (h : ∀ u v w : Value, bindArgs fd ⟨[], [(x, u), (y, v), (z, w)]⟩ = pure [(z, w), (y, v), (x, u)]) : KBinds K fd [z, y, x] [x, y, z] g3 gV3 := by
  refine ⟨fun s us ws _ hl => ?_, fun {vs us zs ws} r1 r2 => ?_⟩
  · match us, ws, hl with
    | [], [u, v, w], _ => exact .of_eq (h u v w)
  · cases r1 with
    | cons _ _ => cases r2 with
      | nil => exact .nil
      | cons _ _ => exact .nil
    | nil =>
      cases r2 with
      | nil => exact .nil
      | cons a r2 =>
        cases r2 with
        | nil => exact .nil
        | cons b r2 =>
          cases r2 with
          | nil => exact .nil
          | cons c r2 =>
            cases r2 with
            | nil => exact .cons c (.cons b (.cons a .nil))
            | cons _ _ => exact .nil
theorem un65p {k : Nat} {A : Around} (r : Room k A) : A.units + 65 < cLine := by have := r.un; omega
/-- sorted(order[e]) -/
theorem srt_ord {H : Hp} {od : Addr} {o : List Ev} {ad : Ev → Addr} {f : Ev → List (Addr × Ev)} (hO : BQ H od o ad f) {e : Ev} (io : e ∈ o) (few : (f e).length ≤ 1000) {Q : VK}
    (k : ∀ (p : Addr) (ws : List (Addr × Ev)), H p = none → (ws.map (·.2)).Perm ((f e).map (·.2)) → (ws.map (·.2)).Pairwise HQ.le → (∀ z ∈ ws, EvR H z) → Q (.ref p) (upd H p (.lst (ws.map fun z => V.ref z.1)))) : rSortH [V.ref (ad e)] H Q := by
  refine ⟨ad e, (f e).map (fun y => (V.ref y.1, evD y.2)), rfl, by rw [List.map_map]; exact hO.hz e io, ?_, ?_, ?_, by rw [List.length_map, sizeLine_eq]; omega, ?_, fun zs' p pm pw np => ?_⟩
  · intro z h
    obtain ⟨u, hu, rfl⟩ := List.mem_map.mp h
    exact ev_rp (hO.he e io u hu)
  · have := evs_alike ((f e).map (·.2))
    rw [List.map_map] at this ⊢
    exact this
  · have := evs_sortable ((f e).map (·.2))
    rw [List.map_map] at this ⊢
    exact this
  · intro z h
    obtain ⟨u, hu, rfl⟩ := List.mem_map.mp h
    show (evD u.2).depth ≤ 20
    rw [HQ.evD_depth]
    decide
  obtain ⟨ws, rfl, pz⟩ := perm_inv pm rfl
  have := k p ws np (pz.map _) (List.pairwise_map.mpr ((List.pairwise_map.mp pw).imp fun {x y} h => h)) fun z hz => hO.he e io z (pz.mem_iff.mp hz)
  rw [List.map_map]
  exact this
/-- the list form of an event -/
theorem lev_rp {H : Hp} {q : Addr} {e : Ev} (h : H q = some (.lst (evV e))) : Rp H (.ref q) (.list [.str e.1, .int e.2]) := .lst h (.cons (.str _) (.cons (.int _) .nil))
end L2.My

namespace L2.My
open PySem PySem.Spec PyProof.Rows
open HQ (Ev evD)
section
variable {L : Lg}
theorem sz_le {n : Str} {k : Nat} {mk : List Int} (h : (n, k, mk) ∈ L.ms) : k ≤ (evs L).length := by
  have nd : ((List.range k).map fun (i : Nat) => ((n, (i : Int)) : Ev)).Nodup := by
    refine List.pairwise_map.mpr (List.nodup_range.imp fun {a b} ne e => ne ?_)
    have := (Prod.mk.inj e).2
    omega
  have := len_sub (m := evs L) nd fun x hx => by
    obtain ⟨i, hi, rfl⟩ := List.mem_map.mp hx
    have hi := List.mem_range.mp hi
    exact mem_evs.mpr ⟨k, mk, h, by omega, by omega⟩
  rw [List.length_map, List.length_range] at this
  exact this
theorem ms_one (hG : Good L) {n : Str} {k k' : Nat} {mk mk' : List Int} (h : (n, k, mk) ∈ L.ms) (h' : (n, k', mk') ∈ L.ms) : k = k' := by
  obtain ⟨i, hi⟩ := List.getElem?_of_mem h
  obtain ⟨j, hj⟩ := List.getElem?_of_mem h'
  have e1 : (L.ms.map (·.1))[i]? = some n := by rw [List.getElem?_map, hi]; rfl
  have e2 : (L.ms.map (·.1))[j]? = some n := by rw [List.getElem?_map, hj]; rfl
  have := (List.getElem?_inj (List.getElem?_eq_some_iff.mp e1).1 (asc_nodup hG.asc)).mp (e1.trans e2.symm)
  rw [this, hj] at hi
  cases hi
  rfl
theorem far_out (hG : Good L) {n : Str} {k : Nat} {mk : List Int} (h : (n, k, mk) ∈ L.ms) : ((n, (k : Int)) : Ev) ∉ evs L := fun c => by
  obtain ⟨k', mk', h', _, lt⟩ := mem_evs.mp c
  have := ms_one hG h h'
  omega
theorem big_out (hG : Good L) {n : Str} {i : Int} (h : 16 ≤ i) : ((n, i) : Ev) ∉ evs L := fun c => by
  obtain ⟨k, mk, h', _, lt⟩ := mem_evs.mp c
  have := sz_le h'
  have := hG.few.1
  omega
theorem no_out (hp : ∀ m ∈ L.ms, m.1 ∈ pool) {i : Int} : ((("no" : Str), i) : Ev) ∉ evs L := fun c => by
  obtain ⟨k, mk, h', _⟩ := mem_evs.mp c
  have := hp _ h'
  revert this
  show ¬ (("no" : Str) ∈ pool)
  decide
end
end L2.My

namespace L2.My
open PySem PySem.Spec PyProof.Rows
section
variable {K : PySem.W.Frag} {C cM c1 c2 c3 c4 : Addr} {cls : Value}
theorem exm_four (h1 : PySem.W.exmOne K cls (.ref c1) = some false) (h2 : PySem.W.exmOne K cls (.ref c2) = some true) (h3 : PySem.W.exmOne K cls (.ref c3) = some false) (h4 : PySem.W.exmOne K cls (.ref c4) = some false) :
    PySem.W.exmAny K cls [.ref c1, .ref c2, .ref c3, .ref c4] = some true := by
  simp only [PySem.W.exmAny, h1, h2, h3, h4]
  rfl
theorem cls_some (h : PySem.W.hasDictIn K C = true) : (PySem.W.clsIn K C).isSome = true := by
  obtain ⟨cd, hc, _⟩ := PySem.W.any_some h
  rw [hc]
  rfl
theorem kit_le (h : PySem.W.subIn K (.ref C) (.type "LookupError") = some true) : PySem.W.kitOne K (.ref C) (.type "LookupError") = some true := by
  unfold PySem.W.kitOne
  rw [if_neg (by simp)]
  show (if PySem.W.kitMeta "LookupError" = true then PySem.W.subIn K (.ref C) (.type "LookupError") else none) = some true
  rw [if_pos (by first | rfl | decide +kernel | kernel_rfl)]
  exact h
theorem kit_not (hc : PySem.W.subIn K (.ref C) (.ref C) = some true) (hm : PySem.W.subIn K (.ref C) (.ref cM) = some false) (hd : PySem.W.hasDictIn K cM = true) (ht : PySem.W.typeIn K (.ref cM) = some (.type "type")) : PySem.W.kitOne K (.ref C) (.ref cM) = some false := by
  have ne : ¬ (((Value.ref C) == (Value.ref cM)) = true) := fun e => by
    have e : C = cM := Value.ref.inj (beq_iff_eq.mp e)
    rw [← e, hc] at hm
    cases hm
  unfold PySem.W.kitOne
  rw [if_neg ne]
  show (if ((PySem.W.clsIn K cM).isSome && PySem.W.typeIn K (.ref cM) == some (.type "type")) = true then PySem.W.subIn K (.ref C) (.ref cM) else none) = some false
  rw [if_pos (by rw [cls_some hd, ht] <;> rfl)]
  exact hm
end
end L2.My

set_option maxHeartbeats 2000000
namespace L2
open PySem PySem.Spec PyProof.Rows
theorem tuple_once (l : Addr) (vs : Array Value) (n : Nat) (dd : Option Addr) (u : Tok) (sl : Array (Option Value)) :
    Meets (Builtin.«tuple.__mul__» ⟨[.ref l, .int 1 u], []⟩) (fun _ R s => s.heap.get? l = some { cls := .type "tuple", dict := dd, data := .seq vs n, slots := sl } ∧ R (.ok (.ret (Value.ref l))) s) :=
  .of_wp fun prog w A R s h => by
    obtain ⟨hp, g, d, tk, os⟩ := s
    obtain ⟨hl, h⟩ := h
    have f1 := AutoSeq1.idx_int
    wp_walk using wpAny_loadPart' hl
    exact ⟨_, rfl, h⟩
theorem tuple_never (l : Addr) (vs : Array Value) (n : Nat) (dd : Option Addr) (u : Tok) (sl : Array (Option Value)) (hv : vs.isEmpty = false) :
    Meets (Builtin.«tuple.__mul__» ⟨[.ref l, .int 0 u], []⟩) (fun _ R s => s.heap.get? l = some { cls := .type "tuple", dict := dd, data := .seq vs n, slots := sl } ∧
      R (.ok (.ret (Value.ref s.heap.objs.size))) { s with heap := s.heap.push { cls := Value.type "tuple", data := Data.seq #[] }, toks := s.toks }) :=
  .of_wp fun prog w A R s h => by
    obtain ⟨hp, g, d, tk, os⟩ := s
    obtain ⟨hl, h⟩ := h
    have f1 := AutoSeq1.idx_int
    wp_walk using wpAny_loadPart' hl
    exact ⟨_, rfl, h⟩
/-- t * 0, t * 1, t a tuple that is not empty -/
def rMul01 : R2 := fun x y H Q => ∃ (l : Addr) (b : Bool) (xs : List V), x = .ref l ∧ y = .int (if b = true then 1 else 0) ∧ H l = some (.tup xs) ∧ xs ≠ [] ∧ (b = true → Q (.ref l) H) ∧ (b = false → ∀ p, H p = none → Q (.ref p) (upd H p (.tup [])))
section
variable {X : Cx}
theorem op_mul01 : OpR X (binaryOp .Mult) rMul01 := by
  intro pins s σ H x y v u Q I rx ry h
  obtain ⟨l, b, xs, rfl, rfl, hT, hne, q1, q0⟩ := h
  cases rx
  obtain ⟨t, rfl⟩ := ry
  obtain ⟨its, r, ⟨⟨cls, dd, data, sl⟩, ho, hc, n, hd⟩, hs⟩ := I.tuple (.inl (.inl hT))
  simp only at hc hd
  subst hc hd
  have hi : its.toArray.isEmpty = false := by
    cases its with
    | nil => exact absurd (List.eq_nil_of_length_eq_zero r.length) hne
    | cons a b => rfl
  refine wpAny_binaryOp_repeat_ref (T := "tuple") (U := "int") (by decide) ⟨_, ho, rfl⟩ (fun s' => typeIs_int s' _ t) noFill_tuple_mul F.fills_int_mul F.slot_int_rmul repeat_tuple F.slot_int_index.lookup
    (call_meets F.slot_int_rmul (typeIs_int s _ t) F.entry_int_rmul (F.args_int_rmul_2 _ _) (int_rmul_tuple _ t l its.toArray n dd sl) ⟨ho, rfl, ⟨_, ho, rfl⟩, ?_⟩)
  cases b with
  | true => exact call_meets F.slot_tuple_mul ⟨_, ho, rfl⟩ F.entry_tuple_mul (F.args_tuple_mul_2 _ _) (tuple_once l its.toArray n dd t sl) ⟨ho, ⟨.ref l, H, I, rfl, q1 rfl⟩⟩
  | false =>
    refine call_meets F.slot_tuple_mul ⟨_, ho, rfl⟩ F.entry_tuple_mul (F.args_tuple_mul_2 _ _) (tuple_never l its.toArray n dd t sl hi) ⟨ho, ?_⟩
    refine ⟨.ref s.heap.objs.size, _, I.laid (t' := s.toks) (o := .tup []) (fun b ob q => Heap.get?_push_of_some _ q) (Nat.le_refl _) ?_, rfl, q0 rfl _ (I.hok.fresh (Nat.le_refl _))⟩
    exact ⟨by show 0 ≤ sizeLine; decide, [], .nil, IsTup.new _ _⟩
end
/-- a walk over zip of two tuples of which the second one is no longer -/
theorem for_zip_tail {K : PySem.W.Frag} {a b : Addr} {us vs : List V} {g : TG} {tb : TS} {D : Ends} {σ : L2.St} {H : Hp} (le : vs.length ≤ us.length) (J : Nat → L2.St → Hp → Prop) (first : J 0 σ H) (both : ∀ k τ G, J k τ G → SqT K G a us ∧ SqT K G b vs)
    (turn : ∀ (k : Nat) (u v : V) (T : Addr) (τ : L2.St) (G : Hp), us[k]? = some u → vs[k]? = some v → J k τ G → G T = none → g (.ref T) τ (upd G T (.tup [u, v])) fun τ2 G2 => tb { D with nx := J (k + 1), ct := J (k + 1), bk := D.nx } τ2 G2) (last : ∀ τ G, J vs.length τ G → D.nx τ G) :
    ∃ W : Nat → Nat → L2.St → Hp → Prop, (∃ m, W 0 m σ H) ∧ ∀ i m σ H, W i m σ H →
      ((RZ.ItzT K a b).stop i H ∧ D.nx σ H) ∨ ((RZ.ItzT K a b).go i H ∧ ∃ N : L2.St → Hp → Prop, (∀ σ' H', N σ' H' → ∃ m', m' < m ∧ W (i + 1) m' σ' H') ∧ ∀ v H', (RZ.ItzT K a b).yld i H v H' → g v σ H' fun σ2 H2 => tb { D with nx := N, ct := N, bk := D.nx } σ2 H2) := by
  refine ⟨fun k m τ G => k + m = vs.length ∧ J k τ G, ⟨vs.length, by omega, first⟩, fun k m τ G ⟨km, j⟩ => ?_⟩
  obtain ⟨ha, hb⟩ := both k τ G j
  rcases Nat.lt_or_ge k vs.length with lt | ge
  · obtain ⟨u, hu⟩ : ∃ u, us[k]? = some u := ⟨_, List.getElem?_eq_getElem (by omega)⟩
    obtain ⟨v, hv⟩ : ∃ v, vs[k]? = some v := ⟨_, List.getElem?_eq_getElem lt⟩
    refine .inr ⟨⟨us, vs, u, v, ha, hb, hu, hv⟩, J (k + 1), fun τ2 G2 j2 => ⟨m - 1, by omega, by omega, j2⟩, fun z G2 ⟨T, u', v', e, nT, eG, f1, f2⟩ => ?_⟩
    subst e
    subst eG
    exact turn k u' v' T τ G (f1 us ha) (f2 vs hb) j nT
  · have ek : k = vs.length := by omega
    rw [ek] at j ⊢
    exact .inl ⟨⟨us, vs, ha, hb, .inr (Nat.le_refl _)⟩, last τ G j⟩
end L2

namespace HQ
open PySem PySem.W PySem.Spec PyProof.Rows
/-- a counter goes over from one event to another one -/
def hD (t : Nat × Ev × Ev) : PyData := .tuple [.int (t.1 : Int), evD t.2.1, evD t.2.2]
theorem hD_anti {a b : Nat × Ev × Ev} (h1 : dataLt (hD b) (hD a) = false) (h2 : dataLt (hD a) (hD b) = false) : a = b := by
  have h : keyToks (hD a) = keyToks (hD b) := (listOrd itemOrd).total _ _ h2 h1
  obtain ⟨k, ⟨⟨⟨n⟩⟩, i⟩, ⟨⟨⟨n'⟩⟩, i'⟩⟩ := a
  obtain ⟨l, ⟨⟨⟨m⟩⟩, j⟩, ⟨⟨⟨m'⟩⟩, j'⟩⟩ := b
  simp [hD, evD, keyToks, keyToksAll] at h
  simp_all
  omega
theorem hD_alike (a b : Nat × Ev × Ev) : alike (hD a) (hD b) = true := by simp [hD, evD, alike, alikeAll]
theorem hD_inj {a b : Nat × Ev × Ev} (h : hD a = hD b) : a = b := by
  obtain ⟨k, ⟨n, i⟩, ⟨n', i'⟩⟩ := a
  obtain ⟨l, ⟨m, j⟩, ⟨m', j'⟩⟩ := b
  simp [hD, evD] at h
  simp_all
  omega
end HQ
namespace L2.My
open PySem PySem.Spec PyProof.Rows
open HQ (Ev evD hD)
theorem hs_alike (l : List (Nat × Ev × Ev)) : PySem.W.AllAlike (l.map hD) := fun d hd d' hd' => by
  obtain ⟨x, _, rfl⟩ := List.mem_map.mp hd
  obtain ⟨y, _, rfl⟩ := List.mem_map.mp hd'
  exact HQ.hD_alike x y
theorem hs_sortable (l : List (Nat × Ev × Ev)) : PySem.W.Sortable (l.map hD) := .inl fun d hd => by
  obtain ⟨x, _, rfl⟩ := List.mem_map.mp hd
  exact ⟨_, _, rfl⟩
def hndUp (k : Nat) (r : List Ev) (j : Nat) : List (Nat × Ev × Ev) := (((r.zip (r.drop 1)).take j).filter fun p => decide (p.1.1 ≠ p.2.1)).map fun p => (k, p.1, p.2)
def hndTo (rows : List (List Ev)) : Nat → List (Nat × Ev × Ev)
  | 0 => []
  | i + 1 => hndTo rows i ++ hndUp i (rows.getD i []) ((rows.getD i []).length - 1)
theorem hndUp_len (k : Nat) (r : List Ev) (j : Nat) : (hndUp k r j).length ≤ j := by
  unfold hndUp
  rw [List.length_map]
  exact Nat.le_trans (List.length_filter_le _ _) (by rw [List.length_take]; omega)
theorem hndUp_zero (k : Nat) (r : List Ev) : hndUp k r 0 = [] := rfl
theorem hndUp_succ {k : Nat} {r : List Ev} {j : Nat} {x y : Ev} (hx : r[j]? = some x) (hy : r[j + 1]? = some y) : hndUp k r (j + 1) = hndUp k r j ++ if x.1 = y.1 then [] else [(k, x, y)] := by
  have hz : (r.zip (r.drop 1))[j]? = some (x, y) := by
    rw [List.getElem?_zip_eq_some]
    exact ⟨hx, by rw [List.getElem?_drop, Nat.add_comm]; exact hy⟩
  unfold hndUp
  rw [show (r.zip (r.drop 1)).take (j + 1) = (r.zip (r.drop 1)).take j ++ [(x, y)] from tk_snoc hz, List.filter_append, List.map_append]
  congr 1
  by_cases c : x.1 = y.1
  · rw [if_pos c]
    simp [List.filter, c]
  · rw [if_neg c]
    simp [List.filter, c]
theorem hndTo_len {rows : List (List Ev)} (h : ∀ r ∈ rows, r.length ≤ 1000) : ∀ i : Nat, (hndTo rows i).length ≤ 1000 * i
  | 0 => Nat.le_refl _
  | i + 1 => by
    have ih := hndTo_len h i
    have h1 := hndUp_len i (rows.getD i []) ((rows.getD i []).length - 1)
    have h2 : (rows.getD i []).length ≤ 1000 := by
      rw [List.getD_eq_getElem?_getD]
      cases e : rows[i]? with
      | none => simp
      | some r => exact h r (List.mem_of_getElem? e)
    unfold hndTo
    rw [List.length_append]
    omega
/-- a list of such -/
structure HL (H : Hp) (fp : Addr) (ts : List (Nat × Ev × Ev)) (zs : List (V × PyData)) : Prop where
  hf : H fp = some (.lst (zs.map (·.1)))
  hz : ∀ z ∈ zs, Tp H z.1 z.2
  eq : zs.map (·.2) = ts.map hD
theorem HL.same {H H' : Hp} {fp : Addr} {ts : List (Nat × Ev × Ev)} {zs : List (V × PyData)} (h : HL H fp ts zs) (s : Same H H') : HL H' fp ts zs := ⟨s _ _ h.hf, fun z hz => (h.hz z hz).keep (.same s), h.eq⟩
theorem HL.push {H : Hp} {fp : Addr} {ts : List (Nat × Ev × Ev)} {zs : List (V × PyData)} (h : HL H fp ts zs) {v : V} {t : Nat × Ev × Ev} (hv : Tp H v (hD t)) : HL (upd H fp (.lst (zs.map (·.1) ++ [v]))) fp (ts ++ [t]) (zs ++ [(v, hD t)]) := by
  have k := tk_upd h.hf (.lst (zs.map (·.1) ++ [v]))
  refine ⟨by rw [upd_same, List.map_append]; rfl, fun z hz => ?_, by rw [List.map_append, List.map_append, h.eq]; rfl⟩
  rcases List.mem_append.mp hz with c | c
  · exact (h.hz z c).keep k
  · rw [List.mem_singleton.mp c]
    exact hv.keep k
/-- sorted(found) -/
theorem HL.sorted {H : Hp} {fp : Addr} {ts : List (Nat × Ev × Ev)} {zs : List (V × PyData)} (h : HL H fp ts zs) (few : zs.length ≤ sizeLine) {Q : VK}
    (k : ∀ (p : Addr) (H' : Hp) (us : List (Nat × Ev × Ev)) (ws : List (V × PyData)), Same H H' → H p = none → HL H' p us ws → us.Perm ts → us.Pairwise (fun a b => PySem.W.dataLt (hD b) (hD a) = false) → Q (.ref p) H') : rSortH [V.ref fp] H Q := by
  refine ⟨fp, zs, rfl, h.hf, fun z hz => (h.hz z hz).rp, by rw [h.eq]; exact hs_alike ts, by rw [h.eq]; exact hs_sortable ts, few, fun z hz => ?_, fun zs' p pm pw np => ?_⟩
  · have : z.2 ∈ ts.map hD := by rw [← h.eq]; exact List.mem_map.mpr ⟨z, hz, rfl⟩
    obtain ⟨t, _, e⟩ := List.mem_map.mp this
    rw [← e]
    simp [hD, evD, PyData.depth, PyData.depthAll]
  · have sp := same_new np (.lst (zs'.map (·.1)))
    obtain ⟨us, eu, pu⟩ := perm_inv (f := hD) (pm.map (·.2)) h.eq
    refine k p _ us zs' sp np ⟨upd_same, fun z hz => (h.hz z (pm.mem_iff.mp hz)).keep (.same sp), eu⟩ pu ?_
    have := (List.pairwise_map (f := fun z : V × PyData => z.2) (R := fun d e => PySem.W.dataLt e d = false)).mpr (show zs'.Pairwise (fun a b => PySem.W.dataLt b.2 a.2 = false) from pw)
    rw [eu] at this
    exact List.pairwise_map.mp this
theorem hs_one {xs ys : List (Nat × Ev × Ev)} (p : xs.Perm ys) (h1 : xs.Pairwise (fun a b => PySem.W.dataLt (hD b) (hD a) = false)) (h2 : ys.Pairwise (fun a b => PySem.W.dataLt (hD b) (hD a) = false)) : xs = ys :=
  p.eq_of_pairwise (fun _ _ _ _ => HQ.hD_anti) h1 h2
end L2.My

set_option maxHeartbeats 2000000
namespace L2.My
open PySem PySem.Spec PyProof.Rows
open HQ (Ev evD)
/-- tuple + tuple, told once for all kinds -/
def rCatS : R2 := fun x y H Q => ∃ (a b : Addr) (xs ys : List V), x = .ref a ∧ y = .ref b ∧ H a = some (.tup xs) ∧ H b = some (.tup ys) ∧ xs.length + ys.length ≤ sizeLine ∧ ∀ (r : Addr) (H' : Hp), Same H H' → H' r = some (.tup (xs ++ ys)) → Q (.ref r) H'
theorem op_catS {X : Cx} : OpR X (binaryOp .Add) rCatS := fun pins s σ H x y v u Q I rx ry ⟨a, b, xs, ys, e1, e2, ha, hb, hz, q⟩ =>
  op_catA pins s σ H x y v u Q I rx ry ⟨a, b, xs, ys, e1, e2, .inl (.inl ha), .inl (.inl hb), hz, fun e => q b H (fun _ _ h => h) (by rw [e]; exact hb), fun _ e => q a H (fun _ _ h => h) (by rw [e, List.append_nil]; exact ha), fun _ _ p np => q p _ (same_new np _) upd_same⟩
/-- t * 0, t * 1, told once -/
def rMulS : R2 := fun x y H Q => ∃ (l : Addr) (b : Bool) (xs : List V), x = .ref l ∧ y = .int (if b = true then 1 else 0) ∧ H l = some (.tup xs) ∧ xs ≠ [] ∧ ∀ (r : Addr) (H' : Hp), Same H H' → H' r = some (.tup (if b = true then xs else [])) → Q (.ref r) H'
theorem op_mulS {X : Cx} : OpR X (binaryOp .Mult) rMulS := fun pins s σ H x y v u Q I rx ry ⟨l, b, xs, e1, e2, hl, ne, q⟩ =>
  op_mul01 pins s σ H x y v u Q I rx ry ⟨l, b, xs, e1, e2, hl, ne, fun e => q l H (fun _ _ h => h) (by rw [e]; exact hl), fun e p np => q p _ (same_new np _) (by rw [e]; exact upd_same)⟩
theorem cntIn_cg {fs gs : List Ev} (h : ∀ x, x ∈ fs ↔ x ∈ gs) (e : Ev) (r : List Ev) : cntIn fs e r = cntIn gs e r := by
  unfold cntIn
  refine congrArg List.length (List.filter_congr fun y _ => ?_)
  rw [decide_eq_decide.mpr (h y)]
/-- sorted of a list of events -/
theorem srt_evs {H : Hp} {a : Addr} {zs : List (Addr × Ev)} (ha : H a = some (.lst (zs.map fun z => V.ref z.1))) (he : ∀ z ∈ zs, EvR H z) (few : zs.length ≤ 1000) {Q : VK}
    (k : ∀ (p : Addr) (ws : List (Addr × Ev)), H p = none → (ws.map (·.2)).Perm (zs.map (·.2)) → (ws.map (·.2)).Pairwise HQ.le → (∀ z ∈ ws, EvR H z) → Q (.ref p) (upd H p (.lst (ws.map fun z => V.ref z.1)))) : rSortH [V.ref a] H Q := by
  refine ⟨a, zs.map (fun y => (V.ref y.1, evD y.2)), rfl, by rw [List.map_map]; exact ha, ?_, ?_, ?_, by rw [List.length_map, sizeLine_eq]; omega, ?_, fun zs' p pm pw np => ?_⟩
  · intro z h
    obtain ⟨u, hu, rfl⟩ := List.mem_map.mp h
    exact ev_rp (he u hu)
  · have := evs_alike (zs.map (·.2))
    rw [List.map_map] at this ⊢
    exact this
  · have := evs_sortable (zs.map (·.2))
    rw [List.map_map] at this ⊢
    exact this
  · intro z h
    obtain ⟨u, hu, rfl⟩ := List.mem_map.mp h
    show (evD u.2).depth ≤ 20
    rw [HQ.evD_depth]
    decide
  obtain ⟨ws, rfl, pz⟩ := perm_inv pm rfl
  have := k p ws np (pz.map _) (List.pairwise_map.mpr ((List.pairwise_map.mp pw).imp fun {x y} h => h)) fun z hz => he z (pz.mem_iff.mp hz)
  rw [List.map_map]
  exact this
theorem HL.rp {H : Hp} {p : Addr} {ts : List (Nat × Ev × Ev)} {zs : List (V × PyData)} (h : HL H p ts zs) : Rp H (.ref p) (.list (ts.map HQ.hD)) := by
  refine .lst h.hf ?_
  rw [← h.eq]
  have : ∀ (l : List (V × PyData)), (∀ z ∈ l, Tp H z.1 z.2) → RpAll H (l.map (·.1)) (l.map (·.2)) := fun l => by
    induction l with
    | nil => exact fun _ => .nil
    | cons a l ih => exact fun g => .cons (g a List.mem_cons_self).rp (ih fun z hz => g z (List.mem_cons_of_mem _ hz))
  exact this zs h.hz
theorem ok_bare {L : Lg} {rows : List (List Ev)} (h : RowsOk L rows) : RowsOk L (rows ++ [[]]) := by
  refine ⟨fun r hr => ?_, ?_, ?_⟩
  · rcases List.mem_append.mp hr with c | c
    · exact h.ch r c
    · rw [List.mem_singleton.mp c]
      exact List.Pairwise.nil
  · rw [List.flatten_append]
    simpa using h.nd
  · intro e he
    rw [List.flatten_append] at he
    exact h.mem e (by simpa using he)
end L2.My

namespace L2.My
open PySem PySem.Spec PyProof.Rows
open HQ (Ev evD)
theorem row_one {rows : List (List Ev)} (nd : rows.flatten.Nodup) {e : Ev} {j k : Nat} {r s : List Ev} (hj : rows[j]? = some r) (hk : rows[k]? = some s) (er : e ∈ r) (es : e ∈ s) : j = k := by
  have pw := (List.pairwise_flatten.mp nd).2
  obtain ⟨lj, ej⟩ := List.getElem?_eq_some_iff.mp hj
  obtain ⟨lk, ek⟩ := List.getElem?_eq_some_iff.mp hk
  have g := List.pairwise_iff_getElem.mp pw
  rcases Nat.lt_trichotomy j k with lt | eq | gt
  · exact absurd rfl (g j k lj lk lt e (by rw [ej]; exact er) e (by rw [ek]; exact es))
  · exact eq
  · exact absurd rfl (g k j lk lj gt e (by rw [ek]; exact es) e (by rw [ej]; exact er))
theorem nums_rp {H : Hp} {p : Addr} {ns : List Int} (h : H p = some (.tup (ns.map V.int))) : Rp H (.ref p) (.tuple (ns.map PyData.int)) := .tup h (ints_tp ns).rp
end L2.My

namespace L2.K06
open PySem PySem.Spec PyProof.Rows L2.My
open HQ (Ev evD)
def topS (i : Nat) : Stmt := PySem.Challenge.pw_fewstamps_k06_stamps.main.body.getD i (.Pass ⟨0, 0, 0, 0⟩)
abbrev s_tupled : Stmt := topS 7
abbrev N_tupled : List Str := ["value", "part"]
abbrev P_tupled : List Str := ["value"]
theorem sc_tupled : FnScope N_tupled P_tupled (defScope s_tupled) := ⟨rfl, rfl, rfl, by decide +kernel, rfl, by decide +kernel, by decide +kernel⟩
abbrev s_is_number : Stmt := topS 8
abbrev N_is_number : List Str := ["thing"]
abbrev P_is_number : List Str := ["thing"]
theorem sc_is_number : FnScope N_is_number P_is_number (defScope s_is_number) := ⟨rfl, rfl, rfl, by decide +kernel, rfl, by decide +kernel, by decide +kernel⟩
abbrev s_is_tuple_of : Stmt := topS 9
abbrev N_is_tuple_of : List Str := ["thing", "many"]
abbrev P_is_tuple_of : List Str := ["thing", "many"]
theorem sc_is_tuple_of : FnScope N_is_tuple_of P_is_tuple_of (defScope s_is_tuple_of) := ⟨rfl, rfl, rfl, by decide +kernel, rfl, by decide +kernel, by decide +kernel⟩
abbrev s_looks_like_event : Stmt := topS 10
abbrev N_looks_like_event : List Str := ["thing"]
abbrev P_looks_like_event : List Str := ["thing"]
theorem sc_looks_like_event : FnScope N_looks_like_event P_looks_like_event (defScope s_looks_like_event) := ⟨rfl, rfl, rfl, by decide +kernel, rfl, by decide +kernel, by decide +kernel⟩
abbrev s_sizes_of : Stmt := topS 12
abbrev N_sizes_of : List Str := ["machines", "machine"]
abbrev P_sizes_of : List Str := ["machines"]
theorem sc_sizes_of : FnScope N_sizes_of P_sizes_of (defScope s_sizes_of) := ⟨rfl, rfl, rfl, by decide +kernel, rfl, by decide +kernel, by decide +kernel⟩
abbrev s_is_event : Stmt := topS 13
abbrev N_is_event : List Str := ["sizes", "thing"]
abbrev P_is_event : List Str := ["sizes", "thing"]
theorem sc_is_event : FnScope N_is_event P_is_event (defScope s_is_event) := ⟨rfl, rfl, rfl, by decide +kernel, rfl, by decide +kernel, by decide +kernel⟩
abbrev s_linked : Stmt := topS 14
abbrev N_linked : List Str := ["found", "messages", "befores", "last", "event", "same", "sent", "come"]
abbrev P_linked : List Str := ["found", "messages"]
theorem sc_linked : FnScope N_linked P_linked (defScope s_linked) := ⟨rfl, rfl, rfl, by decide +kernel, rfl, by decide +kernel, by decide +kernel⟩
abbrev s_turned : Stmt := topS 15
abbrev N_turned : List Str := ["befores", "behinds", "event", "before"]
abbrev P_turned : List Str := ["befores"]
theorem sc_turned : FnScope N_turned P_turned (defScope s_turned) := ⟨rfl, rfl, rfl, by decide +kernel, rfl, by decide +kernel, by decide +kernel⟩
abbrev s_least_first : Stmt := topS 16
abbrev N_least_first : List Str := ["befores", "behinds", "waits", "event", "ready", "order", "behind"]
abbrev P_least_first : List Str := ["befores"]
theorem sc_least_first : FnScope N_least_first P_least_first (defScope s_least_first) := ⟨rfl, rfl, rfl, by decide +kernel, rfl, by decide +kernel, by decide +kernel⟩
abbrev s_befores_of : Stmt := topS 17
abbrev N_befores_of : List Str := ["log"]
abbrev P_befores_of : List Str := ["log"]
theorem sc_befores_of : FnScope N_befores_of P_befores_of (defScope s_befores_of) := ⟨rfl, rfl, rfl, by decide +kernel, rfl, by decide +kernel, by decide +kernel⟩
abbrev s_aheads_of : Stmt := topS 18
abbrev N_aheads_of : List Str := ["log", "befores", "aheads", "event", "found", "before", "far"]
abbrev P_aheads_of : List Str := ["log"]
theorem sc_aheads_of : FnScope N_aheads_of P_aheads_of (defScope s_aheads_of) := ⟨rfl, rfl, rfl, by decide +kernel, rfl, by decide +kernel, by decide +kernel⟩
abbrev s_there : Stmt := topS 19
abbrev N_there : List Str := ["log", "event"]
abbrev P_there : List Str := ["log", "event"]
theorem sc_there : FnScope N_there P_there (defScope s_there) := ⟨rfl, rfl, rfl, by decide +kernel, rfl, by decide +kernel, by decide +kernel⟩
abbrev s_events : Stmt := topS 20
abbrev N_events : List Str := ["log", "machine", "number"]
abbrev P_events : List Str := ["log"]
theorem sc_events : FnScope N_events P_events (defScope s_events) := ⟨rfl, rfl, rfl, by decide +kernel, rfl, by decide +kernel, by decide +kernel⟩
abbrev s_marked : Stmt := topS 21
abbrev N_marked : List Str := ["log", "machine", "mark"]
abbrev P_marked : List Str := ["log"]
theorem sc_marked : FnScope N_marked P_marked (defScope s_marked) := ⟨rfl, rfl, rfl, by decide +kernel, rfl, by decide +kernel, by decide +kernel⟩
abbrev s_counted : Stmt := topS 23
abbrev N_counted : List Str := ["counters", "row", "event"]
abbrev P_counted : List Str := ["counters"]
theorem sc_counted : FnScope N_counted P_counted (defScope s_counted) := ⟨rfl, rfl, rfl, by decide +kernel, rfl, by decide +kernel, by decide +kernel⟩
abbrev s_place : Stmt := topS 24
abbrev N_place : List Str := ["counters", "event", "counter", "row"]
abbrev P_place : List Str := ["counters", "event"]
theorem sc_place : FnScope N_place P_place (defScope s_place) := ⟨rfl, rfl, rfl, by decide +kernel, rfl, by decide +kernel, by decide +kernel⟩
abbrev s_stamp_by : Stmt := topS 25
abbrev N_stamp_by : List Str := ["ahead", "counters", "event", "one", "row"]
abbrev P_stamp_by : List Str := ["ahead", "counters", "event"]
theorem sc_stamp_by : FnScope N_stamp_by P_stamp_by (defScope s_stamp_by) := ⟨rfl, rfl, rfl, by decide +kernel, rfl, by decide +kernel, by decide +kernel⟩
abbrev s_stamp : Stmt := topS 26
abbrev N_stamp : List Str := ["log", "counters", "event"]
abbrev P_stamp : List Str := ["log", "counters", "event"]
theorem sc_stamp : FnScope N_stamp P_stamp (defScope s_stamp) := ⟨rfl, rfl, rfl, by decide +kernel, rfl, by decide +kernel, by decide +kernel⟩
abbrev s_stamps : Stmt := topS 27
abbrev N_stamps : List Str := ["log", "counters", "aheads", "event"]
abbrev P_stamps : List Str := ["log", "counters"]
theorem sc_stamps : FnScope N_stamps P_stamps (defScope s_stamps) := ⟨rfl, rfl, rfl, by decide +kernel, rfl, by decide +kernel, by decide +kernel⟩
abbrev s_handed : Stmt := topS 28
abbrev N_handed : List Str := ["counters", "found", "counter", "row", "one", "other"]
abbrev P_handed : List Str := ["counters"]
theorem sc_handed : FnScope N_handed P_handed (defScope s_handed) := ⟨rfl, rfl, rfl, by decide +kernel, rfl, by decide +kernel, by decide +kernel⟩
abbrev s__law_box : Stmt := topS 30
abbrev N__law_box : List Str := ["_law_script", "_law_k", "_law_cell", "_law_seed"]
abbrev P__law_box : List Str := ["_law_script", "_law_k"]
theorem sc__law_box : FnScope N__law_box P__law_box (defScope s__law_box) := ⟨rfl, rfl, rfl, by decide +kernel, rfl, by decide +kernel, by decide +kernel⟩
abbrev s__law_take : Stmt := topS 31
abbrev N__law_take : List Str := ["_law_box_here", "_law_below", "_law_found", "_law_once", "_law_odd"]
abbrev P__law_take : List Str := ["_law_box_here", "_law_below"]
theorem sc__law_take : FnScope N__law_take P__law_take (defScope s__law_take) := ⟨rfl, rfl, rfl, by decide +kernel, rfl, by decide +kernel, by decide +kernel⟩
abbrev s__law_of : Stmt := topS 32
abbrev N__law_of : List Str := ["_law_box_here", "_law_some"]
abbrev P__law_of : List Str := ["_law_box_here", "_law_some"]
theorem sc__law_of : FnScope N__law_of P__law_of (defScope s__law_of) := ⟨rfl, rfl, rfl, by decide +kernel, rfl, by decide +kernel, by decide +kernel⟩
abbrev s__law_lists : Stmt := topS 33
abbrev N__law_lists : List Str := ["_law_matter", "_law_bit"]
abbrev P__law_lists : List Str := ["_law_matter"]
theorem sc__law_lists : FnScope N__law_lists P__law_lists (defScope s__law_lists) := ⟨rfl, rfl, rfl, by decide +kernel, rfl, by decide +kernel, by decide +kernel⟩
abbrev s__law_same : Stmt := topS 34
abbrev N__law_same : List Str := ["_law_found", "_law_due", "_law_mine", "_law_its"]
abbrev P__law_same : List Str := ["_law_found", "_law_due"]
theorem sc__law_same : FnScope N__law_same P__law_same (defScope s__law_same) := ⟨rfl, rfl, rfl, by decide +kernel, rfl, by decide +kernel, by decide +kernel⟩
abbrev s__law_names : Stmt := topS 35
abbrev N__law_names : List Str := ["_law_box_here", "_law_folk", "_law_pool", "_law_found", "_law_turn"]
abbrev P__law_names : List Str := ["_law_box_here", "_law_folk"]
theorem sc__law_names : FnScope N__law_names P__law_names (defScope s__law_names) := ⟨rfl, rfl, rfl, by decide +kernel, rfl, by decide +kernel, by decide +kernel⟩
abbrev s__law_log : Stmt := topS 36
abbrev N__law_log : List Str := ["_law_box_here", "_law_folk", "_law_many", "_law_thick", "_law_most", "_law_names_here", "_law_marks", "_law_letters", "_law_told", "_law_sizes", "_law_name", "_law_turn", "_law_event_so", "_law_others", "_law_own", "_law_lap", "_law_machines"]
abbrev P__law_log : List Str := ["_law_box_here", "_law_folk", "_law_many", "_law_thick", "_law_most"]
theorem sc__law_log : FnScope N__law_log P__law_log (defScope s__law_log) := ⟨rfl, rfl, rfl, by decide +kernel, rfl, by decide +kernel, by decide +kernel⟩
abbrev s__law_events : Stmt := topS 37
abbrev N__law_events : List Str := ["_law_log_so", "_law_found", "_law_machine", "_law_number"]
abbrev P__law_events : List Str := ["_law_log_so"]
theorem sc__law_events : FnScope N__law_events P__law_events (defScope s__law_events) := ⟨rfl, rfl, rfl, by decide +kernel, rfl, by decide +kernel, by decide +kernel⟩
abbrev s__law_marked : Stmt := topS 38
abbrev N__law_marked : List Str := ["_law_log_so", "_law_found", "_law_machine", "_law_number"]
abbrev P__law_marked : List Str := ["_law_log_so"]
theorem sc__law_marked : FnScope N__law_marked P__law_marked (defScope s__law_marked) := ⟨rfl, rfl, rfl, by decide +kernel, rfl, by decide +kernel, by decide +kernel⟩
abbrev s__law_order : Stmt := topS 39
abbrev N__law_order : List Str := ["_law_log_so", "_law_left", "_law_found", "_law_before", "_law_event_so", "_law_sent", "_law_come", "_law_here", "_law_own", "_law_some", "_law_far"]
abbrev P__law_order : List Str := ["_law_log_so"]
theorem sc__law_order : FnScope N__law_order P__law_order (defScope s__law_order) := ⟨rfl, rfl, rfl, by decide +kernel, rfl, by decide +kernel, by decide +kernel⟩
abbrev s__law_counters : Stmt := topS 40
abbrev N__law_counters : List Str := ["_law_box_here", "_law_order_so", "_law_some", "_law_many", "_law_rows", "_law_later", "_law_turn", "_law_own", "_law_far", "_law_event_so", "_law_fine", "_law_k"]
abbrev P__law_counters : List Str := ["_law_box_here", "_law_order_so", "_law_some", "_law_many"]
theorem sc__law_counters : FnScope N__law_counters P__law_counters (defScope s__law_counters) := ⟨rfl, rfl, rfl, by decide +kernel, rfl, by decide +kernel, by decide +kernel⟩
abbrev s__law_stamp : Stmt := topS 41
abbrev N__law_stamp : List Str := ["_law_order_so", "_law_rows", "_law_event_so", "_law_own", "_law_row"]
abbrev P__law_stamp : List Str := ["_law_order_so", "_law_rows", "_law_event_so"]
theorem sc__law_stamp : FnScope N__law_stamp P__law_stamp (defScope s__law_stamp) := ⟨rfl, rfl, rfl, by decide +kernel, rfl, by decide +kernel, by decide +kernel⟩
abbrev s__law_refused : Stmt := topS 42
abbrev N__law_refused : List Str := ["_law_log_so", "_law_rows", "_law_event_so", "_law_caught", "error"]
abbrev P__law_refused : List Str := ["_law_log_so", "_law_rows", "_law_event_so"]
theorem sc__law_refused : FnScope N__law_refused P__law_refused (defScope s__law_refused) := ⟨rfl, rfl, rfl, by decide +kernel, rfl, by decide +kernel, by decide +kernel⟩
abbrev s__law_place : Stmt := topS 43
abbrev N__law_place : List Str := ["_law_rows", "_law_event_so", "_law_k", "_law_row"]
abbrev P__law_place : List Str := ["_law_rows", "_law_event_so"]
theorem sc__law_place : FnScope N__law_place P__law_place (defScope s__law_place) := ⟨rfl, rfl, rfl, by decide +kernel, rfl, by decide +kernel, by decide +kernel⟩
abbrev s__law_handed : Stmt := topS 44
abbrev N__law_handed : List Str := ["_law_rows", "_law_found", "_law_k", "_law_row", "_law_nr"]
abbrev P__law_handed : List Str := ["_law_rows"]
theorem sc__law_handed : FnScope N__law_handed P__law_handed (defScope s__law_handed) := ⟨rfl, rfl, rfl, by decide +kernel, rfl, by decide +kernel, by decide +kernel⟩
abbrev s__law_right : Stmt := topS 45
abbrev N__law_right : List Str := ["_law_box_here", "_law_turn", "_law_log_so", "_law_soft", "_law_order_so", "_law_some", "_law_rows", "_law_dim", "_law_every", "_law_row", "_law_due", "_law_own", "_law_told", "_law_heard", "_law_event_so", "_law_odd"]
abbrev P__law_right : List Str := ["_law_box_here"]
theorem sc__law_right : FnScope N__law_right P__law_right (defScope s__law_right) := ⟨rfl, rfl, rfl, by decide +kernel, rfl, by decide +kernel, by decide +kernel⟩
abbrev s_law : Stmt := topS 46
abbrev N_law : List Str := ["_law_script", "_law_k"]
abbrev P_law : List Str := ["_law_script"]
theorem sc_law : FnScope N_law P_law (defScope s_law) := ⟨rfl, rfl, rfl, by decide +kernel, rfl, by decide +kernel, by decide +kernel⟩
/-- what the top has written -/
structure Tx (K : PySem.W.Frag) (mg : Str → Option Value) where
  LookupError : mg "LookupError" = none
  abs : mg "abs" = none
  all : mg "all" = none
  bool : mg "bool" = none
  dict : mg "dict" = none
  enumerate : mg "enumerate" = none
  int : mg "int" = none
  isinstance : mg "isinstance" = none
  len : mg "len" = none
  list : mg "list" = none
  min : mg "min" = none
  range : mg "range" = none
  set : mg "set" = none
  sorted : mg "sorted" = none
  str : mg "str" = none
  tuple : mg "tuple" = none
  zip : mg "zip" = none
  mheappop : mg "heappop" = some (.builtin "_heapq.heappop")
  mheappush : mg "heappush" = some (.builtin "_heapq.heappush")
  atupled : Addr
  dtupled : FuncData
  ftupled : Fun K "tupled" "tupled" s_tupled atupled dtupled
  mtupled : mg "tupled" = some (.ref atupled)
  btupled : Binds K dtupled P_tupled []
  ais_number : Addr
  dis_number : FuncData
  fis_number : Fun K "is_number" "is_number" s_is_number ais_number dis_number
  mis_number : mg "is_number" = some (.ref ais_number)
  bis_number : Binds K dis_number P_is_number []
  ais_tuple_of : Addr
  dis_tuple_of : FuncData
  fis_tuple_of : Fun K "is_tuple_of" "is_tuple_of" s_is_tuple_of ais_tuple_of dis_tuple_of
  mis_tuple_of : mg "is_tuple_of" = some (.ref ais_tuple_of)
  bis_tuple_of : Binds K dis_tuple_of P_is_tuple_of []
  alooks_like_event : Addr
  dlooks_like_event : FuncData
  flooks_like_event : Fun K "looks_like_event" "looks_like_event" s_looks_like_event alooks_like_event dlooks_like_event
  mlooks_like_event : mg "looks_like_event" = some (.ref alooks_like_event)
  blooks_like_event : Binds K dlooks_like_event P_looks_like_event []
  asizes_of : Addr
  dsizes_of : FuncData
  fsizes_of : Fun K "sizes_of" "sizes_of" s_sizes_of asizes_of dsizes_of
  msizes_of : mg "sizes_of" = some (.ref asizes_of)
  bsizes_of : Binds K dsizes_of P_sizes_of []
  ais_event : Addr
  dis_event : FuncData
  fis_event : Fun K "is_event" "is_event" s_is_event ais_event dis_event
  mis_event : mg "is_event" = some (.ref ais_event)
  bis_event : Binds K dis_event P_is_event []
  alinked : Addr
  dlinked : FuncData
  flinked : Fun K "linked" "linked" s_linked alinked dlinked
  mlinked : mg "linked" = some (.ref alinked)
  blinked : Binds K dlinked P_linked []
  aturned : Addr
  dturned : FuncData
  fturned : Fun K "turned" "turned" s_turned aturned dturned
  mturned : mg "turned" = some (.ref aturned)
  bturned : Binds K dturned P_turned []
  aleast_first : Addr
  dleast_first : FuncData
  fleast_first : Fun K "least_first" "least_first" s_least_first aleast_first dleast_first
  mleast_first : mg "least_first" = some (.ref aleast_first)
  bleast_first : Binds K dleast_first P_least_first []
  abefores_of : Addr
  dbefores_of : FuncData
  fbefores_of : Fun K "befores_of" "befores_of" s_befores_of abefores_of dbefores_of
  mbefores_of : mg "befores_of" = some (.ref abefores_of)
  bbefores_of : Binds K dbefores_of P_befores_of []
  aaheads_of : Addr
  daheads_of : FuncData
  faheads_of : Fun K "aheads_of" "aheads_of" s_aheads_of aaheads_of daheads_of
  maheads_of : mg "aheads_of" = some (.ref aaheads_of)
  baheads_of : Binds K daheads_of P_aheads_of []
  athere : Addr
  dthere : FuncData
  fthere : Fun K "there" "there" s_there athere dthere
  mthere : mg "there" = some (.ref athere)
  bthere : Binds K dthere P_there []
  aevents : Addr
  devents : FuncData
  fevents : Fun K "events" "events" s_events aevents devents
  mevents : mg "events" = some (.ref aevents)
  bevents : Binds K devents P_events []
  amarked : Addr
  dmarked : FuncData
  fmarked : Fun K "marked" "marked" s_marked amarked dmarked
  mmarked : mg "marked" = some (.ref amarked)
  bmarked : Binds K dmarked P_marked []
  acounted : Addr
  dcounted : FuncData
  fcounted : Fun K "counted" "counted" s_counted acounted dcounted
  mcounted : mg "counted" = some (.ref acounted)
  bcounted : Binds K dcounted P_counted []
  aplace : Addr
  dplace : FuncData
  fplace : Fun K "place" "place" s_place aplace dplace
  mplace : mg "place" = some (.ref aplace)
  bplace : Binds K dplace P_place []
  astamp_by : Addr
  dstamp_by : FuncData
  fstamp_by : Fun K "stamp_by" "stamp_by" s_stamp_by astamp_by dstamp_by
  mstamp_by : mg "stamp_by" = some (.ref astamp_by)
  bstamp_by : Binds K dstamp_by P_stamp_by []
  astamp : Addr
  dstamp : FuncData
  fstamp : Fun K "stamp" "stamp" s_stamp astamp dstamp
  mstamp : mg "stamp" = some (.ref astamp)
  bstamp : Binds K dstamp P_stamp []
  astamps : Addr
  dstamps : FuncData
  fstamps : Fun K "stamps" "stamps" s_stamps astamps dstamps
  mstamps : mg "stamps" = some (.ref astamps)
  bstamps : Binds K dstamps P_stamps []
  ahanded : Addr
  dhanded : FuncData
  fhanded : Fun K "handed" "handed" s_handed ahanded dhanded
  mhanded : mg "handed" = some (.ref ahanded)
  bhanded : Binds K dhanded P_handed []
  a_law_box : Addr
  d_law_box : FuncData
  f_law_box : Fun K "_law_box" "_law_box" s__law_box a_law_box d_law_box
  m_law_box : mg "_law_box" = some (.ref a_law_box)
  b_law_box : Binds K d_law_box P__law_box []
  a_law_take : Addr
  d_law_take : FuncData
  f_law_take : Fun K "_law_take" "_law_take" s__law_take a_law_take d_law_take
  m_law_take : mg "_law_take" = some (.ref a_law_take)
  b_law_take : Binds K d_law_take P__law_take []
  a_law_of : Addr
  d_law_of : FuncData
  f_law_of : Fun K "_law_of" "_law_of" s__law_of a_law_of d_law_of
  m_law_of : mg "_law_of" = some (.ref a_law_of)
  b_law_of : Binds K d_law_of P__law_of []
  a_law_lists : Addr
  d_law_lists : FuncData
  f_law_lists : Fun K "_law_lists" "_law_lists" s__law_lists a_law_lists d_law_lists
  m_law_lists : mg "_law_lists" = some (.ref a_law_lists)
  b_law_lists : Binds K d_law_lists P__law_lists []
  a_law_same : Addr
  d_law_same : FuncData
  f_law_same : Fun K "_law_same" "_law_same" s__law_same a_law_same d_law_same
  m_law_same : mg "_law_same" = some (.ref a_law_same)
  b_law_same : Binds K d_law_same P__law_same []
  a_law_names : Addr
  d_law_names : FuncData
  f_law_names : Fun K "_law_names" "_law_names" s__law_names a_law_names d_law_names
  m_law_names : mg "_law_names" = some (.ref a_law_names)
  b_law_names : Binds K d_law_names P__law_names []
  a_law_log : Addr
  d_law_log : FuncData
  f_law_log : Fun K "_law_log" "_law_log" s__law_log a_law_log d_law_log
  m_law_log : mg "_law_log" = some (.ref a_law_log)
  b_law_log : Binds K d_law_log P__law_log []
  a_law_events : Addr
  d_law_events : FuncData
  f_law_events : Fun K "_law_events" "_law_events" s__law_events a_law_events d_law_events
  m_law_events : mg "_law_events" = some (.ref a_law_events)
  b_law_events : Binds K d_law_events P__law_events []
  a_law_marked : Addr
  d_law_marked : FuncData
  f_law_marked : Fun K "_law_marked" "_law_marked" s__law_marked a_law_marked d_law_marked
  m_law_marked : mg "_law_marked" = some (.ref a_law_marked)
  b_law_marked : Binds K d_law_marked P__law_marked []
  a_law_order : Addr
  d_law_order : FuncData
  f_law_order : Fun K "_law_order" "_law_order" s__law_order a_law_order d_law_order
  m_law_order : mg "_law_order" = some (.ref a_law_order)
  b_law_order : Binds K d_law_order P__law_order []
  a_law_counters : Addr
  d_law_counters : FuncData
  f_law_counters : Fun K "_law_counters" "_law_counters" s__law_counters a_law_counters d_law_counters
  m_law_counters : mg "_law_counters" = some (.ref a_law_counters)
  b_law_counters : Binds K d_law_counters P__law_counters []
  a_law_stamp : Addr
  d_law_stamp : FuncData
  f_law_stamp : Fun K "_law_stamp" "_law_stamp" s__law_stamp a_law_stamp d_law_stamp
  m_law_stamp : mg "_law_stamp" = some (.ref a_law_stamp)
  b_law_stamp : Binds K d_law_stamp P__law_stamp []
  a_law_refused : Addr
  d_law_refused : FuncData
  f_law_refused : Fun K "_law_refused" "_law_refused" s__law_refused a_law_refused d_law_refused
  m_law_refused : mg "_law_refused" = some (.ref a_law_refused)
  b_law_refused : Binds K d_law_refused P__law_refused []
  a_law_place : Addr
  d_law_place : FuncData
  f_law_place : Fun K "_law_place" "_law_place" s__law_place a_law_place d_law_place
  m_law_place : mg "_law_place" = some (.ref a_law_place)
  b_law_place : Binds K d_law_place P__law_place []
  a_law_handed : Addr
  d_law_handed : FuncData
  f_law_handed : Fun K "_law_handed" "_law_handed" s__law_handed a_law_handed d_law_handed
  m_law_handed : mg "_law_handed" = some (.ref a_law_handed)
  b_law_handed : Binds K d_law_handed P__law_handed []
  a_law_right : Addr
  d_law_right : FuncData
  f_law_right : Fun K "_law_right" "_law_right" s__law_right a_law_right d_law_right
  m_law_right : mg "_law_right" = some (.ref a_law_right)
  b_law_right : Binds K d_law_right P__law_right []
  alaw : Addr
  dlaw : FuncData
  flaw : Fun K "law" "law" s_law alaw dlaw
  mlaw : mg "law" = some (.ref alaw)
  blaw : Binds K dlaw P_law []
  cE : Addr
  iE : Addr
  cM : Addr
  cA : Addr
  cB : Addr
  noev : XB.NoEv K mg cE iE
  errC : ErrC K cE
  gM : mg "NoMachine" = some (.ref cM)
  gA : mg "NotAhead" = some (.ref cA)
  gB : mg "BadLine" = some (.ref cB)
  four : PySem.W.exmAny K (.ref cE) [.ref cB, .ref cE, .ref cM, .ref cA] = some true
  isL : PySem.W.kitOne K (.ref cE) (.type "LookupError") = some true
  isM : PySem.W.kitOne K (.ref cE) (.ref cM) = some false
variable {P : Program} {w : World} {K : PySem.W.Frag} {mg : Str → Option Value} {base : Heap}

end L2.K06
namespace L2.K06
open PySem PySem.Spec PyProof.Rows L2.My
open HQ (Ev evD)
variable {P : Program} {w : World} {K : PySem.W.Frag} {mg : Str → Option Value} {base : Heap}
theorem ok__law_box (T : Tx K mg) : FnOk P w K mg base CX0 1 T.a_law_box T.d_law_box P__law_box (spBox K) := by
  refine T.f_law_box.ok sc__law_box (fun vs H Q E h => ?_) (fun cdv A outer s H vs Q E hr h => ?_)
  · obtain ⟨a, ns, k, rfl, _⟩ := h
    rfl
  obtain ⟨a, ns, k, rfl, hS, hk, q⟩ := h
  refine ⟨_, (pss_cons (ps_set (i := 2) sc__law_box.nd rfl (Or.inl rfl) (pe_ifExp (pt_cmpR op_lt (pv 1) (pe_callB call_len_seq (by rfl) T.len (by decide +kernel) (pa_cons (pv 0) pa_nil)) (nomark _)) (pe_ix ix_list (pv 0) (pv 1) (fun _ _ => rfl)) pe_int))
  (pss_cons (ps_set (i := 3) sc__law_box.nd rfl (Or.inl rfl) (pe_op op_modN (pe_callTy call_int1 (by rfl) T.int (by decide +kernel) (pa_cons (pe_op op_mul (pe_op op_add (pe_op op_add (pe_op op_modN (pe_callTy call_int1 (by rfl) T.int (by decide +kernel) (pa_cons (pv 2) pa_nil)) pe_int) (pe_op op_mul pe_int (pv 1))) pe_int) pe_int) pa_nil)) pe_int))
  (pss_one (ps_ret (pe_lst (pa_cons (pe_op op_mul (pe_callB call_abs (by rfl) T.abs (by decide +kernel) (pa_cons (pv 2) pa_nil)) (pe_callTy call_int1 (by rfl) T.int (by decide +kernel) (pa_cons (pe_cmpR op_ge (pe_callB call_abs (by rfl) T.abs (by decide +kernel) (pa_cons (pv 2) pa_nil)) (pe_op op_pow pe_int pe_int) (nomark _)) pa_nil))) (pa_cons (pv 3) (pa_cons pe_int pa_nil)))))))), ?_⟩
  refine tIf_int (fun Q' k' => ?_) (fun z => ?_)
  · refine ⟨_, rfl, _, rfl, a, _, rfl, .inl hS, _, _, rfl, rfl, _, rfl, ?_⟩
    refine ite2 (fun c => ?_) (fun c => ?_)
    · have c := of_decide_eq_true c
      rw [List.length_map] at c
      have hk' : k < ns.length := by omega
      exact ⟨_, rfl, _, rfl, a, _, _, _, rfl, rfl, hS, int_at hk', k' _⟩
    · exact k' _
  · have b1 : (-(2 : Int) ^ 64 < 44021 ∧ (44021 : Int) < 2 ^ 64) := by decide
    refine ⟨_, rfl, .inl ⟨_, rfl, _, _, rfl, rfl, (fun h => absurd h (by decide)), _, rfl, _, _, rfl, rfl, .inl b1, _, _, rfl, rfl, _, _, rfl, rfl, _, _, rfl, rfl, .inr (by decide), .inl ⟨_, rfl, _, _, rfl, rfl, (fun h => absurd h (by decide)), ?_⟩⟩⟩
    refine ⟨_, rfl, _, rfl, _, rfl, _, rfl, _, _, rfl, rfl, ⟨by decide, by decide, by decide⟩, _, _, rfl, rfl, .inr ⟨_, rfl, _, _, rfl, rfl, .inr (b01 _), ?_⟩⟩
    exact ⟨_, rfl, (by show 3 ≤ sizeLine; decide), fun p hp => q p _ (same_new hp _) hp ⟨_, _, _, upd_same, b01_nn _ _ (abs_nn z), Int.fmod_nonneg_of_pos _ (by decide), Int.fmod_lt_of_pos _ (by decide), by decide, by decide⟩⟩
theorem ok__law_take (T : Tx K mg) : FnOk P w K mg base CX0 1 T.a_law_take T.d_law_take P__law_take spTake := by
  refine T.f_law_take.ok sc__law_take (fun vs H Q E h => ?_) (fun cdv A outer s H vs Q E hr h => ?_)
  · obtain ⟨b, n, c, rfl, _⟩ := h
    rfl
  obtain ⟨b, n, c, rfl, ⟨x, sd, k, hb, x0, s0, s1, k0, kc⟩, hc, n0, n1, q⟩ := h
  have sq : SqL K H b [.int x, .int sd, .int k] := .inl (.inl hb)
  refine ⟨_, (pss_cons (ps_if (pt_cmpR op_gt (pe_ix ix_list (pv 0) pe_int (fun _ _ => rfl)) pe_int (nomark _))
    (pss_cons (ps_set (i := 2) sc__law_take.nd rfl (Or.inl rfl) (pe_op op_modN (pe_callTy call_int1 (by rfl) T.int (by decide +kernel) (pa_cons (pe_ix ix_list (pv 0) pe_int (fun _ _ => rfl)) pa_nil)) (pv 1)))
      (pss_cons (ps_asg (pe_op op_fdivN (pe_ix ix_list (pv 0) pe_int (fun _ _ => rfl)) (pv 1)) (pg_sub (pv 0) pe_int set_list))
      (pss_one (ps_ret (pv 2)))))
    pss_nil)
  (pss_cons (ps_asg (pe_op op_add (pe_ix ix_list (pv 0) pe_int (fun _ _ => rfl)) pe_int) (pg_sub (pv 0) pe_int set_list))
  (pss_cons (ps_set (i := 3) sc__law_take.nd rfl (Or.inl rfl) (pe_op op_modN (pe_callTy call_int1 (by rfl) T.int (by decide +kernel) (pa_cons (pe_op op_pow (pe_op op_add (pe_ix ix_list (pv 0) pe_int (fun _ _ => rfl)) (pe_op op_mul pe_int (pe_ix ix_list (pv 0) pe_int (fun _ _ => rfl)))) pe_int) pa_nil)) pe_int))
  (pss_cons (ps_set (i := 4) sc__law_take.nd rfl (Or.inl rfl) (pe_op op_add (pe_op op_modN (pe_callTy call_int1 (by rfl) T.int (by decide +kernel) (pa_cons (pv 3) pa_nil)) pe_int) pe_int))
  (pss_one (ps_ret (pe_op op_modN (pe_callTy call_int1 (by rfl) T.int (by decide +kernel) (pa_cons (pe_op op_fdivN (pe_op op_modN (pe_callTy call_int1 (by rfl) T.int (by decide +kernel) (pa_cons (pe_op op_add (pe_op op_mul (pv 3) (pv 4)) (pe_op op_mul (pe_ix ix_list (pv 0) pe_int (fun _ _ => rfl)) pe_int)) pa_nil)) pe_int) pe_int) pa_nil)) (pv 1)))))))), ?_⟩
  refine ⟨_, rfl, _, _, _, _, rfl, rfl, sq, at0, _, _, rfl, rfl, _, rfl, ?_⟩
  refine ite2 (fun c1 => ?_) (fun c1 => ?_)
  · refine ⟨_, rfl, _, _, _, _, rfl, rfl, sq, at0, .inl ⟨_, rfl, _, rfl, _, _, rfl, rfl, ?_, ?_⟩⟩
    · show n ≠ 0
      omega
    refine ⟨_, rfl, _, _, _, _, rfl, rfl, sq, at0, _, rfl, _, _, rfl, rfl, ⟨by omega, by omega⟩, _, rfl, b, _, _, 0, rfl, rfl, hb, rfl, ?_⟩
    refine ⟨_, rfl, q _ _ (Int.fmod_nonneg_of_pos _ n0) (Int.fmod_lt_of_pos _ n0) ⟨_, _, _, upd_same, ?_, s0, s1, k0, by omega⟩ (but_upd b _)⟩
    exact Int.fdiv_nonneg x0 (by omega)
  · refine ⟨_, rfl, _, _, _, _, rfl, rfl, sq, at2, _, _, rfl, rfl, _, rfl, b, _, _, 2, rfl, rfl, hb, rfl, ?_⟩
    have sq2 : SqL K (upd H b (.lst [.int x, .int sd, .int (k + 1)])) b [.int x, .int sd, .int (k + 1)] := .inl (.inl upd_same)
    refine ⟨_, rfl, _, _, _, _, rfl, rfl, sq2, at1, _, rfl, _, _, _, _, rfl, rfl, sq2, at2, _, _, rfl, rfl, .inl (by decide), _, _, rfl, rfl, _, _, rfl, rfl, ⟨by decide, by decide, ?_⟩, .inl ⟨_, rfl, _, _, rfl, rfl, (fun h => absurd h (by decide)), ?_⟩⟩
    · have h1 : sd < 2147483563 := s1
      have h2 : k < 1000000000000 := by omega
      show (sd + 52919 * (k + 1)).natAbs < 2 ^ 64
      omega
    generalize ho : ((sd + 52919 * (k + 1)) ^ (3 : Int).toNat).fmod 2147483549 = once
    have o0 : 0 ≤ once := ho ▸ Int.fmod_nonneg_of_pos _ (by decide)
    have o1 : once < 2147483549 := ho ▸ Int.fmod_lt_of_pos _ (by decide)
    refine ⟨_, rfl, .inl ⟨_, rfl, _, _, rfl, rfl, (fun h => absurd h (by decide)), _, _, rfl, rfl, ?_⟩⟩
    refine ⟨_, rfl, _, rfl, _, _, rfl, rfl, .inl ⟨?_, ?_⟩, _, rfl, _, _, _, _, rfl, rfl, sq2, at2, _, _, rfl, rfl, .inr (by decide), _, _, rfl, rfl, .inl ⟨_, rfl, _, _, rfl, rfl, (fun h => absurd h (by decide)), _, _, rfl, rfl, ⟨by decide, by decide⟩, .inl ⟨_, rfl, _, rfl, _, _, rfl, rfl, ?_, ?_⟩⟩⟩
    · omega
    · omega
    · show n ≠ 0
      omega
    · exact q _ _ (Int.fmod_nonneg_of_pos _ n0) (Int.fmod_lt_of_pos _ n0) ⟨_, _, _, upd_same, x0, s0, s1, by omega, by omega⟩ (but_upd b _)
theorem ok__law_of (T : Tx K mg) : FnOk P w K mg base CX0 2 T.a_law_of T.d_law_of P__law_of spOf := by
  have G__law_take := ok__law_take (P := P) (w := w) (base := base) T
  refine T.f_law_of.ok sc__law_of (fun vs H Q E h => ?_) (fun cdv A outer s H vs Q E hr h => ?_)
  · obtain ⟨b, l, c, xs, rfl, _⟩ := h
    rfl
  obtain ⟨b, l, c, xs, rfl, hB, hc, hl, hlb, hne, hn, q⟩ := h
  have n0 : 0 < xs.length := List.length_pos_iff.mpr hne
  refine ⟨_, (pss_one (ps_ret (pe_ix ix_list (pv 1) (pe_call G__law_take (hr.mono (by decide)) (by rfl) T.m_law_take T.f_law_take.kp T.b_law_take .nil pass0 (pa_cons (pv 0) (pa_cons (pe_callB call_len_seq (by rfl) T.len (by decide +kernel) (pa_cons (pv 1) pa_nil)) pa_nil))) (fun _ _ => rfl)))), ?_⟩
  refine ⟨_, rfl, _, rfl, _, rfl, l, _, rfl, .inl (.inl (.inl hl)), b, _, c, rfl, hB, hc, by omega, by omega, fun r H' r0 r1 hB' hbut => ?_⟩
  have hr' : r.toNat < xs.length := by omega
  have er : r = ((r.toNat : Nat) : Int) := by omega
  have hl' : H' l = some (.lst xs) := hbut _ _ hlb hl
  exact ⟨l, xs, r, _, rfl, rfl, .inl (.inl hl'), at_int r0 hr', q _ _ (List.getElem_mem hr') hB' hbut⟩

end L2.K06
namespace L2.K06
open PySem PySem.Spec PyProof.Rows L2.My
open HQ (Ev evD)
variable {P : Program} {w : World} {K : PySem.W.Frag} {mg : Str → Option Value} {base : Heap}
theorem ok__law_names (T : Tx K mg) : FnOk P w K mg base CX0 2 T.a_law_names T.d_law_names P__law_names spNames := by
  have G__law_take := ok__law_take (P := P) (w := w) (base := base) T
  refine T.f_law_names.ok sc__law_names (fun vs H Q E h => ?_) (fun cdv A outer s H vs Q E hr h => ?_)
  · obtain ⟨b, n, c, rfl, _⟩ := h
    rfl
  obtain ⟨b, n, c, rfl, hB, hc, n0, n7, q⟩ := h
  refine ⟨_, (pss_cons (ps_par (i := 2) (j := 3) (by rfl) sc__law_names.nd rfl rfl (by decide) rfl rfl (pa_cons (pe_lst (pa_cons pe_str (pa_cons pe_str (pa_cons pe_str (pa_cons pe_str (pa_cons pe_str (pa_cons pe_str (pa_cons pe_str pa_nil)))))))) (pa_cons (pe_lst pa_nil) pa_nil)) (by rfl))
  (pss_cons (ps_for PassesOwn.never rfl (pi_range1 (by rfl) T.range (pa_cons (pv 1) pa_nil)) (pg_name (i := 4) sc__law_names.nd rfl (Or.inl rfl))
    (pss_one (ps_expr (pe_bm PySem.F.plainAttrs_list PySem.F.slot_list_append PySem.F.type_list_append mt_append (pv 3) (pa_cons (pe_bm PySem.F.plainAttrs_list PySem.F.slot_list_pop PySem.F.type_list_pop mt_popAt (pv 2) (pa_cons (pe_call G__law_take (hr.mono (by decide)) (by rfl) T.m_law_take T.f_law_take.kp T.b_law_take .nil pass0 (pa_cons (pv 0) (pa_cons (pe_callB call_len_seq (by rfl) T.len (by decide +kernel) (pa_cons (pv 2) pa_nil)) pa_nil))) pa_nil)) pa_nil)))))
  (pss_one (ps_ret (pe_callB (cr_sortD hr.units) (by rfl) T.sorted (by decide +kernel) (pa_cons (pv 3) pa_nil)))))), ?_⟩
  refine ⟨(by show 7 ≤ sizeLine; decide), fun p np => ⟨(by show 0 ≤ sizeLine; decide), fun f nf => ⟨_, _, rfl, _, rfl, n, rfl, by omega, by omega, ?_⟩⟩⟩
  have npb : p ≠ b := fun e => by obtain ⟨xs, z⟩ := hB.lst; rw [e, z] at np; cases np
  have s1 : Same H (upd H p (.lst (pool.map V.str))) := same_new np _
  have s2 : Same (upd H p (.lst (pool.map V.str))) (upd (upd H p (.lst (pool.map V.str))) f (.lst [])) := same_new nf _
  have nfp : f ≠ p := fun e => by rw [e, upd_same] at nf; cases nf
  have nfH : H f = none := by rw [upd_ne nfp] at nf; exact nf
  have nfb : f ≠ b := fun e => by obtain ⟨xs, z⟩ := hB.lst; rw [e, z] at nfH; cases nfH
  refine for_range (n := n.toNat) (fun i σ H' => ∃ (ps fs : List Str) (t4 : Option V), σ = [some (.ref b), some (.int n), some (.ref p), some (.ref f), t4] ∧ H' p = some (.lst (ps.map V.str)) ∧ H' f = some (.lst (fs.map V.str)) ∧ (ps ++ fs).Perm pool ∧
    fs.length = i ∧ Bx H' b (c + i) ∧ (∀ a o, a ≠ b → a ≠ p → a ≠ f → H a = some o → H' a = some o)) ?_ ?_ ?_
  · refine ⟨pool, [], none, rfl, by rw [upd_ne (Ne.symm nfp), upd_same]; rfl, upd_same, by rw [List.append_nil], rfl, ((hB.same s1).same s2).le (by omega), fun a o _ _ _ e => s2 _ _ (s1 _ _ e)⟩
  · rintro i σ H' hi ⟨ps, fs, t4, rfl, hp, hf, pm, fl, hB', old⟩
    have lps : ps.length + i = 7 := by
      have := pm.length_eq
      rw [List.length_append, fl] at this
      exact this
    have fne : ps ≠ [] := fun e => by rw [e] at lps; simp at lps; omega
    refine ⟨_, rfl, .inl ⟨rfl, _, .inl (.inl hf)⟩, _, rfl, .inl ⟨rfl, _, .inl (.inl hp)⟩, _, rfl, _, rfl, p, _, rfl, .inl (.inl (.inl hp)), b, _, _, rfl, hB', by omega, ?_, ?_, fun r H2 r0 r1 hB2 k2 => ?_⟩
    · rw [List.length_map]
      have := List.length_pos_iff.mpr fne
      omega
    · rw [List.length_map]
      omega
    rw [List.length_map] at r1
    have hp2 := k2 _ _ npb hp
    have hf2 := k2 _ _ nfb hf
    have lr : r.toNat < ps.length := by omega
    have hy : ps[r.toNat]? = some ps[r.toNat] := List.getElem?_eq_getElem lr
    refine ⟨p, _, r, r.toNat, .str ps[r.toNat], rfl, rfl, hp2, by omega, by omega, ?_, by rw [List.getElem?_map, hy]; rfl, ?_⟩
    · rw [List.length_map]
      exact seqIx r0 lr
    have pe := er_perm hy
    refine ⟨f, _, _, rfl, rfl, by rw [upd_ne nfp]; exact hf2, ?_, ?_⟩
    · rw [List.length_map, fl, sizeLine_eq]
      omega
    refine ⟨ps.eraseIdx r.toNat, fs ++ [ps[r.toNat]], some _, rfl, ?_, ?_, ?_, ?_, ?_, fun a o ab ap af e => ?_⟩
    · rw [upd_ne (Ne.symm nfp), upd_same, er_map]
    · rw [upd_same, List.map_append]
      rfl
    · refine List.Perm.trans ?_ pm
      rw [← List.append_assoc]
      refine (List.perm_append_singleton _ _).trans ?_
      exact (pe.append_right fs)
    · rw [List.length_append, fl]
      rfl
    · obtain ⟨x, sd, k, hb, z⟩ := hB2
      exact ⟨x, sd, k, by rw [upd_ne (Ne.symm nfb), upd_ne (Ne.symm npb)]; exact hb, z.1, z.2.1, z.2.2.1, z.2.2.2.1, by omega⟩
    · rw [upd_ne af, upd_ne ap]
      exact k2 _ _ ab (old a o ab ap af e)
  · rintro σ H' ⟨ps, fs, t4, rfl, hp, hf, pm, fl, hB', old⟩
    refine ⟨_, rfl, f, fs.map (fun x => (V.str x, PyData.str x)), rfl, .inl (.inl (by rw [List.map_map]; exact hf)), strs_dp fs, strs_alike fs, strs_sortable fs, ?_, ?_, fun zs' p' pm' pw np' => ?_⟩
    · rw [List.length_map, fl, sizeLine_eq]
      omega
    · intro z hz
      obtain ⟨x, _, rfl⟩ := List.mem_map.mp hz
      simp [PyData.depth]
    obtain ⟨ns, rfl, pn⟩ := perm_inv pm' rfl
    have fnd : fs.Nodup := (List.nodup_append.mp (pm.nodup_iff.mpr pool_nd)).2.1
    have nnd : ns.Nodup := pn.nodup_iff.mpr fnd
    have asc : Asc ns := asc_of (List.pairwise_map.mp pw) nnd
    have npH : H p' = none := by
      cases e : H p' with
      | none => rfl
      | some o =>
        by_cases e1 : p' = b
        · obtain ⟨xs, z⟩ := hB'.lst
          rw [e1, z] at np'
          cases np'
        · rw [old p' o e1 (fun z => by rw [z, hp] at np'; cases np') (fun z => by rw [z, hf] at np'; cases np') e] at np'
          cases np'
    refine q p' _ ns ?_ (fun a o ab e => ?_) npH ?_ ?_ asc fun x hx => ?_
    · have nb : b ≠ p' := fun e => by obtain ⟨xs, z⟩ := hB'.lst; rw [← e, z] at np'; cases np'
      obtain ⟨x, sd, k, hb, z⟩ := hB'
      exact ⟨x, sd, k, by rw [upd_ne nb]; exact hb, z.1, z.2.1, z.2.2.1, z.2.2.2.1, by omega⟩
    · by_cases ap : a = p
      · rw [ap, np] at e; cases e
      · by_cases af : a = f
        · rw [af, nfH] at e; cases e
        · rw [upd_ne (ne_of_none (old a o ab ap af e) np')]
          exact old a o ab ap af e
    · rw [upd_same, List.map_map]
      rfl
    · rw [pn.length_eq, fl]
      omega
    · exact pm.mem_iff.mp (List.mem_append_right _ (pn.mem_iff.mp hx))

end L2.K06
namespace L2.K06
open PySem PySem.Spec PyProof.Rows L2.My
open HQ (Ev evD)
variable {P : Program} {w : World} {K : PySem.W.Frag} {mg : Str → Option Value} {base : Heap}
def spTupled (n : Nat) : Sp := fun vs H Q _ => ∃ (v : V) (d : PyData), vs = [v] ∧ Rp H v d ∧ d.depth < n ∧ slim d = true ∧ ∀ v' H', Same H H' → Tp H' v' (tupD d) → Q v' H'
def spLists (n : Nat) : Sp := fun vs H Q _ => ∃ (v : V) (d : PyData), vs = [v] ∧ Rp H v d ∧ d.depth < n ∧ slim d = true ∧ ∀ v' H', Same H H' → Nw H H' v' (lstD d) → Q v' H'
theorem no_call {k : Nat} {f : Addr} {fd : FuncData} {ps : List Str} {sp : Sp} (h : ∀ vs H Q E, ¬ sp vs H Q E) : FnOk P w K mg base CX0 k f fd ps sp :=
  ⟨fun vs H Q E z => absurd z (h vs H Q E), fun A outer s H args us vs Q E _ _ _ _ z => absurd z (h vs H Q E)⟩
theorem ok_tupled (T : Tx K mg) : ∀ n, FnOk P w K mg base CX0 n T.atupled T.dtupled P_tupled (spTupled n)
  | 0 => no_call fun vs H Q E ⟨_, _, _, _, h, _⟩ => Nat.not_lt_zero _ h
  | n + 1 => by
    have G_tupled := ok_tupled T n
    refine T.ftupled.ok sc_tupled (fun vs H Q E h => ?_) (fun cdv A outer s H vs Q E hr h => ?_)
    · obtain ⟨v, d, rfl, _⟩ := h
      rfl
    obtain ⟨v, d, rfl, hv, hn, hs, q⟩ := h
    refine ⟨_, (pss_cons (ps_if (pt_val (pe_callB call_isiT (by rfl) T.isinstance (by decide +kernel) (pa_cons (pv 0) (pa_cons (pe_tup (pa_cons (pe_bltn (v := .ty "list") (u := .type "list") (by rfl) T.list (by decide +kernel) rfl) (pa_cons (pe_bltn (v := .ty "tuple") (u := .type "tuple") (by rfl) T.tuple (by decide +kernel) rfl) pa_nil))) pa_nil))))
    (pss_one (ps_ret (pe_callTy call_tuple_of (by rfl) T.tuple (by decide +kernel) (pa_cons (pe_lc (own := [("part", 1)]) (g := (gName 1)) rfl sc_tupled.nd (pi_seq (pv 0)) (blkOk_by (own := [("part", 1)]) (N := N_tupled) (sc := defScope s_tupled) (by decide +kernel)) (fun _ _ _ _ _ => (pg_name (i := 1) sc_tupled.nd rfl (Or.inl rfl))) (fun _ _ _ _ _ => pts_nil) (fun _ _ _ _ _ => (pe_call G_tupled hr (by rfl) T.mtupled T.ftupled.kp T.btupled .nil pass0 (pa_cons (pv 1) pa_nil)))) pa_nil))))
    pss_nil)
  (pss_one (ps_ret (pv 0)))), ?_⟩
    refine ⟨_, rfl, (by show 2 ≤ sizeLine; decide), fun tp htp => ⟨_, tp, _, _, _, _, rfl, upd_same, .cons (.ty _) (.cons (.ty _) .nil), (hv.same (same_new htp _)).ty, kit_seq hv, _, rfl, ?_⟩⟩
    have s1 := same_new htp (.tup [.ty "list", .ty "tuple"])
    cases hq : isSeq d with
    | false =>
      refine iteF ⟨_, rfl, q _ _ s1 ?_⟩
      exact ((atom_tp hv hq).1).keep (.same s1)
    | true =>
      refine iteT ?_
      obtain ⟨a, xs, ds, rfl, hx, hxs⟩ := seq_rp (K := K) hv hq
      have facts : ds.length ≤ 1000 ∧ (∀ e ∈ ds, slim e = true) ∧ (∀ e ∈ ds, e.depth < n) ∧ tupD d = .tuple (ds.map tupD) := by
        rcases hx with ⟨_, rfl⟩ | ⟨_, rfl⟩ <;> simp only [slim, Bool.and_eq_true, decide_eq_true_eq, PyData.depth] at hs hn <;>
          exact ⟨hs.1, slims_mem hs.2, fun e he => by have := depth_mem (Nat.le_refl _) e he; omega, by simp only [tupD, tupDs_map]⟩
      obtain ⟨f1, f2, f3, f4⟩ := facts
      have lx := hxs.length
      refine ⟨_, rfl, a, rfl, ?_⟩
      have turn : ∀ (D : Addr) (j : Nat) (x : V) (H1 : Hp) (Q' : VK), xs[j]? = some x → Same (upd H tp (.tup [.ty "list", .ty "tuple"])) H1 → (∃ zs, H1 D = some (.lst zs)) →
          (∀ y H2, Same H1 H2 → (∃ d, ds[j]? = some d ∧ Tp H2 y (tupD d)) → Q' y H2) → tCall (spTupled n) [] E0 (tCons (tVar 1) tNil) ((wipe (start N_tupled [.ref a]) [1]).set 1 (some x)) H1 Q' := by
        intro D j x H1 Q' hxj hS _ k
        obtain ⟨e, he, hxe⟩ := hxs.get hxj
        have em := List.mem_of_getElem? he
        exact ⟨x, rfl, x, e, rfl, (hxe.same s1).same hS, f3 e em, f2 e em, fun v' H' s t => k v' H' s ⟨e, he, t⟩⟩
      have done : ∀ (D : Addr) (H' : Hp) (ys : List V), Same (upd H tp (.tup [.ty "list", .ty "tuple"])) H' → H' D = some (.lst ys) → ys.length = xs.length → (∀ (j : Nat) (y : V), ys[j]? = some y → ∃ d, ds[j]? = some d ∧ Tp H' y (tupD d)) →
          ∃ p zs, [V.ref D] = [.ref p] ∧ ((SqL K H' p zs ∧ ∀ l, H' l = none → Q (.ref l) (upd H' l (.tup zs))) ∨ (SqT K H' p zs ∧ Q (.ref p) H')) := by
        intro D H' ys s2 hD ly hR
        refine ⟨D, ys, rfl, .inl ⟨.inl (.inl hD), fun l nl => q _ _ ((s1.trans s2).trans (same_new nl _)) ?_⟩⟩
        rw [f4]
        exact .tup upd_same ((tpAll_of (by omega) hR).keep (.same (same_new nl _)))
      have lz : xs.length ≤ sizeLine := by rw [lx, sizeLine_eq]; omega
      rcases hx with ⟨hx, _⟩ | ⟨hx, _⟩
      · have hx1 := s1 _ _ hx
        refine .inl ⟨⟨_, .inl (.inl hx1)⟩, fun D nD => ?_⟩
        exact lc_mapL hx1 nD lz (fun j y H' => ∃ d, ds[j]? = some d ∧ Tp H' y (tupD d)) (fun j y _ _ s ⟨d, e, t⟩ => ⟨d, e, t.keep (.same s)⟩)
          (fun j y H1 zs o hD ⟨d, e, t⟩ => ⟨d, e, t.keep (tk_upd hD o)⟩) (fun _ => rfl) (turn D) (done D)
      · have hx1 := s1 _ _ hx
        refine .inr ⟨⟨_, .inl (.inl hx1)⟩, fun D nD => ?_⟩
        exact lc_mapT hx1 nD lz (fun j y H' => ∃ d, ds[j]? = some d ∧ Tp H' y (tupD d)) (fun j y _ _ s ⟨d, e, t⟩ => ⟨d, e, t.keep (.same s)⟩)
          (fun j y H1 zs o hD ⟨d, e, t⟩ => ⟨d, e, t.keep (tk_upd hD o)⟩) (fun _ => rfl) (turn D) (done D)

end L2.K06
namespace L2.K06
open PySem PySem.Spec PyProof.Rows L2.My
open HQ (Ev evD)
variable {P : Program} {w : World} {K : PySem.W.Frag} {mg : Str → Option Value} {base : Heap}
def spNum : Sp := fun vs H Q _ => ∃ i : Int, vs = [.int i] ∧ Q (.bl true) H
theorem ok_is_number (T : Tx K mg) : FnOk P w K mg base CX0 1 T.ais_number T.dis_number P_is_number spNum := by
  refine T.fis_number.ok sc_is_number (fun vs H Q E h => ?_) (fun cdv A outer s H vs Q E hr h => ?_)
  · obtain ⟨i, rfl, _⟩ := h
    rfl
  obtain ⟨i, rfl, q⟩ := h
  refine ⟨_, (pss_one (ps_ret (pe_and (pe_callB isiH (by rfl) T.isinstance (by decide +kernel) (pa_cons (pv 0) (pa_cons (pe_bltn (v := .ty "int") (u := .type "int") (by rfl) T.int (by decide +kernel) rfl) pa_nil))) (pe_one (pe_not (pe_callB isiH (by rfl) T.isinstance (by decide +kernel) (pa_cons (pv 0) (pa_cons (pe_bltn (v := .ty "bool") (u := .type "bool") (by rfl) T.bool (by decide +kernel) rfl) pa_nil)))))))), ?_⟩
  refine ⟨_, rfl, .int i, "int", .int i, true, rfl, .int i, kb_int_int, _, rfl, iteT ?_⟩
  exact ⟨_, rfl, .int i, "bool", .int i, false, rfl, .int i, kb_int_bool, _, rfl, q⟩
theorem kb_tuple_tuple : kitB "tuple" "tuple" = some true := by decide +kernel
def spTupOf : Sp := fun vs H Q _ => ∃ (a : Addr) (xs : List V) (ds : List PyData) (n : Int), vs = [.ref a, .int n] ∧ H a = some (.tup xs) ∧ RpAll H xs ds ∧ Q (.bl (decide ((xs.length : Int) = n))) H
theorem ok_is_tuple_of (T : Tx K mg) : FnOk P w K mg base CX0 1 T.ais_tuple_of T.dis_tuple_of P_is_tuple_of spTupOf := by
  refine T.fis_tuple_of.ok sc_is_tuple_of (fun vs H Q E h => ?_) (fun cdv A outer s H vs Q E hr h => ?_)
  · obtain ⟨a, xs, ds, n, rfl, _⟩ := h
    rfl
  obtain ⟨a, xs, ds, n, rfl, ha, hx, q⟩ := h
  refine ⟨_, (pss_one (ps_ret (pe_and (pe_callB isiH (by rfl) T.isinstance (by decide +kernel) (pa_cons (pv 0) (pa_cons (pe_bltn (v := .ty "tuple") (u := .type "tuple") (by rfl) T.tuple (by decide +kernel) rfl) pa_nil))) (pe_one (pe_cmpR op_eq (pe_callB lenH (by rfl) T.len (by decide +kernel) (pa_cons (pv 0) pa_nil)) (pv 1) (nomark _)))))), ?_⟩
  refine ⟨_, rfl, .ref a, "tuple", .tuple ds, true, rfl, .tup ha hx, kb_tuple_tuple, _, rfl, iteT ?_⟩
  refine ⟨_, rfl, a, xs, rfl, .inr ha, _, rfl, rfl, ?_⟩
  have e : decide (V.int (xs.length : Int) = V.int n) = decide ((xs.length : Int) = n) := by
    by_cases c : (xs.length : Int) = n <;> simp [c]
  rw [e]
  exact q
def spLL : Sp := fun vs H Q _ => ∃ (z : Addr × Ev), vs = [.ref z.1] ∧ EvR H z ∧ Q (.bl true) H
theorem ok_looks_like_event (T : Tx K mg) : FnOk P w K mg base CX0 2 T.alooks_like_event T.dlooks_like_event P_looks_like_event spLL := by
  have G_is_number := ok_is_number (P := P) (w := w) (base := base) T
  have G_is_tuple_of := ok_is_tuple_of (P := P) (w := w) (base := base) T
  refine T.flooks_like_event.ok sc_looks_like_event (fun vs H Q E h => ?_) (fun cdv A outer s H vs Q E hr h => ?_)
  · obtain ⟨z, rfl, _⟩ := h
    rfl
  obtain ⟨z, rfl, hz, q⟩ := h
  refine ⟨_, (pss_one (ps_ret (pe_and (pe_call G_is_tuple_of (hr.mono (by decide)) (by rfl) T.mis_tuple_of T.fis_tuple_of.kp T.bis_tuple_of .nil pass0 (pa_cons (pv 0) (pa_cons pe_int pa_nil))) (pe_and (pe_callB isiH (by rfl) T.isinstance (by decide +kernel) (pa_cons (pe_ix ixT (pv 0) pe_int (fun _ _ => rfl)) (pa_cons (pe_bltn (v := .ty "str") (u := .type "str") (by rfl) T.str (by decide +kernel) rfl) pa_nil))) (pe_one (pe_call G_is_number (hr.mono (by decide)) (by rfl) T.mis_number T.fis_number.kp T.bis_number .nil pass0 (pa_cons (pe_ix ixT (pv 0) pe_int (fun _ _ => rfl)) pa_nil))))))), ?_⟩
  refine ⟨_, rfl, z.1, _, _, 2, rfl, hz, .cons (.str _) (.cons (.int _) .nil), _, rfl, iteT ?_⟩
  refine ⟨_, rfl, z.1, _, 0, _, rfl, rfl, hz, at0, .str z.2.1, "str", .str z.2.1, true, rfl, .str _, kb_str_str, _, rfl, iteT ?_⟩
  exact ⟨_, rfl, z.1, _, 1, _, rfl, rfl, hz, at1, _, rfl, q⟩

end L2.K06
namespace L2.K06
open PySem PySem.Spec PyProof.Rows L2.My
open HQ (Ev evD)
variable {P : Program} {w : World} {K : PySem.W.Frag} {mg : Str → Option Value} {base : Heap}
def spEv (f : Lg → List Ev) : Sp := fun vs H Q _ => ∃ (v : V) (L : Lg), vs = [v] ∧ LogAt H v L ∧ My.Good L ∧
  ∀ (p : Addr) (H' : Hp) (zs : List (Addr × Ev)), Same H H' → H p = none → H' p = some (.lst (zs.map fun z => V.ref z.1)) → (∀ z ∈ zs, EvR H' z) → zs.map (·.2) = f L → Q (.ref p) H'
theorem ok_events (T : Tx K mg) : FnOk P w K mg base CX0 1 T.aevents T.devents P_events (spEv evs) := by
  refine T.fevents.ok sc_events (fun vs H Q E h => ?_) (fun cdv A outer s H vs Q E hr h => ?_)
  · obtain ⟨v, L, rfl, _⟩ := h
    rfl
  obtain ⟨v, L, rfl, hL, hG, q⟩ := h
  have hu := hu_of hr
  refine ⟨_, (pss_one (ps_ret (pe_lc2 (own := [("machine", 1), ("number", 2)]) (vs1 := [2]) rfl sc_events.nd (pi_seqK (K := K) rfl (pe_ix ixS (pv 0) pe_int (fun _ _ => rfl))) (blkOk_by (own := [("machine", 1), ("number", 2)]) (N := N_events) (sc := defScope s_events) (by decide +kernel)) (by decide) (fun _ _ _ _ _ => (pg_name (i := 1) sc_events.nd rfl (Or.inl rfl))) (fun _ _ _ _ _ => pts_nil) (fun _ _ _ _ _ => (pi_range1 (by rfl) T.range (pa_cons (pe_ix ixS (pv 1) pe_int (fun _ _ => rfl)) pa_nil))) (fun _ _ _ _ _ => (pg_name (i := 2) sc_events.nd rfl (Or.inl rfl))) (fun _ _ _ _ _ => pts_nil) (fun _ _ _ _ _ => (pe_tup (pa_cons (pe_ix ixS (pv 1) pe_int (fun _ _ => rfl)) (pa_cons (pv 2) pa_nil))))))), ?_⟩
  obtain ⟨a, m, l, xs, ys, rfl, h1, h2, h3, l1, l2, f1, f2⟩ := hL
  have few : (flat (L.ms.map fun m => (m.1, upto m.2.1))).length ≤ 16 := by rw [← evs_flat]; exact hG.few.1
  rcases h2 with h2 | h2
  case' inl =>
    refine ⟨_, rfl, a, _, 0, _, rfl, rfl, h1, at0, m, rfl, .inl ⟨⟨_, .inl (.inl h2)⟩, fun D nD => ?_⟩⟩
    have wJ := wk_lst (K := K) h2
  case' inr =>
    refine ⟨_, rfl, a, _, 0, _, rfl, rfl, h1, at0, m, rfl, .inr ⟨⟨_, .inl (.inl h2)⟩, fun D nD => ?_⟩⟩
    have wJ := wk_tup (K := K) h2
  all_goals
    refine lc2_evs (ms := L.ms.map fun m => (m.1, upto m.2.1)) wJ nD (by rw [List.length_map]; exact l1) (by rw [sizeLine_eq]; omega) (fun _ => rfl) (fun _ _ => rfl) ?_ ?_ ?_
    · intro k x m H1 R hx hm s1 kk
      obtain ⟨mm, q, r, e1, rfl, g1, g2⟩ := f1 k x hx
      have fp := flat_part hm
      rw [List.getElem?_map, e1] at hm
      have hm : (mm.1, upto mm.2.1) = m := Option.some.inj hm
      subst hm
      rw [upto_len] at fp
      refine ⟨_, rfl, q, _, 1, _, rfl, rfl, g1.same s1, at1, _, rfl, by omega, by omega, ?_⟩
      exact kk _ wk_rng
    · intro k x m v H1 Q' hx hm s1 kk
      obtain ⟨mm, q, r, e1, rfl, g1, g2⟩ := f1 k x hx
      rw [List.getElem?_map, e1] at hm
      have hm : (mm.1, upto mm.2.1) = m := Option.some.inj hm
      subst hm
      exact ⟨_, rfl, q, _, 0, _, rfl, rfl, g1.same s1, at0, _, rfl, (by show 2 ≤ sizeLine; decide), kk⟩
    · intro H' zs s1 hD hz ez
      exact q D H' zs s1 nD hD hz (by rw [ez, evs_flat])
theorem ok_marked (T : Tx K mg) : FnOk P w K mg base CX0 1 T.amarked T.dmarked P_marked (spEv mkd) := by
  refine T.fmarked.ok sc_marked (fun vs H Q E h => ?_) (fun cdv A outer s H vs Q E hr h => ?_)
  · obtain ⟨v, L, rfl, _⟩ := h
    rfl
  obtain ⟨v, L, rfl, hL, hG, q⟩ := h
  have hu := hu_of hr
  refine ⟨_, (pss_one (ps_ret (pe_lc2 (own := [("machine", 1), ("mark", 2)]) (vs1 := [2]) rfl sc_marked.nd (pi_seqK (K := K) rfl (pe_ix ixS (pv 0) pe_int (fun _ _ => rfl))) (blkOk_by (own := [("machine", 1), ("mark", 2)]) (N := N_marked) (sc := defScope s_marked) (by decide +kernel)) (by decide) (fun _ _ _ _ _ => (pg_name (i := 1) sc_marked.nd rfl (Or.inl rfl))) (fun _ _ _ _ _ => pts_nil) (fun _ _ _ _ _ => (pi_seqK (K := K) rfl (pe_ix ixS (pv 1) pe_int (fun _ _ => rfl)))) (fun _ _ _ _ _ => (pg_name (i := 2) sc_marked.nd rfl (Or.inl rfl))) (fun _ _ _ _ _ => pts_nil) (fun _ _ _ _ _ => (pe_tup (pa_cons (pe_ix ixS (pv 1) pe_int (fun _ _ => rfl)) (pa_cons (pv 2) pa_nil))))))), ?_⟩
  obtain ⟨a, m, l, xs, ys, rfl, h1, h2, h3, l1, l2, f1, f2⟩ := hL
  have few : (flat (L.ms.map fun m => (m.1, m.2.2))).length ≤ 16 := by rw [← mkd_flat]; exact mkd_len hG
  rcases h2 with h2 | h2
  case' inl =>
    refine ⟨_, rfl, a, _, 0, _, rfl, rfl, h1, at0, m, rfl, .inl ⟨⟨_, .inl (.inl h2)⟩, fun D nD => ?_⟩⟩
    have wJ := wk_lst (K := K) h2
  case' inr =>
    refine ⟨_, rfl, a, _, 0, _, rfl, rfl, h1, at0, m, rfl, .inr ⟨⟨_, .inl (.inl h2)⟩, fun D nD => ?_⟩⟩
    have wJ := wk_tup (K := K) h2
  all_goals
    refine lc2_evs (ms := L.ms.map fun m => (m.1, m.2.2)) wJ nD (by rw [List.length_map]; exact l1) (by rw [sizeLine_eq]; omega) (fun _ => rfl) (fun _ _ => rfl) ?_ ?_ ?_
    · intro k x m H1 R hx hm s1 kk
      obtain ⟨mm, q, r, e1, rfl, g1, g2⟩ := f1 k x hx
      rw [List.getElem?_map, e1] at hm
      have hm : (mm.1, mm.2.2) = m := Option.some.inj hm
      subst hm
      refine ⟨_, rfl, q, _, 2, _, rfl, rfl, g1.same s1, at2, r, rfl, ?_⟩
      rcases g2 with g2 | g2
      · exact .inl ⟨⟨_, .inl (.inl (s1 _ _ g2))⟩, kk _ (wk_lst g2)⟩
      · exact .inr ⟨⟨_, .inl (.inl (s1 _ _ g2))⟩, kk _ (wk_tup g2)⟩
    · intro k x m v H1 Q' hx hm s1 kk
      obtain ⟨mm, q, r, e1, rfl, g1, g2⟩ := f1 k x hx
      rw [List.getElem?_map, e1] at hm
      have hm : (mm.1, mm.2.2) = m := Option.some.inj hm
      subst hm
      exact ⟨_, rfl, q, _, 0, _, rfl, rfl, g1.same s1, at0, _, rfl, (by show 2 ≤ sizeLine; decide), kk⟩
    · intro H' zs s1 hD hz ez
      exact q D H' zs s1 nD hD hz (by rw [ez, mkd_flat])

end L2.K06
namespace L2.K06
open PySem PySem.Spec PyProof.Rows L2.My
open HQ (Ev evD)
variable {P : Program} {w : World} {K : PySem.W.Frag} {mg : Str → Option Value} {base : Heap}
def spLinked : Sp := fun vs H Q _ => ∃ (fa ma : Addr) (zs : List (Addr × Ev)) (zl : ZL) (L : Lg), vs = [.ref fa, .ref ma] ∧ H fa = some (.lst (zs.map fun z => V.ref z.1)) ∧ (∀ z ∈ zs, EvR H z) ∧ zs.map (·.2) = evs L ∧ My.Good L ∧
  H ma = some (.tup (zl.map fun z => V.ref z.1)) ∧ (∀ z ∈ zl, LtR H z) ∧ zl.map prL = L.ls ∧
  ∀ (d : Addr) (H' : Hp) (ad : Ev → Addr) (f : Ev → List (Addr × Ev)), Same H H' → H d = none → H' d = some (.dT (dE (evs L) fun e => .ref (ad e))) → BD H' d (evs L) ad f → (∀ e ∈ evs L, (f e).map (·.2) = befs L e) → Q (.ref d) H'
theorem ok_linked (T : Tx K mg) : FnOk P w K mg base CX0 1 T.alinked T.dlinked P_linked spLinked := by
  refine T.flinked.ok sc_linked (fun vs H Q E h => ?_) (fun cdv A outer s H vs Q E hr h => ?_)
  · obtain ⟨fa, ma, zs, zl, L, rfl, _⟩ := h
    rfl
  obtain ⟨fa, ma, zs, zl, L, rfl, hf, hz, ez, hG, hm, hl, el, q⟩ := h
  have hu := hu_of hr
  refine ⟨_, (pss_cons (ps_set (i := 2) sc_linked.nd rfl (Or.inl rfl) pe_dnewT)
  (pss_cons (ps_set (i := 3) sc_linked.nd rfl (Or.inl rfl) pe_non)
  (pss_cons (ps_for PassesOwn.never rfl (pi_listK (K := K) rfl (pv 0)) (pg_name (i := 4) sc_linked.nd rfl (Or.inl rfl))
    (pss_cons (ps_set (i := 5) sc_linked.nd rfl (Or.inl rfl) (pe_and (pe_cmpR op_notN (pv 3) pe_non (nomark _)) (pe_one (pe_cmpR op_eq (pe_ix ixT (pv 3) pe_int (fun _ _ => rfl)) (pe_ix ixT (pv 4) pe_int (fun _ _ => rfl)) (nomark _)))))
      (pss_cons (ps_dput hu (pv 2) (pv 4) (pe_ifExp (pt_val (pv 5)) (pe_lst (pa_cons (pv 3) pa_nil)) (pe_lst pa_nil)) rfl)
      (pss_one (ps_set (i := 3) sc_linked.nd rfl (Or.inl rfl) (pv 4))))))
  (pss_cons (ps_for PassesOwn.never rfl (pi_tupK (K := K) rfl (pv 1)) (pg_tup (by rfl) (pgs_cons (pg_name (i := 6) sc_linked.nd rfl (Or.inl rfl)) (pgs_cons (pg_name (i := 7) sc_linked.nd rfl (Or.inl rfl)) pgs_nil)))
    (pss_one (ps_expr (pe_bm PySem.F.plainAttrs_list PySem.F.slot_list_append PySem.F.type_list_append mt_append (pe_dget hu (pv 2) (pv 7) (fun _ _ => rfl)) (pa_cons (pv 6) pa_nil)))))
  (pss_one (ps_ret (pv 2))))))), ?_⟩
  intro d nd
  have s0 := same_new nd (.dT [])
  have hf1 := s0 _ _ hf
  have dm : d ≠ ma := fun e => by rw [e, hm] at nd; cases nd
  refine ⟨_, rfl, fa, rfl, ⟨_, .inl (.inl hf1)⟩, for_list (xs := zs.map fun z => V.ref z.1) (fun i σ H' => ∃ (last : V) (t4 t5 : Option V) (ad : Ev → Addr) (f : Ev → List (Addr × Ev)), σ = [some (.ref fa), some (.ref ma), some (.ref d), some last, t4, t5, none, none] ∧ Same H H' ∧
    H' d = some (.dT (dE ((evs L).take i) fun e => .ref (ad e))) ∧ BD H' d ((evs L).take i) ad f ∧ (∀ e ∈ (evs L).take i, (f e).map (·.2) = prevs L e) ∧ (∀ e ∈ (evs L).take i, H (ad e) = none) ∧ (i = 0 → last = .non) ∧ ∀ j, i = j + 1 → ∃ z, zs[j]? = some z ∧ last = .ref z.1) ?_ ?_ ?_ ?_⟩
  · exact ⟨.non, none, none, fun _ => 0, fun _ => [], rfl, s0, upd_same, ⟨.inl upd_same, (fun _ h => nomatch h), (fun _ h => nomatch h), (fun _ h => nomatch h)⟩, (fun _ h => nomatch h), (fun _ h => nomatch h), fun _ => rfl, fun j h => by cases h⟩
  · rintro i σ H' _ ⟨last, t4, t5, ad, f, rfl, s1, _⟩
    exact .inl (.inl (s1 _ _ hf))
  · rintro i x σ H' hx ⟨last, t4, t5, ad, f, rfl, s1, hD, hB, hp, hn, l0, l1⟩
    rw [List.getElem?_map] at hx
    obtain ⟨z, hzi, rfl⟩ := Option.map_eq_some_iff.mp hx
    have hi := gmap_of ez hzi
    have rz := (hz z (List.mem_of_getElem? hzi)).keep (.same s1)
    have tv : ∀ Qc : VK, (∀ (c : Bool) (ys : List (Addr × Ev)), (c = true ∧ (∃ z', last = .ref z'.1 ∧ EvR H' z' ∧ ys = [z']) ∨ c = false ∧ ys = []) → ys.map (·.2) = prevs L z.2 → Qc (.bl c) H') →
        tAndV (tOp (fun x y H Q => y = V.non ∧ Q (V.bl !decide (x = V.non)) H) (tVar 3) (tC V.non)) (tOp rEq (tOp rIxTH (tVar 3) (tC (V.int 0))) (tOp rIxTH (tVar 4) (tC (V.int 0)))) [some (.ref fa), some (.ref ma), some (.ref d), some last, some (.ref z.1), t5, none, none] H' Qc := by
      intro Qc k
      refine ⟨_, rfl, rfl, _, rfl, ?_⟩
      cases i with
      | zero =>
        have e := l0 rfl
        subst e
        refine iteF (k false [] (.inr ⟨rfl, rfl⟩) ?_)
        unfold prevs
        rw [if_neg (prev_0 hG hi)]
        rfl
      | succ j =>
        obtain ⟨z', hz', e⟩ := l1 j rfl
        subst e
        have rz' := (hz z' (List.mem_of_getElem? hz')).keep (.same s1)
        have pv := prev_idx hG hi (gmap_of ez hz')
        refine iteT ⟨_, rfl, z'.1, _, 0, _, rfl, rfl, rz', at0, _, rfl, z.1, _, 0, _, rfl, rfl, rz, at0, rfl, ?_⟩
        by_cases c : z'.2.1 = z.2.1
        · have e : decide (V.str z'.2.1 = V.str z.2.1) = true := decide_eq_true (by rw [c])
          rw [e]
          refine k true [z'] (.inl ⟨rfl, z', rfl, rz', rfl⟩) ?_
          unfold prevs
          rw [if_pos (pv.1.mp c)]
          show [z'.2] = _
          rw [pv.2 c]
        · have e : decide (V.str z'.2.1 = V.str z.2.1) = false := decide_eq_false fun q => c (V.str.inj q)
          rw [e]
          refine k false [] (.inr ⟨rfl, rfl⟩) ?_
          unfold prevs
          rw [if_neg fun q => c (pv.1.mpr q)]
          rfl
    refine tv _ fun c ys hc hys => ?_
    have nin : z.2 ∉ (evs L).take i := fun y => by
      obtain ⟨j, hj⟩ := List.getElem?_of_mem y
      rw [List.getElem?_take] at hj
      split at hj
      · rename_i lt
        have := sl_get (evs_sl hG.asc) hj hi lt
        rw [lt_irr] at this
        cases this
      · cases hj
    have tk : (evs L).take (i + 1) = (evs L).take i ++ [z.2] := by rw [List.take_succ, hi]; rfl
    have ld : (dE ((evs L).take i) fun e => V.ref (ad e)).length < sizeLine := by
      unfold dE
      rw [List.length_map, List.length_take, sizeLine_eq]
      have := hG.few.1
      omega
    have fin : ∀ p, H' p = none → (∀ y ∈ ys, EvR H' y) → DPut (upd H' p (.lst (ys.map fun z => V.ref z.1))) d (.ref z.1) (.ref p) (upd (upd H' p (.lst (ys.map fun z => V.ref z.1))) d (.dT (putK (dE ((evs L).take i) fun e => V.ref (ad e)) (kE z.2) (.ref p)))) ∧
        Same H (upd (upd H' p (.lst (ys.map fun z => V.ref z.1))) d (.dT (putK (dE ((evs L).take i) fun e => V.ref (ad e)) (kE z.2) (.ref p)))) ∧
        (upd (upd H' p (.lst (ys.map fun z => V.ref z.1))) d (.dT (putK (dE ((evs L).take i) fun e => V.ref (ad e)) (kE z.2) (.ref p)))) d = some (.dT (dE ((evs L).take (i + 1)) fun e => .ref (if e = z.2 then p else ad e))) ∧
        BD (upd (upd H' p (.lst (ys.map fun z => V.ref z.1))) d (.dT (putK (dE ((evs L).take i) fun e => V.ref (ad e)) (kE z.2) (.ref p)))) d ((evs L).take (i + 1)) (fun x => if x = z.2 then p else ad x) (fun x => if x = z.2 then ys else f x) ∧
        (∀ e ∈ (evs L).take (i + 1), ((fun x => if x = z.2 then ys else f x) e).map (·.2) = prevs L e) ∧ ∀ e ∈ (evs L).take (i + 1), H ((fun x => if x = z.2 then p else ad x) e) = none := by
      intro p np hy
      have sp := same_new np (.lst (ys.map fun z => V.ref z.1))
      have nw := (hB.same sp).new (e := z.2) (p := p) nin (sp _ _ hD) upd_same (fun y h => (hy y h).keep (.same sp)) fun x hx e => by
        have := hB.hz x hx
        rw [e, np] at this
        cases this
      rw [← tk] at nw
      refine ⟨DPut.t (sp _ _ hD) (sp _ _ rz) ld, Same.put (s1.trans sp) nd _, nw.2, nw.1, fun e he => ?_, fun e he => ?_⟩
      · by_cases c : e = z.2
        · simp only [c, if_true]
          exact hys
        · simp only [c, if_false]
          rw [tk] at he
          rcases List.mem_append.mp he with y | y
          · exact hp e y
          · exact absurd (List.mem_singleton.mp y) c
      · by_cases c : e = z.2
        · simp only [c, if_true]
          exact s1.free np
        · simp only [c, if_false]
          rw [tk] at he
          rcases List.mem_append.mp he with y | y
          · exact hn e y
          · exact absurd (List.mem_singleton.mp y) c
    rcases hc with ⟨rfl, z', rfl, rz', rfl⟩ | ⟨rfl, rfl⟩
    · refine ⟨_, rfl, _, rfl, iteT ⟨_, rfl, (by show 1 ≤ sizeLine; decide), fun p np => ?_⟩⟩
      obtain ⟨g1, g2, g3, g4, g5, g6⟩ := fin p np fun y hy => by rw [List.mem_singleton.mp hy]; exact rz'
      refine ⟨_, rfl, _, rfl, d, _, rfl, g1, _, rfl, ?_⟩
      exact ⟨_, _, _, _, _, rfl, g2, g3, g4, g5, g6, (fun h => by omega), fun j hj => ⟨z, by rw [← Nat.succ.inj hj]; exact hzi, rfl⟩⟩
    · refine ⟨_, rfl, _, rfl, iteF ⟨(by show 0 ≤ sizeLine; decide), fun p np => ?_⟩⟩
      obtain ⟨g1, g2, g3, g4, g5, g6⟩ := fin p np fun y hy => nomatch hy
      refine ⟨_, rfl, _, rfl, d, _, rfl, g1, _, rfl, ?_⟩
      exact ⟨_, _, _, _, _, rfl, g2, g3, g4, g5, g6, (fun h => by omega), fun j hj => ⟨z, by rw [← Nat.succ.inj hj]; exact hzi, rfl⟩⟩
  · rintro σ H' ⟨last, t4, t5, ad, f, rfl, s1, hD, hB, hp, hn, _, _⟩
    have ll : (zs.map fun z => V.ref z.1).length = (evs L).length := by rw [← ez, List.length_map, List.length_map]
    rw [ll, List.take_length] at hD hB hp hn
    have hm1 := s1 _ _ hm
    refine ⟨_, rfl, ma, rfl, ⟨_, .inl (.inl hm1)⟩, for_tup (xs := zl.map fun z => V.ref z.1) (fun k σ H' => ∃ (t3 t4 t5 t6 t7 : Option V) (f : Ev → List (Addr × Ev)), σ = [some (.ref fa), some (.ref ma), some (.ref d), t3, t4, t5, t6, t7] ∧ Same H H' ∧
      H' d = some (.dT (dE (evs L) fun e => .ref (ad e))) ∧ BD H' d (evs L) ad f ∧ ∀ e ∈ evs L, (f e).map (·.2) = prevs L e ++ sents (L.ls.take k) e) ?_ ?_ ?_ ?_⟩
    · exact ⟨_, _, _, _, _, f, rfl, s1, hD, hB, fun e he => by rw [hp e he]; simp [sents]⟩
    · rintro k σ H2 _ ⟨t3, t4, t5, t6, t7, f, rfl, s2, _⟩
      exact .inl (.inl (s2 _ _ hm))
    · rintro k x σ H2 hx ⟨t3, t4, t5, t6, t7, f, rfl, s2, hD2, hB2, hp2⟩
      rw [List.getElem?_map] at hx
      obtain ⟨z, hzi, rfl⟩ := Option.map_eq_some_iff.mp hx
      have hk := gmap_of el hzi
      have rz := LtR.keep (hl z (List.mem_of_getElem? hzi)) (.same s2)
      have ie := (hG.ends (prL z) (List.mem_of_getElem? hk)).2.1
      have hz2 := hB2.hz _ ie
      have lf : (f (prL z).2).length < sizeLine := by
        rw [← List.length_map (·.2), hp2 _ ie, List.length_append, sizeLine_eq]
        have a1 := prevs_len L (prL z).2
        have a2 := sents_len (L.ls.take k) (prL z).2
        have a3 := hG.few.2.1
        rw [List.length_take] at a2
        omega
      refine ⟨z.1, _, rfl, .inl (.inl rz.1), rfl, _, _, rfl, _, _, rfl, rfl, ?_⟩
      refine ⟨_, rfl, _, rfl, d, _, rfl, hB2.get rz.2.2 ie, .inl ⟨rfl, _, .inl (.inl hz2)⟩, _, rfl, _, _, _, rfl, rfl, hz2, by rw [List.length_map]; exact lf, ?_⟩
      have hA := hB2.app ie rz.2.1
      refine ⟨_, _, _, _, _, _, rfl, Same.put s2 (hn _ ie) _, by rw [upd_ne (Ne.symm (hB2.ne ie))]; exact hD2, hA, fun e he => ?_⟩
      rw [sents_take hk]
      by_cases c : e = (prL z).2
      · subst c
        simp only [if_true]
        rw [List.map_append, hp2 _ he, List.append_assoc]
        rfl
      · rw [if_neg c, if_neg c]
        exact hp2 e he
    · rintro σ H2 ⟨t3, t4, t5, t6, t7, f, rfl, s2, hD2, hB2, hp2⟩
      have l2 : (zl.map fun z => V.ref z.1).length = L.ls.length := by rw [← el, List.length_map, List.length_map]
      rw [l2, List.take_length] at hp2
      exact ⟨_, rfl, q d H2 ad f s2 nd hD2 hB2 hp2⟩

end L2.K06
namespace L2.K06
open PySem PySem.Spec PyProof.Rows L2.My
open HQ (Ev evD)
variable {P : Program} {w : World} {K : PySem.W.Frag} {mg : Str → Option Value} {base : Heap}
def spTurned : Sp := fun vs H Q _ => ∃ (d : Addr) (es : List Ev) (ad : Ev → Addr) (f : Ev → List (Addr × Ev)), vs = [.ref d] ∧ H d = some (.dT (dE es fun e => .ref (ad e))) ∧ BD H d es ad f ∧ es.Nodup ∧ es.length ≤ 16 ∧ (∀ e ∈ es, ∀ y ∈ f e, y.2 ∈ es) ∧ (∀ e ∈ es, (f e).length ≤ 20) ∧
  ∀ (p : Addr) (H' : Hp) (ad' : Ev → Addr) (f' : Ev → List (Addr × Ev)), Same H H' → H p = none → H' p = some (.dT (dE es fun e => .ref (ad' e))) → BD H' p es ad' f' → (∀ e ∈ es, (f' e).map (·.2) = behd es (fun e => (f e).map (·.2)) e) → Q (.ref p) H'
theorem ok_turned (T : Tx K mg) : FnOk P w K mg base CX0 1 T.aturned T.dturned P_turned spTurned := by
  refine T.fturned.ok sc_turned (fun vs H Q E h => ?_) (fun cdv A outer s H vs Q E hr h => ?_)
  · obtain ⟨d, es, ad, f, rfl, _⟩ := h
    rfl
  obtain ⟨d, es, ad, f, rfl, hd, hB, nd, l16, sub, l20, q⟩ := h
  have hu := hu_of hr
  refine ⟨_, (pss_cons (ps_lock (ps_setDcT (i := 1) (own := [("event", 2)]) (g := (gName 2)) hu rfl sc_turned.nd rfl rfl (swD rfl rfl rfl (by decide +kernel)) (pi_keys (pv 0)) (blkOk_by (own := [("event", 2)]) (N := N_turned) (sc := defScope s_turned) (by decide +kernel)) (fun _ _ _ _ _ => (pg_name (i := 2) sc_turned.nd rfl (Or.inl rfl))) (fun _ _ _ _ _ => pts_nil) (fun _ _ _ _ _ => (pv 2)) (fun _ _ _ _ _ => (pe_lst pa_nil))))
  (pss_cons (ps_lock (ps_for PassesOwn.never rfl (pi_keys (pv 0)) (pg_name (i := 2) sc_turned.nd rfl (Or.inl rfl))
    (pss_one (ps_for PassesOwn.never rfl (pi_listK (K := K) rfl (pe_dget hu (pv 0) (pv 2) (fun _ _ => rfl))) (pg_name (i := 3) sc_turned.nd rfl (Or.inl rfl))
        (pss_one (ps_expr (pe_bm PySem.F.plainAttrs_list PySem.F.slot_list_append PySem.F.type_list_append mt_append (pe_dget hu (pv 1) (pv 3) (fun _ _ => rfl)) (pa_cons (pv 2) pa_nil))))))))
  (pss_one (ps_ret (pv 1))))), ?_⟩
  have few : ∀ (k : Nat) (g : Ev → V), (dE (es.take k) g).length < sizeLine := fun k g => by
    unfold dE
    rw [List.length_map, List.length_take, sizeLine_eq]
    omega
  refine ⟨d, _, hd, trivial, fun od => ⟨_, rfl, d, od, rfl, .inr ⟨_, upd_same, fun p np => ?_⟩⟩⟩
  have pd : p ≠ d := fun e => by rw [e, upd_same] at np; cases np
  have np0 : H p = none := by rw [upd_ne pd] at np; exact np
  refine keys_comp (fun k H' => ∃ ad' : Ev → Addr, Same (upd H d (.frz od (.dT (dE es fun e => .ref (ad e))))) H' ∧ H' p = some (.dT (dE (es.take k) fun e => .ref (ad' e))) ∧ BD H' p (es.take k) ad' (fun _ => []) ∧
    ∀ e ∈ es.take k, (upd H d (.frz od (.dT (dE es fun e => .ref (ad e))))) (ad' e) = none) ?_ ?_ (fun _ => rfl) ?_ ?_
  · exact ⟨fun _ => 0, same_new np _, upd_same, ⟨.inl upd_same, (fun _ h => nomatch h), (fun _ h => nomatch h), (fun _ h => nomatch h)⟩, fun _ h => nomatch h⟩
  · rintro k H' ⟨ad', s1, _⟩
    exact s1 _ _ upd_same
  · rintro k qa e H' he rq ⟨ad', s1, hD, hB1, hn⟩
    unfold dtTurn tYes
    refine iteT ⟨_, rfl, (by show 0 ≤ sizeLine; decide), fun a na => ?_⟩
    have sa := same_new na (.lst [])
    have nin := nin_take nd he
    have tk := tk_snoc he
    have nw := (hB1.same sa).new (e := e) (p := a) (ys := []) nin (sa _ _ hD) upd_same (fun y h => nomatch h) fun x hx z => by
      have := hB1.hz x hx
      rw [z, na] at this
      cases this
    refine ⟨_, kE e, qa, rfl, sa _ _ rq, sa _ _ hD, few _ _, fun x => if x = e then a else ad' x, Same.put (s1.trans sa) np _, by rw [tk]; exact nw.2, ?_, fun x hx => ?_⟩
    · rw [tk]
      refine nw.1.cg ?_
      funext x
      split <;> rfl
    · by_cases c : x = e
      · simp only [c, if_true]
        exact s1.free na
      · simp only [c, if_false]
        rw [tk] at hx
        rcases List.mem_append.mp hx with y | y
        · exact hn x y
        · exact absurd (List.mem_singleton.mp y) c
  rintro H' ⟨ad', s1, hD, hB1, hn⟩
  rw [List.take_length] at hD hB1 hn
  have hfr := s1 _ _ (upd_same : (upd H d (.frz od (.dT (dE es fun e => .ref (ad e))))) d = _)
  refine ⟨hfr, ?_⟩
  have s2 := unlock_same hd s1
  have hB2 := hB1.off (o := .dT (dE es fun e => .ref (ad e))) hfr (fun _ z => nomatch z) (fun _ z => nomatch z) pd
  have hD2 : (upd H' d (.dT (dE es fun e => .ref (ad e)))) p = some (.dT (dE es fun e => .ref (ad' e))) := by rw [upd_ne pd]; exact hD
  have hd2 : (upd H' d (.dT (dE es fun e => .ref (ad e)))) d = some (.dT (dE es fun e => .ref (ad e))) := upd_same
  have hn0 : ∀ e ∈ es, H (ad' e) = none := fun e he => by
    have := hn e he
    have ne : ad' e ≠ d := fun z => by rw [z, upd_same] at this; cases this
    rw [upd_ne ne] at this
    exact this
  generalize (upd H' d (.dT (dE es fun e => .ref (ad e)))) = H2 at s2 hB2 hD2 hd2 ⊢
  clear hD hB1 hn s1 hfr np
  refine ⟨d, _, hd2, trivial, fun od2 => ?_⟩
  have hBd := hB.lock hd od2
  have nL : ∀ a, H a = none → (upd H d (.frz od2 (.dT (dE es fun e => .ref (ad e))))) a = none := fun a h => by
    rw [upd_ne fun z => by rw [z, hd] at h; cases h]
    exact h
  have s3 : Same (upd H d (.frz od2 (.dT (dE es fun e => .ref (ad e))))) (upd H2 d (.frz od2 (.dT (dE es fun e => .ref (ad e))))) := same_upd2 s2
  have hB3 := hB2.off (o := .frz od2 (.dT (dE es fun e => .ref (ad e)))) hd2 (fun _ z => nomatch z) (fun _ z => nomatch z) pd
  have hD3 : (upd H2 d (.frz od2 (.dT (dE es fun e => .ref (ad e))))) p = some (.dT (dE es fun e => .ref (ad' e))) := by rw [upd_ne pd]; exact hD2
  have hfr3 : (upd H2 d (.frz od2 (.dT (dE es fun e => .ref (ad e))))) d = some (.frz od2 (.dT (dE es fun e => .ref (ad e)))) := upd_same
  have hfrL : (upd H d (.frz od2 (.dT (dE es fun e => .ref (ad e))))) d = some (.frz od2 (.dT (dE es fun e => .ref (ad e)))) := upd_same
  have back : ∀ H', Same (upd H d (.frz od2 (.dT (dE es fun e => .ref (ad e))))) H' → Same H (upd H' d (.dT (dE es fun e => .ref (ad e)))) := fun H' k => unlock_same hd k
  refine ⟨_, rfl, d, od2, rfl, .inr ⟨_, hfr3, ?_⟩⟩
  generalize (upd H2 d (.frz od2 (.dT (dE es fun e => .ref (ad e))))) = H3 at s3 hB3 hD3 hfr3 ⊢
  generalize (upd H d (.frz od2 (.dT (dE es fun e => .ref (ad e))))) = HL at s3 hBd nL hfrL back
  clear hB2 hD2 hd2 s2
  refine for_keys (fun k σ H' => ∃ (t2 t3 : Option V) (f' : Ev → List (Addr × Ev)), σ = [some (.ref d), some (.ref p), t2, t3] ∧ Same HL H' ∧ H' p = some (.dT (dE es fun e => .ref (ad' e))) ∧ BD H' p es ad' f' ∧ ∀ y ∈ es, (f' y).map (·.2) = behd (es.take k) (fun e => (f e).map (·.2)) y) ?_ ?_ ?_ ?_
  · exact ⟨_, _, fun _ => [], rfl, s3, hD3, hB3, fun y _ => rfl⟩
  · rintro k σ H' ⟨t2, t3, f', rfl, s, _⟩
    exact s _ _ hfrL
  · rintro k qa e σ H' he rq ⟨t2, t3, f', rfl, s, hD, hBp, hf⟩
    have ie := List.mem_of_getElem? he
    have hBd' := hBd.same s
    have tk := tk_snoc he
    refine ⟨_, rfl, _, rfl, d, _, rfl, hBd'.get rq ie, ad e, rfl, ⟨_, .inl (.inl (hBd'.hz e ie))⟩, for_list (xs := (f e).map fun z => V.ref z.1) (fun j σ H'' => ∃ (t3 : Option V) (f' : Ev → List (Addr × Ev)), σ = [some (.ref d), some (.ref p), some (.ref qa), t3] ∧ EvR H'' (qa, e) ∧ Same HL H'' ∧
      H'' p = some (.dT (dE es fun e => .ref (ad' e))) ∧ BD H'' p es ad' f' ∧ ∀ y ∈ es, (f' y).map (·.2) = behd (es.take k) (fun e => (f e).map (·.2)) y ++ ((((f e).map (·.2)).take j).filter fun b => decide (b = y)).map fun _ => e) ?_ ?_ ?_ ?_⟩
    · exact ⟨t3, f', rfl, rq, s, hD, hBp, fun y hy => by rw [hf y hy]; simp⟩
    · rintro j σ H'' _ ⟨t3, f', rfl, _, s, _⟩
      exact .inl (.inl ((hBd.same s).hz e ie))
    · rintro j x σ H'' hx ⟨t3, f', rfl, rq, s, hD, hBp, hf⟩
      rw [List.getElem?_map] at hx
      obtain ⟨z, hzi, rfl⟩ := Option.map_eq_some_iff.mp hx
      have hk : ((f e).map (·.2))[j]? = some z.2 := by rw [List.getElem?_map, hzi]; rfl
      have hzf := List.mem_of_getElem? hzi
      have rz := (hBd.same s).he e ie z hzf
      have iz := sub e ie z hzf
      have hz2 := hBp.hz _ iz
      have lf : (f' z.2).length < sizeLine := by
        rw [← List.length_map (·.2), hf _ iz, List.length_append, List.length_map, sizeLine_eq]
        have a1 := behd_len (es := es.take k) (bef := fun e => (f e).map (·.2)) (c := 20) (fun x hx => by rw [List.length_map]; exact l20 x (List.mem_of_mem_take hx)) z.2
        have a2 := List.length_filter_le (fun b => decide (b = z.2)) (((f e).map (·.2)).take j)
        have a3 := l20 e ie
        rw [List.length_take, List.length_map] at a2
        rw [List.length_take] at a1
        omega
      have hA := hBp.app iz rq
      refine ⟨_, rfl, _, rfl, p, _, rfl, hBp.get rz iz, .inl ⟨rfl, _, .inl (.inl hz2)⟩, _, rfl, _, _, _, rfl, rfl, hz2, by rw [List.length_map]; exact lf, ?_⟩
      refine ⟨_, _, rfl, rq.keep (tk_upd hz2 _), Same.put s (nL _ (hn0 _ iz)) _, by rw [upd_ne (Ne.symm (hBp.ne iz))]; exact hD, hA, fun y hy => ?_⟩
      rw [tk_snoc hk, List.filter_append, List.map_append, ← List.append_assoc, ← hf y hy]
      by_cases c : y = z.2
      · subst c
        simp
      · have c' : ¬ z.2 = y := fun w => c w.symm
        simp [c, c']
    · rintro σ H'' ⟨t3, f', rfl, rq, s, hD, hBp, hf⟩
      refine ⟨_, _, f', rfl, s, hD, hBp, fun y hy => ?_⟩
      rw [hf y hy, tk, behd_snoc]
      congr 3
      rw [List.length_map, ← List.length_map (·.2), List.take_length]
  · rintro σ H' ⟨t2, t3, f', rfl, s, hD, hBp, hf⟩
    rw [List.take_length] at hf
    have hfr := s _ _ hfrL
    exact ⟨hfr, _, rfl, q p _ ad' f' (back H' s) np0 (by rw [upd_ne pd]; exact hD) (hBp.off hfr (fun _ z => nomatch z) (fun _ z => nomatch z) pd) hf⟩

end L2.K06
namespace L2.K06
open PySem PySem.Spec PyProof.Rows L2.My
open HQ (Ev evD)
variable {P : Program} {w : World} {K : PySem.W.Frag} {mg : Str → Option Value} {base : Heap}
def spLF : Sp := fun vs H Q _ => ∃ (d : Addr) (es : List Ev) (ad : Ev → Addr) (f : Ev → List (Addr × Ev)), vs = [.ref d] ∧ H d = some (.dT (dE es fun e => .ref (ad e))) ∧ BD H d es ad f ∧ es.Nodup ∧ es.length ≤ 16 ∧ (∀ e ∈ es, ∀ y ∈ f e, y.2 ∈ es) ∧ (∀ e ∈ es, (f e).length ≤ 20) ∧
  ∀ (p : Addr) (H' : Hp) (zs : List (Addr × Ev)), Same H H' → H p = none → H' p = some (.lst (zs.map fun z => V.ref z.1)) → (∀ z ∈ zs, EvR H' z) → Fin es (fun e => (f e).map (·.2)) (zs.map (·.2)) → Q (.ref p) H'
theorem ok_least_first (T : Tx K mg) : FnOk P w K mg base CX0 2 T.aleast_first T.dleast_first P_least_first spLF := by
  have G_turned := ok_turned (P := P) (w := w) (base := base) T
  refine T.fleast_first.ok sc_least_first (fun vs H Q E h => ?_) (fun cdv A outer s H vs Q E hr h => ?_)
  · obtain ⟨d, es, ad, f, rfl, _⟩ := h
    rfl
  obtain ⟨d, es, ad, f, rfl, hd, hB, nd, l16, sub, l20, q⟩ := h
  have hu := hu_of hr
  refine ⟨_, (pss_cons (ps_set (i := 1) sc_least_first.nd rfl (Or.inl rfl) (pe_call G_turned (hr.mono (by decide)) (by rfl) T.mturned T.fturned.kp T.bturned .nil pass0 (pa_cons (pv 0) pa_nil)))
  (pss_cons (ps_lock (ps_setDcT (i := 2) (own := [("event", 3)]) (g := (gName 3)) hu rfl sc_least_first.nd rfl rfl (swD rfl rfl rfl (by decide +kernel)) (pi_keys (pv 0)) (blkOk_by (own := [("event", 3)]) (N := N_least_first) (sc := defScope s_least_first) (by decide +kernel)) (fun _ _ _ _ _ => (pg_name (i := 3) sc_least_first.nd rfl (Or.inl rfl))) (fun _ _ _ _ _ => pts_nil) (fun _ _ _ _ _ => (pv 3)) (fun _ _ _ _ _ => (pe_callB lenH (by rfl) T.len (by decide +kernel) (pa_cons (pe_dget hu (pv 0) (pv 3) (fun _ _ => rfl)) pa_nil)))))
  (pss_cons (ps_set (i := 4) sc_least_first.nd rfl (Or.inl rfl) (pe_callB (sortH hr.units) (by rfl) T.sorted (by decide +kernel) (pa_cons (pe_lock (pe_lc (own := [("event", 3)]) (g := (gName 3)) rfl sc_least_first.nd (pi_keys (pv 0)) (blkOk_by (own := [("event", 3)]) (N := N_least_first) (sc := defScope s_least_first) (by decide +kernel)) (fun _ _ _ _ _ => (pg_name (i := 3) sc_least_first.nd rfl (Or.inl rfl))) (fun _ _ _ _ _ => (pts_one (pt_not (pt_truH (pe_dget hu (pv 0) (pv 3) (fun _ _ => rfl)) (by intro _; rfl))))) (fun _ _ _ _ _ => (pv 3)))) pa_nil)))
  (pss_cons (ps_set (i := 5) sc_least_first.nd rfl (Or.inl rfl) (pe_lst pa_nil))
  (pss_cons (ps_while PassesOwn.never (pt_truH (pv 4) (by intro _; rfl))
    (pss_cons (ps_set (i := 3) sc_least_first.nd rfl (Or.inl rfl) (pe_callBfun (cr_pop hr.units) (by rfl) T.mheappop (pa_cons (pv 4) pa_nil)))
      (pss_cons (ps_expr (pe_bm PySem.F.plainAttrs_list PySem.F.slot_list_append PySem.F.type_list_append mt_append (pv 5) (pa_cons (pv 3) pa_nil)))
      (pss_one (ps_for PassesOwn.never rfl (pi_listK (K := K) rfl (pe_dget hu (pv 1) (pv 3) (fun _ _ => rfl))) (pg_name (i := 6) sc_least_first.nd rfl (Or.inl rfl))
        (pss_cons (ps_daug hu (pv 2) (pv 6) pe_int in_sub (fun _ _ _ => rfl))
          (pss_one (ps_if (pt_cmpR op_eq (pe_dget hu (pv 2) (pv 6) (fun _ _ => rfl)) pe_int (nomark _))
            (pss_one (ps_expr (pe_callBfun (cr_push hr.units) (by rfl) T.mheappush (pa_cons (pv 4) (pa_cons (pv 6) pa_nil)))))
            pss_nil))))))))
  (pss_one (ps_ret (pv 5)))))))), ?_⟩
  refine ⟨_, rfl, d, es, ad, f, rfl, hd, hB, nd, l16, sub, l20, fun bh H1 ad' f' s1 nb0 hbD hBb hbf => ?_⟩
  have few : ∀ (k : Nat) (g : Ev → V), (dE (es.take k) g).length < sizeLine := fun k g => by
    unfold dE
    rw [List.length_map, List.length_take, sizeLine_eq]
    omega
  have hd1 := s1 _ _ hd
  have hB1 := hB.same s1
  have bd : bh ≠ d := fun e => by rw [e, hd] at nb0; cases nb0
  -- how many each waits for
  refine ⟨d, _, hd1, trivial, fun od => ⟨_, rfl, d, od, rfl, .inr ⟨_, upd_same, fun wp nw => ?_⟩⟩⟩
  have wd : wp ≠ d := fun e => by rw [e, upd_same] at nw; cases nw
  have nw1 : H1 wp = none := by rw [upd_ne wd] at nw; exact nw
  have hBL := hB1.lock hd1 od
  refine keys_comp (fun k H' => Same (upd H1 d (.frz od (.dT (dE es fun e => .ref (ad e))))) H' ∧ H' wp = some (.dT (dE (es.take k) fun e => .int ((f e).length : Nat)))) ?_ ?_ (fun _ => rfl) ?_ ?_
  · exact ⟨same_new nw _, upd_same⟩
  · rintro k H' ⟨s, _⟩
    exact s _ _ upd_same
  · rintro k qa e H' he rq ⟨s, hD⟩
    have ie := List.mem_of_getElem? he
    have hBs := hBL.same s
    unfold dtTurn tYes
    refine iteT ⟨_, rfl, _, rfl, _, rfl, d, _, rfl, hBs.get rq ie, ad e, _, rfl, .inl (hBs.hz e ie), ?_⟩
    refine ⟨_, kE e, qa, rfl, rq, hD, few _ _, Same.put s nw _, ?_⟩
    rw [upd_same, dE_new (nin_take nd he), tk_snoc he]
    refine congrArg (fun x => some (HO.dT x)) (dE_congr fun x _ => ?_)
    by_cases c : x = e
    · rw [if_pos c, c, List.length_map]
    · rw [if_neg c]
  rintro H' ⟨s, hW⟩
  rw [List.take_length] at hW
  have hfr := s _ _ (upd_same : (upd H1 d (.frz od (.dT (dE es fun e => .ref (ad e))))) d = _)
  refine ⟨hfr, ?_⟩
  have s2 := unlock_same hd1 s
  have hW2 : (upd H' d (.dT (dE es fun e => .ref (ad e)))) wp = some (.dT (dE es fun e => .int ((f e).length : Nat))) := by rw [upd_ne wd]; exact hW
  generalize (upd H' d (.dT (dE es fun e => .ref (ad e)))) = H2 at s2 hW2 ⊢
  clear s hW hfr nw
  have hd2 := s2 _ _ hd1
  have hB2 := hB1.same s2
  -- those that wait for none
  refine ⟨d, _, hd2, trivial, fun od2 => ⟨_, rfl, d, od2, rfl, .inr ⟨_, upd_same, fun D nD => ?_⟩⟩⟩
  have Dd : D ≠ d := fun e => by rw [e, upd_same] at nD; cases nD
  have nD2 : H2 D = none := by rw [upd_ne Dd] at nD; exact nD
  have hBL2 := hB2.lock hd2 od2
  refine keys_comp (fun k H' => ∃ zs : List (Addr × Ev), Same (upd H2 d (.frz od2 (.dT (dE es fun e => .ref (ad e))))) H' ∧ H' D = some (.lst (zs.map fun z => V.ref z.1)) ∧ (∀ z ∈ zs, EvR H' z) ∧ zs.map (·.2) = (es.take k).filter (fun e => (f e).isEmpty)) ?_ ?_ (fun _ => rfl) ?_ ?_
  · exact ⟨[], same_new nD _, upd_same, (fun _ h => nomatch h), rfl⟩
  · rintro k H' ⟨_, s, _⟩
    exact s _ _ upd_same
  · rintro k qa e H' he rq ⟨zs, s, hD, hz, ez⟩
    have ie := List.mem_of_getElem? he
    have hBs := hBL2.same s
    refine ⟨_, rfl, _, rfl, d, _, rfl, hBs.get rq ie, ad e, _, rfl, hBs.hz e ie, ?_⟩
    have eb : ((f e).map fun z => V.ref z.1).isEmpty = (f e).isEmpty := by cases f e <;> rfl
    rw [eb]
    cases c : (f e).isEmpty with
    | false =>
      refine iteF ⟨zs, s, hD, hz, ?_⟩
      rw [ez, tk_snoc he, List.filter_append, List.filter_cons, c, if_neg (by decide)]
      simp
    | true =>
      refine iteT ⟨_, rfl, _, hD, ?_, zs ++ [(qa, e)], Same.put s nD _, by rw [upd_same, List.map_append]; rfl, fun z h => ?_, ?_⟩
      · rw [List.length_map, ← List.length_map (·.2), ez, sizeLine_eq]
        have a1 := List.length_filter_le (fun e => (f e).isEmpty) (es.take k)
        rw [List.length_take] at a1
        omega
      · rcases List.mem_append.mp h with y | y
        · exact (hz z y).keep (tk_upd hD _)
        · rw [List.mem_singleton.mp y]
          exact EvR.keep (H := H') rq (tk_upd hD _)
      · rw [List.map_append, ez, tk_snoc he, List.filter_append, List.filter_cons, c, if_pos rfl]
        simp
  rintro H' ⟨zs, s, hD, hz, ez⟩
  rw [List.take_length] at ez
  have hfr := s _ _ (upd_same : (upd H2 d (.frz od2 (.dT (dE es fun e => .ref (ad e))))) d = _)
  refine ⟨hfr, ?_⟩
  have s3 := unlock_same hd2 s
  have hD3 : (upd H' d (.dT (dE es fun e => .ref (ad e)))) D = some (.lst (zs.map fun z => V.ref z.1)) := by rw [upd_ne Dd]; exact hD
  have hz3 : ∀ z ∈ zs, EvR (upd H' d (.dT (dE es fun e => .ref (ad e)))) z := fun z h => (hz z h).keep (tk_off hfr fun _ z => nomatch z)
  generalize (upd H' d (.dT (dE es fun e => .ref (ad e)))) = H3 at s3 hD3 hz3 ⊢
  clear s hD hfr nD hz
  have s03 : Same H H3 := s1.trans (s2.trans s3)
  have hBb3 := hBb.same (s2.trans s3)
  have hbD3 := s3 _ _ (s2 _ _ hbD)
  have hW3 := s3 _ _ hW2
  have wb : wp ≠ bh := fun e => by rw [e, hbD] at nw1; cases nw1
  have nw0 : H wp = none := s1.free nw1
  have lz : zs.length ≤ 16 := by
    rw [← List.length_map (·.2), ez]
    exact Nat.le_trans (List.length_filter_le _ _) l16
  refine ⟨D, zs.map (fun z => (V.ref z.1, evD z.2)), rfl, by rw [List.map_map]; exact hD3, ?_, ?_, ?_, by rw [List.length_map, sizeLine_eq]; omega, ?_, fun zs' rp pm pw nr => ?_⟩
  · intro z h
    obtain ⟨u, hu, rfl⟩ := List.mem_map.mp h
    exact ev_rp (hz3 u hu)
  · have := evs_alike (zs.map (·.2))
    rw [List.map_map] at this ⊢
    exact this
  · have := evs_sortable (zs.map (·.2))
    rw [List.map_map] at this ⊢
    exact this
  · intro z h
    obtain ⟨u, hu, rfl⟩ := List.mem_map.mp h
    show (evD u.2).depth ≤ 20
    rw [HQ.evD_depth]
    decide
  obtain ⟨zr, rfl, pz⟩ := perm_inv pm rfl
  have ex : (zr.map (fun z => (V.ref z.1, evD z.2))).map (·.1) = zr.map fun z => V.ref z.1 := by rw [List.map_map]; rfl
  rw [ex]
  have hp0 : heapL (zr.map (·.2)) := heap_sorted (by refine List.pairwise_map.mpr ((List.pairwise_map.mp pw).imp fun {x y} h => ?_); exact h)
  have s4 := same_new nr (.lst (zr.map fun z => V.ref z.1))
  have er4 : ∀ z ∈ zr, EvR (upd H3 rp (.lst (zr.map fun z => V.ref z.1))) z := fun z h => (hz3 z (pz.mem_iff.mp h)).keep (.same s4)
  have hr4 : (upd H3 rp (.lst (zr.map fun z => V.ref z.1))) rp = some (.lst (zr.map fun z => V.ref z.1)) := upd_same
  refine ⟨(by show 0 ≤ sizeLine; decide), fun op no => ?_⟩
  have s5 := same_new no (.lst [])
  have rb : ∀ e ∈ es, ad' e ≠ rp := fun e he z => by
    have := hBb3.hz e he
    rw [z, nr] at this
    cases this
  have ob : ∀ e ∈ es, ad' e ≠ op := fun e he z => by
    have := s4 _ _ (hBb3.hz e he)
    rw [z, no] at this
    cases this
  have or : op ≠ rp := fun z => by rw [z, hr4] at no; cases no
  have wr : wp ≠ rp := fun z => by rw [← z, hW3] at nr; cases nr
  have wo : wp ≠ op := fun z => by rw [← z, s4 _ _ hW3] at no; cases no
  have nr0 : H rp = none := s03.free nr
  have no0 : H op = none := s03.free (s4.free no)
  have hBb5 := (hBb3.same s4).same s5
  have hW5 := s5 _ _ (s4 _ _ hW3)
  have hr5 := s5 _ _ hr4
  have er5 : ∀ z ∈ zr, EvR (upd (upd H3 rp (.lst (zr.map fun z => V.ref z.1))) op (.lst [])) z := evs_keep er4 (.same s5)
  have ho5 : (upd (upd H3 rp (.lst (zr.map fun z => V.ref z.1))) op (.lst [])) op = some (.lst []) := upd_same
  have s05 := s03.trans (s4.trans s5)
  generalize (upd (upd H3 rp (.lst (zr.map fun z => V.ref z.1))) op (.lst [])) = H5 at s05 hBb5 hW5 hr5 er5 ho5 ⊢
  clear s4 s5 er4 hr4 nr no hW3 hbD3 hBb3 s03 hz3 hD3 s3 hBL2 hB2 hd2 hW2 s2
  have mz : ∀ y, y ∈ zr.map (·.2) ↔ Rdy es (fun e => (f e).map (·.2)) [] y := fun y => by
    rw [(pz.map (·.2)).mem_iff, ez, List.mem_filter]
    unfold Rdy
    constructor
    · rintro ⟨a, b⟩
      have : f y = [] := by simpa using b
      refine ⟨a, (fun h => nomatch h), fun b hb => ?_⟩
      have hb : b ∈ (f y).map (·.2) := hb
      rw [this] at hb
      cases hb
    · rintro ⟨a, _, c⟩
      refine ⟨a, ?_⟩
      cases q : f y with
      | nil => rfl
      | cons u r =>
        have := c u.2 (by show u.2 ∈ (f y).map (·.2); rw [q]; exact List.mem_cons_self)
        cases this
  have ndz : (zr.map (·.2)).Nodup := by
    rw [(pz.map (·.2)).nodup_iff, ez]
    exact nd.sublist List.filter_sublist
  have lB : ∀ e, (behd es (fun e => (f e).map (·.2)) e).length ≤ 320 := fun e => by
    have := behd_len (es := es) (bef := fun e => (f e).map (·.2)) (c := 20) (fun x hx => by rw [List.length_map]; exact l20 x hx) e
    omega
  refine while_by (fun σ H' => ∃ (zr zo : List (Addr × Ev)) (t3 t6 : Option V), σ = [some (.ref d), some (.ref bh), some (.ref wp), t3, some (.ref rp), some (.ref op), t6] ∧ Same H H' ∧ BD H' bh es ad' f' ∧ H' wp = some (.dT (dE es fun e => .int (wt (zo.map (·.2)) ((f e).map (·.2)) : Nat))) ∧
    H' rp = some (.lst (zr.map fun z => V.ref z.1)) ∧ (∀ z ∈ zr, EvR H' z) ∧ heapL (zr.map (·.2)) ∧ H' op = some (.lst (zo.map fun z => V.ref z.1)) ∧ (∀ z ∈ zo, EvR H' z) ∧ Kd es (fun e => (f e).map (·.2)) (zo.map (·.2)) ∧ (zr.map (·.2)).Nodup ∧ ∀ y, y ∈ zr.map (·.2) ↔ Rdy es (fun e => (f e).map (·.2)) (zo.map (·.2)) y)
    (fun _ H' => match H' op with | some (.lst xs) => es.length + 1 - xs.length | _ => 0) ?_ ?_ ?_
  · refine ⟨zr, [], _, _, rfl, s05, hBb5, ?_, hr5, er5, hp0, ho5, (fun _ h => nomatch h), .nil, ndz, mz⟩
    rw [hW5]
    refine congrArg (fun x => some (HO.dT x)) (dE_congr fun x _ => ?_)
    unfold wt
    rw [List.filter_eq_self.mpr (fun b _ => by simp), List.length_map]
  · rintro σ H' ⟨zr, zo, t3, t6, rfl, s, hb, hw, hr, er, hp, ho, eo, kd, ndr, mr⟩
    refine ⟨_, rfl, rp, _, rfl, hr, ?_⟩
    by_cases hne : zr = []
    · subst hne
      refine iteF ⟨_, rfl, q op H' zo s no0 ho eo ⟨kd, fun e he => ?_⟩⟩
      have := (mr e).mpr he
      cases this
    have ie : (!(zr.map fun z => V.ref z.1).isEmpty) = true := by
      cases zr with
      | nil => exact absurd rfl hne
      | cons _ _ => rfl
    rw [ie]
    refine iteT ⟨_, rfl, rp, zr, rfl, hr, er, hne, hp, fun z zr' pm least hp' => ?_⟩
    have pme := pm.map (·.2)
    have ndc : (z.2 :: zr'.map (·.2)).Nodup := (pme.nodup_iff).mpr ndr
    have rz := er z (pm.mem_iff.mp List.mem_cons_self)
    have rdz : Rdy es (fun e => (f e).map (·.2)) (zo.map (·.2)) z.2 := (mr z.2).mp (pme.mem_iff.mp List.mem_cons_self)
    have iz := rdz.1
    have kd' : Kd es (fun e => (f e).map (·.2)) (zo.map (·.2) ++ [z.2]) := .snoc kd rdz fun y hy => by
      have := pme.mem_iff.mpr ((mr y).mpr hy)
      rcases List.mem_cons.mp this with c | c
      · rw [c]
        exact HQ.le_rf _
      · obtain ⟨u, hu, rfl⟩ := List.mem_map.mp c
        exact least u hu
    have lo : zo.length + 1 ≤ 16 := by
      have := len_sub kd'.nodup kd'.sub
      rw [List.length_append, List.length_map, List.length_singleton] at this
      omega
    have k1 := tk_upd hr (.lst (zr'.map fun z => V.ref z.1))
    have ho1 : (upd H' rp (.lst (zr'.map fun z => V.ref z.1))) op = some (.lst (zo.map fun z => V.ref z.1)) := by rw [upd_ne or]; exact ho
    have eq1 : (zo.map fun z => V.ref z.1) ++ [V.ref z.1] = (zo ++ [z]).map fun z => V.ref z.1 := by rw [List.map_append]; rfl
    refine ⟨_, rfl, .inl ⟨rfl, _, .inl (.inl ho1)⟩, _, rfl, op, _, _, rfl, rfl, ho1, by rw [List.length_map, sizeLine_eq]; omega, ?_⟩
    rw [eq1]
    have k2 := tk_upd ho1 (.lst ((zo ++ [z]).map fun z => V.ref z.1))
    have hbH := (hb.lst (o := .lst (zr'.map fun z => V.ref z.1)) hr rb).lst (o := .lst ((zo ++ [z]).map fun z => V.ref z.1)) ho1 ob
    have s6 := Same.put (Same.put s nr0 (.lst (zr'.map fun z => V.ref z.1))) no0 (.lst ((zo ++ [z]).map fun z => V.ref z.1))
    have hw6 : (upd (upd H' rp (.lst (zr'.map fun z => V.ref z.1))) op (.lst ((zo ++ [z]).map fun z => V.ref z.1))) wp = some (.dT (dE es fun e => .int (wt (zo.map (·.2)) ((f e).map (·.2)) : Nat))) := by rw [upd_ne wo, upd_ne wr]; exact hw
    have hr6 : (upd (upd H' rp (.lst (zr'.map fun z => V.ref z.1))) op (.lst ((zo ++ [z]).map fun z => V.ref z.1))) rp = some (.lst (zr'.map fun z => V.ref z.1)) := by rw [upd_ne (Ne.symm or), upd_same]
    have ho6 : (upd (upd H' rp (.lst (zr'.map fun z => V.ref z.1))) op (.lst ((zo ++ [z]).map fun z => V.ref z.1))) op = some (.lst ((zo ++ [z]).map fun z => V.ref z.1)) := upd_same
    have er6 : ∀ y ∈ zr', EvR (upd (upd H' rp (.lst (zr'.map fun z => V.ref z.1))) op (.lst ((zo ++ [z]).map fun z => V.ref z.1))) y := fun y hy => ((er y (pm.mem_iff.mp (List.mem_cons_of_mem _ hy))).keep k1).keep k2
    have rz6 := EvR.keep (EvR.keep rz k1) k2
    have eo6 : ∀ y ∈ zo ++ [z], EvR (upd (upd H' rp (.lst (zr'.map fun z => V.ref z.1))) op (.lst ((zo ++ [z]).map fun z => V.ref z.1))) y := fun y hy => by
      rcases List.mem_append.mp hy with c | c
      · exact ((eo y c).keep k1).keep k2
      · rw [List.mem_singleton.mp c]
        exact rz6
    have lt0 : (match H' op with | some (.lst xs) => es.length + 1 - xs.length | _ => 0) = es.length + 1 - zo.length := by
      rw [ho]
      show es.length + 1 - (zo.map fun z => V.ref z.1).length = _
      rw [List.length_map]
    generalize (upd (upd H' rp (.lst (zr'.map fun z => V.ref z.1))) op (.lst ((zo ++ [z]).map fun z => V.ref z.1))) = H6 at hbH s6 hw6 hr6 ho6 er6 rz6 eo6 ⊢
    have hl6 := hbH.hz z.2 iz
    refine ⟨_, rfl, _, rfl, bh, _, rfl, hbH.get rz6 iz, ad' z.2, rfl, ⟨_, .inl (.inl hl6)⟩, for_list (xs := (f' z.2).map fun z => V.ref z.1) (fun j σ H'' => ∃ (zr2 : List (Addr × Ev)) (t6 : Option V), σ = [some (.ref d), some (.ref bh), some (.ref wp), some (.ref z.1), some (.ref rp), some (.ref op), t6] ∧ Same H H'' ∧ BD H'' bh es ad' f' ∧
      H'' wp = some (.dT (dE es fun e => .int ((wt (zo.map (·.2)) ((f e).map (·.2)) : Nat) - (((behd es (fun e => (f e).map (·.2)) z.2).take j).count e : Nat)))) ∧ H'' rp = some (.lst (zr2.map fun z => V.ref z.1)) ∧ (∀ z ∈ zr2, EvR H'' z) ∧ heapL (zr2.map (·.2)) ∧
      H'' op = some (.lst ((zo ++ [z]).map fun z => V.ref z.1)) ∧ (∀ y ∈ zo ++ [z], EvR H'' y) ∧ (zr2.map (·.2)).Nodup ∧ ∀ y, y ∈ zr2.map (·.2) ↔ RJ es (fun e => (f e).map (·.2)) (zo.map (·.2)) z.2 j y) ?_ ?_ ?_ ?_⟩
    · refine ⟨zr', _, rfl, s6, hbH, ?_, hr6, er6, hp', ho6, eo6, (List.nodup_cons.mp ndc).2, fun y => ?_⟩
      · rw [hw6]
        refine congrArg (fun x => some (HO.dT x)) (dE_congr fun x _ => ?_)
        simp
      · rw [rj_zero rdz, ← mr y, ← pme.mem_iff, List.map_cons, List.mem_cons]
        constructor
        · intro h
          exact ⟨.inr h, fun e => (List.nodup_cons.mp ndc).1 (e ▸ h)⟩
        · rintro ⟨h, ne⟩
          exact h.resolve_left ne
    · rintro j σ H'' _ ⟨zr2, t6, rfl, _, hb, _⟩
      exact .inl (.inl (hb.hz z.2 iz))
    · rintro j x σ H'' hx ⟨zr2, t6, rfl, s, hb, hw, hr, er, hp, ho, eo, ndr, mr⟩
      rw [List.getElem?_map] at hx
      obtain ⟨y, hyi, rfl⟩ := Option.map_eq_some_iff.mp hx
      have hk := gmap_of (hbf z.2 iz) hyi
      have hyf := List.mem_of_getElem? hyi
      have ry := hb.he z.2 iz y hyf
      have iy : y.2 ∈ es := behd_mem (List.mem_of_getElem? hk)
      have ct := count_take hk
      have k3 := tk_off (o := .dT (putK (dE es fun e => .int ((wt (zo.map (·.2)) ((f e).map (·.2)) : Nat) - (((behd es (fun e => (f e).map (·.2)) z.2).take j).count e : Nat))) (kE y.2) (.int ((wt (zo.map (·.2)) ((f y.2).map (·.2)) : Nat) - (((behd es (fun e => (f e).map (·.2)) z.2).take j).count y.2 : Nat) - 1)))) hw (fun _ z => nomatch z)
      have few1 : (dE es fun e => V.int ((wt (zo.map (·.2)) ((f e).map (·.2)) : Nat) - (((behd es (fun e => (f e).map (·.2)) z.2).take j).count e : Nat))).length < sizeLine := by
        unfold dE
        rw [List.length_map, sizeLine_eq]
        omega
      refine ⟨_, rfl, _, rfl, wp, _, rfl, dE_int (.inl hw) ry iy, _, 1, rfl, rfl, _, DPut.t (k := kE y.2) hw ry few1, ?_⟩
      have ew : putK (dE es fun e => V.int ((wt (zo.map (·.2)) ((f e).map (·.2)) : Nat) - (((behd es (fun e => (f e).map (·.2)) z.2).take j).count e : Nat))) (kE y.2) (.int ((wt (zo.map (·.2)) ((f y.2).map (·.2)) : Nat) - (((behd es (fun e => (f e).map (·.2)) z.2).take j).count y.2 : Nat) - 1)) =
          dE es fun e => V.int ((wt (zo.map (·.2)) ((f e).map (·.2)) : Nat) - (((behd es (fun e => (f e).map (·.2)) z.2).take (j + 1)).count e : Nat)) := by
        rw [dE_put iy]
        refine dE_congr fun x _ => ?_
        rw [ct x]
        by_cases c : x = y.2
        · subst c
          rw [if_pos rfl, if_pos rfl]
          refine congrArg V.int ?_
          omega
        · rw [if_neg c, if_neg fun q => c q.symm]
          refine congrArg V.int ?_
          omega
      rw [ew] at k3 ⊢
      have hb7 := hb.off (o := .dT (dE es fun e => V.int ((wt (zo.map (·.2)) ((f e).map (·.2)) : Nat) - (((behd es (fun e => (f e).map (·.2)) z.2).take (j + 1)).count e : Nat)))) hw (fun _ z => nomatch z) (fun _ z => nomatch z) (Ne.symm wb)
      have s7 := Same.put s nw0 (.dT (dE es fun e => V.int ((wt (zo.map (·.2)) ((f e).map (·.2)) : Nat) - (((behd es (fun e => (f e).map (·.2)) z.2).take (j + 1)).count e : Nat))))
      have hw7 : (upd H'' wp (.dT (dE es fun e => V.int ((wt (zo.map (·.2)) ((f e).map (·.2)) : Nat) - (((behd es (fun e => (f e).map (·.2)) z.2).take (j + 1)).count e : Nat))))) wp = some (.dT (dE es fun e => V.int ((wt (zo.map (·.2)) ((f e).map (·.2)) : Nat) - (((behd es (fun e => (f e).map (·.2)) z.2).take (j + 1)).count e : Nat)))) := upd_same
      have hr7 : (upd H'' wp (.dT (dE es fun e => V.int ((wt (zo.map (·.2)) ((f e).map (·.2)) : Nat) - (((behd es (fun e => (f e).map (·.2)) z.2).take (j + 1)).count e : Nat))))) rp = some (.lst (zr2.map fun z => V.ref z.1)) := by rw [upd_ne (Ne.symm wr)]; exact hr
      have ho7 : (upd H'' wp (.dT (dE es fun e => V.int ((wt (zo.map (·.2)) ((f e).map (·.2)) : Nat) - (((behd es (fun e => (f e).map (·.2)) z.2).take (j + 1)).count e : Nat))))) op = some (.lst ((zo ++ [z]).map fun z => V.ref z.1)) := by rw [upd_ne (Ne.symm wo)]; exact ho
      have er7 := evs_keep er k3
      have eo7 := evs_keep eo k3
      have ry7 := EvR.keep (H := H'') ry k3
      generalize (upd H'' wp (.dT (dE es fun e => V.int ((wt (zo.map (·.2)) ((f e).map (·.2)) : Nat) - (((behd es (fun e => (f e).map (·.2)) z.2).take (j + 1)).count e : Nat))))) = H7 at hb7 s7 hw7 hr7 ho7 er7 eo7 ry7 ⊢
      refine ⟨_, rfl, _, rfl, wp, _, rfl, dE_int (.inl hw7) ry7 iy, rfl, _, rfl, ?_⟩
      by_cases c : wt (zo.map (·.2)) ((f y.2).map (·.2)) = ((behd es (fun e => (f e).map (·.2)) z.2).take (j + 1)).count y.2
      · have e0 : decide (V.int ((wt (zo.map (·.2)) ((f y.2).map (·.2)) : Nat) - (((behd es (fun e => (f e).map (·.2)) z.2).take (j + 1)).count y.2 : Nat)) = V.int 0) = true := decide_eq_true (by rw [c, Int.sub_self])
        rw [e0]
        have pj := rj_push kd rdz hk c
        have l2 : zr2.length < sizeLine := by
          have := len_sub (m := es) ndr fun x hx => ((mr x).mp hx).1
          rw [List.length_map] at this
          rw [sizeLine_eq]
          omega
        refine iteT ⟨_, rfl, _, rfl, rp, y, zr2, rfl, hr7, ry7, er7, l2, hp, fun zr3 pm3 hp3 => ?_⟩
        have pm3e := pm3.map (·.2)
        have k8 := tk_upd hr7 (.lst (zr3.map fun z => V.ref z.1))
        refine ⟨zr3, _, rfl, Same.put s7 nr0 _, hb7.lst hr7 rb, by rw [upd_ne wr]; exact hw7, upd_same, fun u hu => ?_, hp3, by rw [upd_ne or]; exact ho7, evs_keep eo7 k8, ?_, fun x => ?_⟩
        · rcases List.mem_cons.mp (pm3.mem_iff.mp hu) with q | q
          · rw [q]
            exact EvR.keep ry7 k8
          · exact (er7 u q).keep k8
        · refine pm3e.nodup_iff.mpr (List.nodup_cons.mpr ⟨fun q => pj.2 ((mr _).mp q), ndr⟩)
        · rw [pm3e.mem_iff, pj.1 x, ← mr x]
          exact List.mem_cons
      · have e0 : decide (V.int ((wt (zo.map (·.2)) ((f y.2).map (·.2)) : Nat) - (((behd es (fun e => (f e).map (·.2)) z.2).take (j + 1)).count y.2 : Nat)) = V.int 0) = false := decide_eq_false fun q => by
          have := V.int.inj q
          exact c (by omega)
        rw [e0]
        refine iteF ⟨zr2, _, rfl, s7, hb7, hw7, hr7, er7, hp, ho7, eo7, ndr, fun x => ?_⟩
        rw [rj_stay nd rdz.2.1 hk c x]
        exact mr x
    · rintro σ H'' ⟨zr2, t6, rfl, s, hb, hw, hr, er, hp, ho, eo, ndr, mr⟩
      have ln : ((f' z.2).map fun z => V.ref z.1).length = (behd es (fun e => (f e).map (·.2)) z.2).length := by rw [← hbf z.2 iz, List.length_map, List.length_map]
      rw [ln] at hw mr
      have eo2 : (zo ++ [z]).map (·.2) = zo.map (·.2) ++ [z.2] := by rw [List.map_append]; rfl
      refine ⟨⟨zr2, zo ++ [z], _, _, rfl, s, hb, ?_, hr, er, hp, ho, eo, by rw [eo2]; exact kd', ndr, fun x => ?_⟩, ?_⟩
      · rw [hw]
        refine congrArg (fun x => some (HO.dT x)) (dE_congr fun x hx => ?_)
        rw [List.take_length, eo2, behd_wt (bef := fun e => (f e).map (·.2)) nd rdz.2.1 hx]
        refine congrArg V.int ?_
        omega
      · rw [mr x, eo2]
        exact rj_end nd rdz.2.1
      · show (match H'' op with | some (.lst xs) => es.length + 1 - xs.length | _ => 0) < (match H' op with | some (.lst xs) => es.length + 1 - xs.length | _ => 0)
        rw [lt0, ho]
        show es.length + 1 - ((zo ++ [z]).map fun z => V.ref z.1).length < _
        rw [List.length_map, List.length_append, List.length_singleton]
        have := len_sub kd'.nodup kd'.sub
        rw [List.length_append, List.length_map, List.length_singleton] at this
        omega
  · rintro σ H' Q1 Q2 h ⟨v, e, a, xs, e1, e2, q⟩
    exact ⟨v, e, a, xs, e1, e2, h _ _ q⟩

end L2.K06
namespace L2.K06
open PySem PySem.Spec PyProof.Rows L2.My
open HQ (Ev evD)
variable {P : Program} {w : World} {K : PySem.W.Frag} {mg : Str → Option Value} {base : Heap}
def spBO : Sp := fun vs H Q _ => ∃ (v : V) (d : PyData) (L : Lg), vs = [v] ∧ Rp H v d ∧ tupD d = encLog L ∧ slim d = true ∧ d.depth < 6 ∧ My.Good L ∧
  ∀ (b : Addr) (H' : Hp) (ad : Ev → Addr) (f : Ev → List (Addr × Ev)), Same H H' → H b = none → H' b = some (.dT (dE (evs L) fun e => .ref (ad e))) → BD H' b (evs L) ad f → (∀ e ∈ evs L, (f e).map (·.2) = befs L e) → Q (.ref b) H'
theorem ok_befores_of (T : Tx K mg) : FnOk P w K mg base CX0 7 T.abefores_of T.dbefores_of P_befores_of spBO := by
  have G_tupled := ok_tupled (P := P) (w := w) (base := base) T 6
  have G_events := ok_events (P := P) (w := w) (base := base) T
  have G_linked := ok_linked (P := P) (w := w) (base := base) T
  refine T.fbefores_of.ok sc_befores_of (fun vs H Q E h => ?_) (fun cdv A outer s H vs Q E hr h => ?_)
  · obtain ⟨v, d, L, rfl, _⟩ := h
    rfl
  obtain ⟨v, d, L, rfl, hv, ed, sl, dp, hG, q⟩ := h
  refine ⟨_, (pss_cons (ps_set (i := 0) sc_befores_of.nd rfl (Or.inl rfl) (pe_call G_tupled (hr.mono (by decide)) (by rfl) T.mtupled T.ftupled.kp T.btupled .nil pass0 (pa_cons (pv 0) pa_nil)))
  (pss_one (ps_ret (pe_call G_linked (hr.mono (by decide)) (by rfl) T.mlinked T.flinked.kp T.blinked .nil pass0 (pa_cons (pe_call G_events (hr.mono (by decide)) (by rfl) T.mevents T.fevents.kp T.bevents .nil pass0 (pa_cons (pv 0) pa_nil)) (pa_cons (pe_ix ixT (pv 0) pe_int (fun _ _ => rfl)) pa_nil)))))), ?_⟩
  refine ⟨_, rfl, v, d, rfl, hv, dp, sl, fun v' H1 s1 tv => ?_⟩
  rw [ed] at tv
  have lg := logAt tv.rp (tup_log L)
  cases tv with
  | @tup a _ _ ha t =>
    cases t with
    | cons t1 t =>
      cases t with
      | cons t2 t =>
        cases t
        cases t2 with
        | @tup ma _ _ hma tl =>
          obtain ⟨zl, rfl, hl, el⟩ := lts_of tl
          refine ⟨_, rfl, _, L, rfl, lg, hG, fun fa H2 zs s2 nf hf hz ez => ?_⟩
          refine ⟨_, rfl, a, _, 1, _, rfl, rfl, s2 _ _ ha, at1, ?_⟩
          refine ⟨fa, ma, zs, zl, L, rfl, hf, hz, ez, hG, s2 _ _ hma, fun z h => (hl z h).keep (.same s2), el, fun b H3 ad f s3 nb hb hB hf => ?_⟩
          exact q b H3 ad f (s1.trans (s2.trans s3)) (s1.free (s2.free nb)) hb hB hf

end L2.K06
namespace L2.K06
open PySem PySem.Spec PyProof.Rows L2.My
open HQ (Ev evD)
variable {P : Program} {w : World} {K : PySem.W.Frag} {mg : Str → Option Value} {base : Heap}
def spLEv (g : Lg → List Ev) : Sp := fun vs H Q _ => ∃ (v : V) (L : Lg), vs = [v] ∧ Tp H v (encLog L) ∧ My.Good L ∧
  ∀ (p : Addr) (H' : Hp) (zs : List (Addr × Ev)), Same H H' → H p = none → H' p = some (.lst (zs.map fun z => V.ref z.1)) → (∀ z ∈ zs, EvR H' z) → zs.map (·.2) = g L → Q (.ref p) H'
theorem ok__law_events (T : Tx K mg) : FnOk P w K mg base CX0 1 T.a_law_events T.d_law_events P__law_events (spLEv evs) := by
  refine T.f_law_events.ok sc__law_events (fun vs H Q E h => ?_) (fun cdv A outer s H vs Q E hr h => ?_)
  · obtain ⟨v, L, rfl, _⟩ := h
    rfl
  obtain ⟨v, L, rfl, hT, hG, q⟩ := h
  refine ⟨_, (pss_cons (ps_set (i := 1) sc__law_events.nd rfl (Or.inl rfl) (pe_lst pa_nil))
  (pss_cons (ps_for PassesOwn.never rfl (pi_tupK (K := K) rfl (pe_ix ixT (pv 0) pe_int (fun _ _ => rfl))) (pg_name (i := 2) sc__law_events.nd rfl (Or.inr rfl))
    (pss_one (ps_set (i := 1) sc__law_events.nd rfl (Or.inl rfl) (pe_op op_cat (pv 1) (pe_lc (own := [("_law_number", 3)]) (g := (gName 3)) rfl sc__law_events.nd (pi_range1 (by rfl) T.range (pa_cons (pe_ix ixT (pv 2) pe_int (fun _ _ => rfl)) pa_nil)) (blkOk_by (own := [("_law_number", 3)]) (N := N__law_events) (sc := defScope s__law_events) (by decide +kernel)) (fun _ _ _ _ _ => (pg_name (i := 3) sc__law_events.nd rfl (Or.inl rfl))) (fun _ _ _ _ _ => pts_nil) (fun _ _ _ _ _ => (pe_tup (pa_cons (pe_ix ixT (pv 2) pe_int (fun _ _ => rfl)) (pa_cons (pv 3) pa_nil)))))))))
  (pss_one (ps_ret (pv 1))))), ?_⟩
  obtain ⟨a, m, l, xs, zl, hL⟩ := logTup hT
  obtain ⟨rfl, ha, hm, lx, hx, hl, hz, el⟩ := hL
  have few : ∀ k, (flat ((L.ms.map fun m => (m.1, upto m.2.1)).take k)).length ≤ 16 := fun k => Nat.le_trans flat_le (by rw [← evs_flat]; exact hG.few.1)
  refine ⟨(by show 0 ≤ sizeLine; decide), fun f0 n0 => ?_⟩
  have s0 := same_new n0 (.lst [])
  refine ⟨_, rfl, a, _, 0, _, rfl, rfl, s0 _ _ ha, at0, m, rfl, ⟨_, .inl (.inl (s0 _ _ hm))⟩, ?_⟩
  refine for_tup (xs := xs) (fun k σ H' => ∃ (p : Addr) (zs : List (Addr × Ev)) (t2 t3 : Option V), σ = [some (.ref a), some (.ref p), t2, t3] ∧ Same H H' ∧ H p = none ∧ H' p = some (.lst (zs.map fun z => V.ref z.1)) ∧ (∀ z ∈ zs, EvR H' z) ∧ zs.map (·.2) = flat ((L.ms.map fun m => (m.1, upto m.2.1)).take k)) ?_ ?_ ?_ ?_
  · exact ⟨f0, [], none, none, rfl, s0, n0, upd_same, (fun _ h => nomatch h), rfl⟩
  · rintro k σ H' _ ⟨p, zs, t2, t3, rfl, s, _⟩
    exact .inl (.inl (s _ _ hm))
  · rintro k x σ H' hk ⟨p, zs, t2, t3, rfl, s, np, hp, hz, ez⟩
    obtain ⟨mm, qa, r, e1, rfl, g1, g2⟩ := hx k x hk
    have hmm : (L.ms.map fun m => (m.1, upto m.2.1))[k]? = some (mm.1, upto mm.2.1) := by rw [List.getElem?_map, e1]; rfl
    have ft := flat_take hmm
    have lf := few (k + 1)
    rw [ft, List.length_append, List.length_map, upto_len] at lf
    refine ⟨_, rfl, _, rfl, qa, _, 1, _, rfl, rfl, s _ _ g1, at1, _, rfl, by omega, by omega, fun D nD => ?_⟩
    refine lc_evs (is := upto mm.2.1) (n := mm.1) wk_rng nD (by rw [upto_len, sizeLine_eq]; omega) (fun _ => rfl) (fun v H1 Q' s1 kk => ?_) (fun H2 ws s2 hD hw ew => ?_)
    · exact ⟨_, rfl, qa, _, 0, _, rfl, rfl, s1 _ _ (s _ _ g1), at0, _, rfl, (by show 2 ≤ sizeLine; decide), kk⟩
    · refine ⟨p, D, _, _, rfl, rfl, s2 _ _ hp, hD, ?_, fun p2 np2 => ?_⟩
      · rw [List.length_map, List.length_map, ← List.length_map (·.2) (as := zs), ez, ← List.length_map (·.2) (as := ws), ew, List.length_map, upto_len, sizeLine_eq]
        omega
      · have s3 := same_new np2 (.lst ((zs.map fun z => V.ref z.1) ++ ws.map fun z => V.ref z.1))
        refine ⟨p2, zs ++ ws, _, _, rfl, s.trans (s2.trans s3), s.free (s2.free np2), by rw [upd_same, List.map_append], fun z hz' => ?_, by rw [List.map_append, ez, ew, ft]⟩
        rcases List.mem_append.mp hz' with c | c
        · exact (hz z c).keep (.same (s2.trans s3))
        · exact (hw z c).keep (.same s3)
  · rintro σ H' ⟨p, zs, t2, t3, rfl, s, np, hp, hz, ez⟩
    refine ⟨_, rfl, q p H' zs s np hp hz ?_⟩
    rw [ez, List.take_of_length_le (by rw [List.length_map, lx]; exact Nat.le_refl _), evs_flat]

end L2.K06
namespace L2.K06
open PySem PySem.Spec PyProof.Rows L2.My
open HQ (Ev evD)
variable {P : Program} {w : World} {K : PySem.W.Frag} {mg : Str → Option Value} {base : Heap}
theorem ok__law_marked (T : Tx K mg) : FnOk P w K mg base CX0 1 T.a_law_marked T.d_law_marked P__law_marked (spLEv mkd) := by
  refine T.f_law_marked.ok sc__law_marked (fun vs H Q E h => ?_) (fun cdv A outer s H vs Q E hr h => ?_)
  · obtain ⟨v, L, rfl, _⟩ := h
    rfl
  obtain ⟨v, L, rfl, hT, hG, q⟩ := h
  refine ⟨_, (pss_cons (ps_set (i := 1) sc__law_marked.nd rfl (Or.inl rfl) (pe_lst pa_nil))
  (pss_cons (ps_for PassesOwn.never rfl (pi_tupK (K := K) rfl (pe_ix ixT (pv 0) pe_int (fun _ _ => rfl))) (pg_name (i := 2) sc__law_marked.nd rfl (Or.inr rfl))
    (pss_one (ps_set (i := 1) sc__law_marked.nd rfl (Or.inl rfl) (pe_op op_cat (pv 1) (pe_lc (own := [("_law_number", 3)]) (g := (gName 3)) rfl sc__law_marked.nd (pi_tupK (K := K) rfl (pe_ix ixT (pv 2) pe_int (fun _ _ => rfl))) (blkOk_by (own := [("_law_number", 3)]) (N := N__law_marked) (sc := defScope s__law_marked) (by decide +kernel)) (fun _ _ _ _ _ => (pg_name (i := 3) sc__law_marked.nd rfl (Or.inl rfl))) (fun _ _ _ _ _ => pts_nil) (fun _ _ _ _ _ => (pe_tup (pa_cons (pe_ix ixT (pv 2) pe_int (fun _ _ => rfl)) (pa_cons (pv 3) pa_nil)))))))))
  (pss_one (ps_ret (pv 1))))), ?_⟩
  obtain ⟨a, m, l, xs, zl, hL⟩ := logTup hT
  obtain ⟨rfl, ha, hm, lx, hx, hl, hz, el⟩ := hL
  have few : ∀ k, (flat ((L.ms.map fun m => (m.1, m.2.2)).take k)).length ≤ 16 := fun k => Nat.le_trans flat_le (by rw [← mkd_flat]; exact mkd_len hG)
  refine ⟨(by show 0 ≤ sizeLine; decide), fun f0 n0 => ?_⟩
  have s0 := same_new n0 (.lst [])
  refine ⟨_, rfl, a, _, 0, _, rfl, rfl, s0 _ _ ha, at0, m, rfl, ⟨_, .inl (.inl (s0 _ _ hm))⟩, ?_⟩
  refine for_tup (xs := xs) (fun k σ H' => ∃ (p : Addr) (zs : List (Addr × Ev)) (t2 t3 : Option V), σ = [some (.ref a), some (.ref p), t2, t3] ∧ Same H H' ∧ H p = none ∧ H' p = some (.lst (zs.map fun z => V.ref z.1)) ∧ (∀ z ∈ zs, EvR H' z) ∧ zs.map (·.2) = flat ((L.ms.map fun m => (m.1, m.2.2)).take k)) ?_ ?_ ?_ ?_
  · exact ⟨f0, [], none, none, rfl, s0, n0, upd_same, (fun _ h => nomatch h), rfl⟩
  · rintro k σ H' _ ⟨p, zs, t2, t3, rfl, s, _⟩
    exact .inl (.inl (s _ _ hm))
  · rintro k x σ H' hk ⟨p, zs, t2, t3, rfl, s, np, hp, hz, ez⟩
    obtain ⟨mm, qa, r, e1, rfl, g1, g2⟩ := hx k x hk
    have hmm : (L.ms.map fun m => (m.1, m.2.2))[k]? = some (mm.1, mm.2.2) := by rw [List.getElem?_map, e1]; rfl
    have ft := flat_take hmm
    have lf := few (k + 1)
    rw [ft, List.length_append, List.length_map] at lf
    dsimp only at lf
    refine ⟨_, rfl, _, rfl, qa, _, 2, _, rfl, rfl, s _ _ g1, at2, r, rfl, ⟨_, .inl (.inl (s _ _ g2))⟩, fun D nD => ?_⟩
    refine lc_evs (is := mm.2.2) (n := mm.1) (wk_tup (s _ _ g2)) nD (by rw [sizeLine_eq]; omega) (fun _ => rfl) (fun v H1 Q' s1 kk => ?_) (fun H2 ws s2 hD hw ew => ?_)
    · exact ⟨_, rfl, qa, _, 0, _, rfl, rfl, s1 _ _ (s _ _ g1), at0, _, rfl, (by show 2 ≤ sizeLine; decide), kk⟩
    · refine ⟨p, D, _, _, rfl, rfl, s2 _ _ hp, hD, ?_, fun p2 np2 => ?_⟩
      · rw [List.length_map, List.length_map, ← List.length_map (·.2) (as := zs), ez, ← List.length_map (·.2) (as := ws), ew, List.length_map, sizeLine_eq]
        omega
      · have s3 := same_new np2 (.lst ((zs.map fun z => V.ref z.1) ++ ws.map fun z => V.ref z.1))
        refine ⟨p2, zs ++ ws, _, _, rfl, s.trans (s2.trans s3), s.free (s2.free np2), by rw [upd_same, List.map_append], fun z hz' => ?_, by rw [List.map_append, ez, ew, ft]⟩
        rcases List.mem_append.mp hz' with c | c
        · exact (hz z c).keep (.same (s2.trans s3))
        · exact (hw z c).keep (.same s3)
  · rintro σ H' ⟨p, zs, t2, t3, rfl, s, np, hp, hz, ez⟩
    refine ⟨_, rfl, q p H' zs s np hp hz ?_⟩
    rw [ez, List.take_of_length_le (by rw [List.length_map, lx]; exact Nat.le_refl _), mkd_flat]

end L2.K06
namespace L2.K06
open PySem PySem.Spec PyProof.Rows L2.My
open HQ (Ev evD)
variable {P : Program} {w : World} {K : PySem.W.Frag} {mg : Str → Option Value} {base : Heap}
theorem ok__law_lists (T : Tx K mg) : ∀ n, FnOk P w K mg base CX0 n T.a_law_lists T.d_law_lists P__law_lists (spLists n)
  | 0 => no_call fun vs H Q E ⟨_, _, _, _, h, _⟩ => Nat.not_lt_zero _ h
  | n + 1 => by
    have G__law_lists := ok__law_lists T n
    refine T.f_law_lists.ok sc__law_lists (fun vs H Q E h => ?_) (fun cdv A outer s H vs Q E hr h => ?_)
    · obtain ⟨v, d, rfl, _⟩ := h
      rfl
    obtain ⟨v, d, rfl, hv, hn, hs, q⟩ := h
    refine ⟨_, (pss_one (ps_ret (pe_ifExp (pt_val (pe_callB call_isiT (by rfl) T.isinstance (by decide +kernel) (pa_cons (pv 0) (pa_cons (pe_tup (pa_cons (pe_bltn (v := .ty "list") (u := .type "list") (by rfl) T.list (by decide +kernel) rfl) (pa_cons (pe_bltn (v := .ty "tuple") (u := .type "tuple") (by rfl) T.tuple (by decide +kernel) rfl) pa_nil))) pa_nil)))) (pe_lc (own := [("_law_bit", 1)]) (g := (gName 1)) rfl sc__law_lists.nd (pi_seq (pv 0)) (blkOk_by (own := [("_law_bit", 1)]) (N := N__law_lists) (sc := defScope s__law_lists) (by decide +kernel)) (fun _ _ _ _ _ => (pg_name (i := 1) sc__law_lists.nd rfl (Or.inl rfl))) (fun _ _ _ _ _ => pts_nil) (fun _ _ _ _ _ => (pe_call G__law_lists hr (by rfl) T.m_law_lists T.f_law_lists.kp T.b_law_lists .nil pass0 (pa_cons (pv 1) pa_nil)))) (pv 0)))), ?_⟩
    refine ⟨_, rfl, (by show 2 ≤ sizeLine; decide), fun tp htp => ⟨_, tp, _, _, _, _, rfl, upd_same, .cons (.ty _) (.cons (.ty _) .nil), (hv.same (same_new htp _)).ty, kit_seq hv, _, rfl, ?_⟩⟩
    have s1 := same_new htp (.tup [.ty "list", .ty "tuple"])
    cases hq : isSeq d with
    | false =>
      refine iteF ⟨_, rfl, q _ _ s1 ?_⟩
      have e := atom_tp hv hq
      have e2 : lstD d = tupD d := by rw [e.2]; cases d <;> first | rfl | cases hq
      rw [e2]
      exact (e.1.keep (.same s1)).nw
    | true =>
      refine iteT ?_
      obtain ⟨a, xs, ds, rfl, hx, hxs⟩ := seq_rp (K := K) hv hq
      have facts : ds.length ≤ 1000 ∧ (∀ e ∈ ds, slim e = true) ∧ (∀ e ∈ ds, e.depth < n) ∧ lstD d = .list (ds.map lstD) := by
        rcases hx with ⟨_, rfl⟩ | ⟨_, rfl⟩ <;> simp only [slim, Bool.and_eq_true, decide_eq_true_eq, PyData.depth] at hs hn <;>
          exact ⟨hs.1, slims_mem hs.2, fun e he => by have := depth_mem (Nat.le_refl _) e he; omega, by simp only [lstD, lstDs_map]⟩
      obtain ⟨f1, f2, f3, f4⟩ := facts
      have lx := hxs.length
      refine ⟨_, rfl, a, rfl, ?_⟩
      have bs : ∀ {D : Addr} {H1 : Hp}, Same (upd H tp (.tup [.ty "list", .ty "tuple"])) H1 → (∃ zs, H1 D = some (.lst zs)) → ∀ c, H1 c = none → (upd (upd H tp (.tup [.ty "list", .ty "tuple"])) D (.lst [])) c = none := by
        intro D H1 hS ⟨zs, hD⟩ c hc
        have nc : c ≠ D := fun e => by rw [e, hD] at hc; cases hc
        rw [upd_ne nc]
        exact hS.free hc
      have turn : ∀ (D : Addr) (j : Nat) (x : V) (H1 : Hp) (Q' : VK), xs[j]? = some x → Same (upd H tp (.tup [.ty "list", .ty "tuple"])) H1 → (∃ zs, H1 D = some (.lst zs)) →
          (∀ y H2, Same H1 H2 → (∃ d, ds[j]? = some d ∧ Nw (upd (upd H tp (.tup [.ty "list", .ty "tuple"])) D (.lst [])) H2 y (lstD d)) → Q' y H2) → tCall (spLists n) [] E0 (tCons (tVar 1) tNil) ((wipe (start N__law_lists [.ref a]) [1]).set 1 (some x)) H1 Q' := by
        intro D j x H1 Q' hxj hS hD k
        obtain ⟨e, he, hxe⟩ := hxs.get hxj
        have em := List.mem_of_getElem? he
        exact ⟨x, rfl, x, e, rfl, (hxe.same s1).same hS, f3 e em, f2 e em, fun v' H' s t => k v' H' s ⟨e, he, t.base (bs hS hD)⟩⟩
      have done : ∀ (D : Addr) (H' : Hp) (ys : List V), (upd H tp (.tup [.ty "list", .ty "tuple"])) D = none → Same (upd H tp (.tup [.ty "list", .ty "tuple"])) H' → H' D = some (.lst ys) → ys.length = xs.length → (∀ (j : Nat) (y : V), ys[j]? = some y → ∃ d, ds[j]? = some d ∧ Nw (upd (upd H tp (.tup [.ty "list", .ty "tuple"])) D (.lst [])) H' y (lstD d)) →
          Q (.ref D) H' := by
        intro D H' ys nD s2 hD ly hR
        refine q _ _ (s1.trans s2) ?_
        rw [f4]
        refine .lst (s1.free nD) hD ((nwAll_of (by omega) hR).base fun c hc => ?_)
        by_cases e : c = D
        · rw [e]; exact s1.free nD
        · rw [upd_ne e] at hc
          exact s1.free hc
      have lz : xs.length ≤ sizeLine := by rw [lx, sizeLine_eq]; omega
      have stD : ∀ (D : Addr) (j : Nat) (y : V) (H1 : Hp) (zs : List V) (o : HO), H1 D = some (.lst zs) → (∃ d, ds[j]? = some d ∧ Nw (upd (upd H tp (.tup [.ty "list", .ty "tuple"])) D (.lst [])) H1 y (lstD d)) → ∃ d, ds[j]? = some d ∧ Nw (upd (upd H tp (.tup [.ty "list", .ty "tuple"])) D (.lst [])) (upd H1 D o) y (lstD d) :=
        fun D j y H1 zs o hD ⟨d, e, t⟩ => ⟨d, e, t.keep (.upd (by rw [upd_same]; exact fun z => nomatch z) hD)⟩
      rcases hx with ⟨hx, _⟩ | ⟨hx, _⟩
      · have hx1 := s1 _ _ hx
        refine .inl ⟨⟨_, .inl (.inl hx1)⟩, fun D nD => ?_⟩
        exact lc_mapL hx1 nD lz _ (fun j y _ _ s ⟨d, e, t⟩ => ⟨d, e, t.keep (.same s)⟩) (stD D) (fun _ => rfl) (turn D) (done D · · nD)
      · have hx1 := s1 _ _ hx
        refine .inr ⟨⟨_, .inl (.inl hx1)⟩, fun D nD => ?_⟩
        exact lc_mapT hx1 nD lz _ (fun j y _ _ s ⟨d, e, t⟩ => ⟨d, e, t.keep (.same s)⟩) (stD D) (fun _ => rfl) (turn D) (done D · · nD)
def spSame (n : Nat) : Sp := fun vs H Q _ => ∃ (v u : V) (d : PyData), vs = [v, u] ∧ Rp H v d ∧ Rp H u d ∧ d.depth < n ∧ slim d = true ∧ ∀ H', Same H H' → Q (.bl true) H'
theorem ok__law_same (T : Tx K mg) : ∀ n, FnOk P w K mg base CX0 n T.a_law_same T.d_law_same P__law_same (spSame n)
  | 0 => no_call fun vs H Q E ⟨_, _, _, _, _, _, h, _⟩ => Nat.not_lt_zero _ h
  | n + 1 => by
    have G__law_same := ok__law_same T n
    refine T.f_law_same.ok sc__law_same (fun vs H Q E h => ?_) (fun cdv A outer s H vs Q E hr h => ?_)
    · obtain ⟨v, u, d, rfl, _⟩ := h
      rfl
    obtain ⟨v, u, d, rfl, hv, hu, hn, hs, q⟩ := h
    refine ⟨_, (pss_cons (ps_if (pt_val (pe_callB call_isiT (by rfl) T.isinstance (by decide +kernel) (pa_cons (pv 1) (pa_cons (pe_tup (pa_cons (pe_bltn (v := .ty "list") (u := .type "list") (by rfl) T.list (by decide +kernel) rfl) (pa_cons (pe_bltn (v := .ty "tuple") (u := .type "tuple") (by rfl) T.tuple (by decide +kernel) rfl) pa_nil))) pa_nil))))
    (pss_cons (ps_if (pt_cmpR op_ne (pe_callB call_isi (by rfl) T.isinstance (by decide +kernel) (pa_cons (pv 0) (pa_cons (pe_bltn (v := .ty "list") (u := .type "list") (by rfl) T.list (by decide +kernel) rfl) pa_nil))) (pe_callB call_isi (by rfl) T.isinstance (by decide +kernel) (pa_cons (pv 1) (pa_cons (pe_bltn (v := .ty "list") (u := .type "list") (by rfl) T.list (by decide +kernel) rfl) pa_nil))) (nomark _))
        (pss_one (ps_ret pe_bl))
        pss_nil)
      (pss_cons (ps_if (pt_cmpR op_ne (pe_callB call_isi (by rfl) T.isinstance (by decide +kernel) (pa_cons (pv 0) (pa_cons (pe_bltn (v := .ty "tuple") (u := .type "tuple") (by rfl) T.tuple (by decide +kernel) rfl) pa_nil))) (pe_callB call_isi (by rfl) T.isinstance (by decide +kernel) (pa_cons (pv 1) (pa_cons (pe_bltn (v := .ty "tuple") (u := .type "tuple") (by rfl) T.tuple (by decide +kernel) rfl) pa_nil))) (nomark _))
        (pss_one (ps_ret pe_bl))
        pss_nil)
      (pss_one (ps_ret (pe_and (pe_cmpR op_eq (pe_callB call_len_seq (by rfl) T.len (by decide +kernel) (pa_cons (pv 0) pa_nil)) (pe_callB call_len_seq (by rfl) T.len (by decide +kernel) (pa_cons (pv 1) pa_nil)) (nomark _)) (pe_one (pe_callB (cr_all rfl) (by rfl) T.all (by decide +kernel) (pa_cons (pe_lc (own := [("_law_mine", 2), ("_law_its", 3)]) (g := (gTup K 2 (gCons (gName 2) (gCons (gName 3) gNil)))) rfl sc__law_same.nd (RZ.pi_zipA (by rfl) T.zip (pa_cons (pv 0) (pa_cons (pv 1) pa_nil))) (blkOk_by (own := [("_law_mine", 2), ("_law_its", 3)]) (N := N__law_same) (sc := defScope s__law_same) (by decide +kernel)) (fun _ _ _ _ _ => (pg_tup (by rfl) (pgs_cons (pg_name (i := 2) sc__law_same.nd rfl (Or.inl rfl)) (pgs_cons (pg_name (i := 3) sc__law_same.nd rfl (Or.inl rfl)) pgs_nil)))) (fun _ _ _ _ _ => pts_nil) (fun _ _ _ _ _ => (pe_call G__law_same hr (by rfl) T.m_law_same T.f_law_same.kp T.b_law_same .nil pass0 (pa_cons (pv 2) (pa_cons (pv 3) pa_nil))))) pa_nil))))))))
    pss_nil)
  (pss_cons (ps_if (PW.pt (pw_or (pt_cmpR op_isN (pv 1) pe_non (nomark _)) (pw_or1 (pt_val (pe_callB call_isiT (by rfl) T.isinstance (by decide +kernel) (pa_cons (pv 1) (pa_cons (pe_tup (pa_cons (pe_bltn (v := .ty "bool") (u := .type "bool") (by rfl) T.bool (by decide +kernel) rfl) (pa_cons (pe_bltn (v := .ty "str") (u := .type "str") (by rfl) T.str (by decide +kernel) rfl) pa_nil))) pa_nil)))))))
    (pss_one (ps_ret (pe_and (pe_cmpR op_eq (pv 0) (pv 1) (nomark _)) (pe_and (pe_cmpR op_eq (pe_callB call_isi (by rfl) T.isinstance (by decide +kernel) (pa_cons (pv 0) (pa_cons (pe_bltn (v := .ty "bool") (u := .type "bool") (by rfl) T.bool (by decide +kernel) rfl) pa_nil))) (pe_callB call_isi (by rfl) T.isinstance (by decide +kernel) (pa_cons (pv 1) (pa_cons (pe_bltn (v := .ty "bool") (u := .type "bool") (by rfl) T.bool (by decide +kernel) rfl) pa_nil))) (nomark _)) (pe_one (pe_cmpR op_eq (pe_cmpR op_isN (pv 0) pe_non (nomark _)) (pe_cmpR op_isN (pv 1) pe_non (nomark _)) (nomark _)))))))
    pss_nil)
  (pss_one (ps_ret (pe_and (pe_callB call_isi (by rfl) T.isinstance (by decide +kernel) (pa_cons (pv 0) (pa_cons (pe_bltn (v := .ty "int") (u := .type "int") (by rfl) T.int (by decide +kernel) rfl) pa_nil))) (pe_and (pe_not (pe_callB call_isi (by rfl) T.isinstance (by decide +kernel) (pa_cons (pv 0) (pa_cons (pe_bltn (v := .ty "bool") (u := .type "bool") (by rfl) T.bool (by decide +kernel) rfl) pa_nil)))) (pe_one (pe_cmpR op_eq (pv 0) (pv 1) (nomark _))))))))), ?_⟩
    refine ⟨_, rfl, (by show 2 ≤ sizeLine; decide), fun tp htp => ⟨_, tp, _, _, _, _, rfl, upd_same, .cons (.ty _) (.cons (.ty _) .nil), (hu.same (same_new htp _)).ty, kit_seq hu, _, rfl, ?_⟩⟩
    have s1 := same_new htp (.tup [.ty "list", .ty "tuple"])
    have hv1 := hv.same s1
    have hu1 := hu.same s1
    cases hq : isSeq d with
    | true =>
      refine iteT ?_
      obtain ⟨a, xs, ds, rfl, hx, hxs⟩ := seq_rp (K := K) hv1 hq
      obtain ⟨b, ys, es, rfl, hy, hys⟩ := seq_rp (K := K) hu1 hq
      have kk : ∃ b1 b2, PySem.W.kitOne K (.type (knd d)) (.type "list") = some b1 ∧ PySem.W.kitOne K (.type (knd d)) (.type "tuple") = some b2 := by
        rcases hx with ⟨_, rfl⟩ | ⟨_, rfl⟩
        · exact ⟨_, _, kit_ty (a := "list") (r := true) (by decide +kernel), kit_ty (a := "list") (r := false) (by decide +kernel)⟩
        · exact ⟨_, _, kit_ty (a := "tuple") (r := false) (by decide +kernel), kit_ty (a := "tuple") (r := true) (by decide +kernel)⟩
      obtain ⟨b1, b2, k1, k2⟩ := kk
      refine ⟨_, rfl, _, _, _, _, _, rfl, .ty _, hv1.ty, k1, _, rfl, _, _, _, _, _, rfl, .ty _, hu1.ty, k1, rfl, _, rfl, ?_⟩
      refine iteNS rfl ?_
      refine ⟨_, rfl, _, _, _, _, _, rfl, .ty _, hv1.ty, k2, _, rfl, _, _, _, _, _, rfl, .ty _, hu1.ty, k2, rfl, _, rfl, ?_⟩
      refine iteNS rfl ?_
      have ed : es = ds := by
        rcases hx with ⟨_, rfl⟩ | ⟨_, rfl⟩ <;> rcases hy with ⟨_, e⟩ | ⟨_, e⟩ <;> first | cases e; rfl | cases e
      subst ed
      have facts : es.length ≤ 1000 ∧ (∀ e ∈ es, slim e = true) ∧ (∀ e ∈ es, e.depth < n) := by
        rcases hx with ⟨_, rfl⟩ | ⟨_, rfl⟩ <;> simp only [slim, Bool.and_eq_true, decide_eq_true_eq, PyData.depth] at hs hn <;>
          exact ⟨hs.1, slims_mem hs.2, fun e he => by have := depth_mem (Nat.le_refl _) e he; omega⟩
      obtain ⟨f1, f2, f3⟩ := facts
      have lx := hxs.length
      have ly := hys.length
      have hs2 : (SqL K (upd H tp (.tup [.ty "list", .ty "tuple"])) a xs ∧ SqL K (upd H tp (.tup [.ty "list", .ty "tuple"])) b ys) ∨ (SqT K (upd H tp (.tup [.ty "list", .ty "tuple"])) a xs ∧ SqT K (upd H tp (.tup [.ty "list", .ty "tuple"])) b ys) := by
        rcases hx with ⟨h1, rfl⟩ | ⟨h1, rfl⟩ <;> rcases hy with ⟨h2, e⟩ | ⟨h2, e⟩ <;> first | cases e; exact .inl ⟨.inl (.inl h1), .inl (.inl h2)⟩ | cases e; exact .inr ⟨.inl (.inl h1), .inl (.inl h2)⟩ | cases e
      have lens : (xs.length : Int) = (ys.length : Int) := by omega
      refine ⟨_, rfl, a, xs, rfl, hs2.imp And.left And.left, _, rfl, b, ys, rfl, hs2.imp And.right And.right, rfl, _, rfl, ?_⟩
      have de : decide (V.int (xs.length : Int) = V.int (ys.length : Int)) = true := decide_eq_true (by rw [lens])
      rw [de]
      refine iteT ?_
      have turn : ∀ (j : Nat) (x y : V) (H1 : Hp) (Q' : VK), xs[j]? = some x → ys[j]? = some y → Same (upd H tp (.tup [.ty "list", .ty "tuple"])) H1 → (∀ H2, Same H1 H2 → Q' (V.bl true) H2) →
          tCall (spSame n) [] E0 (tCons (tVar 2) (tCons (tVar 3) tNil)) (((wipe (start N__law_same [.ref a, .ref b]) [2, 3]).set 2 (some x)).set 3 (some y)) H1 Q' := by
        intro j x y H1 Q' hxj hyj hS k
        obtain ⟨e, he, hxe⟩ := hxs.get hxj
        obtain ⟨e', he', hye⟩ := hys.get hyj
        have ee : e' = e := Option.some.inj (he'.symm.trans he)
        subst ee
        have em := List.mem_of_getElem? he
        exact ⟨x, rfl, y, rfl, x, y, e', rfl, hxe.same hS, hye.same hS, f3 e' em, f2 e' em, k⟩
      have done : ∀ (D : Addr) (H' : Hp), Same (upd H tp (.tup [.ty "list", .ty "tuple"])) H' → H' D = some (.lst (List.replicate xs.length (.bl true))) → ∃ a bs, [V.ref D] = [V.ref a] ∧ SqL K H' a (List.map V.bl bs) ∧ Q (.bl (bs.all id)) H' := by
        intro D H' s2 hD
        refine ⟨D, List.replicate xs.length true, rfl, .inl (.inl (by rw [List.map_replicate]; exact hD)), ?_⟩
        have e : (List.replicate xs.length true).all id = true := by rw [List.all_replicate]; cases xs.length <;> rfl
        rw [e]
        exact q _ (s1.trans s2)
      have lz : xs.length ≤ sizeLine := by rw [lx, sizeLine_eq]; omega
      refine ⟨_, rfl, _, rfl, a, b, xs, ys, rfl, ?_⟩
      rcases hs2 with ⟨h1, h2⟩ | ⟨h1, h2⟩
      · refine .inl ⟨h1, h2, fun D nD => ?_⟩
        exact lc_zipT (i1 := 2) (i2 := 3) (ys := ys) nD (fun j H' s h => ⟨xs, ys, xs[j], ys[j]'(by omega), s.seq h1, s.seq h2, List.getElem?_eq_getElem h, List.getElem?_eq_getElem _⟩) (fun H' s => ⟨xs, ys, s.seq h1, s.seq h2, .inl (Nat.le_refl _)⟩)
          (fun j v H1 H2 s ⟨T, x, y, e1, e2, e3, e4, e5⟩ => ⟨T, x, y, e1, e2, e3, fun _ => ⟨e4 xs (s.seq h1), e5 ys (s.seq h2)⟩⟩) lz (fun _ _ => rfl) turn (done D)
      · refine .inr ⟨h1, h2, fun D nD => ?_⟩
        exact lc_zipT (i1 := 2) (i2 := 3) (ys := ys) nD (fun j H' s h => ⟨xs, ys, xs[j], ys[j]'(by omega), s.seqT h1, s.seqT h2, List.getElem?_eq_getElem h, List.getElem?_eq_getElem _⟩) (fun H' s => ⟨xs, ys, s.seqT h1, s.seqT h2, .inl (Nat.le_refl _)⟩)
          (fun j v H1 H2 s ⟨T, x, y, e1, e2, e3, e4, e5⟩ => ⟨T, x, y, e1, e2, e3, fun _ => ⟨e4 xs (s.seqT h1), e5 ys (s.seqT h2)⟩⟩) lz (fun _ _ => rfl) turn (done D)
    | false =>
      refine iteF ?_
      have kit : ∀ c : String, ∀ r, kitB (knd d) c = some r → PySem.W.kitOne K (.type (knd d)) (.type c) = some r := fun c r h => kit_ty h
      have any2 : ∀ r1 r2 r, kitB (knd d) "bool" = some r1 → kitB (knd d) "str" = some r2 → (r1 || r2) = r → PySem.W.kitAny K (.type (knd d)) [.type "bool", .type "str"] = some r := by
        intro r1 r2 r h1 h2 e
        cases r1 with
        | true => exact kitAny_cons (kit_ty h1) (fun z => by cases z) fun _ => e ▸ rfl
        | false => exact kitAny_cons (kit_ty h1) (fun _ => kitAny_cons (b := r2) (kit_ty h2) (fun z => by rw [← e, z]; rfl) fun z => by rw [← e, z]; rfl) fun z => by cases z
      cases hv1 with
      | lst => cases hq
      | tup => cases hq
      | non =>
        cases hu1
        refine ⟨_, rfl, rfl, _, rfl, iteT ?_⟩
        refine iteT ⟨_, rfl, _, rfl, rfl, _, rfl, iteT ?_⟩
        have k := kit "bool" false kb_NoneType_bool
        refine ⟨_, rfl, _, _, _, _, _, rfl, .ty _, .base .non, k, _, rfl, _, _, _, _, _, rfl, .ty _, .base .non, k, rfl, _, rfl, iteT ?_⟩
        exact ⟨_, rfl, rfl, _, rfl, rfl, rfl, q _ s1⟩
      | bl b =>
        cases hu1
        refine ⟨_, rfl, rfl, _, rfl, iteF ?_⟩
        have k := kit "bool" true kb_bool_bool
        have ka := any2 true false true kb_bool_bool kb_bool_str rfl
        refine ⟨_, rfl, (by show 2 ≤ sizeLine; decide), fun tq htq => ⟨_, tq, _, _, _, _, rfl, upd_same, .cons (.ty _) (.cons (.ty _) .nil), .base (.bl b), ka, _, rfl, iteT ?_⟩⟩
        have s2 := s1.trans (same_new htq (.tup [.ty "bool", .ty "str"]))
        refine ⟨_, rfl, _, rfl, rfl, _, rfl, ?_⟩
        rw [decide_eq_true rfl]
        refine iteT ⟨_, rfl, _, _, _, _, _, rfl, .ty _, .base (.bl b), k, _, rfl, _, _, _, _, _, rfl, .ty _, .base (.bl b), k, rfl, _, rfl, iteT ?_⟩
        exact ⟨_, rfl, rfl, _, rfl, rfl, rfl, q _ s2⟩
      | int i =>
        cases hu1
        refine ⟨_, rfl, rfl, _, rfl, iteF ?_⟩
        have ka := any2 false false false kb_int_bool kb_int_str rfl
        refine ⟨_, rfl, (by show 2 ≤ sizeLine; decide), fun tq htq => ⟨_, tq, _, _, _, _, rfl, upd_same, .cons (.ty _) (.cons (.ty _) .nil), .base (.int i), ka, _, rfl, iteF ?_⟩⟩
        have s2 := s1.trans (same_new htq (.tup [.ty "bool", .ty "str"]))
        have k1 := kit "int" true kb_int_int
        have k2 := kit "bool" false kb_int_bool
        refine ⟨_, rfl, _, _, _, _, _, rfl, .ty _, .base (.int i), k1, _, rfl, iteT ⟨_, rfl, _, _, _, _, _, rfl, .ty _, .base (.int i), k2, _, rfl, _, rfl, iteT ?_⟩⟩
        refine ⟨_, rfl, _, rfl, rfl, ?_⟩
        rw [decide_eq_true rfl]
        exact q _ s2
      | str x =>
        cases hu1
        refine ⟨_, rfl, rfl, _, rfl, iteF ?_⟩
        have k := kit "bool" false kb_str_bool
        have ka := any2 false true true kb_str_bool kb_str_str rfl
        refine ⟨_, rfl, (by show 2 ≤ sizeLine; decide), fun tq htq => ⟨_, tq, _, _, _, _, rfl, upd_same, .cons (.ty _) (.cons (.ty _) .nil), .base (.str x), ka, _, rfl, iteT ?_⟩⟩
        have s2 := s1.trans (same_new htq (.tup [.ty "bool", .ty "str"]))
        refine ⟨_, rfl, _, rfl, rfl, _, rfl, ?_⟩
        rw [decide_eq_true rfl]
        refine iteT ⟨_, rfl, _, _, _, _, _, rfl, .ty _, .base (.str x), k, _, rfl, _, _, _, _, _, rfl, .ty _, .base (.str x), k, rfl, _, rfl, iteT ?_⟩
        exact ⟨_, rfl, rfl, _, rfl, rfl, rfl, q _ s2⟩

end L2.K06
namespace L2.K06
open PySem PySem.Spec PyProof.Rows L2.My
open HQ (Ev evD)
variable {P : Program} {w : World} {K : PySem.W.Frag} {mg : Str → Option Value} {base : Heap}
def spSizes : Sp := fun vs H Q _ => ∃ (m : Addr) (xs : List V) (L : Lg), vs = [.ref m] ∧ SqH H m xs ∧ xs.length = L.ms.length ∧ (∀ (k : Nat) (x : V), xs[k]? = some x → ∃ mm q r, L.ms[k]? = some mm ∧ x = .ref q ∧ SqH H q [.str mm.1, .int mm.2.1, .ref r] ∧ SqH H r (mm.2.2.map .int)) ∧ My.Good L ∧
  ∀ (d : Addr) (H' : Hp), Same H H' → H d = none → H' d = some (.dK (szs L.ms)) → Q (.ref d) H'
theorem ok_sizes_of (T : Tx K mg) : FnOk P w K mg base CX0 1 T.asizes_of T.dsizes_of P_sizes_of spSizes := by
  refine T.fsizes_of.ok sc_sizes_of (fun vs H Q E h => ?_) (fun cdv A outer s H vs Q E hr h => ?_)
  · obtain ⟨m, xs, L, rfl, _⟩ := h
    rfl
  obtain ⟨m, xs, L, rfl, hm, lx, hx, hG, q⟩ := h
  refine ⟨_, (pss_one (ps_ret (pe_dc (own := [("machine", 1)]) (g := (gName 1)) rfl sc_sizes_of.nd (pi_seqK (K := K) rfl (pv 0)) (blkOk_by (own := [("machine", 1)]) (N := N_sizes_of) (sc := defScope s_sizes_of) (by decide +kernel)) (fun _ _ _ _ _ => (pg_name (i := 1) sc_sizes_of.nd rfl (Or.inl rfl))) (fun _ _ _ _ _ => pts_nil) (fun _ _ _ _ _ => (pe_ix ixS (pv 1) pe_int (fun _ _ => rfl))) (fun _ _ _ _ _ => (pe_ix ixS (pv 1) pe_int (fun _ _ => rfl)))))), ?_⟩
  rcases hm with hm | hm
  case' inl =>
    refine ⟨_, rfl, m, rfl, .inl ⟨⟨_, .inl (.inl hm)⟩, fun D nD => ?_⟩⟩
    have wJ := wk_lst (K := K) hm
  case' inr =>
    refine ⟨_, rfl, m, rfl, .inr ⟨⟨_, .inl (.inl hm)⟩, fun D nD => ?_⟩⟩
    have wJ := wk_tup (K := K) hm
  all_goals
    refine wk_comp wJ (fun k H' => Same H H' ∧ H' D = some (.dK (szs (L.ms.take k)))) ⟨same_new nD _, upd_same⟩ (fun k H' h => h.1) (fun _ => rfl) (fun k x H1 hk ⟨s, hD⟩ => ?_) fun H' ⟨s, hD⟩ => q D H' s nD ?_
    · obtain ⟨mm, qa, r, e1, rfl, g1, g2⟩ := hx k x hk
      unfold tYes
      refine iteT ⟨_, rfl, qa, _, 0, _, rfl, rfl, g1.same s, at0, _, rfl, qa, _, 1, _, rfl, rfl, g1.same s, at1, _, .inr mm.1, rfl, hD, ?_, Same.put s nD _, ?_⟩
      · unfold szs
        rw [List.length_map, List.length_take, sizeLine_eq]
        have := hG.few.2.2
        omega
      · rw [upd_same, szs_snoc hG.asc e1]
    · rw [lx, List.take_length] at hD
      exact hD
def spIsEv : Sp := fun vs H Q _ => ∃ (d : Addr) (z : Addr × Ev) (L : Lg), vs = [.ref d, .ref z.1] ∧ H d = some (.dK (szs L.ms)) ∧ EvR H z ∧ My.Good L ∧ Q (.bl (decide (z.2 ∈ evs L))) H
theorem ok_is_event (T : Tx K mg) : FnOk P w K mg base CX0 3 T.ais_event T.dis_event P_is_event spIsEv := by
  have G_looks_like_event := ok_looks_like_event (P := P) (w := w) (base := base) T
  refine T.fis_event.ok sc_is_event (fun vs H Q E h => ?_) (fun cdv A outer s H vs Q E hr h => ?_)
  · obtain ⟨d, z, L, rfl, _⟩ := h
    rfl
  obtain ⟨d, z, L, rfl, hd, hz, hG, q⟩ := h
  have hu := hu_of hr
  refine ⟨_, (pss_cons (ps_if (PW.pt (pw_or (pt_not (pt_val (pe_call G_looks_like_event (hr.mono (by decide)) (by rfl) T.mlooks_like_event T.flooks_like_event.kp T.blooks_like_event .nil pass0 (pa_cons (pv 1) pa_nil)))) (pw_or1 (pt_cmp (pc_dnotin hu (pe_ix ixT (pv 1) pe_int (fun _ _ => rfl)) (pv 0))))))
    (pss_one (ps_ret pe_bl))
    pss_nil)
  (pss_one (ps_ret (pe_chain op_le op_lt pe_int (pe_ix ixT (pv 1) pe_int (fun _ _ => rfl)) (pe_dget hu (pv 0) (pe_ix ixT (pv 1) pe_int (fun _ _ => rfl)) (fun _ _ => rfl)))))), ?_⟩
  refine ⟨_, rfl, z, rfl, hz, _, rfl, ?_⟩
  refine iteF ⟨_, rfl, z.1, _, 0, _, rfl, rfl, hz, at0, _, rfl, d, _, rfl, DGet.k (k := .inr z.2.1) hd, _, rfl, ?_⟩
  by_cases hm : ∃ m ∈ L.ms, m.1 = z.2.1
  · obtain ⟨m, hm, en⟩ := hm
    have g := DGet.k (k := .inr z.2.1) hd
    have sv := szs_some hG.asc hm
    rw [en] at sv
    rw [sv] at g ⊢
    refine iteF ?_
    have me : decide (z.2 ∈ evs L) = (decide (0 ≤ z.2.2) && decide (z.2.2 < (m.2.1 : Int))) := by
      rw [← Bool.decide_and]
      refine decide_eq_decide.mpr ?_
      rw [show z.2 = (z.2.1, z.2.2) from rfl, mem_evs]
      constructor
      · rintro ⟨k, mk, hm', i0, ik⟩
        have nd := asc_nodup hG.asc
        have : (z.2.1, k, mk) = m := by
          refine Classical.byContradiction fun ne => ?_
          obtain ⟨i, hi⟩ := List.getElem?_of_mem hm
          obtain ⟨j, hj⟩ := List.getElem?_of_mem hm'
          have e1 : (L.ms.map (·.1))[i]? = some z.2.1 := by rw [List.getElem?_map, hi, ← en]; rfl
          have e2 : (L.ms.map (·.1))[j]? = some z.2.1 := by rw [List.getElem?_map, hj]; rfl
          have li := (List.getElem?_eq_some_iff.mp e1).1
          have := (List.getElem?_inj li nd).mp (e1.trans e2.symm)
          rw [this, hj] at hi
          exact ne (Option.some.inj hi)
        rw [← this]
        exact ⟨i0, ik⟩
      · rintro ⟨i0, ik⟩
        exact ⟨m.2.1, m.2.2, by rw [← en]; exact hm, i0, ik⟩
    rw [me] at q
    refine ⟨_, rfl, z.1, _, 1, _, rfl, rfl, hz, at1, 0, z.2.2, rfl, rfl, _, rfl, ?_⟩
    cases c : decide ((0 : Int) ≤ z.2.2) with
    | false =>
      rw [c, Bool.false_and] at q
      exact iteF q
    | true =>
      rw [c, Bool.true_and] at q
      exact iteT ⟨_, rfl, _, rfl, z.1, _, 0, _, rfl, rfl, hz, at0, d, _, rfl, g, z.2.2, _, rfl, rfl, q⟩
  · have sv := szs_none (ms := L.ms) (x := z.2.1) fun m h e => hm ⟨m, h, e⟩
    rw [sv]
    refine iteT ?_
    have : decide (z.2 ∈ evs L) = false := decide_eq_false fun c => by
      obtain ⟨k, mk, h, _⟩ := mem_evs.mp (show (z.2.1, z.2.2) ∈ evs L from c)
      exact hm ⟨_, h, rfl⟩
    rw [this] at q
    exact q

end L2.K06
namespace L2.K06
open PySem PySem.Spec PyProof.Rows L2.My
open HQ (Ev evD)
variable {P : Program} {w : World} {K : PySem.W.Frag} {mg : Str → Option Value} {base : Heap}
/-- there(log, event): the event as a tuple, or NoEvent with it -/
def spThereX (C : Addr) : Sp := fun vs H Q E => ∃ (lv ev : V) (L : Lg) (d : PyData) (e : Ev), vs = [lv, ev] ∧ LogAt H lv L ∧ My.Good L ∧ Rp H ev d ∧ tupD d = evD e ∧
  (e ∈ evs L → ∀ (a : Addr) (H' : Hp), Same H H' → EvR H' (a, e) → Q (.ref a) H') ∧
  (e ∉ evs L → ∀ (a dd : Addr) (H' : Hp), Same H H' → EvR H' (a, e) → H' dd = some (.xd [(("event" : Str), V.ref a)]) → E (.ref C) (some dd) H')
theorem ok_there (T : Tx K mg) : FnOk P w K mg base (L2.CX P w) 7 T.athere T.dthere P_there (spThereX T.cE) := by
  have G_tupled := ok_tupled (P := P) (w := w) (base := base) T 6
  have G_sizes_of := ok_sizes_of (P := P) (w := w) (base := base) T
  have G_is_event := ok_is_event (P := P) (w := w) (base := base) T
  refine T.fthere.okX sc_there (fun vs H Q E h => ?_) (fun cdv A outer s H vs Q E hr h => ?_)
  · obtain ⟨lv, ev, L, d, e, rfl, _⟩ := h
    rfl
  obtain ⟨lv, ev, L, d, e, rfl, hL, hG, hv, ed, q1, q2⟩ := h
  obtain ⟨sl, dp⟩ := ev_slim ed
  refine ⟨_, (pss_cons (ps_set (i := 1) sc_there.nd rfl (Or.inl rfl) (pe_call G_tupled (hr.mono (by decide)) (by rfl) T.mtupled T.ftupled.kp T.btupled .nil pass0 (pa_cons (pv 1) pa_nil)))
  (pss_cons (ps_if (pt_not (pt_val (pe_call G_is_event (hr.mono (by decide)) (by rfl) T.mis_event T.fis_event.kp T.bis_event .nil pass0 (pa_cons (pe_call G_sizes_of (hr.mono (by decide)) (by rfl) T.msizes_of T.fsizes_of.kp T.bsizes_of .nil pass0 (pa_cons (pe_ix ixS (pv 0) pe_int (fun _ _ => rfl)) pa_nil)) (pa_cons (pv 1) pa_nil)))))
    (pss_one (ps_raiseNoEv rfl T.noev hr (by decide) (takes_of rfl rfl rfl rfl) (by exact (pa_cons (pv 1) pa_nil))))
    pss_nil)
  (pss_one (ps_ret (pv 1))))), ?_⟩
  refine ⟨_, rfl, ev, d, rfl, hv, dp, sl, fun v' H1 s1 tv => ?_⟩
  rw [ed] at tv
  obtain ⟨b, rfl, rb⟩ := ev_tp_of tv
  obtain ⟨a, m, l, xs, ys, rfl, h1, h2, h3, l1, l2, f1, f2⟩ := hL.same s1
  refine ⟨_, rfl, a, _, 0, _, rfl, rfl, h1, at0, m, xs, L, rfl, h2, l1, f1, hG, fun sd H2 s2 nsd hsd => ?_⟩
  refine ⟨_, rfl, sd, (b, e), L, rfl, hsd, EvR.keep rb (.same s2), hG, _, rfl, ?_⟩
  by_cases ie : e ∈ evs L
  · have : decide (e ∈ evs L) = true := decide_eq_true ie
    rw [this]
    exact iteF ⟨_, rfl, q1 ie b H2 (s1.trans s2) (EvR.keep rb (.same s2))⟩
  · have : decide (e ∈ evs L) = false := decide_eq_false ie
    rw [this]
    refine iteT ⟨_, rfl, _, rfl, fun dd nd => ?_⟩
    have s3 := same_new nd (.xd [(("event" : Str), V.ref b)])
    exact q2 ie b dd _ (s1.trans (s2.trans s3)) (EvR.keep rb (.same (s2.trans s3))) upd_same

end L2.K06
namespace L2.K06
open PySem PySem.Spec PyProof.Rows L2.My
open HQ (Ev evD)
variable {P : Program} {w : World} {K : PySem.W.Frag} {mg : Str → Option Value} {base : Heap}
def argVal : Expr → Expr
  | .Call _ (a :: _) _ _ => a
  | e => e
def spStampBy : Sp := fun vs H Q _ => ∃ (ad c : Addr) (z : Addr × Ev) (fs : List Ev) (rws : List RowZ), vs = [.ref ad, .ref c, .ref z.1] ∧ H ad = some (.dT (dS fs)) ∧ RowsTup H c rws ∧ EvR H z ∧ PyData.strOk z.2.1 = true ∧ (∀ r ∈ rws, r.2.length ≤ 1000 ∧ ∀ y ∈ r.2, PyData.strOk y.2.1 = true) ∧ rws.length ≤ 1000 ∧
  ∀ (p : Addr) (H' : Hp), Same H H' → H' p = some (.tup (rws.map fun r => .int (cntIn fs z.2 (r.2.map (·.2))))) → Q (.ref p) H'
theorem ok_stamp_by (T : Tx K mg) : FnOk P w K mg base CX0 1 T.astamp_by T.dstamp_by P_stamp_by spStampBy := by
  refine T.fstamp_by.ok sc_stamp_by (fun vs H Q E h => ?_) (fun cdv A outer s H vs Q E hr h => ?_)
  · obtain ⟨ad, c, z, fs, rws, rfl, _⟩ := h
    rfl
  obtain ⟨ad, c, z, fs, rws, rfl, hd, hR, hz, okz, okr, lr, q⟩ := h
  have hu := hu_of hr
  refine ⟨_, (pss_one (ps_ret (pe_callTy tupH (by rfl) T.tuple (by decide +kernel) (pa_cons (pe_lc (own := [("row", 4)]) (g := (gName 4)) rfl sc_stamp_by.nd (pi_tupK (K := K) rfl (pv 1)) (blkOk_by (own := [("row", 4)]) (N := N_stamp_by) (sc := defScope s_stamp_by) (by decide +kernel)) (fun _ _ _ _ _ => (pg_name (i := 4) sc_stamp_by.nd rfl (Or.inl rfl))) (fun _ _ _ _ _ => pts_nil) (fun _ _ _ _ _ => (pe_callB lenH (by rfl) T.len (by decide +kernel) (pa_cons (pe_lc (own := [("one", 3)]) (g := (gName 3)) rfl sc_stamp_by.nd (pi_tupK (K := K) rfl (pv 4)) (blkOk_by (own := [("one", 3)]) (N := N_stamp_by) (sc := relS (lcScope (argVal (asgVal (bodyAt s_stamp_by 0)))) (defScope s_stamp_by)) (by decide +kernel)) (fun _ _ _ _ _ => (pg_name (i := 3) sc_stamp_by.nd rfl (Or.inl rfl))) (fun _ _ _ _ _ => (pts_one (PW.pt (pw_or (pt_cmpR (eqH hr.units) (pv 3) (pv 2) (nomark _)) (pw_or1 (pt_cmp (pc_din hu (pv 3) (pv 0)))))))) (fun _ _ _ _ _ => (pv 3))) pa_nil)))) pa_nil)))), ?_⟩
  refine ⟨_, rfl, c, rfl, ⟨_, .inl (.inl hR.hc)⟩, fun D nD => ?_⟩
  refine lc_mapT hR.hc nD (by rw [List.length_map, sizeLine_eq]; omega) (fun j y H' => ∃ r, rws[j]? = some r ∧ y = V.int (cntIn fs z.2 (r.2.map (·.2)))) (fun j y H1 H2 s e => e) (fun j y H1 zs o hD e => e) (fun _ => rfl) ?_ ?_
  · intro j x H1 Q' hx s1 _ k
    rw [List.getElem?_map] at hx
    obtain ⟨r, hri, rfl⟩ := Option.map_eq_some_iff.mp hx
    have im := List.mem_of_getElem? hri
    have hr1 := s1 _ _ (hR.hr r im)
    have er1 : ∀ y ∈ r.2, EvR H1 y := fun y hy => (hR.he r im y hy).keep (.same s1)
    obtain ⟨l1, ok1⟩ := okr r im
    refine ⟨_, rfl, r.1, rfl, ⟨_, .inl (.inl hr1)⟩, fun D2 nD2 => ?_⟩
    refine lc_filtT hr1 nD2 (by rw [List.length_map, sizeLine_eq]; omega) (fun v => decide (evOf H1 v = z.2) || decide (evOf H1 v ∈ fs)) id (fun _ => rfl) ?_ ?_ ?_
    · intro x H2 Q2 hx k2 kk
      obtain ⟨y, hy, rfl⟩ := List.mem_map.mp hx
      rw [evOf_of (er1 y hy)] at kk
      have ry := (er1 y hy).keep (.same k2)
      refine ⟨_, rfl, _, rfl, evD y.2, evD z.2, ev_rp ry, ev_rp (EvR.keep hz (.same (s1.trans k2))), ev_shaped (ok1 y hy), ev_shaped okz, _, rfl, ?_⟩
      rw [eqv_ev]
      cases e : decide (y.2 = z.2) with
      | true =>
        rw [e, Bool.true_or] at kk
        exact iteT (kk H2 fun _ _ h => h)
      | false =>
        rw [e, Bool.false_or] at kk
        refine iteF ⟨_, rfl, _, rfl, ad, _, rfl, .inr ⟨_, kE y.2, y.1, .inl (k2 _ _ (s1 _ _ hd)), rfl, ry, rfl⟩, _, rfl, ?_⟩
        unfold dS
        rw [dE_some]
        exact kk H2 fun _ _ h => h
    · intro x H2 Q2 hx _ k2 kk
      exact ⟨_, rfl, kk H2 fun _ _ h => h⟩
    intro H2 s2 hD2
    rw [List.map_id, filt_refs (fun e => decide (e = z.2) || decide (e ∈ fs)) _ fun y hy => by rw [evOf_of (er1 y hy)]] at hD2
    refine ⟨D2, _, rfl, .inl hD2, ?_⟩
    refine k _ H2 s2 ⟨r, hri, ?_⟩
    unfold cntIn
    rw [List.length_map, List.filter_map, List.length_map]
    rfl
  · intro H' ys s1 hD ly hP
    refine ⟨D, ys, rfl, hD, fun l nl => q l _ (s1.trans (same_new nl _)) ?_⟩
    rw [upd_same]
    refine congrArg (fun x => some (HO.tup x)) (List.ext_getElem? fun j => ?_)
    rw [List.getElem?_map]
    cases e : ys[j]? with
    | some y =>
      obtain ⟨r, h1, h2⟩ := hP j y e
      rw [h1, h2]
      rfl
    | none =>
      have := List.getElem?_eq_none_iff.mp e
      rw [List.length_map] at ly
      rw [List.getElem?_eq_none (by omega)]
      rfl

end L2.K06
namespace L2.K06
open PySem PySem.Spec PyProof.Rows L2.My
open HQ (Ev evD)
variable {P : Program} {w : World} {K : PySem.W.Frag} {mg : Str → Option Value} {base : Heap}
def spAO : Sp := fun vs H Q _ => ∃ (v : V) (d : PyData) (L : Lg), vs = [v] ∧ Rp H v d ∧ tupD d = encLog L ∧ slim d = true ∧ d.depth < 6 ∧ My.Good L ∧
  ∀ (a : Addr) (H' : Hp) (o : List Ev) (ad : Ev → Addr) (af : Ev → List Ev), Same H H' → H a = none → H' a = some (.dT (dE o fun e => .ref (ad e))) → AD H' a o ad af → (∀ e, e ∈ o ↔ e ∈ evs L) → (∀ e ∈ o, (af e).Nodup ∧ ∀ x, x ∈ af e ↔ Ah L x e) → Q (.ref a) H'
theorem ok_aheads_of (T : Tx K mg) : FnOk P w K mg base CX0 8 T.aaheads_of T.daheads_of P_aheads_of spAO := by
  have G_befores_of := ok_befores_of (P := P) (w := w) (base := base) T
  have G_least_first := ok_least_first (P := P) (w := w) (base := base) T
  refine T.faheads_of.ok sc_aheads_of (fun vs H Q E h => ?_) (fun cdv A outer s H vs Q E hr h => ?_)
  · obtain ⟨v, d, L, rfl, _⟩ := h
    rfl
  obtain ⟨v, d, L, rfl, hv, ed, sl, dp, hG, q⟩ := h
  have hu := hu_of hr
  refine ⟨_, (pss_cons (ps_set (i := 1) sc_aheads_of.nd rfl (Or.inl rfl) (pe_call G_befores_of (hr.mono (by decide)) (by rfl) T.mbefores_of T.fbefores_of.kp T.bbefores_of .nil pass0 (pa_cons (pv 0) pa_nil)))
  (pss_cons (ps_set (i := 2) sc_aheads_of.nd rfl (Or.inl rfl) pe_dnewT)
  (pss_cons (ps_for PassesOwn.never rfl (pi_listK (K := K) rfl (pe_call G_least_first (hr.mono (by decide)) (by rfl) T.mleast_first T.fleast_first.kp T.bleast_first .nil pass0 (pa_cons (pv 1) pa_nil))) (pg_name (i := 3) sc_aheads_of.nd rfl (Or.inl rfl))
    (pss_cons (ps_set (i := 4) sc_aheads_of.nd rfl (Or.inl rfl) pe_dnewT)
      (pss_cons (ps_for PassesOwn.never rfl (pi_listK (K := K) rfl (pe_dget hu (pv 1) (pv 3) (fun _ _ => rfl))) (pg_name (i := 5) sc_aheads_of.nd rfl (Or.inl rfl))
        (pss_cons (ps_dput hu (pv 4) (pv 5) pe_bl rfl)
          (pss_one (ps_lock (ps_for PassesOwn.never rfl (pi_keys (pe_dget hu (pv 2) (pv 5) (fun _ _ => rfl))) (pg_name (i := 6) sc_aheads_of.nd rfl (Or.inl rfl))
            (pss_one (ps_dput hu (pv 4) (pv 6) pe_bl rfl)))))))
      (pss_one (ps_dput hu (pv 2) (pv 3) (pv 4) rfl)))))
  (pss_one (ps_ret (pv 2)))))), ?_⟩
  refine ⟨_, rfl, v, d, L, rfl, hv, ed, sl, dp, hG, fun bd H1 ad f s1 nb hb hB hf => ?_⟩
  intro aa na
  have s2 := same_new na (.dT [])
  have hb2 := s2 _ _ hb
  have hB2 := hB.same s2
  refine ⟨_, rfl, bd, evs L, ad, f, rfl, hb2, hB2, evs_nodup hG.asc, hG.few.1, fun e he y hy => befs_sub hG (e := e) (by rw [← hf e he]; exact List.mem_map.mpr ⟨y, hy, rfl⟩), fun e he => (by rw [← List.length_map (·.2), hf e he]; exact befs_len hG e), fun op H2 zs s3 nop hop hzs fn => ?_⟩
  have fn := fin_cg hf fn
  have kd := fn.1
  have ha2 : H2 aa = some (.dT []) := s3 _ _ upd_same
  have hB3 := hB2.same s3
  have na0 : H aa = none := s1.free na
  have s03 : Same H H2 := s1.trans (s2.trans s3)
  have lo : zs.length ≤ 16 := by
    have := fin_len fn
    rw [List.length_map] at this
    have := hG.few.1
    omega
  -- the heap but for the dict that grows
  refine ⟨op, rfl, ⟨_, .inl (.inl hop)⟩, for_list (xs := zs.map fun z => V.ref z.1) (fun i σ H' => ∃ (t3 t4 t5 t6 : Option V) (ad' : Ev → Addr) (af : Ev → List Ev), σ = [some v, some (.ref bd), some (.ref aa), t3, t4, t5, t6] ∧ Same H H' ∧ BD H' bd (evs L) ad f ∧ H' op = some (.lst (zs.map fun z => V.ref z.1)) ∧ (∀ z ∈ zs, EvR H' z) ∧
    H' aa = some (.dT (dE ((zs.map (·.2)).take i) fun e => .ref (ad' e))) ∧ AD H' aa ((zs.map (·.2)).take i) ad' af ∧ (∀ e ∈ (zs.map (·.2)).take i, ad' e ≠ aa) ∧ ∀ e ∈ (zs.map (·.2)).take i, (af e).Nodup ∧ ∀ x, x ∈ af e ↔ Ah L x e) ?_ ?_ ?_ ?_⟩
  · exact ⟨_, _, _, _, fun _ => 0, fun _ => [], rfl, s03, hB3, hop, hzs, ha2, ⟨.inl ha2, fun _ h => nomatch h⟩, (fun _ h => nomatch h), fun _ h => nomatch h⟩
  · rintro i σ H' _ ⟨t3, t4, t5, t6, ad', af, rfl, _, _, h, _⟩
    exact .inl (.inl h)
  · rintro i x σ H' hx ⟨t3, t4, t5, t6, ad', af, rfl, s, hBb, hop', ez, haa, hA, nA, hAh⟩
    rw [List.getElem?_map] at hx
    obtain ⟨z, hzi, rfl⟩ := Option.map_eq_some_iff.mp hx
    have hk : (zs.map (·.2))[i]? = some z.2 := by rw [List.getElem?_map, hzi]; rfl
    have rz := ez z (List.mem_of_getElem? hzi)
    have ks := kd_step kd hk
    have ie := ks.1.1
    have nin := ks.1.2.1
    have tk := tk_snoc hk
    intro fd nf
    have sf := same_new nf (.dT [])
    have fa : fd ≠ aa := fun e => by rw [e, haa] at nf; cases nf
    have nf0 : H fd = none := s.free nf
    have hB4 := hBb.same sf
    have hz4 := hB4.hz z.2 ie
    have fb : ∀ b ∈ f z.2, b.2 ∈ (zs.map (·.2)).take i := fun b hb => ks.1.2.2 b.2 (by rw [← hf z.2 ie]; exact List.mem_map.mpr ⟨b, hb, rfl⟩)
    have ld : ∀ fs : List Ev, fs.Nodup → (∀ x ∈ fs, x ∈ evs L) → (dS fs).length < sizeLine := fun fs h1 h2 => by
      unfold dS dE
      rw [List.length_map, sizeLine_eq]
      have := len_sub h1 h2
      have := hG.few.1
      omega
    refine ⟨_, rfl, _, rfl, bd, _, rfl, hB4.get (rz.keep (.same sf)) ie, ad z.2, rfl, ⟨_, .inl (.inl hz4)⟩, ?_⟩
    have fA : ∀ e ∈ (zs.map (·.2)).take i, ad' e ≠ fd := fun e he c => by
      have := hA.hz e he
      rw [c, nf] at this
      cases this
    have ob : op ≠ fd := fun c => by rw [← c, hop'] at nf; cases nf
    refine for_list (xs := (f z.2).map fun z => V.ref z.1) (fun j σ J => ∃ (t5 t6 : Option V) (fs : List Ev), σ = [some v, some (.ref bd), some (.ref aa), some (.ref z.1), some (.ref fd), t5, t6] ∧ Same H' J ∧ J fd = some (.dT (dS fs)) ∧ fs.Nodup ∧ (∀ x ∈ fs, x ∈ evs L) ∧
      ∀ x, x ∈ fs ↔ ∃ b ∈ ((f z.2).map (·.2)).take j, x = b ∨ Ah L x b) ?_ ?_ ?_ ?_
    · exact ⟨_, _, [], rfl, sf, upd_same, List.nodup_nil, (fun _ h => nomatch h), fun x => ⟨fun h => (nomatch h), fun ⟨b, hb, _⟩ => (nomatch hb)⟩⟩
    · rintro j σ J _ ⟨t5, t6, fs, rfl, sJ, _⟩
      exact .inl (.inl ((hBb.same sJ).hz z.2 ie))
    · rintro j y σ J hy ⟨t5, t6, fs, rfl, sJ, hfd, ndf, sub, mf⟩
      rw [List.getElem?_map] at hy
      obtain ⟨b, hbi, rfl⟩ := Option.map_eq_some_iff.mp hy
      have hbk : ((f z.2).map (·.2))[j]? = some b.2 := by rw [List.getElem?_map, hbi]; rfl
      have hbf := List.mem_of_getElem? hbi
      have rb := (hBb.same sJ).he z.2 ie b hbf
      have ib := fb b hbf
      have ibe : b.2 ∈ evs L := kd.sub _ (List.mem_of_mem_take ib)
      have hAb := hAh b.2 ib
      refine ⟨_, rfl, _, rfl, fd, _, rfl, DPut.t (k := kE b.2) hfd rb (ld fs ndf sub), ?_⟩
      rw [dS_put]
      have k1 := tk_off (o := .dT (dS (addE fs b.2))) hfd (fun _ z => nomatch z)
      have sJ1 := Same.put sJ nf (.dT (dS (addE fs b.2)))
      have hfd1 : (upd J fd (.dT (dS (addE fs b.2)))) fd = some (.dT (dS (addE fs b.2))) := upd_same
      have rb1 := EvR.keep (H := J) rb k1
      have nd1 := addE_nd (e := b.2) ndf
      have sub1 : ∀ x ∈ addE fs b.2, x ∈ evs L := fun x hx => (mem_addE.mp hx).elim (sub x) fun c => c ▸ ibe
      have m1 : ∀ x, x ∈ addE fs b.2 ↔ (∃ b ∈ ((f z.2).map (·.2)).take j, x = b ∨ Ah L x b) ∨ x = b.2 := fun x => by rw [mem_addE, mf x]
      generalize addE fs b.2 = fs1 at sJ1 hfd1 rb1 nd1 sub1 m1 ⊢
      generalize (upd J fd (.dT (dS fs1))) = J1 at sJ1 hfd1 rb1 ⊢
      clear hfd mf ndf sub k1 rb sJ
      -- what is ahead of b
      have hA1 := hA.same sJ1
      have had := hA1.hz b.2 ib
      refine ⟨ad' b.2, _, had, trivial, fun od => ?_⟩
      have afd : fd ≠ ad' b.2 := fun c => fA _ ib c.symm
      have aaa : aa ≠ ad' b.2 := fun c => nA _ ib c.symm
      have hA2 : (upd J1 (ad' b.2) (.frz od (.dT (dS (af b.2))))) aa = some (.dT (dE ((zs.map (·.2)).take i) fun e => .ref (ad' e))) := by rw [upd_ne aaa]; exact sJ1 _ _ haa
      have rb2 : EvR (upd J1 (ad' b.2) (.frz od (.dT (dS (af b.2))))) (b.1, b.2) := EvR.keep (H := J1) rb1 (tk_off had fun _ z => nomatch z)
      refine ⟨_, rfl, _, rfl, aa, _, rfl, dE_int (.inl hA2) rb2 ib, ad' b.2, od, rfl, .inr ⟨_, upd_same, ?_⟩⟩
      refine for_keys (es := af b.2) (g0 := fun _ => .bl true) (fun k σ J2 => ∃ (t6 : Option V) (fs2 : List Ev), σ = [some v, some (.ref bd), some (.ref aa), some (.ref z.1), some (.ref fd), some (.ref b.1), t6] ∧ Same (upd H' (ad' b.2) (.frz od (.dT (dS (af b.2))))) J2 ∧ J2 fd = some (.dT (dS fs2)) ∧ fs2.Nodup ∧ (∀ x ∈ fs2, x ∈ evs L) ∧
        ∀ x, x ∈ fs2 ↔ x ∈ fs1 ∨ x ∈ (af b.2).take k) ?_ ?_ ?_ ?_
      · exact ⟨_, fs1, rfl, same_upd2 sJ1, by rw [upd_ne afd]; exact hfd1, nd1, sub1, fun x => by simp⟩
      · rintro k σ J2 ⟨t6, fs2, rfl, sJ2, _⟩
        exact sJ2 _ _ upd_same
      · rintro k qa e σ J2 he rq ⟨t6, fs2, rfl, sJ2, hfd2, nd2, sub2, m2⟩
        refine ⟨_, rfl, _, rfl, fd, _, rfl, DPut.t (k := kE e) hfd2 rq (ld fs2 nd2 sub2), ?_⟩
        rw [dS_put]
        have iae : e ∈ evs L := Ah.mem hG ((hAb.2 e).mp (List.mem_of_getElem? he))
        refine ⟨_, addE fs2 e, rfl, Same.put sJ2 (by rw [upd_ne afd]; exact nf) _, upd_same, addE_nd nd2, fun x hx => (mem_addE.mp hx).elim (sub2 x) fun c => c ▸ iae, fun x => ?_⟩
        rw [mem_addE, m2 x, tk_snoc he, List.mem_append, List.mem_singleton, or_assoc]
      · rintro σ J2 ⟨t6, fs2, rfl, sJ2, hfd2, nd2, sub2, m2⟩
        have hfr := sJ2 _ _ (upd_same : (upd H' (ad' b.2) (.frz od (.dT (dS (af b.2))))) (ad' b.2) = _)
        refine ⟨hfr, _, _, fs2, rfl, unlock_same (hA.hz b.2 ib) sJ2, by rw [upd_ne afd]; exact hfd2, nd2, sub2, fun x => ?_⟩
        rw [m2 x, m1 x, List.take_length, hAb.2 x, tk_snoc hbk]
        constructor
        · rintro ((⟨c, hc, h⟩ | rfl) | h)
          · exact ⟨c, List.mem_append_left _ hc, h⟩
          · exact ⟨b.2, List.mem_append_right _ (List.mem_singleton.mpr rfl), .inl rfl⟩
          · exact ⟨b.2, List.mem_append_right _ (List.mem_singleton.mpr rfl), .inr h⟩
        · rintro ⟨c, hc, h⟩
          rcases List.mem_append.mp hc with k | k
          · exact .inl (.inl ⟨c, k, h⟩)
          · rw [List.mem_singleton.mp k] at h
            exact h.elim (fun z => .inl (.inr z)) .inr
    · rintro σ J ⟨t5, t6, fs, rfl, sJ, hfd, ndf, sub, mf⟩
      have haJ := sJ _ _ haa
      have lda : (dE ((zs.map (·.2)).take i) fun e => V.ref (ad' e)).length < sizeLine := by
        unfold dE
        rw [List.length_map, List.length_take, List.length_map, sizeLine_eq]
        omega
      have rzJ := rz.keep (.same sJ)
      have nw := (hA.same sJ).new (e := z.2) nin haJ hfd fa nA
      refine ⟨_, rfl, _, rfl, _, rfl, aa, _, rfl, DPut.t (k := kE z.2) haJ rzJ lda, ?_⟩
      have k9 := tk_off (o := .dT (putK (dE ((zs.map (·.2)).take i) fun e => V.ref (ad' e)) (kE z.2) (.ref fd))) haJ (fun _ z => nomatch z)
      have oa : op ≠ aa := fun c => by rw [← c, hop'] at haa; cases haa
      have ba : bd ≠ aa := fun c => by rw [← c, hb] at na; cases na
      refine ⟨_, _, _, _, fun x => if x = z.2 then fd else ad' x, fun x => if x = z.2 then fs else af x, rfl, Same.put (s.trans sJ) na0 _, (hBb.same sJ).off haJ (fun _ z => nomatch z) (fun _ z => nomatch z) ba, by rw [upd_ne oa]; exact sJ _ _ hop', fun y hy => ((ez y hy).keep (.same sJ)).keep k9, by rw [tk]; exact nw.2, by rw [tk]; exact nw.1, fun e he => ?_, fun e he => ?_⟩
      · by_cases c : e = z.2
        · simp only [c, if_true]
          exact fa
        · simp only [c, if_false]
          rw [tk] at he
          exact (List.mem_append.mp he).elim (nA e) fun k => absurd (List.mem_singleton.mp k) c
      · by_cases c : e = z.2
        · subst c
          simp only [if_true]
          refine ⟨ndf, fun x => ?_⟩
          have ll : ((f z.2).map fun z => V.ref z.1).length = ((f z.2).map (·.2)).length := by rw [List.length_map, List.length_map]
          rw [mf x, ll, List.take_length, hf z.2 ie]
          exact Ah.step.symm
        · simp only [c, if_false]
          rw [tk] at he
          exact (List.mem_append.mp he).elim (hAh e) fun k => absurd (List.mem_singleton.mp k) c
  · rintro σ H' ⟨t3, t4, t5, t6, ad', af, rfl, s, hBb, hop', ez, haa, hA, nA, hAh⟩
    have ll : (zs.map fun z => V.ref z.1).length = (zs.map (·.2)).length := by rw [List.length_map, List.length_map]
    rw [ll, List.take_length] at haa hA hAh
    exact ⟨_, rfl, q aa H' _ ad' af s na0 haa hA (fin_all hG fn) hAh⟩

end L2.K06
namespace L2.K06
open PySem PySem.Spec PyProof.Rows L2.My
open HQ (Ev evD)
variable {P : Program} {w : World} {K : PySem.W.Frag} {mg : Str → Option Value} {base : Heap}
/-- stamp: told, or NoEvent with the event -/
def spStampX (C : Addr) : Sp := fun vs H Q E => ∃ (lv cv ev : V) (d de dc : PyData) (L : Lg) (e : Ev) (rows : List (List Ev)), vs = [lv, cv, ev] ∧ Rp H lv d ∧ tupD d = encLog L ∧ slim d = true ∧ d.depth < 6 ∧ My.Good L ∧ Rp H ev de ∧ tupD de = evD e ∧ Rp H cv dc ∧ tupD dc = encR rows ∧ slim dc = true ∧ dc.depth < 6 ∧
  (∀ r ∈ rows, r.length ≤ 1000 ∧ ∀ y ∈ r, PyData.strOk y.1 = true) ∧ rows.length ≤ 1000 ∧
  (e ∈ evs L → ∀ (p : Addr) (H' : Hp) (fs : List Ev), Same H H' → (∀ x, x ∈ fs ↔ Ah L x e) → H' p = some (.tup (rows.map fun r => .int (cntIn fs e r))) → Q (.ref p) H') ∧
  (e ∉ evs L → ∀ (a dd : Addr) (H' : Hp), Same H H' → EvR H' (a, e) → H' dd = some (.xd [(("event" : Str), V.ref a)]) → E (.ref C) (some dd) H')
theorem ok_stamp (T : Tx K mg) : FnOk P w K mg base (L2.CX P w) 9 T.astamp T.dstamp P_stamp (spStampX T.cE) := by
  have G_tupled := ok_tupled (P := P) (w := w) (base := base) T 6
  have G_there := ok_there (P := P) (w := w) (base := base) T
  have G_aheads_of := ok_aheads_of (P := P) (w := w) (base := base) T
  have G_stamp_by := ok_stamp_by (P := P) (w := w) (base := base) T
  refine T.fstamp.okX sc_stamp (fun vs H Q E h => ?_) (fun cdv A outer s H vs Q E hr h => ?_)
  · obtain ⟨lv, cv, ev, d, de, dc, L, e, rows, rfl, _⟩ := h
    rfl
  obtain ⟨lv, cv, ev, d, de, dc, L, e, rows, rfl, hl, ed, sl, dp, hG, hv, eE, hcv, eR, sc, dpc, okr, lr, q, qx⟩ := h
  have hu := hu_of hr
  refine ⟨_, (pss_cons (ps_set (i := 2) sc_stamp.nd rfl (Or.inl rfl) (pe_callS G_there (hr.mono (by decide)) (by rfl) T.mthere T.fthere.kp T.bthere (fun σ => passAt (takes_of rfl rfl rfl rfl) σ) (by exact (pa_cons (pv 0) (pa_cons (pv 2) pa_nil)))))
  (pss_one (ps_ret (pe_call G_stamp_by (hr.mono (by decide)) (by rfl) T.mstamp_by T.fstamp_by.kp T.bstamp_by .nil pass0 (pa_cons (pe_dget hu (pe_call G_aheads_of (hr.mono (by decide)) (by rfl) T.maheads_of T.faheads_of.kp T.baheads_of .nil pass0 (pa_cons (pv 0) pa_nil)) (pv 2) (fun _ _ => rfl)) (pa_cons (pe_call G_tupled (hr.mono (by decide)) (by rfl) T.mtupled T.ftupled.kp T.btupled .nil pass0 (pa_cons (pv 1) pa_nil)) (pa_cons (pv 2) pa_nil))))))), ?_⟩
  refine ⟨_, rfl, _, rfl, lv, ev, L, de, e, rfl, logAt hl ed, hG, hv, eE, fun ie a H1 s1 ra => ?_, fun ne a dd H1 s1 ra x1 => qx ne a dd H1 s1 ra x1⟩
  refine ⟨_, rfl, lv, d, L, rfl, hl.same s1, ed, sl, dp, hG, fun ad H2 o adf af s2 nad had hA hm hAh => ?_⟩
  have io := (hm e).mpr ie
  refine ⟨_, rfl, ad, _, rfl, hA.get (EvR.keep ra (.same s2)) io, ?_⟩
  refine ⟨_, rfl, cv, dc, rfl, (hcv.same s1).same s2, dpc, sc, fun c' H3 s3 tc => ?_⟩
  rw [eR] at tc
  obtain ⟨c, rws, rfl, hR, er⟩ := rowsTup tc
  have okN : PyData.strOk e.1 = true := by
    obtain ⟨k, mk, hmm, _⟩ := mem_evs.mp (show (e.1, e.2) ∈ evs L from ie)
    exact hG.txt _ hmm
  refine ⟨_, rfl, adf e, c, (a, e), af e, rws, rfl, s3 _ _ (hA.hz e io), hR, EvR.keep ra (.same (s2.trans s3)), okN, fun r hr => ?_, by rw [← List.length_map (fun r : RowZ => r.2.map (·.2)), er]; exact lr, fun p H4 s4 hp => ?_⟩
  · have ir : r.2.map (·.2) ∈ rows := by rw [← er]; exact List.mem_map.mpr ⟨r, hr, rfl⟩
    obtain ⟨g1, g2⟩ := okr _ ir
    rw [List.length_map] at g1
    exact ⟨g1, fun y hy => g2 y.2 (List.mem_map.mpr ⟨y, hy, rfl⟩)⟩
  · refine q ie p H4 (af e) (s1.trans (s2.trans (s3.trans s4))) (hAh e io).2 ?_
    rw [hp, ← er, List.map_map]
    rfl

end L2.K06
namespace L2.K06
open PySem PySem.Spec PyProof.Rows L2.My
open HQ (Ev evD)
variable {P : Program} {w : World} {K : PySem.W.Frag} {mg : Str → Option Value} {base : Heap}
def spCounted : Sp := fun vs H Q _ => ∃ (cv : V) (dc : PyData) (rows : List (List Ev)), vs = [cv] ∧ Rp H cv dc ∧ tupD dc = encR rows ∧ slim dc = true ∧ dc.depth < 6 ∧ rows.flatten.length ≤ 1000 ∧ rows.length ≤ 1000 ∧
  ∀ (p : Addr) (H' : Hp) (zs : List (Addr × Ev)), Same H H' → H p = none → H' p = some (.lst (zs.map fun z => V.ref z.1)) → (∀ z ∈ zs, EvR H' z) → (zs.map (·.2)).Perm rows.flatten → zs.Pairwise (fun x y => HQ.le x.2 y.2) → Q (.ref p) H'
theorem ok_counted (T : Tx K mg) : FnOk P w K mg base CX0 7 T.acounted T.dcounted P_counted spCounted := by
  have G_tupled := ok_tupled (P := P) (w := w) (base := base) T 6
  refine T.fcounted.ok sc_counted (fun vs H Q E h => ?_) (fun cdv A outer s H vs Q E hr h => ?_)
  · obtain ⟨cv, dc, rows, rfl, _⟩ := h
    rfl
  obtain ⟨cv, dc, rows, rfl, hcv, eR, sc, dpc, lf, lr, q⟩ := h
  refine ⟨_, (pss_one (ps_ret (pe_callB (sortH hr.units) (by rfl) T.sorted (by decide +kernel) (pa_cons (pe_lc2 (own := [("row", 1), ("event", 2)]) (vs1 := [2]) rfl sc_counted.nd (pi_tupK (K := K) rfl (pe_call G_tupled (hr.mono (by decide)) (by rfl) T.mtupled T.ftupled.kp T.btupled .nil pass0 (pa_cons (pv 0) pa_nil))) (blkOk_by (own := [("row", 1), ("event", 2)]) (N := N_counted) (sc := defScope s_counted) (by decide +kernel)) (by decide) (fun _ _ _ _ _ => (pg_name (i := 1) sc_counted.nd rfl (Or.inl rfl))) (fun _ _ _ _ _ => pts_nil) (fun _ _ _ _ _ => (pi_tupK (K := K) rfl (pv 1))) (fun _ _ _ _ _ => (pg_name (i := 2) sc_counted.nd rfl (Or.inl rfl))) (fun _ _ _ _ _ => pts_nil) (fun _ _ _ _ _ => (pv 2))) pa_nil)))), ?_⟩
  refine ⟨_, rfl, cv, dc, rfl, hcv, dpc, sc, fun c' H1 s1 tc => ?_⟩
  rw [eR] at tc
  obtain ⟨c, rws, rfl, hR, er⟩ := rowsTup tc
  have lr' : rws.length = rows.length := by rw [← er, List.length_map]
  have ef : (rws.map fun r => r.2.map fun z => V.ref z.1).flatten = ((rws.map (·.2)).flatten).map fun z => V.ref z.1 := by
    rw [List.map_flatten, List.map_map]
    rfl
  have ev2 : ((rws.map (·.2)).flatten).map (·.2) = rows.flatten := by
    rw [List.map_flatten, List.map_map, ← er]
    rfl
  have lfl : (rws.map (·.2)).flatten.length = rows.flatten.length := by rw [← ev2, List.length_map]
  have eE : ∀ z ∈ (rws.map (·.2)).flatten, EvR H1 z := fun z hz => by
    obtain ⟨l, hl, hz⟩ := List.mem_flatten.mp hz
    obtain ⟨r, hr, rfl⟩ := List.mem_map.mp hl
    exact hR.he r hr z hz
  refine ⟨c, rfl, ⟨_, .inl (.inl hR.hc)⟩, fun D nD => ?_⟩
  refine lc2_ids (its := rws.map fun r => r.2.map fun z => V.ref z.1) (wk_tup hR.hc) nD (by rw [List.length_map, List.length_map]) (by rw [ef, List.length_map, lfl, sizeLine_eq]; omega) (fun _ => rfl) (fun _ _ => rfl) ?_ (fun x v H2 Q' k => ⟨_, rfl, k⟩) ?_
  · intro k x m H2 R hx hm s2 kk
    rw [List.getElem?_map] at hx hm
    obtain ⟨r, hri, rfl⟩ := Option.map_eq_some_iff.mp hx
    rw [hri] at hm
    have hm : (r.2.map fun z => V.ref z.1) = m := Option.some.inj hm
    subst hm
    have hr1 := hR.hr r (List.mem_of_getElem? hri)
    exact ⟨_, rfl, r.1, rfl, ⟨_, .inl (.inl (s2 _ _ hr1))⟩, kk _ (wk_tup hr1)⟩
  · intro H2 s2 hD
    rw [ef] at hD
    refine ⟨D, ((rws.map (·.2)).flatten).map (fun z => (V.ref z.1, evD z.2)), rfl, by rw [List.map_map]; exact hD, ?_, ?_, ?_, by rw [List.length_map, lfl, sizeLine_eq]; omega, ?_, fun zs' p pm pw np => ?_⟩
    · intro z h
      obtain ⟨u, hu, rfl⟩ := List.mem_map.mp h
      exact ev_rp ((eE u hu).keep (.same s2))
    · have := evs_alike (((rws.map (·.2)).flatten).map (·.2))
      rw [List.map_map] at this ⊢
      exact this
    · have := evs_sortable (((rws.map (·.2)).flatten).map (·.2))
      rw [List.map_map] at this ⊢
      exact this
    · intro z h
      obtain ⟨u, hu, rfl⟩ := List.mem_map.mp h
      show (evD u.2).depth ≤ 20
      rw [HQ.evD_depth]
      decide
    obtain ⟨zs, rfl, pz⟩ := perm_inv pm rfl
    have sp := same_new np (.lst ((zs.map (fun z => (V.ref z.1, evD z.2))).map (·.1)))
    refine q p _ zs (s1.trans (s2.trans sp)) (s1.free (s2.free np)) (by rw [upd_same, List.map_map]; rfl) (fun z hz => ((eE z (pz.mem_iff.mp hz)).keep (.same s2)).keep (.same sp)) (by rw [← ev2]; exact pz.map _) ?_
    exact (List.pairwise_map.mp pw).imp fun {x y} h => h

end L2.K06
namespace L2.K06
open PySem PySem.Spec PyProof.Rows L2.My
open HQ (Ev evD)
variable {P : Program} {w : World} {K : PySem.W.Frag} {mg : Str → Option Value} {base : Heap}
def spTupledF (n : Nat) : Sp := fun vs H Q _ => ∃ (v : V) (d : PyData), vs = [v] ∧ Rp H v d ∧ d.depth < n ∧ slim d = true ∧ ∀ v' H', Same H H' → Fp H' v' (tupD d) → Q v' H'
theorem ok_tupledF (T : Tx K mg) : ∀ n, FnOk P w K mg base CX0 n T.atupled T.dtupled P_tupled (spTupledF n)
  | 0 => no_call fun vs H Q E ⟨_, _, _, _, h, _⟩ => Nat.not_lt_zero _ h
  | n + 1 => by
    have G_tupled := ok_tupledF T n
    refine T.ftupled.ok sc_tupled (fun vs H Q E h => ?_) (fun cdv A outer s H vs Q E hr h => ?_)
    · obtain ⟨v, d, rfl, _⟩ := h
      rfl
    obtain ⟨v, d, rfl, hv, hn, hs, q⟩ := h
    refine ⟨_, (pss_cons (ps_if (pt_val (pe_callB call_isiT (by rfl) T.isinstance (by decide +kernel) (pa_cons (pv 0) (pa_cons (pe_tup (pa_cons (pe_bltn (v := .ty "list") (u := .type "list") (by rfl) T.list (by decide +kernel) rfl) (pa_cons (pe_bltn (v := .ty "tuple") (u := .type "tuple") (by rfl) T.tuple (by decide +kernel) rfl) pa_nil))) pa_nil))))
    (pss_one (ps_ret (pe_callTy tupF (by rfl) T.tuple (by decide +kernel) (pa_cons (pe_lc (own := [("part", 1)]) (g := (gName 1)) rfl sc_tupled.nd (pi_seq (pv 0)) (blkOk_by (own := [("part", 1)]) (N := N_tupled) (sc := defScope s_tupled) (by decide +kernel)) (fun _ _ _ _ _ => (pg_name (i := 1) sc_tupled.nd rfl (Or.inl rfl))) (fun _ _ _ _ _ => pts_nil) (fun _ _ _ _ _ => (pe_call G_tupled hr (by rfl) T.mtupled T.ftupled.kp T.btupled .nil pass0 (pa_cons (pv 1) pa_nil)))) pa_nil))))
    pss_nil)
  (pss_one (ps_ret (pv 0)))), ?_⟩
    refine ⟨_, rfl, (by show 2 ≤ sizeLine; decide), fun tp htp => ⟨_, tp, _, _, _, _, rfl, upd_same, .cons (.ty _) (.cons (.ty _) .nil), (hv.same (same_new htp _)).ty, kit_seq hv, _, rfl, ?_⟩⟩
    have s1 := same_new htp (.tup [.ty "list", .ty "tuple"])
    cases hq : isSeq d with
    | false =>
      refine iteF ⟨_, rfl, q _ _ s1 ?_⟩
      exact atom_fp hv hq
    | true =>
      refine iteT ?_
      obtain ⟨a, xs, ds, rfl, hx, hxs⟩ := seq_rp (K := K) hv hq
      have facts : ds.length ≤ 1000 ∧ (∀ e ∈ ds, slim e = true) ∧ (∀ e ∈ ds, e.depth < n) ∧ tupD d = .tuple (ds.map tupD) := by
        rcases hx with ⟨_, rfl⟩ | ⟨_, rfl⟩ <;> simp only [slim, Bool.and_eq_true, decide_eq_true_eq, PyData.depth] at hs hn <;>
          exact ⟨hs.1, slims_mem hs.2, fun e he => by have := depth_mem (Nat.le_refl _) e he; omega, by simp only [tupD, tupDs_map]⟩
      obtain ⟨f1, f2, f3, f4⟩ := facts
      have lx := hxs.length
      refine ⟨_, rfl, a, rfl, ?_⟩
      have turn : ∀ (D : Addr) (j : Nat) (x : V) (H1 : Hp) (Q' : VK), xs[j]? = some x → Same (upd H tp (.tup [.ty "list", .ty "tuple"])) H1 → (∃ zs, H1 D = some (.lst zs)) →
          (∀ y H2, Same H1 H2 → (∃ d, ds[j]? = some d ∧ Fp H2 y (tupD d)) → Q' y H2) → tCall (spTupledF n) [] E0 (tCons (tVar 1) tNil) ((wipe (start N_tupled [.ref a]) [1]).set 1 (some x)) H1 Q' := by
        intro D j x H1 Q' hxj hS _ k
        obtain ⟨e, he, hxe⟩ := hxs.get hxj
        have em := List.mem_of_getElem? he
        exact ⟨x, rfl, x, e, rfl, (hxe.same s1).same hS, f3 e em, f2 e em, fun v' H' s t => k v' H' s ⟨e, he, t⟩⟩
      have done : ∀ (D : Addr) (H' : Hp) (ys : List V), Same (upd H tp (.tup [.ty "list", .ty "tuple"])) H' → H' D = some (.lst ys) → ys.length = xs.length → (∀ (j : Nat) (y : V), ys[j]? = some y → ∃ d, ds[j]? = some d ∧ Fp H' y (tupD d)) →
          rTupF K [V.ref D] H' Q := by
        intro D H' ys s2 hD ly hR
        refine ⟨D, ys, rfl, .inl (.inl hD), fun l o nl no => q _ _ ((s1.trans s2).trans (same_new nl _)) ?_⟩
        rw [f4]
        exact .tup upd_same no ((fpAll_of (by omega) hR).keep (.same (same_new nl _)))
      have lz : xs.length ≤ sizeLine := by rw [lx, sizeLine_eq]; omega
      rcases hx with ⟨hx, _⟩ | ⟨hx, _⟩
      · have hx1 := s1 _ _ hx
        refine .inl ⟨⟨_, .inl (.inl hx1)⟩, fun D nD => ?_⟩
        exact lc_mapL hx1 nD lz (fun j y H' => ∃ d, ds[j]? = some d ∧ Fp H' y (tupD d)) (fun j y _ _ s ⟨d, e, t⟩ => ⟨d, e, t.keep (.same s)⟩)
          (fun j y H1 zs o hD ⟨d, e, t⟩ => ⟨d, e, t.keep (fk_upd hD o)⟩) (fun _ => rfl) (turn D) (done D)
      · have hx1 := s1 _ _ hx
        refine .inr ⟨⟨_, .inl (.inl hx1)⟩, fun D nD => ?_⟩
        exact lc_mapT hx1 nD lz (fun j y H' => ∃ d, ds[j]? = some d ∧ Fp H' y (tupD d)) (fun j y _ _ s ⟨d, e, t⟩ => ⟨d, e, t.keep (.same s)⟩)
          (fun j y H1 zs o hD ⟨d, e, t⟩ => ⟨d, e, t.keep (fk_upd hD o)⟩) (fun _ => rfl) (turn D) (done D)

end L2.K06
namespace L2.K06
open PySem PySem.Spec PyProof.Rows L2.My
open HQ (Ev evD)
variable {P : Program} {w : World} {K : PySem.W.Frag} {mg : Str → Option Value} {base : Heap}
theorem un65p {k : Nat} {A : Around} (r : Room k A) : A.units + 65 < cLine := by have := r.un; omega
theorem idx_first {l : List Ev} {e : Ev} {m : Nat} (h : m < l.idxOf e) (he : l[m]? = some e) : False := by
  have lm := (List.getElem?_eq_some_iff.mp he).1
  have := List.not_of_lt_findIdx (p := (· == e)) (xs := l) (i := m) h
  rw [List.getElem?_eq_getElem lm] at he
  rw [Option.some.inj he] at this
  simp at this
/-- where e is counted -/
def PlcOk (rows : List (List Ev)) (e : Ev) (v : V) (H' : Hp) : Prop := (∃ (j : Nat) (r : List Ev) (p : Addr), v = .ref p ∧ rows[j]? = some r ∧ e ∈ r ∧ H' p = some (.tup [.int (j : Nat), .int ((r.idxOf e : Nat) + 1)])) ∨ (v = .non ∧ ∀ r ∈ rows, e ∉ r)
def spPlace : Sp := fun vs H Q _ => ∃ (cv ev : V) (dc de : PyData) (rows : List (List Ev)) (e : Ev), vs = [cv, ev] ∧ Rp H cv dc ∧ tupD dc = encR rows ∧ slim dc = true ∧ dc.depth < 6 ∧ Rp H ev de ∧ tupD de = evD e ∧ PyData.strOk e.1 = true ∧ (∀ r ∈ rows, ∀ y ∈ r, PyData.strOk y.1 = true) ∧
  ∀ (v : V) (H' : Hp), Same H H' → PlcOk rows e v H' → Q v H'
theorem ok_place (T : Tx K mg) : FnOk P w K mg base CX0 7 T.aplace T.dplace P_place spPlace := by
  have G_tupled := ok_tupledF (P := P) (w := w) (base := base) T 6
  refine T.fplace.ok sc_place (fun vs H Q E h => ?_) (fun cdv A outer s H vs Q E hr h => ?_)
  · obtain ⟨cv, ev, dc, de, rows, e, rfl, _⟩ := h
    rfl
  obtain ⟨cv, ev, dc, de, rows, e, rfl, hcv, eR, sc, dpc, hev, eE, okE, okr, q⟩ := h
  obtain ⟨se, de6⟩ := ev_slim eE
  refine ⟨_, (pss_cons (ps_set (i := 1) sc_place.nd rfl (Or.inl rfl) (pe_call G_tupled (hr.mono (by decide)) (by rfl) T.mtupled T.ftupled.kp T.btupled .nil pass0 (pa_cons (pv 1) pa_nil)))
  (pss_cons (ps_for PassesOwn.never rfl (pi_enumTK (by rfl) T.enumerate (pa_cons (pe_call G_tupled (hr.mono (by decide)) (by rfl) T.mtupled T.ftupled.kp T.btupled .nil pass0 (pa_cons (pv 0) pa_nil)) pa_nil)) (pg_tup (by rfl) (pgs_cons (pg_name (i := 2) sc_place.nd rfl (Or.inl rfl)) (pgs_cons (pg_name (i := 3) sc_place.nd rfl (Or.inl rfl)) pgs_nil)))
    (pss_one (ps_if (pt_cmpR (inTD (un65p hr)) (pv 1) (pv 3) (by with_unfolding_all rfl))
        (pss_one (ps_ret (pe_tup (pa_cons (pv 2) (pa_cons (pe_op op_add (pe_bmT PySem.F.plainAttrs_tuple PySem.F.slot_tuple_index PySem.F.type_tuple_index (mt_idxTD (un65p hr)) (pv 3) (pa_cons (pv 1) pa_nil)) pe_int) pa_nil)))))
        pss_nil)))
  (pss_one (ps_ret pe_non)))), ?_⟩
  refine ⟨_, rfl, ev, de, rfl, hev, de6, se, fun v1 H1 s1 t1 => ?_⟩
  rw [eE] at t1
  refine ⟨_, rfl, cv, dc, rfl, hcv.same s1, dpc, sc, fun c' H2 s2 tc => ?_⟩
  rw [eR] at tc
  unfold encR at tc
  have t2 := t1.keep (.same s2)
  cases tc with
  | @tup c oc xs _ hc nc tr =>
    obtain ⟨rws, rfl, hR, er⟩ := rowsF_of tr
    refine ⟨c, _, rfl, .inl (.inr ⟨_, hc⟩), for_enumTK (xs := rws.map fun r => V.ref r.1.1) (fun i σ H' => ∃ t2 t3 : Option V, σ = [some cv, some v1, t2, t3] ∧ Same H2 H' ∧ ∀ (j : Nat) (r' : List Ev), j < i → rows[j]? = some r' → e ∉ r') ?_ ?_ ?_ ?_⟩
    · exact ⟨_, _, rfl, fun _ _ h => h, fun j r' hj => absurd hj (Nat.not_lt_zero _)⟩
    · rintro i σ H' ⟨t2, t3, rfl, s, _⟩
      exact .inl (.inr ⟨_, s _ _ hc⟩)
    · rintro i x tp σ H3 hx ⟨t2', t3, rfl, s3, no⟩ nT
      rw [List.getElem?_map] at hx
      obtain ⟨r, hri, rfl⟩ := Option.map_eq_some_iff.mp hx
      obtain ⟨hr1, nr, ar⟩ := hR r (List.mem_of_getElem? hri)
      have hrow : rows[i]? = some r.2.2 := by rw [← er, List.getElem?_map, hri]; rfl
      have sT := same_new nT (.tup [V.int (i : Nat), V.ref r.1.1])
      have s4 := s3.trans sT
      have hr4 := s4 _ _ hr1
      have shR : SeqAt.shaped (.tuple (r.2.2.map evD)) = true := evs_shaped (okr _ (List.mem_of_getElem? hrow))
      have dpA : DpAll K (upd H3 tp (.tup [V.int (i : Nat), V.ref r.1.1])) r.2.1 (r.2.2.map evD) := (ar.keep (.same s4)).dp
      have dpE : Dp K (upd H3 tp (.tup [V.int (i : Nat), V.ref r.1.1])) v1 (evD e) := (t2.keep (.same s4)).dp
      refine ⟨tp, _, rfl, .inl (.inl upd_same), rfl, _, _, rfl, _, _, rfl, rfl, ?_⟩
      refine ⟨_, rfl, _, rfl, evD e, r.2.2.map evD, dpE, .tup (.inl (.inr ⟨_, hr4⟩)) dpA, ev_shaped okE, shR, _, rfl, ?_⟩
      rw [any_ev]
      by_cases c : e ∈ r.2.2
      · rw [decide_eq_true c]
        have lt := List.idxOf_lt_length_iff.mpr c
        have ie : r.2.2[r.2.2.idxOf e]? = some e := by rw [List.getElem?_eq_getElem lt, List.getElem_idxOf]
        have ix : (r.2.2.map evD)[r.2.2.idxOf e]? = some (evD e) := by
          rw [List.getElem?_map, ie]
          rfl
        refine iteT ⟨_, rfl, _, rfl, ⟨r.1.1, r.1.2, r.2.1, rfl, hr4, nr⟩, _, rfl, r.1.1, _, evD e, _, _, r.2.2.idxOf e, evD e, rfl, rfl, .inl (.inr ⟨_, hr4⟩), dpA, dpE, shR, ev_shaped okE, ix, by rw [eqv_ev]; exact decide_eq_true rfl, ?_, _, _, rfl, rfl, (by show 2 ≤ sizeLine; decide), fun p np => ?_⟩
        · intro m z' hm hz'
          rw [List.getElem?_map] at hz'
          obtain ⟨y, hy, rfl⟩ := Option.map_eq_some_iff.mp hz'
          rw [eqv_ev]
          exact decide_eq_false fun z => idx_first hm (z ▸ hy)
        · exact q (.ref p) _ (s1.trans (s2.trans (s4.trans (same_new np _)))) (.inl ⟨i, _, p, rfl, hrow, c, upd_same⟩)
      · rw [decide_eq_false c]
        refine iteF ⟨_, _, rfl, s4, fun j r' hj hr' => ?_⟩
        by_cases e1 : j = i
        · subst e1
          rw [hrow] at hr'
          rw [← Option.some.inj hr']
          exact c
        · exact no j r' (by omega) hr'
    · rintro σ H' ⟨t2', t3, rfl, s, no⟩
      refine q .non H' (s1.trans (s2.trans s)) (.inr ⟨rfl, fun r hr c => ?_⟩)
      obtain ⟨j, hj⟩ := List.getElem?_of_mem hr
      have lj := (List.getElem?_eq_some_iff.mp hj).1
      refine no j r ?_ hj c
      rw [List.length_map, ← List.length_map (fun r : RowF => r.2.2), er]
      exact lj

end L2.K06
namespace L2.K06
open PySem PySem.Spec PyProof.Rows L2.My
open HQ (Ev evD)
variable {P : Program} {w : World} {K : PySem.W.Frag} {mg : Str → Option Value} {base : Heap}
def spLog : Sp := fun vs H Q _ => ∃ (b : Addr) (f n th mo c : Int), vs = [.ref b, .int f, .int n, .int th, .int mo] ∧ Bx H b c ∧ c < 800000000000 ∧ 0 < f ∧ f ≤ 5 ∧ 0 ≤ n ∧ n ≤ 16 ∧
  ∀ (v : V) (H' : Hp) (L : Lg), Good L → ((evs L).length : Int) = n → (∀ m ∈ L.ms, m.1 ∈ pool) → (L.ms.length : Int) = f → Tp H' v (encLog L) → Bx H' b (c + 1000) → But b H H' → Q v H'
theorem ok__law_log (T : Tx K mg) : FnOk P w K mg base CX0 3 T.a_law_log T.d_law_log P__law_log spLog := by
  have G__law_take := ok__law_take (P := P) (w := w) (base := base) T
  have G__law_of := ok__law_of (P := P) (w := w) (base := base) T
  have G__law_names := ok__law_names (P := P) (w := w) (base := base) T
  refine T.f_law_log.ok sc__law_log (fun vs H Q E h => ?_) (fun cdv A outer s H vs Q E hr h => ?_)
  · obtain ⟨b, f, n, th, mo, c, rfl, _⟩ := h
    rfl
  obtain ⟨b, f, n, th, mo, c, rfl, hB, hc, f0, f5, n0, n16, q⟩ := h
  have hu := hu_of hr
  refine ⟨_, (pss_cons (ps_asg (pe_tup (pa_cons (pe_call G__law_names (hr.mono (by decide)) (by rfl) T.m_law_names T.f_law_names.kp T.b_law_names .nil pass0 (pa_cons (pv 0) (pa_cons (pv 1) pa_nil))) (pa_cons (pe_lst pa_nil) (pa_cons (pe_lst pa_nil) (pa_cons (pe_lst pa_nil) pa_nil))))) (pg_tup (by rfl) (pgs_cons (pg_name (i := 5) sc__law_log.nd rfl (Or.inl rfl)) (pgs_cons (pg_name (i := 6) sc__law_log.nd rfl (Or.inr rfl)) (pgs_cons (pg_name (i := 7) sc__law_log.nd rfl (Or.inl rfl)) (pgs_cons (pg_name (i := 8) sc__law_log.nd rfl (Or.inl rfl)) pgs_nil))))))
  (pss_cons (ps_set (i := 9) sc__law_log.nd rfl (Or.inr rfl) (pe_callTy (dictH rfl) (by rfl) T.dict (by decide +kernel) (pa_cons (pe_lc (own := [("_law_name", 10)]) (g := (gName 10)) rfl sc__law_log.nd (pi_listK (K := K) rfl (pv 5)) (blkOk_by (own := [("_law_name", 10)]) (N := N__law_log) (sc := defScope s__law_log) (by decide +kernel)) (fun _ _ _ _ _ => (pg_name (i := 10) sc__law_log.nd rfl (Or.inl rfl))) (fun _ _ _ _ _ => pts_nil) (fun _ _ _ _ _ => (pe_tup (pa_cons (pv 10) (pa_cons pe_int pa_nil))))) pa_nil)))
  (pss_cons (ps_for PassesOwn.never rfl (pi_range1 (by rfl) T.range (pa_cons (pv 2) pa_nil)) (pg_name (i := 11) sc__law_log.nd rfl (Or.inl rfl))
    (pss_cons (ps_set (i := 10) sc__law_log.nd rfl (Or.inr rfl) (pe_call G__law_of (hr.mono (by decide)) (by rfl) T.m_law_of T.f_law_of.kp T.b_law_of .nil pass0 (pa_cons (pv 0) (pa_cons (pv 5) pa_nil))))
      (pss_cons (ps_set (i := 12) sc__law_log.nd rfl (Or.inl rfl) (pe_tup (pa_cons (pv 10) (pa_cons (pe_dget hu (pv 9) (pv 10) (fun _ _ => rfl)) pa_nil))))
      (pss_cons (ps_setLc (i := 13) (own := [("_law_own", 14)]) (g := (gName 14)) rfl sc__law_log.nd rfl rfl (sw_true rfl rfl rfl (by decide +kernel)) (pi_listK (K := K) rfl (pv 8)) (blkOk_by (own := [("_law_own", 14)]) (N := N__law_log) (sc := defScope s__law_log) (by decide +kernel)) (fun _ _ _ _ _ => (pg_name (i := 14) sc__law_log.nd rfl (Or.inl rfl))) (fun _ _ _ _ _ => (pts_one (pt_cmpR op_ne (pe_ix ixT (pv 14) pe_int (fun _ _ => rfl)) (pv 10) (nomark _)))) (fun _ _ _ _ _ => (pv 14)))
      (pss_cons (ps_for PassesOwn.never rfl (pi_range1 (by rfl) T.range (pa_cons (pe_call G__law_of (hr.mono (by decide)) (by rfl) T.m_law_of T.f_law_of.kp T.b_law_of .nil pass0 (pa_cons (pv 0) (pa_cons (pe_lst (pa_cons pe_int (pa_cons pe_int (pa_cons pe_int (pa_cons pe_int (pa_cons pe_int (pa_cons pe_int pa_nil))))))) pa_nil))) pa_nil)) (pg_name (i := 15) sc__law_log.nd rfl (Or.inl rfl))
        (pss_one (ps_if (pt_cmpR (neH hr.units) (pv 13) (pe_lst pa_nil) (nomark _))
            (pss_one (ps_expr (pe_bm PySem.F.plainAttrs_list PySem.F.slot_list_append PySem.F.type_list_append mt_append (pv 7) (pa_cons (pe_tup (pa_cons (pe_call G__law_of (hr.mono (by decide)) (by rfl) T.m_law_of T.f_law_of.kp T.b_law_of .nil pass0 (pa_cons (pv 0) (pa_cons (pe_slice slH (pv 13) (po_some (pe_un un_neg pe_int)) po_none) pa_nil))) (pa_cons (pv 12) pa_nil))) pa_nil))))
            pss_nil)))
      (pss_cons (ps_if (PW.pt (pw_and (pt_cmpR op_lt (pe_call G__law_take (hr.mono (by decide)) (by rfl) T.m_law_take T.f_law_take.kp T.b_law_take .nil pass0 (pa_cons (pv 0) (pa_cons pe_int pa_nil))) (pv 3) (nomark _)) (pw_and1 (pt_cmpR op_lt (pe_callB lenH (by rfl) T.len (by decide +kernel) (pa_cons (pv 6) pa_nil)) (pv 4) (nomark _)))))
        (pss_one (ps_expr (pe_bm PySem.F.plainAttrs_list PySem.F.slot_list_append PySem.F.type_list_append mt_append (pv 6) (pa_cons (pv 12) pa_nil))))
        pss_nil)
      (pss_cons (ps_expr (pe_bm PySem.F.plainAttrs_list PySem.F.slot_list_append PySem.F.type_list_append mt_append (pv 8) (pa_cons (pv 12) pa_nil)))
      (pss_one (ps_dput hu (pv 9) (pv 10) (pe_op op_add (pe_dget hu (pv 9) (pv 10) (fun _ _ => rfl)) pe_int) rfl)))))))))
  (pss_cons (ps_setLc (i := 16) (own := [("_law_name", 10)]) (g := (gName 10)) rfl sc__law_log.nd rfl rfl (sw_true rfl rfl rfl (by decide +kernel)) (pi_listK (K := K) rfl (pv 5)) (blkOk_by (own := [("_law_name", 10)]) (N := N__law_log) (sc := defScope s__law_log) (by decide +kernel)) (fun _ _ _ _ _ => (pg_name (i := 10) sc__law_log.nd rfl (Or.inr rfl))) (fun _ _ _ _ _ => pts_nil) (fun _ _ _ _ _ => (pe_tup (pa_cons (pv 10) (pa_cons (pe_dget hu (pv 9) (pv 10) (fun _ _ => rfl)) (pa_cons (pe_callTy tupH (by rfl) T.tuple (by decide +kernel) (pa_cons (pe_lc (own := [("_law_own", 14)]) (g := (gName 14)) rfl sc__law_log.nd (pi_listK (K := K) rfl (pe_callB (sortH hr.units) (by rfl) T.sorted (by decide +kernel) (pa_cons (pv 6) pa_nil))) (blkOk_by (own := [("_law_own", 14)]) (N := N__law_log) (sc := relS (lcScope (asgVal (bodyAt s__law_log 3))) (defScope s__law_log)) (by decide +kernel)) (fun _ _ _ _ _ => (pg_name (i := 14) sc__law_log.nd rfl (Or.inl rfl))) (fun _ _ _ _ _ => (pts_one (pt_cmpR op_eq (pe_ix ixT (pv 14) pe_int (fun _ _ => rfl)) (pv 10) (nomark _)))) (fun _ _ _ _ _ => (pe_ix ixT (pv 14) pe_int (fun _ _ => rfl)))) pa_nil)) pa_nil))))))
  (pss_one (ps_ret (pe_tup (pa_cons (pe_callTy tupH (by rfl) T.tuple (by decide +kernel) (pa_cons (pv 16) pa_nil)) (pa_cons (pe_callTy tupH (by rfl) T.tuple (by decide +kernel) (pa_cons (pe_callB (sortSetH rfl rfl hr.units) (by rfl) T.sorted (by decide +kernel) (pa_cons (pe_callTy (setH rfl rfl hr.units) (by rfl) T.set (by decide +kernel) (pa_cons (pe_slice slH (pv 7) po_none (po_some pe_int)) pa_nil)) pa_nil)) pa_nil)) pa_nil))))))))), ?_⟩
  refine ⟨_, rfl, _, rfl, b, f, c, rfl, hB, by omega, by omega, by omega, fun pN H1 ns hB1 k1 nN hN lN asc inp => ?_⟩
  refine ⟨(by show 0 ≤ sizeLine; decide), fun pM nM => ⟨(by show 0 ≤ sizeLine; decide), fun pL nL => ⟨(by show 0 ≤ sizeLine; decide), fun pT nT => ⟨(by show 4 ≤ sizeLine; decide), fun tp ntp => ?_⟩⟩⟩⟩
  refine ⟨tp, _, rfl, .inl (.inl upd_same), rfl, _, _, rfl, _, _, rfl, _, _, rfl, _, _, rfl, rfl, ?_⟩
  have hbx := hB.lst
  have hbx1 := hB1.lst
  obtain ⟨xb, hxb⟩ := hbx
  obtain ⟨xb1, hxb1⟩ := hbx1
  have nNb : pN ≠ b := fun e => by rw [e, hxb] at nN; cases nN
  have s2 := same_new nM (.lst [])
  have s3 := same_new nL (.lst [])
  have s4 := same_new nT (.lst [])
  have s5 := same_new ntp (.tup [V.ref pN, V.ref pM, V.ref pL, V.ref pT])
  have nMb : pM ≠ b := fun e => by rw [e, hxb1] at nM; cases nM
  have nMN : pM ≠ pN := fun e => by rw [e, hN] at nM; cases nM
  have nLb : pL ≠ b := fun e => by rw [e, s2 _ _ hxb1] at nL; cases nL
  have nLN : pL ≠ pN := fun e => by rw [e, s2 _ _ hN] at nL; cases nL
  have nLM : pL ≠ pM := fun e => by rw [e, upd_same] at nL; cases nL
  have nTb : pT ≠ b := fun e => by rw [e, s3 _ _ (s2 _ _ hxb1)] at nT; cases nT
  have nTN : pT ≠ pN := fun e => by rw [e, s3 _ _ (s2 _ _ hN)] at nT; cases nT
  have nTM : pT ≠ pM := fun e => by rw [e, s3 _ _ upd_same] at nT; cases nT
  have nTL : pT ≠ pL := fun e => by rw [e, upd_same] at nT; cases nT
  have nM0 : H pM = none := k1.free hxb ⟨_, hxb1⟩ nM
  have nL0 : H pL = none := k1.free hxb ⟨_, hxb1⟩ (s2.free nL)
  have nT0 : H pT = none := k1.free hxb ⟨_, hxb1⟩ (s2.free (s3.free nT))
  have sA : Same H1 (upd (upd (upd (upd H1 pM (.lst [])) pL (.lst [])) pT (.lst [])) tp (.tup [V.ref pN, V.ref pM, V.ref pL, V.ref pT])) := ((s2.trans s3).trans s4).trans s5
  have hM4 : (upd (upd (upd (upd H1 pM (.lst [])) pL (.lst [])) pT (.lst [])) tp (.tup [V.ref pN, V.ref pM, V.ref pL, V.ref pT])) pM = some (.lst []) := s5 _ _ (s4 _ _ (s3 _ _ upd_same))
  have hL4 : (upd (upd (upd (upd H1 pM (.lst [])) pL (.lst [])) pT (.lst [])) tp (.tup [V.ref pN, V.ref pM, V.ref pL, V.ref pT])) pL = some (.lst []) := s5 _ _ (s4 _ _ upd_same)
  have hT4 : (upd (upd (upd (upd H1 pM (.lst [])) pL (.lst [])) pT (.lst [])) tp (.tup [V.ref pN, V.ref pM, V.ref pL, V.ref pT])) pT = some (.lst []) := s5 _ _ upd_same
  generalize (upd (upd (upd (upd H1 pM (.lst [])) pL (.lst [])) pT (.lst [])) tp (.tup [V.ref pN, V.ref pM, V.ref pL, V.ref pT])) = H4 at sA hM4 hL4 hT4 ⊢
  have hN4 := sA _ _ hN
  refine ⟨_, rfl, pN, rfl, ⟨_, .inl (.inl hN4)⟩, fun D nD => ?_⟩
  refine lc_mapL hN4 nD (by rw [List.length_map, sizeLine_eq]; omega) (fun j y H' => ∃ a nm, y = V.ref a ∧ ns[j]? = some nm ∧ H' a = some (.tup [.str nm, .int 0])) (fun j y H1 H2 s ⟨a, nm, e1, e2, e3⟩ => ⟨a, nm, e1, e2, s _ _ e3⟩) (fun j y H1 zs o hD ⟨a, nm, e1, e2, e3⟩ => ⟨a, nm, e1, e2, tk_upd hD o _ _ e3⟩) (fun _ => rfl) ?_ ?_
  · intro j x H5 Q' hxj s5' _ k
    rw [List.getElem?_map] at hxj
    obtain ⟨nm, hnm, rfl⟩ := Option.map_eq_some_iff.mp hxj
    exact ⟨_, rfl, (by show 2 ≤ sizeLine; decide), fun p np => k _ _ (same_new np _) ⟨p, nm, rfl, hnm, upd_same⟩⟩
  intro H5 ys sB hD ly hR
  rw [List.length_map] at ly
  obtain ⟨ps, rfl, pp⟩ := prs_named ly hR
  have lnd : (nd ns fun _ => 0).length ≤ 1000 := by unfold nd; rw [List.length_map]; omega
  refine ⟨D, ps, _, rfl, hD, pp, lnd, fun pS nS => ?_⟩
  have mk0 : mergeK [] (nd ns fun _ => 0) = nd ns fun _ => 0 := merge_nd _ [] (by simpa using nd_keys ns _ (asc_nodup asc))
  rw [mk0]
  have s6 := same_new nS (.dK (nd ns fun _ => 0))
  have sC := sA.trans (sB.trans s6)
  have nS0 : H pS = none := k1.free hxb ⟨_, hxb1⟩ (sA.free (sB.free nS))
  have nSb : pS ≠ b := fun e => by rw [e, sB _ _ (sA _ _ hxb1)] at nS; cases nS
  have nSN : pS ≠ pN := fun e => by rw [e, sB _ _ hN4] at nS; cases nS
  have nSM : pS ≠ pM := fun e => by rw [e, sB _ _ hM4] at nS; cases nS
  have nSL : pS ≠ pL := fun e => by rw [e, sB _ _ hL4] at nS; cases nS
  have nST : pS ≠ pT := fun e => by rw [e, sB _ _ hT4] at nS; cases nS
  have Dd : Ds b pN pM pL pT pS H := by
    refine ⟨?_, ?_⟩
    · simp only [List.nodup_cons, List.mem_cons, List.not_mem_nil, or_false, not_or]
      exact ⟨⟨Ne.symm nNb, Ne.symm nMb, Ne.symm nLb, Ne.symm nTb, Ne.symm nSb⟩, ⟨Ne.symm nMN, Ne.symm nLN, Ne.symm nTN, Ne.symm nSN⟩, ⟨Ne.symm nLM, Ne.symm nTM, Ne.symm nSM⟩, ⟨Ne.symm nTL, Ne.symm nSL⟩, Ne.symm nST, not_false, List.nodup_nil⟩
    · intro a ha
      simp only [List.mem_cons, List.not_mem_nil, or_false] at ha
      rcases ha with rfl | rfl | rfl | rfl | rfl <;> assumption
  have L0 : LS H (upd H5 pS (.dK (nd ns fun _ => 0))) b pN pM pL pT pS ns [] [] [] [] [] :=
    ⟨sC _ _ hN, s6 _ _ (sB _ _ hM4), s6 _ _ (sB _ _ hL4), s6 _ _ (sB _ _ hT4), upd_same, rfl, (fun _ h => nomatch h), (fun _ h => nomatch h), (fun _ h => nomatch h), .nil, (fun _ h => nomatch h), List.nodup_nil, (fun _ h => nomatch h), fun a o ne e => sC _ _ (k1 _ _ ne e)⟩
  have B0 : Bx (upd H5 pS (.dK (nd ns fun _ => 0))) b (c + f) := hB1.same sC
  generalize (upd H5 pS (.dK (nd ns fun _ => 0))) = H6 at L0 B0 ⊢
  refine ⟨_, rfl, n, rfl, by omega, by omega, for_range (n := n.toNat) (fun i σ H' => ∃ (te : List Ev) (zm zt : ZE) (zl : ZL) (t10 t11 t12 t13 t14 t15 : Option V), σ = [some (.ref b), some (.int f), some (.int n), some (.int th), some (.int mo), some (.ref pN), some (.ref pM), some (.ref pL), some (.ref pT), some (.ref pS), t10, t11, t12, t13, t14, t15, none] ∧
    LS H H' b pN pM pL pT pS ns te te zm zt zl ∧ te.length = i ∧ zm.length ≤ i ∧ zl.length ≤ 2 * i ∧ Bx H' b (c + f + 8 * i)) ?_ ?_ ?_⟩
  · exact ⟨[], [], [], [], _, _, _, _, _, _, rfl, L0, rfl, Nat.zero_le _, Nat.zero_le _, B0.le (by omega)⟩
  · rintro i σ H' hi ⟨te, zm, zt, zl, t10, t11, t12, t13, t14, t15, rfl, hS, lt, lm, ll, hB2⟩
    have nsl : 0 < ns.length := by omega
    have hlt : zt.length = i := by rw [← lt, ← hS.et, List.length_map]
    refine ⟨_, rfl, _, rfl, b, pN, _, _, rfl, hB2, by omega, hS.hN, nNb, (fun e => by simp at e; subst e; cases nsl), by rw [List.length_map]; omega, fun v H2 hv hB3 k2 => ?_⟩
    obtain ⟨m, hm, rfl⟩ := List.mem_map.mp hv
    obtain ⟨xb2, hxb2⟩ := hB2.lst
    have hS2 := hS.but Dd hxb2 k2
    have g2 : DGet H2 pS (.str m) (some (.int (cnt m te))) := by
      have := DGet.k (k := .inr m) hS2.hS
      rw [nd_val hm] at this
      exact this
    refine ⟨_, rfl, ⟨_, rfl, _, rfl, pS, _, rfl, g2, (by show 2 ≤ sizeLine; decide), fun x nx => ?_⟩⟩
    have sx := same_new nx (.tup [V.str m, V.int (cnt m te)])
    have hx3 : EvR (upd H2 x (.tup [V.str m, V.int (cnt m te)])) (x, (m, (cnt m te : Int))) := upd_same
    have hS3 := hS2.same sx
    have hB4 := hB3.same sx
    generalize upd H2 x (.tup [V.str m, V.int (cnt m te)]) = H3 at hx3 hS3 hB4 ⊢
    -- the others
    refine ⟨_, rfl, pT, rfl, ⟨_, .inl (.inl hS3.hT)⟩, fun pO nO => ?_⟩
    refine lc_filtL hS3.hT nO (by rw [List.length_map, sizeLine_eq]; omega) (fun v => decide ((evOf H3 v).1 ≠ m)) id (fun _ => rfl) ?_ ?_ ?_
    · intro y H4 Q' hy s4 k
      obtain ⟨z, hz, rfl⟩ := List.mem_map.mp hy
      have ez := hS3.rT z hz
      refine ⟨_, rfl, z.1, _, 0, _, rfl, rfl, s4 _ _ ez, at0, _, rfl, rfl, _, rfl, ?_⟩
      have e : (!decide (V.str z.2.1 = V.str m)) = decide ((evOf H3 (V.ref z.1)).1 ≠ m) := by
        rw [evOf_of ez]
        by_cases q : z.2.1 = m
        · simp [q]
        · simp [q]
      rw [e]
      exact k H4 (fun _ _ h => h)
    · intro y H4 Q' hy _ s4 k
      exact ⟨_, rfl, k H4 (fun _ _ h => h)⟩
    intro H4 s4 hO
    rw [List.map_id, filt_refs (fun e => decide (e.1 ≠ m)) _ fun z hz => by rw [evOf_of (hS3.rT z hz)]] at hO
    have hS4 := hS3.same s4
    have hB5 := hB4.same s4
    have hx4 : EvR H4 (x, (m, (cnt m te : Int))) := s4 _ _ hx3
    have nOb : pO ≠ b := fun e => by obtain ⟨u, hu⟩ := hB4.lst; rw [e, hu] at nO; cases nO
    have nOL : pO ≠ pL := fun e => by rw [e, hS3.hL] at nO; cases nO
    have nOM : pO ≠ pM := fun e => by rw [e, hS3.hM] at nO; cases nO
    have ho : ∀ z ∈ zt.filter (fun z => decide (z.2.1 ≠ m)), EvR H4 z ∧ z.2 ∈ te ∧ z.2.1 ≠ m := fun z hz => by
      obtain ⟨h1, h2⟩ := List.mem_filter.mp hz
      refine ⟨s4 _ _ (hS3.rT z h1), ?_, by simpa using h2⟩
      rw [← hS.et]
      exact List.mem_map.mpr ⟨z, h1, rfl⟩
    have lo : (zt.filter fun z => decide (z.2.1 ≠ m)).length ≤ i := Nat.le_trans (List.length_filter_le _ _) (by omega)
    generalize (zt.filter fun z => decide (z.2.1 ≠ m)) = zo at hO ho lo
    clear nO hB4 hS3 hx3
    -- the letters
    obtain ⟨u5, hu5⟩ := hB5.lst
    refine ⟨_, rfl, (by show 6 ≤ sizeLine; decide), fun pk nk => ?_⟩
    have sk := same_new nk (.lst [V.int 0, V.int 0, V.int 1, V.int 1, V.int 1, V.int 2])
    have nkb : pk ≠ b := fun e => by obtain ⟨u, hu⟩ := hB5.lst; rw [e, hu] at nk; cases nk
    refine ⟨b, pk, _, _, rfl, hB5.same sk, by omega, upd_same, nkb, (by simp), (by decide), fun v H5 hv hB6 k5 => ?_⟩
    have hj : ∃ j : Int, v = .int j ∧ 0 ≤ j ∧ j ≤ 2 := by
      simp only [List.mem_cons, List.not_mem_nil, or_false] at hv
      rcases hv with rfl | rfl | rfl | rfl | rfl | rfl <;> exact ⟨_, rfl, by decide, by decide⟩
    obtain ⟨j, rfl, j0, j2⟩ := hj
    have hS5 := ((hS4.same sk).but Dd (sk _ _ hu5) k5).ahead (e := (m, (cnt m te : Int)))
    have hO5 := k5 _ _ nOb (sk _ _ hO)
    have tk5 : My.TK H4 H5 := (My.TK.same sk).trans (k5.tk (sk _ _ hu5))
    have hx5 := hx4.keep tk5
    have ho5 : ∀ z ∈ zo, EvR H5 z ∧ z.2 ∈ te ∧ z.2.1 ≠ m := fun z hz => ⟨(ho z hz).1.keep tk5, (ho z hz).2⟩
    refine ⟨j, rfl, by omega, by omega, for_range (n := j.toNat) (fun k σ H' => ∃ (zl' : ZL) (t11 t15 : Option V), σ = [some (.ref b), some (.int f), some (.int n), some (.int th), some (.int mo), some (.ref pN), some (.ref pM), some (.ref pL), some (.ref pT), some (.ref pS), some (.str m), t11, some (.ref x), some (.ref pO), t14, t15, none] ∧
      LS H H' b pN pM pL pT pS ns te (te ++ [(m, (cnt m te : Int))]) zm zt zl' ∧ zl'.length ≤ 2 * i + k ∧ Bx H' b (c + f + 8 * i + 2 + k) ∧ EvR H' (x, (m, (cnt m te : Int))) ∧ H' pO = some (.lst (zo.map fun z => V.ref z.1)) ∧ ∀ z ∈ zo, EvR H' z ∧ z.2 ∈ te ∧ z.2.1 ≠ m) ?_ ?_ ?_⟩
    · exact ⟨zl, _, _, rfl, hS5, by omega, hB6.le (by omega), hx5, hO5, ho5⟩
    · rintro k σ H' hk ⟨zl', t11', t15', rfl, hS6, ll6, hB7, hx6, hO6, ho6⟩
      have lk : k < 2 := by omega
      have nOL6 : zo.length ≤ sizeLine := by rw [sizeLine_eq]; omega
      refine ⟨_, rfl, (by show 0 ≤ sizeLine; decide), fun pe ne => ?_⟩
      have se := same_new ne (.lst [])
      have rO : Rp (upd H' pe (.lst [])) (.ref pO) (.list (zo.map fun z => evD z.2)) := .lst (se _ _ hO6) (evs_rp fun z hz => (ho6 z hz).1.keep (.same se))
      have shO : SeqAt.shaped (.list (zo.map fun z => evD z.2)) = true := by
        have := evs_shaped (es := zo.map (·.2)) fun e he => by
          obtain ⟨z, hz, rfl⟩ := List.mem_map.mp he
          exact pool_ok _ (inp _ (hS6.told.names _ (ho6 z hz).2.1))
        rw [List.map_map] at this
        exact this
      refine ⟨_, _, rO, .lst upd_same .nil, shO, by decide +kernel, _, rfl, ?_⟩
      have hS7 := hS6.same se
      have hB8 := hB7.same se
      cases zo with
      | nil =>
        refine iteF ⟨zl', _, _, rfl, hS7, by omega, hB8.le (by omega), se _ _ hx6, se _ _ hO6, fun z hz => nomatch hz⟩
      | cons z0 zo0 =>
        refine iteT ?_
        refine ⟨_, rfl, .inl ⟨rfl, _, .inl (.inl hS7.hL)⟩, _, rfl, _, rfl, _, rfl, _, rfl, pO, _, rfl, se _ _ hO6, fun pc nc => ?_⟩
        have sc := same_new nc (.lst (cutV ((z0 :: zo0).map fun z => V.ref z.1) (some (-5)) none))
        obtain ⟨u8, hu8⟩ := hB8.lst
        have ncb : pc ≠ b := fun e => by rw [e, hu8] at nc; cases nc
        refine ⟨b, pc, _, _, rfl, hB8.same sc, by omega, upd_same, ncb, cut_last (by simp), ?_, fun v H9 hv hB9 k9 => ?_⟩
        · refine Nat.lt_of_le_of_lt (cutV_length _ _ _) ?_
          rw [List.length_map]
          omega
        obtain ⟨z, hz, rfl⟩ := List.mem_map.mp (cut_mem hv)
        have hS9 := (hS7.same sc).but Dd (sc _ _ hu8) k9
        have tk9 : My.TK H' H9 := ((My.TK.same se).trans (.same sc)).trans (k9.tk (sc _ _ hu8))
        refine ⟨_, rfl, (by show 2 ≤ sizeLine; decide), fun pl nl => ?_⟩
        have sl := same_new nl (.tup [V.ref z.1, V.ref x])
        have hS10 := hS9.same sl
        have hz6 := ho6 z hz
        have nx' : (m, (cnt m te : Int)) ∉ te := fun y => by
          have := ((hS10.told.mem m _).mp y).2
          omega
        have hl10 := hS10.letter Dd (x := (pl, z, (x, (m, (cnt m te : Int))))) upd_same ((hz6.1.keep tk9).keep (.same sl)) ((hx6.keep tk9).keep (.same sl)) (LtOk.new hz6.2.1 nx' hz6.2.2)
        refine ⟨pL, _, _, rfl, rfl, hS10.hL, by rw [List.length_map, sizeLine_eq]; omega, ?_⟩
        have tkL := tk_upd hS10.hL (.lst ((zl' ++ [(pl, z, (x, (m, (cnt m te : Int))))]).map fun z => V.ref z.1))
        refine ⟨zl' ++ [(pl, z, (x, (m, (cnt m te : Int))))], _, _, rfl, ?_, by rw [List.length_append]; show zl'.length + 1 ≤ _; omega, ?_, ?_, ?_, fun y hy => ?_⟩
        · have e : (zl'.map fun z => V.ref z.1) ++ [V.ref pl] = (zl' ++ [(pl, z, (x, (m, (cnt m te : Int))))]).map fun z => V.ref z.1 := by rw [List.map_append]; rfl
          rw [e]
          exact hl10
        · obtain ⟨u9, hu9⟩ := hB9.lst
          obtain ⟨a1, a2, a3, a4, a5⟩ := hB9
          exact ⟨a1, a2, a3, by rw [upd_ne (Ne.symm nLb)]; exact sl _ _ a4, a5.1, a5.2.1, a5.2.2.1, a5.2.2.2.1, by omega⟩
        · rw [← (by rw [List.map_append]; rfl : (zl' ++ [(pl, z, (x, (m, (cnt m te : Int))))]).map (fun z => V.ref z.1) = (zl'.map fun z => V.ref z.1) ++ [V.ref pl])]
          exact ((hx6.keep tk9).keep (.same sl)).keep tkL
        · rw [upd_ne nOL]
          exact sl _ _ (k9 _ _ nOb (sc _ _ (se _ _ hO6)))
        · rw [← (by rw [List.map_append]; rfl : (zl' ++ [(pl, z, (x, (m, (cnt m te : Int))))]).map (fun z => V.ref z.1) = (zl'.map fun z => V.ref z.1) ++ [V.ref pl])]
          exact ⟨(((ho6 y hy).1.keep tk9).keep (.same sl)).keep tkL, (ho6 y hy).2⟩
    · rintro σ H' ⟨zl', t11', t15', rfl, hS6, ll6, hB7, hx6, hO6, ho6⟩
      refine ⟨_, rfl, b, 12, _, rfl, hB7, by omega, by omega, by omega, fun r H8 r0 r1 hB8 k8 => ⟨_, rfl, r, th, rfl, rfl, _, rfl, ?_⟩⟩
      obtain ⟨u7, hu7⟩ := hB7.lst
      have hS8 := hS6.but Dd hu7 k8
      have hx8 := hx6.keep (k8.tk hu7)
      have eS : putK (nd ns fun n => (cnt n te : Int)) (.inr m) (.int ((cnt m te : Int) + 1)) = nd ns fun n => (cnt n (te ++ [(m, (cnt m te : Int))]) : Int) := by
        rw [nd_put hm]
        congr 1
        funext n
        rw [cnt_snoc]
        by_cases e : n = m
        · subst e
          rw [if_pos rfl, if_pos rfl]
          omega
        · rw [if_neg e, if_neg fun z => e z.symm]
          omega
      have eT : (zt.map fun z => V.ref z.1) ++ [V.ref x] = (zt ++ [(x, (m, (cnt m te : Int)))]).map fun z => V.ref z.1 := by rw [List.map_append]; rfl
      have eM : (zm.map fun z => V.ref z.1) ++ [V.ref x] = (zm ++ [(x, (m, (cnt m te : Int)))]).map fun z => V.ref z.1 := by rw [List.map_append]; rfl
      cases decide (r < th) with
      | false =>
        refine iteF (iteF ?_)
        have g8 : DGet H8 pS (.str m) (some (.int (cnt m te))) := by
          have := DGet.k (H := H8) (a := pS) (k := .inr m) hS8.hS
          rw [nd_val hm] at this
          exact this
        refine ⟨_, rfl, .inl ⟨rfl, _, .inl (.inl hS8.hT)⟩, _, rfl, pT, _, _, rfl, rfl, hS8.hT, by rw [List.length_map, sizeLine_eq]; omega, ?_⟩
        refine ⟨_, rfl, _, rfl, pS, _, rfl, (by have z := DGet.k (H := upd H8 pT (.lst ((zt.map fun z => V.ref z.1) ++ [V.ref x]))) (a := pS) (k := .inr m) (by rw [upd_ne nST]; exact hS8.hS); rw [nd_val hm] at z; exact z), _, _, rfl, rfl, _, rfl, _, rfl, pS, _, rfl, DPut.k (k := .inr m) (by rw [upd_ne nST]; exact hS8.hS) (by unfold nd; rw [List.length_map, sizeLine_eq]; omega), ?_⟩
        rw [eS, eT]
        refine ⟨te ++ [(m, (cnt m te : Int))], zm, zt ++ [(x, (m, (cnt m te : Int)))], zl', _, _, _, _, _, _, rfl, hS8.tell Dd hm hx8, by rw [List.length_append, lt]; rfl, by omega, by omega, ?_⟩
        obtain ⟨a1, a2, a3, a4, a5⟩ := hB8
        exact ⟨a1, a2, a3, by rw [upd_ne (Ne.symm nSb), upd_ne (Ne.symm nTb)]; exact a4, a5.1, a5.2.1, a5.2.2.1, a5.2.2.2.1, by omega⟩
      | true =>
        refine iteT ?_
        refine ⟨_, rfl, pM, _, rfl, .inl hS8.hM, _, rfl, _, mo, rfl, rfl, _, rfl, ?_⟩
        cases decide ((((zm.map fun z => V.ref z.1).length : Nat) : Int) < mo) with
        | true =>
          refine iteT ?_
          refine ⟨_, rfl, .inl ⟨rfl, _, .inl (.inl hS8.hM)⟩, _, rfl, pM, _, _, rfl, rfl, hS8.hM, by rw [List.length_map, sizeLine_eq]; omega, ?_⟩
          have hT9 : (upd H8 pM (.lst ((zm.map fun z => V.ref z.1) ++ [V.ref x]))) pT = some (.lst (zt.map fun z => V.ref z.1)) := by rw [upd_ne nTM]; exact hS8.hT
          have g8 : DGet (upd H8 pM (.lst ((zm.map fun z => V.ref z.1) ++ [V.ref x]))) pS (.str m) (some (.int (cnt m te))) := by
            have := DGet.k (H := (upd H8 pM (.lst ((zm.map fun z => V.ref z.1) ++ [V.ref x])))) (a := pS) (k := .inr m) (by rw [upd_ne nSM]; exact hS8.hS)
            rw [nd_val hm] at this
            exact this
          refine ⟨_, rfl, .inl ⟨rfl, _, .inl (.inl hT9)⟩, _, rfl, pT, _, _, rfl, rfl, hT9, by rw [List.length_map, sizeLine_eq]; omega, ?_⟩
          refine ⟨_, rfl, _, rfl, pS, _, rfl, (by have z := DGet.k (H := upd (upd H8 pM (.lst ((zm.map fun z => V.ref z.1) ++ [V.ref x]))) pT (.lst ((zt.map fun z => V.ref z.1) ++ [V.ref x]))) (a := pS) (k := .inr m) (by rw [upd_ne nST, upd_ne nSM]; exact hS8.hS); rw [nd_val hm] at z; exact z), _, _, rfl, rfl, _, rfl, _, rfl, pS, _, rfl, DPut.k (k := .inr m) (by rw [upd_ne nST, upd_ne nSM]; exact hS8.hS) (by unfold nd; rw [List.length_map, sizeLine_eq]; omega), ?_⟩
          rw [eS, eT, eM]
          refine ⟨te ++ [(m, (cnt m te : Int))], zm ++ [(x, (m, (cnt m te : Int)))], zt ++ [(x, (m, (cnt m te : Int)))], zl', _, _, _, _, _, _, rfl, hS8.tellM Dd hm hx8, by rw [List.length_append, lt]; rfl, by rw [List.length_append]; show zm.length + 1 ≤ _; omega, by omega, ?_⟩
          obtain ⟨a1, a2, a3, a4, a5⟩ := hB8
          exact ⟨a1, a2, a3, by rw [upd_ne (Ne.symm nSb), upd_ne (Ne.symm nTb), upd_ne (Ne.symm nMb)]; exact a4, a5.1, a5.2.1, a5.2.2.1, a5.2.2.2.1, by omega⟩
        | false =>
          refine iteF ?_
          have g8 : DGet H8 pS (.str m) (some (.int (cnt m te))) := by
            have := DGet.k (H := H8) (a := pS) (k := .inr m) hS8.hS
            rw [nd_val hm] at this
            exact this
          refine ⟨_, rfl, .inl ⟨rfl, _, .inl (.inl hS8.hT)⟩, _, rfl, pT, _, _, rfl, rfl, hS8.hT, by rw [List.length_map, sizeLine_eq]; omega, ?_⟩
          refine ⟨_, rfl, _, rfl, pS, _, rfl, (by have z := DGet.k (H := upd H8 pT (.lst ((zt.map fun z => V.ref z.1) ++ [V.ref x]))) (a := pS) (k := .inr m) (by rw [upd_ne nST]; exact hS8.hS); rw [nd_val hm] at z; exact z), _, _, rfl, rfl, _, rfl, _, rfl, pS, _, rfl, DPut.k (k := .inr m) (by rw [upd_ne nST]; exact hS8.hS) (by unfold nd; rw [List.length_map, sizeLine_eq]; omega), ?_⟩
          rw [eS, eT]
          refine ⟨te ++ [(m, (cnt m te : Int))], zm, zt ++ [(x, (m, (cnt m te : Int)))], zl', _, _, _, _, _, _, rfl, hS8.tell Dd hm hx8, by rw [List.length_append, lt]; rfl, by omega, by omega, ?_⟩
          obtain ⟨a1, a2, a3, a4, a5⟩ := hB8
          exact ⟨a1, a2, a3, by rw [upd_ne (Ne.symm nSb), upd_ne (Ne.symm nTb)]; exact a4, a5.1, a5.2.1, a5.2.2.1, a5.2.2.2.1, by omega⟩
  · rintro σ H' ⟨te, zm, zt, zl, t10, t11, t12, t13, t14, t15, rfl, hS, lt, lm, ll, hB2⟩
    obtain ⟨mk, mkp, mks⟩ := ex_sorted (zm.map (·.2))
    refine ⟨_, rfl, pN, rfl, ⟨_, .inl (.inl hS.hN)⟩, fun D nD => ?_⟩
    refine lc_mapL hS.hN nD (by rw [List.length_map, sizeLine_eq]; omega) (fun j y H' => ∃ nm, ns[j]? = some nm ∧ Tp H' y (encM (nm, cnt nm te, (mk.filter fun (e : Ev) => decide (e.1 = nm)).map fun (e : Ev) => e.2))) (fun j y H1 H2 s ⟨nm, e1, e2⟩ => ⟨nm, e1, e2.keep (.same s)⟩) (fun j y H1 zs o hD ⟨nm, e1, e2⟩ => ⟨nm, e1, e2.keep (tk_upd hD o)⟩) (fun _ => rfl) ?_ ?_
    · intro j y Ha Q' hxj sa _ k
      rw [List.getElem?_map] at hxj
      obtain ⟨nm, hnm, rfl⟩ := Option.map_eq_some_iff.mp hxj
      have hSa := hS.same sa
      have g := DGet.k (k := .inr nm) hSa.hS
      rw [nd_val (List.mem_of_getElem? hnm)] at g
      refine ⟨_, rfl, _, rfl, _, rfl, pS, _, rfl, g, _, rfl, pM, zm.map (fun z => (V.ref z.1, evD z.2)), rfl, by rw [List.map_map]; exact hSa.hM, ?_, ?_, ?_, ?_, ?_, fun zs' p pm pw np => ?_⟩
      · intro z hz
        obtain ⟨u, hu, rfl⟩ := List.mem_map.mp hz
        exact ev_rp (hSa.rM u hu)
      · have := evs_alike (zm.map (·.2))
        rw [List.map_map] at this ⊢
        exact this
      · have := evs_sortable (zm.map (·.2))
        rw [List.map_map] at this ⊢
        exact this
      · rw [List.length_map, sizeLine_eq]
        omega
      · intro z hz
        obtain ⟨u, hu, rfl⟩ := List.mem_map.mp hz
        show (evD u.2).depth ≤ 20
        rw [HQ.evD_depth]
        decide
      obtain ⟨zm', rfl, pm'⟩ := perm_inv pm rfl
      have emk : zm'.map (·.2) = mk := sorted_eq ((pm'.map (·.2)).trans mkp.symm) (by refine List.pairwise_map.mpr ((List.pairwise_map.mp pw).imp fun {x y} h => ?_); exact h) mks
      have ex : (zm'.map (fun z => (V.ref z.1, evD z.2))).map (·.1) = zm'.map fun z => V.ref z.1 := by rw [List.map_map]; rfl
      rw [ex]
      have sp := same_new np (.lst (zm'.map fun z => V.ref z.1))
      have rM' : ∀ z ∈ zm', EvR (upd Ha p (.lst (zm'.map fun z => V.ref z.1))) z := fun z hz => (hSa.rM z (pm'.mem_iff.mp hz)).keep (.same sp)
      have lm' : zm'.length ≤ sizeLine := by rw [pm'.length_eq, sizeLine_eq]; omega
      refine ⟨p, rfl, ⟨_, .inl (.inl upd_same)⟩, fun D2 nD2 => ?_⟩
      refine lc_filtL upd_same nD2 (by rw [List.length_map]; exact lm') (fun v => decide ((evOf (upd Ha p (.lst (zm'.map fun z => V.ref z.1))) v).1 = nm)) (fun v => .int (evOf (upd Ha p (.lst (zm'.map fun z => V.ref z.1))) v).2) (fun _ => rfl) ?_ ?_ ?_
      · intro y Hb Q' hy sb k
        obtain ⟨z, hz, rfl⟩ := List.mem_map.mp hy
        have ez := rM' z hz
        refine ⟨_, rfl, z.1, _, 0, _, rfl, rfl, sb _ _ ez, at0, _, rfl, rfl, _, rfl, ?_⟩
        have e : decide (V.str z.2.1 = V.str nm) = decide ((evOf (upd Ha p (.lst (zm'.map fun z => V.ref z.1))) (V.ref z.1)).1 = nm) := by
          rw [evOf_of ez]
          by_cases q : z.2.1 = nm
          · simp [q]
          · simp [q]
        rw [e]
        exact k Hb (fun _ _ h => h)
      · intro y Hb Q' hy _ sb k
        obtain ⟨z, hz, rfl⟩ := List.mem_map.mp hy
        have ez := rM' z hz
        refine ⟨_, rfl, z.1, _, 1, _, rfl, rfl, sb _ _ ez, at1, ?_⟩
        have := k Hb (fun _ _ h => h)
        rw [evOf_of ez] at this
        exact this
      intro Hb sb hD2
      have rM2 : ∀ z ∈ zm'.filter (fun z => decide (z.2.1 = nm)), EvR (upd Ha p (.lst (zm'.map fun z => V.ref z.1))) z := fun z hz => rM' z (List.mem_filter.mp hz).1
      rw [filt_refs (fun e => decide (e.1 = nm)) _ fun z hz => by rw [evOf_of (rM' z hz)]] at hD2
      have e2 : ((zm'.filter fun z => decide (z.2.1 = nm)).map fun z => V.ref z.1).map (fun v => V.int (evOf (upd Ha p (.lst (zm'.map fun z => V.ref z.1))) v).2) = ((mk.filter fun e => decide (e.1 = nm)).map (·.2)).map V.int := by
        rw [← emk, List.filter_map, List.map_map, List.map_map, List.map_map]
        refine List.map_congr_left fun z hz => ?_
        show V.int (evOf _ (V.ref z.1)).2 = V.int z.2.2
        rw [evOf_of (rM2 z hz)]
      rw [e2] at hD2
      refine ⟨D2, _, rfl, hD2, fun l nl => ⟨(by show 3 ≤ sizeLine; decide), fun q nq => ?_⟩⟩
      refine k _ _ ((((sp.trans sb)).trans (same_new nl _)).trans (same_new nq _)) ⟨nm, hnm, ?_⟩
      refine .tup upd_same (.cons (.str _) (.cons (.int _) (.cons (.tup (same_new nq _ _ _ upd_same) ?_) .nil)))
      exact ints_tp _
    intro H7 ys s7 hD ly hR
    rw [List.length_map] at ly
    have hS7 := hS.same s7
    have hB7 := hB2.same s7
    refine ⟨_, rfl, D, ys, rfl, hD, fun p1 n1 => ?_⟩
    have sa := same_new n1 (.tup ys)
    refine ⟨_, rfl, 16, rfl, pL, _, rfl, sa _ _ hS7.hL, fun pc nc => ?_⟩
    rw [cut_first]
    have sb := same_new nc (.lst ((zl.map fun z => V.ref z.1).take 16))
    have l16 : (zl.take 16).length ≤ 16 := by rw [List.length_take]; exact Nat.min_le_left _ _
    have hz16 : ∀ z ∈ zl.take 16, LtR (upd (upd H7 p1 (.tup ys)) pc (.lst ((zl.map fun z => V.ref z.1).take 16))) z ∧ LtOk te (prL z) := fun z hz =>
      ⟨LtR.keep (hS7.rL z (List.mem_of_mem_take hz)) (.same (sa.trans sb)), hS7.lt z (List.mem_of_mem_take hz)⟩
    refine ⟨pc, (zl.take 16).map (fun z => (z.1, kL (prL z))), rfl, ?_, ?_, by rw [List.length_map]; omega, fun a L na h1 h2 h3 => ?_⟩
    · rw [upd_same, List.map_map, ← List.map_take]
      rfl
    · intro u hu
      obtain ⟨z, hz, rfl⟩ := List.mem_map.mp hu
      exact ⟨(hz16 z hz).1.nk, kL_depth _⟩
    obtain ⟨zl0, rfl, hz0⟩ := sub_map h1
    have sc := same_new na (NSO (cxOf CX0 P w K mg base N__law_log (Str.ofString "_law_log") (defScope s__law_log) T.a_law_log cdv A outer s H E).nox.w a (zl0.map (fun z => (z.1, kL (prL z)))))
    have edat : ((zl0.map (fun z => (z.1, kL (prL z)))).map fun p => p.2.data) = (zl0.map prL).map encL := by
      rw [List.map_map, List.map_map]
      exact List.map_congr_left fun z _ => kL_data _
    refine ⟨a, _, rfl, upd_same, ?_, ?_, ?_, fun L' p pm pw np => ?_⟩
    · intro u hu
      obtain ⟨z, hz, rfl⟩ := List.mem_map.mp hu
      exact ⟨(LtR.keep (hz16 z (hz0 z hz)).1 (.same sc)).nk, kL_depth _, by show (kL (prL z)).data.depth ≤ 8; rw [kL_data]; exact encL_depth _⟩
    · rw [edat]
      exact ls_alike _
    · rw [edat]
      exact ls_sortable _
    have nk0 : ((zl0.map prL).map kL).Nodup := by
      rw [List.map_map] at h3 ⊢
      exact h3
    obtain ⟨zl', rfl, pz⟩ := perm_inv pm rfl
    have sd := same_new np (.lst ((zl'.map (fun z => (z.1, kL (prL z)))).map fun q => V.ref q.1))
    refine ⟨p, _, rfl, upd_same, fun l nl => ⟨(by show 2 ≤ sizeLine; decide), fun r nr => ?_⟩⟩
    have se := same_new nl (.tup ((zl'.map (fun z => (z.1, kL (prL z)))).map fun q => V.ref q.1))
    have sf := same_new nr (.tup [V.ref p1, V.ref l])
    have sall := sc.trans (sd.trans (se.trans sf))
    have lsn : (zl'.map prL).Nodup := by
      refine ((pz.map prL).nodup_iff).mpr ?_
      exact (List.pairwise_map.mp nk0).imp fun {x y} h e => h (by rw [e])
    have lsp : (zl'.map prL).Pairwise fun x y => PySem.W.dataLt (encL y) (encL x) = false := by
      refine List.pairwise_map.mpr ((List.pairwise_map.mp pw).imp fun {x y} h => ?_)
      have h : PySem.W.dataLt (kL (prL y)).data (kL (prL x)).data = false := h
      rw [kL_data, kL_data] at h
      exact h
    have hz' : ∀ z ∈ zl', z ∈ zl.take 16 := fun z hz => hz0 z (pz.mem_iff.mp hz)
    have l2 : (zl'.map prL).length ≤ 16 := by
      refine Nat.le_trans (len_sub (m := (zl.take 16).map prL) lsn fun x hx => ?_) (by rw [List.length_map]; exact l16)
      obtain ⟨z, hz, rfl⟩ := List.mem_map.mp hx
      exact List.mem_map.mpr ⟨z, hz' z hz, rfl⟩
    have hG : My.Good ⟨msOf ns te mk, zl'.map prL⟩ := by
      refine good_of asc hS7.told mks ((mkp.nodup_iff).mpr hS7.mkn) (fun e he => ?_) (fun x hx => ?_) lsp lsn (by omega) l2 (by omega) fun x hx => pool_ok _ (inp _ hx)
      · obtain ⟨z, hz, rfl⟩ := List.mem_map.mp (mkp.mem_iff.mp he)
        exact hS7.mkI z hz
      · obtain ⟨z, hz, rfl⟩ := List.mem_map.mp hx
        exact (hz16 z (hz' z hz)).2
    refine q _ _ _ hG (by rw [evs_len hS7.told asc]; omega) (fun m hm => by obtain ⟨x, hx, rfl⟩ := List.mem_map.mp (show m ∈ msOf ns te mk from hm); exact inp _ hx) (by show (((msOf ns te mk).length : Nat) : Int) = f; unfold msOf; rw [List.length_map]; exact lN) ?_ ((hB7.same ((sa.trans sb).trans sall)).le (by omega)) (fun u o hu e => ((sa.trans sb).trans sall) _ _ (hS7.old u o hu e))
    refine .tup upd_same (.cons (.tup (sall _ _ (sb _ _ upd_same)) ?_) (.cons (.tup (sf _ _ upd_same) ?_) .nil))
    · have := tpAll_of (f := id) (ys := ys) (ds := (msOf ns te mk).map encM) (H := H7) (by rw [ly]; unfold msOf; rw [List.length_map, List.length_map]) fun j y hy => by
        obtain ⟨nm, e1, e2⟩ := hR j y hy
        exact ⟨_, by unfold msOf; rw [List.map_map, List.getElem?_map, e1]; rfl, e2⟩
      rw [List.map_id] at this
      exact this.keep (.same ((sa.trans sb).trans sall))
    · have := letters_tp (H := upd (upd H7 p1 (.tup ys)) pc (.lst ((zl.map fun z => V.ref z.1).take 16))) (zl := zl') fun z hz => (hz16 z (hz' z hz)).1
      have e : (zl'.map (fun z => (z.1, kL (prL z)))).map (fun q => V.ref q.1) = zl'.map fun z => V.ref z.1 := by rw [List.map_map]; rfl
      have h := this.keep (.same sall)
      rw [← e] at h
      exact h

end L2.K06
namespace L2.K06
open PySem PySem.Spec PyProof.Rows L2.My
open HQ (Ev evD)
variable {P : Program} {w : World} {K : PySem.W.Frag} {mg : Str → Option Value} {base : Heap}
def whileBody (s : Stmt) (i : Nat) : Stmt := match s with
  | .While _ b _ _ => b.getD i (.Pass ⟨0, 0, 0, 0⟩)
  | x => x
def subVal : Expr → Expr
  | .Subscript x _ _ => x
  | e => e
theorem un65' {k : Nat} {A : Around} (r : Room k A) : A.units + 65 < cLine := by have := r.un; omega
def spOrd : Sp := fun vs H Q _ => ∃ (v : V) (L : Lg), vs = [v] ∧ Tp H v (encLog L) ∧ My.Good L ∧
  ∀ (d : Addr) (H' : Hp) (o : List Ev) (ad : Ev → Addr) (f : Ev → List (Addr × Ev)), Same H H' → H d = none → BQ H' d o ad f → (∀ e, e ∈ o ↔ e ∈ evs L) → (∀ e ∈ o, ((f e).map (·.2)).Nodup ∧ ∀ x, x ∈ (f e).map (·.2) ↔ Ah L x e) → Q (.ref d) H'
theorem ok__law_order (T : Tx K mg) : FnOk P w K mg base CX0 2 T.a_law_order T.d_law_order P__law_order spOrd := by
  have G__law_events := ok__law_events (P := P) (w := w) (base := base) T
  refine T.f_law_order.ok sc__law_order (fun vs H Q E h => ?_) (fun cdv A outer s H vs Q E hr h => ?_)
  · obtain ⟨v, L, rfl, _⟩ := h
    rfl
  obtain ⟨v, L, rfl, hT, hG, q⟩ := h
  have hu := hu_of hr
  refine ⟨_, (pss_cons (ps_asg (pe_tup (pa_cons (pe_call G__law_events (hr.mono (by decide)) (by rfl) T.m_law_events T.f_law_events.kp T.b_law_events .nil pass0 (pa_cons (pv 0) pa_nil)) (pa_cons pe_dnewT pa_nil))) (pg_tup (by rfl) (pgs_cons (pg_name (i := 1) sc__law_order.nd rfl (Or.inl rfl)) (pgs_cons (pg_name (i := 2) sc__law_order.nd rfl (Or.inr rfl)) pgs_nil))))
  (pss_cons (ps_set (i := 3) sc__law_order.nd rfl (Or.inr rfl) (pe_callTy (dictTH rfl hr.units) (by rfl) T.dict (by decide +kernel) (pa_cons (pe_lc (own := [("_law_event_so", 4)]) (g := (gName 4)) rfl sc__law_order.nd (pi_listK (K := K) rfl (pv 1)) (blkOk_by (own := [("_law_event_so", 4)]) (N := N__law_order) (sc := defScope s__law_order) (by decide +kernel)) (fun _ _ _ _ _ => (pg_name (i := 4) sc__law_order.nd rfl (Or.inl rfl))) (fun _ _ _ _ _ => pts_nil) (fun _ _ _ _ _ => (pe_tup (pa_cons (pv 4) (pa_cons (pe_op op_rep (pe_lst (pa_cons (pe_tup (pa_cons (pe_ix ixT (pv 4) pe_int (fun _ _ => rfl)) (pa_cons (pe_op op_sub (pe_ix ixT (pv 4) pe_int (fun _ _ => rfl)) pe_int) pa_nil))) pa_nil)) (pe_callTy call_int1 (by rfl) T.int (by decide +kernel) (pa_cons (pe_cmpR op_gt (pe_ix ixT (pv 4) pe_int (fun _ _ => rfl)) pe_int (nomark _)) pa_nil))) pa_nil))))) pa_nil)))
  (pss_cons (ps_for PassesOwn.never rfl (pi_tupK (K := K) rfl (pe_ix ixT (pv 0) pe_int (fun _ _ => rfl))) (pg_tup (by rfl) (pgs_cons (pg_name (i := 5) sc__law_order.nd rfl (Or.inl rfl)) (pgs_cons (pg_name (i := 6) sc__law_order.nd rfl (Or.inl rfl)) pgs_nil)))
    (pss_one (ps_dput hu (pv 3) (pv 6) (pe_op op_cat (pe_dget hu (pv 3) (pv 6) (fun _ _ => rfl)) (pe_lst (pa_cons (pv 5) pa_nil))) rfl)))
  (pss_cons (ps_while PassesOwn.never (pt_cmpR (neH hr.units) (pv 1) (pe_lst pa_nil) (nomark _))
    (pss_cons (ps_set (i := 7) sc__law_order.nd rfl (Or.inr rfl) (pe_ix ixL (pe_lc (own := [("_law_event_so", 4)]) (g := (gName 4)) rfl sc__law_order.nd (pi_listK (K := K) rfl (pv 1)) (blkOk_by (own := [("_law_event_so", 4)]) (N := N__law_order) (sc := defScope s__law_order) (by decide +kernel)) (fun _ _ _ _ _ => (pg_name (i := 4) sc__law_order.nd rfl (Or.inl rfl))) (fun _ _ _ _ _ => (pts_one (pt_val (pe_callB (allH rfl) (by rfl) T.all (by decide +kernel) (pa_cons (pe_lc (own := [("_law_own", 8)]) (g := (gName 8)) rfl sc__law_order.nd (pi_listK (K := K) rfl (pe_dget hu (pv 3) (pv 4) (fun _ _ => rfl))) (blkOk_by (own := [("_law_own", 8)]) (N := N__law_order) (sc := relS (lcScope (subVal (asgVal (whileBody (bodyAt s__law_order 3) 0)))) (defScope s__law_order)) (by decide +kernel)) (fun _ _ _ _ _ => (pg_name (i := 8) sc__law_order.nd rfl (Or.inl rfl))) (fun _ _ _ _ _ => pts_nil) (fun _ _ _ _ _ => (pe_cmp (pc_din hu (pv 8) (pv 2))))) pa_nil))))) (fun _ _ _ _ _ => (pv 4))) pe_int (fun _ _ => rfl)))
      (pss_cons (ps_set (i := 9) sc__law_order.nd rfl (Or.inr rfl) (pe_lst pa_nil))
      (pss_cons (ps_for PassesOwn.never rfl (pi_listK (K := K) rfl (pe_dget hu (pv 3) (pv 7) (fun _ _ => rfl))) (pg_name (i := 8) sc__law_order.nd rfl (Or.inl rfl))
        (pss_one (ps_set (i := 9) sc__law_order.nd rfl (Or.inr rfl) (pe_op op_cat (pv 9) (pe_lc (own := [("_law_far", 10)]) (g := (gName 10)) rfl sc__law_order.nd (pi_listK (K := K) rfl (pe_op op_cat (pe_dget hu (pv 2) (pv 8) (fun _ _ => rfl)) (pe_lst (pa_cons (pv 8) pa_nil)))) (blkOk_by (own := [("_law_far", 10)]) (N := N__law_order) (sc := defScope s__law_order) (by decide +kernel)) (fun _ _ _ _ _ => (pg_name (i := 10) sc__law_order.nd rfl (Or.inl rfl))) (fun _ _ _ _ _ => (pts_one (pt_cmpR (notInH (un65' hr)) (pv 10) (pv 9) (by with_unfolding_all rfl)))) (fun _ _ _ _ _ => (pv 10)))))))
      (pss_cons (ps_dput hu (pv 2) (pv 7) (pv 9) rfl)
      (pss_one (ps_setLc (i := 1) (own := [("_law_event_so", 4)]) (g := (gName 4)) rfl sc__law_order.nd rfl rfl (sw_true rfl rfl rfl (by decide +kernel)) (pi_listK (K := K) rfl (pv 1)) (blkOk_by (own := [("_law_event_so", 4)]) (N := N__law_order) (sc := defScope s__law_order) (by decide +kernel)) (fun _ _ _ _ _ => (pg_name (i := 4) sc__law_order.nd rfl (Or.inl rfl))) (fun _ _ _ _ _ => (pts_one (pt_cmpR (neH hr.units) (pv 4) (pv 7) (nomark _)))) (fun _ _ _ _ _ => (pv 4)))))))))
  (pss_one (ps_ret (pv 2))))))), ?_⟩
  obtain ⟨a, m, l, xs, zl, hL⟩ := logTup hT
  have rv := hL.ea
  subst rv
  have okN : ∀ e ∈ evs L, PyData.strOk e.1 = true := fun e he => by
    obtain ⟨k, mk, hm, _⟩ := mem_evs.mp (show (e.1, e.2) ∈ evs L from he)
    exact hG.txt _ hm
  have l16 := hG.few.1
  have llz : zl.length ≤ 16 := by rw [← List.length_map prL, hL.el]; exact hG.few.2.1
  refine ⟨_, rfl, _, L, rfl, hT, hG, fun p0 H1 zs s1 np0 hp0 ez0 hz0 => ?_⟩
  intro fo nfo
  refine ⟨(by show 2 ≤ sizeLine; decide), fun tp ntp => ?_⟩
  have s2 := same_new nfo (.dT [])
  have s3 := same_new ntp (.tup [V.ref p0, V.ref fo])
  refine ⟨tp, _, rfl, .inl (.inl upd_same), rfl, _, _, rfl, _, _, rfl, rfl, ?_⟩
  have nfo0 : H fo = none := s1.free nfo
  have hp1 := s3 _ _ (s2 _ _ hp0)
  have hf1 : (upd (upd H1 fo (.dT [])) tp (.tup [V.ref p0, V.ref fo])) fo = some (.dT []) := s3 _ _ upd_same
  have ez1 : ∀ z ∈ zs, EvR (upd (upd H1 fo (.dT [])) tp (.tup [V.ref p0, V.ref fo])) z := evs_keep ez0 (.same (s2.trans s3))
  have sA := s1.trans (s2.trans s3)
  generalize (upd (upd H1 fo (.dT [])) tp (.tup [V.ref p0, V.ref fo])) = H2 at sA hp1 hf1 ez1 ⊢
  clear s1 s2 s3 hp0 ez0 nfo ntp
  have lz : zs.length ≤ 16 := by rw [← List.length_map (·.2), hz0]; exact l16
  -- what is asked before each
  refine ⟨_, rfl, p0, rfl, ⟨_, .inl (.inl hp1)⟩, fun D nD => ?_⟩
  refine lc_mapL hp1 nD (by rw [List.length_map, sizeLine_eq]; omega) (fun j y H' => ∃ t : OrdRow, y = .ref t.1.1 ∧ OrdP L D H' j t) (fun j y H1 H2 s ⟨t, e, h⟩ => ⟨t, e, h.same s⟩) (fun j y H1 zs o hD ⟨t, e, h⟩ => ⟨t, e, h.upd hD o⟩) (fun _ => rfl) ?_ ?_
  · rintro j x H3 Q' hx s3 ⟨ds, hD⟩ k
    rw [List.getElem?_map] at hx
    obtain ⟨z, hzi, rfl⟩ := Option.map_eq_some_iff.mp hx
    have hk := gmap_of hz0 hzi
    have ie := List.mem_of_getElem? hk
    have rz := (ez1 z (List.mem_of_getElem? hzi)).keep (.same s3)
    refine ⟨_, rfl, _, rfl, z.1, _, 0, _, rfl, rfl, rz, at0, _, rfl, z.1, _, 1, _, rfl, rfl, rz, at1, _, 1, rfl, rfl, (by show 2 ≤ sizeLine; decide), fun ta nta => ⟨(by show 1 ≤ sizeLine; decide), fun lb nlb => ?_⟩⟩
    have k1 := same_new nta (.tup [V.str z.2.1, V.int (z.2.2 - 1)])
    have k2 := same_new nlb (.lst [V.ref ta])
    have rz2 := EvR.keep (EvR.keep rz (.same k1)) (.same k2)
    have rt : EvR (upd (upd H3 ta (.tup [V.str z.2.1, V.int (z.2.2 - 1)])) lb (.lst [V.ref ta])) (ta, (z.2.1, z.2.2 - 1)) := k2 _ _ upd_same
    refine ⟨_, rfl, z.1, _, 1, _, rfl, rfl, rz2, at1, _, 0, rfl, rfl, .inr ⟨_, rfl, ?_⟩⟩
    have hD2 := k2 _ _ (k1 _ _ hD)
    have fin : ∀ (ys : List (Addr × Ev)) (la : Addr), (upd (upd H3 ta (.tup [V.str z.2.1, V.int (z.2.2 - 1)])) lb (.lst [V.ref ta])) la = none → (∀ y ∈ ys, EvR (upd (upd H3 ta (.tup [V.str z.2.1, V.int (z.2.2 - 1)])) lb (.lst [V.ref ta])) y) → ys.map (·.2) = prevs L z.2 →
        ∀ pa, (upd (upd (upd H3 ta (.tup [V.str z.2.1, V.int (z.2.2 - 1)])) lb (.lst [V.ref ta])) la (.lst (ys.map fun z => V.ref z.1))) pa = none → Q' (.ref pa) (upd (upd (upd (upd H3 ta (.tup [V.str z.2.1, V.int (z.2.2 - 1)])) lb (.lst [V.ref ta])) la (.lst (ys.map fun z => V.ref z.1))) pa (.tup [V.ref z.1, V.ref la])) := by
      intro ys la nla hy ey pa npa
      have k3 := same_new nla (.lst (ys.map fun z => V.ref z.1))
      have k4 := same_new npa (.tup [V.ref z.1, V.ref la])
      refine k _ _ (k1.trans (k2.trans (k3.trans k4))) ⟨((pa, z.1), z.2, la, ys), rfl, hk, upd_same, EvR.keep rz2 (.same (k3.trans k4)), fun c => ?_, k4 _ _ upd_same, fun y h => ((hy y h).keep (.same k3)).keep (.same k4), ey⟩
      have c : la = D := c
      rw [c, hD2] at nla
      cases nla
    cases c : decide ((0 : Int) < z.2.2) with
    | true =>
      refine ⟨lb, 1, _, rfl, rfl, upd_same, by decide, by decide, by show 1 * 1 ≤ sizeLine; decide, fun la nla => ⟨(by show 2 ≤ sizeLine; decide), ?_⟩⟩
      exact fin [(ta, (z.2.1, z.2.2 - 1))] la nla (fun y h => by rw [List.mem_singleton.mp h]; exact rt) (prevs_pos ie (of_decide_eq_true c)).symm
    | false =>
      refine ⟨lb, 0, _, rfl, rfl, upd_same, by decide, by decide, by show 1 * 0 ≤ sizeLine; decide, fun la nla => ⟨(by show 2 ≤ sizeLine; decide), ?_⟩⟩
      exact fin [] la nla (fun y h => nomatch h) (prevs_zero (of_decide_eq_false c)).symm
  intro H3 ys s3 hD ly hR
  obtain ⟨as, rfl, hP⟩ := pick hR
  have la : as.length = (evs L).length := by
    rw [List.length_map, List.length_map] at ly
    rw [ly, ← hz0, List.length_map]
  obtain ⟨o1, o2, o3⟩ := ord_dict hG la hP
  refine ⟨D, _, rfl, by rw [List.map_map]; exact hD, o1, o2, fun bd nbd => ?_⟩
  obtain ⟨adb, fb, hB, hbp⟩ := o3 bd nbd
  have s4 := same_new nbd (.dT ((as.map (fun t => ((t.1.1, (kE t.2.1, t.1.2), V.ref t.2.2.1) : Prow))).map fun r => (r.2.1.1, r.2.2)))
  have hf4 := s4 _ _ (s3 _ _ hf1)
  have hp4 := s4 _ _ (s3 _ _ hp1)
  have nb2 : H2 bd = none := s3.free nbd
  have bf : bd ≠ fo := fun c => by rw [c, hf1] at nb2; cases nb2
  have nb0 : H bd = none := sA.free nb2
  have sB := s3.trans s4
  generalize (upd H3 bd (.dT ((as.map (fun t => ((t.1.1, (kE t.2.1, t.1.2), V.ref t.2.2.1) : Prow))).map fun r => (r.2.1.1, r.2.2)))) = H4 at hB hf4 hp4 sB ⊢
  clear s4 s3 o1 o2 o3 hP hR hD nbd
  have hL4 := hL.keep (.same (sA.trans sB))
  have ldE : ∀ (es : List Ev) (g : Ev → V), es.length ≤ 16 → (dE es g).length < sizeLine := fun es g h => by
    unfold dE
    rw [List.length_map, sizeLine_eq]
    omega
  -- the letters
  refine ⟨_, rfl, a, _, 1, _, rfl, rfl, hL4.ha, at1, l, rfl, ⟨_, .inl (.inl hL4.hl)⟩, for_tup (xs := zl.map fun z => V.ref z.1) (fun k σ H' => ∃ (t5 t6 : Option V) (adb : Ev → Addr) (fb : Ev → List (Addr × Ev)), σ = [some (.ref a), some (.ref p0), some (.ref fo), some (.ref bd), none, t5, t6, none, none, none, none] ∧ Same H2 H' ∧
    BQ H' bd (evs L) adb fb ∧ ∀ e ∈ evs L, (fb e).map (·.2) = prevs L e ++ sents (L.ls.take k) e) ?_ ?_ ?_ ?_⟩
  · exact ⟨none, none, adb, fb, rfl, sB, hB, fun e he => by rw [hbp e he]; simp [sents]⟩
  · rintro k σ H' _ ⟨t5, t6, adb, fb, rfl, s, _⟩
    exact .inl (.inl ((hL.keep (.same (sA.trans s))).hl))
  · rintro k x σ H' hx ⟨t5, t6, adb, fb, rfl, s, hB, hbp⟩
    rw [List.getElem?_map] at hx
    obtain ⟨z, hzi, rfl⟩ := Option.map_eq_some_iff.mp hx
    have hk := gmap_of hL.el hzi
    have rz := LtR.keep (hL.hz z (List.mem_of_getElem? hzi)) (.same (sA.trans s))
    have ie := (hG.ends (prL z) (List.mem_of_getElem? hk)).2.1
    have lf : (fb (prL z).2).length ≤ 20 := by
      rw [← List.length_map (·.2), hbp _ ie, List.length_append]
      have a1 := prevs_len L (prL z).2
      have a2 := sents_len (L.ls.take k) (prL z).2
      have a3 := hG.few.2.1
      rw [List.length_take] at a2
      omega
    refine ⟨z.1, _, rfl, .inl (.inl rz.1), rfl, _, _, rfl, _, _, rfl, rfl, ?_⟩
    refine ⟨_, rfl, _, rfl, bd, _, rfl, hB.get rz.2.2 ie, _, rfl, (by show 1 ≤ sizeLine; decide), fun l1 n1 => ?_⟩
    have k1 := same_new n1 (.lst [V.ref z.2.1.1])
    refine ⟨_, l1, _, _, rfl, rfl, k1 _ _ (hB.hz _ ie), upd_same, by rw [List.length_map, sizeLine_eq]; show (fb (prL z).2).length + 1 ≤ 16777216; omega, fun l2 n2 => ?_⟩
    have k2 := same_new n2 (.lst ((fb (prL z).2).map (fun z => V.ref z.1) ++ [V.ref z.2.1.1]))
    have hBk := hB.same (k1.trans k2)
    have hl2 : (upd (upd H' l1 (.lst [V.ref z.2.1.1])) l2 (.lst ((fb (prL z).2).map (fun z => V.ref z.1) ++ [V.ref z.2.1.1]))) l2 = some (.lst ((fb (prL z).2 ++ [z.2.1]).map fun z => V.ref z.1)) := by rw [upd_same, List.map_append]; rfl
    have hpt := hBk.put (e := (prL z).2) hl2 fun y hy => by
      rcases List.mem_append.mp hy with c | c
      · exact hBk.he _ ie y c
      · rw [List.mem_singleton.mp c]
        exact rz.2.1.keep (.same (k1.trans k2))
    rw [addE_in ie] at hpt
    refine ⟨_, rfl, _, rfl, bd, _, rfl, DPut.t (k := kE (prL z).2) hBk.hD (rz.2.2.keep (.same (k1.trans k2))) (ldE _ _ l16), _, _, _, _, rfl, Same.put (s.trans (k1.trans k2)) nb2 _, hpt, fun e he => ?_⟩
    rw [sents_take hk]
    by_cases c : e = (prL z).2
    · subst c
      simp only [if_true]
      rw [List.map_append, hbp _ he, List.append_assoc]
      rfl
    · simp only [c, if_false]
      exact hbp e he
  · rintro σ H' ⟨t5, t6, adb, fb, rfl, s, hB, hbp⟩
    have l2 : (zl.map fun z => V.ref z.1).length = L.ls.length := by rw [← hL.el, List.length_map, List.length_map]
    rw [l2, List.take_length] at hbp
    have hbp : ∀ e ∈ evs L, (fb e).map (·.2) = befs L e := hbp
    have hf5 := s _ _ hf1
    have hp5 := s _ _ hp1
    have ez5 := evs_keep ez1 (.same s)
    have s5 := sA.trans s
    have mu0 : True := trivial
    refine while_by (fun σ H' => ∃ (p : Addr) (zs : List (Addr × Ev)) (o : List Ev) (ad : Ev → Addr) (f : Ev → List (Addr × Ev)) (t4 t5 t6 t7 t8 t9 t10 : Option V), σ = [some (.ref a), some (.ref p), some (.ref fo), some (.ref bd), t4, t5, t6, t7, t8, t9, t10] ∧ Same H H' ∧ BQ H' bd (evs L) adb fb ∧ BQ H' fo o ad f ∧
      H' p = some (.lst (zs.map fun z => V.ref z.1)) ∧ (∀ z ∈ zs, EvR H' z) ∧ zs.map (·.2) = (evs L).filter (fun e => decide (e ∉ o)) ∧ o.Nodup ∧ (∀ e ∈ o, e ∈ evs L ∧ ∀ b ∈ befs L e, b ∈ o) ∧ ∀ e ∈ o, ((f e).map (·.2)).Nodup ∧ ∀ x, x ∈ (f e).map (·.2) ↔ Ah L x e)
      (fun σ H' => match σ with | _ :: some (.ref p) :: _ => (match H' p with | some (.lst xs) => xs.length | _ => 0) | _ => 0) ?_ ?_ ?_
    · exact ⟨p0, zs, [], fun _ => 0, fun _ => [], _, _, _, _, _, _, _, rfl, s5, hB, ⟨hf5, (fun _ h => nomatch h), fun _ h => nomatch h⟩, hp5, ez5, by rw [hz0, List.filter_eq_self.mpr (fun b _ => by simp)], List.nodup_nil, (fun _ h => nomatch h), fun _ h => nomatch h⟩
    · clear hp5 ez5 hf5 s5 hB s hz0 lz
      rintro σ H' ⟨p, zs, o, ad, f, t4, t5, t6, t7, t8, t9, t10, rfl, s, hB, hO, hp, ez, el, ndo, clo, hAh⟩
      have lz : zs.length ≤ 16 := by
        rw [← List.length_map (·.2), el]
        exact Nat.le_trans (List.length_filter_le _ _) l16
      have mz : ∀ y, y ∈ zs.map (·.2) ↔ y ∈ evs L ∧ y ∉ o := fun y => by
        rw [el, List.mem_filter, decide_eq_true_iff]
      have iz : ∀ z ∈ zs, z.2 ∈ evs L ∧ z.2 ∉ o := fun z hz => (mz z.2).mp (List.mem_map.mpr ⟨z, hz, rfl⟩)
      have lo : o.length ≤ 16 := Nat.le_trans (len_sub ndo fun e he => (clo e he).1) l16
      refine ⟨_, rfl, (by show 0 ≤ sizeLine; decide), fun pe ne => ?_⟩
      have se := same_new ne (.lst [])
      have shz : SeqAt.shaped (.list (zs.map fun z => evD z.2)) = true := by
        have := evs_shaped (es := zs.map (·.2)) fun e he => okN e ((mz e).mp he).1
        rw [List.map_map] at this
        exact this
      refine ⟨_, _, .lst (se _ _ hp) (evs_rp fun z h => (ez z h).keep (.same se)), .lst upd_same .nil, shz, by decide +kernel, _, rfl, ?_⟩
      by_cases hne : zs = []
      · subst hne
        refine iteF ⟨_, rfl, q fo _ o ad f (s.trans se) nfo0 (hO.same se) (fun e => ⟨fun h => (clo e h).1, fun h => Classical.byContradiction fun c => ?_⟩) hAh⟩
        have := (mz e).mpr ⟨h, c⟩
        cases this
      have eb : (!(PyData.list (zs.map fun z => evD z.2)).eqv (.list [])) = true := by
        cases zs with
        | nil => exact absurd rfl hne
        | cons _ _ => rfl
      rw [eb]
      refine iteT ?_
      have s4 := s.trans se
      have hp4 := se _ _ hp
      have ez4 : ∀ z ∈ zs, EvR (upd H' pe (.lst [])) z := evs_keep ez (.same se)
      have hB4 := hB.same se
      have hO4 := hO.same se
      have lt0 : (match H' p with | some (.lst xs) => xs.length | _ => 0) = zs.length := by
        rw [hp]
        show (zs.map fun z => V.ref z.1).length = _
        rw [List.length_map]
      generalize (upd H' pe (.lst [])) = H4 at s4 hp4 ez4 hB4 hO4 ⊢
      clear se ne hp ez hB hO s
      have lfb : ∀ e ∈ evs L, (fb e).length ≤ 20 := fun e he => by
        rw [← List.length_map (·.2), hbp e he]
        exact befs_len hG e
      -- the first that nothing keeps back
      refine ⟨_, rfl, p, rfl, ⟨_, .inl (.inl hp4)⟩, fun D nD => ?_⟩
      refine lc_filtL hp4 nD (by rw [List.length_map, sizeLine_eq]; omega) (fun v => decide (∀ b ∈ befs L (evOf H4 v), b ∈ o)) id (fun _ => rfl) ?_ ?_ ?_
      · intro x H5 Q' hx k5 kk
        obtain ⟨z, hz, rfl⟩ := List.mem_map.mp hx
        have rz4 := ez4 z hz
        rw [evOf_of rz4] at kk
        have ie := (iz z hz).1
        have hB5 := hB4.same k5
        have hz5 := hB5.hz z.2 ie
        refine ⟨_, rfl, _, rfl, bd, _, rfl, hB5.get (EvR.keep rz4 (.same k5)) ie, _, rfl, ⟨_, .inl (.inl hz5)⟩, fun D2 nD2 => ?_⟩
        refine lc_mapL hz5 nD2 (by rw [List.length_map, sizeLine_eq]; have := lfb z.2 ie; omega) (fun j y H' => ∃ b, (befs L z.2)[j]? = some b ∧ y = V.bl (decide (b ∈ o))) (fun j y H1 H2 s e => e) (fun j y H1 zs o hD e => e) (fun _ => rfl) ?_ ?_
        · intro j y H6 Q'' hy k6 _ kk6
          rw [List.getElem?_map] at hy
          obtain ⟨b, hb, rfl⟩ := Option.map_eq_some_iff.mp hy
          have hbk := gmap_of (hbp z.2 ie) hb
          have rb := (hB5.same k6).he z.2 ie b (List.mem_of_getElem? hb)
          refine ⟨_, rfl, _, rfl, fo, _, rfl, .inr ⟨_, kE b.2, b.1, .inl ((hO4.same k5).same k6).hD, rfl, rb, rfl⟩, ?_⟩
          exact kk6 _ H6 (fun _ _ h => h) ⟨b.2, hbk, by rw [dE_some]⟩
        · intro H6 ys k6 hD2 ly hR
          have ly : ys.length = (befs L z.2).length := by rw [ly, List.length_map, ← hbp z.2 ie, List.length_map]
          have ey : ys = ((befs L z.2).map fun b => decide (b ∈ o)).map V.bl := by
            refine List.ext_getElem? fun j => ?_
            cases c : ys[j]? with
            | some y =>
              obtain ⟨b, h1, h2⟩ := hR j y c
              rw [List.map_map, List.getElem?_map, h1, h2]
              rfl
            | none =>
              have := List.getElem?_eq_none_iff.mp c
              rw [List.getElem?_eq_none (by rw [List.length_map, List.length_map]; omega)]
          rw [ey] at hD2
          refine ⟨D2, _, rfl, hD2, _, rfl, ?_⟩
          have e : (((befs L z.2).map fun b => decide (b ∈ o)).all id) = decide (∀ b ∈ befs L z.2, b ∈ o) := by
            rw [List.all_map, Bool.eq_iff_iff, List.all_eq_true, decide_eq_true_iff]
            exact ⟨fun h b hb => of_decide_eq_true (h b hb), fun h b hb => decide_eq_true (h b hb)⟩
          rw [e]
          exact kk H6 k6
      · intro x H5 Q' hx _ k5 kk
        exact ⟨_, rfl, kk H5 fun _ _ h => h⟩
      intro H5 s5 hD
      rw [List.map_id, filt_refs (fun (e : Ev) => decide (∀ b ∈ befs L e, b ∈ o)) _ fun z hz => by rw [evOf_of (ez4 z hz)]] at hD
      have exr : ∃ z0 rl, (zs.filter fun (z : Addr × Ev) => decide (∀ b ∈ befs L z.2, b ∈ o)) = z0 :: rl := by
        cases c : (zs.filter fun (z : Addr × Ev) => decide (∀ b ∈ befs L z.2, b ∈ o)) with
        | cons z0 rl => exact ⟨z0, rl, rfl⟩
        | nil =>
          exfalso
          obtain ⟨z0, zr, rfl⟩ := List.exists_cons_of_ne_nil hne
          have i0 := iz z0 List.mem_cons_self
          obtain ⟨r, r1, r2⟩ := hG.rnk
          obtain ⟨e, he⟩ := ex_rdy hG (o := o) (r z0.2 + 1) r r1 r2 z0.2 (Nat.lt_succ_self _) i0.1 i0.2
          obtain ⟨y, hy, ey⟩ := List.mem_map.mp ((mz e).mpr ⟨he.1, he.2.1⟩)
          have hq : decide (∀ b ∈ befs L y.2, b ∈ o) = true := decide_eq_true (by rw [ey]; exact he.2.2)
          have := (List.mem_filter (p := fun (z : Addr × Ev) => decide (∀ b ∈ befs L z.2, b ∈ o))).mpr ⟨hy, hq⟩
          rw [c] at this
          cases this
      obtain ⟨z0, rl, hrl⟩ := exr
      rw [hrl] at hD
      have z0f : z0 ∈ zs.filter fun (z : Addr × Ev) => decide (∀ b ∈ befs L z.2, b ∈ o) := by rw [hrl]; exact List.mem_cons_self
      have z0m := (List.mem_filter.mp z0f).1
      have z0b : ∀ b ∈ befs L z0.2, b ∈ o := of_decide_eq_true (List.mem_filter.mp z0f).2
      have i0 := iz z0 z0m
      refine ⟨D, _, 0, _, rfl, rfl, hD, at0, ?_⟩
      have s05 := s4.trans s5
      have hp5 := s5 _ _ hp4
      have ez5 := evs_keep ez4 (.same s5)
      have hB5 := hB4.same s5
      have hO5 := hO4.same s5
      clear hD s4 s5 hp4 ez4 hB4 hO4 nD hrl
      refine ⟨(by show 0 ≤ sizeLine; decide), fun sp1 nsp1 => ?_⟩
      have k1 := same_new nsp1 (.lst [])
      have hB6 := hB5.same k1
      refine ⟨_, rfl, _, rfl, bd, _, rfl, hB6.get ((ez5 z0 z0m).keep (.same k1)) i0.1, _, rfl, ⟨_, .inl (.inl (hB6.hz z0.2 i0.1))⟩, for_list (xs := (fb z0.2).map fun z => V.ref z.1) (fun j σ J => ∃ (sp : Addr) (ss : List (Addr × Ev)) (t8 t10 : Option V), σ = [some (.ref a), some (.ref p), some (.ref fo), some (.ref bd), t4, t5, t6, some (.ref z0.1), t8, some (.ref sp), t10] ∧ Same H5 J ∧
        J sp = some (.lst (ss.map fun z => V.ref z.1)) ∧ (∀ z ∈ ss, EvR J z) ∧ (ss.map (·.2)).Nodup ∧ (∀ x ∈ ss.map (·.2), x ∈ evs L) ∧ ∀ x, x ∈ ss.map (·.2) ↔ ∃ b ∈ (befs L z0.2).take j, x = b ∨ Ah L x b) ?_ ?_ ?_ ?_⟩
      · exact ⟨sp1, [], _, _, rfl, k1, upd_same, (fun _ h => nomatch h), List.nodup_nil, (fun _ h => nomatch h), fun x => ⟨fun h => (nomatch h), fun ⟨b, hb, _⟩ => (nomatch hb)⟩⟩
      · rintro j σ J _ ⟨sp, ss, t8, t10, rfl, sJ, _⟩
        exact .inl (.inl ((hB5.same sJ).hz z0.2 i0.1))
      · rintro j x σ J hx ⟨sp, ss, t8, t10, rfl, sJ, hsp, ess, nds, sub, mem⟩
        rw [List.getElem?_map] at hx
        obtain ⟨b, hbi, rfl⟩ := Option.map_eq_some_iff.mp hx
        have hbk := gmap_of (hbp z0.2 i0.1) hbi
        have rb := (hB5.same sJ).he z0.2 i0.1 b (List.mem_of_getElem? hbi)
        have ib := z0b b.2 (List.mem_of_getElem? hbk)
        have ibe := (clo b.2 ib).1
        have hOJ := hO5.same sJ
        have hAb := hAh b.2 ib
        have lss : ss.length ≤ 16 := by
          rw [← List.length_map (·.2)]
          exact Nat.le_trans (len_sub nds sub) l16
        have lfs : (f b.2).length ≤ 16 := by
          rw [← List.length_map (·.2)]
          exact Nat.le_trans (len_sub hAb.1 fun x hx => Ah.mem hG ((hAb.2 x).mp hx)) l16
        have eqb : (f b.2).map (fun z => V.ref z.1) ++ [V.ref b.1] = (f b.2 ++ [b]).map fun z => V.ref z.1 := by rw [List.map_append]; rfl
        refine ⟨_, rfl, _, rfl, _, rfl, fo, _, rfl, hOJ.get rb ib, _, rfl, (by show 1 ≤ sizeLine; decide), fun l1 n1 => ?_⟩
        have m1 := same_new n1 (.lst [V.ref b.1])
        refine ⟨_, l1, _, _, rfl, rfl, m1 _ _ (hOJ.hz _ ib), upd_same, by rw [List.length_map, sizeLine_eq]; show (f b.2).length + 1 ≤ 16777216; omega, fun l2 n2 => ?_⟩
        rw [eqb]
        have m2 := same_new n2 (.lst ((f b.2 ++ [b]).map fun z => V.ref z.1))
        have eA : ∀ z ∈ f b.2 ++ [b], EvR (upd (upd J l1 (.lst [V.ref b.1])) l2 (.lst ((f b.2 ++ [b]).map fun z => V.ref z.1))) z := fun z hz => by
          rcases List.mem_append.mp hz with c | c
          · exact (hOJ.he _ ib z c).keep (.same (m1.trans m2))
          · rw [List.mem_singleton.mp c]
            exact EvR.keep (H := J) rb (.same (m1.trans m2))
        have hA : (upd (upd J l1 (.lst [V.ref b.1])) l2 (.lst ((f b.2 ++ [b]).map fun z => V.ref z.1))) l2 = some (.lst ((f b.2 ++ [b]).map fun z => V.ref z.1)) := upd_same
        have hsp2 := m2 _ _ (m1 _ _ hsp)
        have ess2 := evs_keep ess (.same (m1.trans m2))
        have sJ2 := sJ.trans (m1.trans m2)
        generalize (upd (upd J l1 (.lst [V.ref b.1])) l2 (.lst ((f b.2 ++ [b]).map fun z => V.ref z.1))) = J2 at eA hA hsp2 ess2 sJ2 ⊢
        refine ⟨l2, rfl, ⟨_, .inl (.inl hA)⟩, fun D2 nD2 => ?_⟩
        have okA : ∀ z ∈ f b.2 ++ [b], PyData.strOk z.2.1 = true := fun z hz => by
          rcases List.mem_append.mp hz with c | c
          · exact okN _ (Ah.mem hG ((hAb.2 z.2).mp (List.mem_map.mpr ⟨z, c, rfl⟩)))
          · rw [List.mem_singleton.mp c]
            exact okN _ ibe
        have shs : SeqAt.shaped (.list (ss.map fun z => evD z.2)) = true := by
          have := evs_shaped (es := ss.map (·.2)) fun e he => okN e (sub e he)
          rw [List.map_map] at this
          exact this
        refine lc_filtL hA nD2 (by rw [List.length_map, List.length_append, sizeLine_eq]; show (f b.2).length + 1 ≤ 16777216; omega) (fun v => decide (evOf J2 v ∉ ss.map (·.2))) id (fun _ => rfl) ?_ ?_ ?_
        · intro y J3 Q' hy k3 kk
          obtain ⟨z, hz, rfl⟩ := List.mem_map.mp hy
          rw [evOf_of (eA z hz)] at kk
          have e1 : (!((ss.map fun z => evD z.2).any fun y => PyData.eqv y (evD z.2))) = decide (z.2 ∉ ss.map (·.2)) := by
            have := any_ev (ss.map (·.2)) z.2
            rw [List.map_map] at this
            have h : ((ss.map fun z => evD z.2).any fun y => PyData.eqv y (evD z.2)) = decide (z.2 ∈ ss.map (·.2)) := this
            rw [h, decide_not]
          refine ⟨_, rfl, _, rfl, evD z.2, _, ev_rp ((eA z hz).keep (.same k3)), .lst (k3 _ _ hsp2) (evs_rp fun y hy => (ess2 y hy).keep (.same k3)), ev_shaped (okA z hz), shs, _, rfl, ?_⟩
          rw [e1]
          exact kk J3 fun _ _ h => h
        · intro y J3 Q' hy _ k3 kk
          exact ⟨_, rfl, kk J3 fun _ _ h => h⟩
        intro J3 s3 hD2
        rw [List.map_id, filt_refs (fun e => decide (e ∉ ss.map (·.2))) _ fun z hz => by rw [evOf_of (eA z hz)]] at hD2
        have lfl := List.length_filter_le (fun z : Addr × Ev => decide (z.2 ∉ ss.map (·.2))) (f b.2 ++ [b])
        rw [List.length_append, List.length_singleton] at lfl
        refine ⟨sp, D2, _, _, rfl, rfl, s3 _ _ hsp2, hD2, by rw [List.length_map, List.length_map, sizeLine_eq]; omega, fun l3 n3 => ?_⟩
        have m3 := same_new n3 (.lst ((ss.map fun z => V.ref z.1) ++ (((f b.2 ++ [b]).filter fun z => decide (z.2 ∉ ss.map (·.2))).map fun z => V.ref z.1)))
        have efm : ((f b.2 ++ [b]).filter fun z => decide (z.2 ∉ ss.map (·.2))).map (·.2) = ((f b.2 ++ [b]).map (·.2)).filter fun e => decide (e ∉ ss.map (·.2)) := by
          rw [List.filter_map]
          rfl
        have ndb : ((f b.2 ++ [b]).map (·.2)).Nodup := by
          rw [List.map_append]
          exact nd_snoc hAb.1 fun c => ah_irr hG ibe ((hAb.2 b.2).mp c)
        have mem2 : ∀ x, x ∈ (ss ++ (f b.2 ++ [b]).filter fun z => decide (z.2 ∉ ss.map (·.2))).map (·.2) ↔ x ∈ ss.map (·.2) ∨ Ah L x b.2 ∨ x = b.2 := fun x => by
          rw [List.map_append, List.mem_append, efm, List.mem_filter, List.map_append, List.mem_append, hAb.2 x, decide_eq_true_iff]
          constructor
          · rintro (h | ⟨h | h, _⟩)
            · exact .inl h
            · exact .inr (.inl h)
            · exact .inr (.inr (List.mem_singleton.mp h))
          · rintro (h | h)
            · exact .inl h
            · by_cases c : x ∈ ss.map (·.2)
              · exact .inl c
              · exact .inr ⟨h.imp id fun z => List.mem_singleton.mpr z, c⟩
        refine ⟨l3, ss ++ (f b.2 ++ [b]).filter fun z => decide (z.2 ∉ ss.map (·.2)), _, _, rfl, sJ2.trans (s3.trans m3), by rw [upd_same, List.map_append], fun z hz => ?_, ?_, fun x hx => ?_, fun x => ?_⟩
        · rcases List.mem_append.mp hz with c | c
          · exact (ess2 z c).keep (.same (s3.trans m3))
          · exact (eA z (List.mem_filter.mp c).1).keep (.same (s3.trans m3))
        · rw [List.map_append, efm]
          refine List.nodup_append.mpr ⟨nds, ndb.sublist List.filter_sublist, fun x hx y hy e => ?_⟩
          subst e
          exact (of_decide_eq_true (List.mem_filter.mp hy).2) hx
        · rcases (mem2 x).mp hx with c | c | c
          · exact sub x c
          · exact Ah.mem hG c
          · rw [c]; exact ibe
        · rw [mem2 x, mem x, tk_snoc hbk]
          constructor
          · rintro (⟨c, hc, h⟩ | h | rfl)
            · exact ⟨c, List.mem_append_left _ hc, h⟩
            · exact ⟨b.2, List.mem_append_right _ (List.mem_singleton.mpr rfl), .inr h⟩
            · exact ⟨b.2, List.mem_append_right _ (List.mem_singleton.mpr rfl), .inl rfl⟩
          · rintro ⟨c, hc, h⟩
            rcases List.mem_append.mp hc with k | k
            · exact .inl ⟨c, k, h⟩
            · rw [List.mem_singleton.mp k] at h
              exact .inr (h.elim (fun z => .inr z) .inl)
      · rintro σ J ⟨sp, ss, t8, t10, rfl, sJ, hsp, ess, nds, sub, mem⟩
        have ll : ((fb z0.2).map fun z => V.ref z.1).length = (befs L z0.2).length := by rw [← hbp z0.2 i0.1, List.length_map, List.length_map]
        rw [ll, List.take_length] at mem
        have hOJ := hO5.same sJ
        have hBJ := hB5.same sJ
        have rz := (ez5 z0 z0m).keep (.same sJ)
        have pt := hOJ.put (e := z0.2) hsp ess
        have ao : addE o z0.2 = o ++ [z0.2] := if_neg i0.2
        rw [ao] at pt
        have bfo : bd ≠ fo := bf
        have hB7 := hBJ.off (o := .dT (putK (dE o fun e => .ref (ad e)) (kE z0.2) (.ref sp))) hOJ.hD bfo
        have s7 := Same.put (s05.trans sJ) nfo0 (.dT (putK (dE o fun e => .ref (ad e)) (kE z0.2) (.ref sp)))
        have k7 := tk_off (o := .dT (putK (dE o fun e => .ref (ad e)) (kE z0.2) (.ref sp))) hOJ.hD (fun _ z => nomatch z)
        have hp7 : (upd J fo (.dT (putK (dE o fun e => .ref (ad e)) (kE z0.2) (.ref sp)))) p = some (.lst (zs.map fun z => V.ref z.1)) := by
          have := sJ _ _ hp5
          rw [upd_ne (ne_of this hOJ.hD (by intro z; cases z))]
          exact this
        have ez7 : ∀ z ∈ zs, EvR (upd J fo (.dT (putK (dE o fun e => .ref (ad e)) (kE z0.2) (.ref sp)))) z := evs_keep (evs_keep ez5 (.same sJ)) k7
        refine ⟨_, rfl, _, rfl, _, rfl, fo, _, rfl, DPut.t (k := kE z0.2) hOJ.hD rz (ldE o _ lo), ?_⟩
        generalize (upd J fo (.dT (putK (dE o fun e => .ref (ad e)) (kE z0.2) (.ref sp)))) = H7 at pt hB7 s7 hp7 ez7 ⊢
        refine ⟨_, rfl, p, rfl, ⟨_, .inl (.inl hp7)⟩, fun D3 nD3 => ?_⟩
        refine lc_filtL hp7 nD3 (by rw [List.length_map, sizeLine_eq]; omega) (fun v => decide (evOf H7 v ≠ z0.2)) id (fun _ => rfl) ?_ ?_ ?_
        · intro x H8 Q' hx k8 kk
          obtain ⟨z, hz, rfl⟩ := List.mem_map.mp hx
          have rz7 := ez7 z hz
          rw [evOf_of rz7] at kk
          refine ⟨_, rfl, _, rfl, evD z.2, evD z0.2, ev_rp (EvR.keep rz7 (.same k8)), ev_rp (EvR.keep (ez7 z0 z0m) (.same k8)), ev_shaped (okN _ (iz z hz).1), ev_shaped (okN _ i0.1), _, rfl, ?_⟩
          rw [eqv_ev, ← decide_not]
          exact kk H8 fun _ _ h => h
        · intro x H8 Q' hx _ k8 kk
          exact ⟨_, rfl, kk H8 fun _ _ h => h⟩
        intro H8 s8 hD3
        rw [List.map_id, filt_refs (fun e => decide (e ≠ z0.2)) _ fun z hz => by rw [evOf_of (ez7 z hz)]] at hD3
        have z0n : (zs.filter fun z => decide (z.2 ≠ z0.2)).length < zs.length := List.length_filter_lt_length_iff_exists.mpr ⟨z0, z0m, by simp⟩
        refine ⟨⟨D3, _, o ++ [z0.2], _, _, _, _, _, _, _, _, _, rfl, s7.trans s8, hB7.same s8, pt.same s8, hD3, fun z hz => (ez7 z (List.mem_filter.mp hz).1).keep (.same s8), ?_, nd_snoc ndo i0.2, fun e he => ?_, fun e he => ?_⟩, ?_⟩
        · have : (zs.filter fun z => decide (z.2 ≠ z0.2)).map (·.2) = (zs.map (·.2)).filter fun e => decide (e ≠ z0.2) := by
            rw [List.filter_map]
            rfl
          rw [this, el, List.filter_filter]
          refine List.filter_congr fun e _ => ?_
          by_cases c1 : e = z0.2 <;> by_cases c2 : e ∈ o <;> simp [c1, c2]
        · rcases List.mem_append.mp he with c | c
          · exact ⟨(clo e c).1, fun b hb => List.mem_append_left _ ((clo e c).2 b hb)⟩
          · rw [List.mem_singleton.mp c]
            exact ⟨i0.1, fun b hb => List.mem_append_left _ (z0b b hb)⟩
        · by_cases c : e = z0.2
          · subst c
            simp only [if_true]
            exact ⟨nds, fun x => by rw [mem x]; exact Ah.step.symm⟩
          · simp only [c, if_false]
            exact hAh e ((List.mem_append.mp he).resolve_right fun k => c (List.mem_singleton.mp k))
        · show (match H8 D3 with | some (.lst xs) => xs.length | _ => 0) < (match H' p with | some (.lst xs) => xs.length | _ => 0)
          rw [lt0, hD3]
          show (((zs.filter fun z => decide (z.2 ≠ z0.2))).map fun z => V.ref z.1).length < _
          rw [List.length_map]
          exact z0n
    · rintro σ H' Q1 Q2 h ⟨v, e, hle, k⟩
      refine ⟨v, e, hle, fun pe ne => ?_⟩
      obtain ⟨d1, d2, h1, h2, h3, h4, h5⟩ := k pe ne
      exact ⟨d1, d2, h1, h2, h3, h4, h5.imp fun b hb => ⟨hb.1, h _ _ hb.2⟩⟩

end L2.K06
namespace L2.K06
open PySem PySem.Spec PyProof.Rows L2.My
open HQ (Ev evD)
variable {P : Program} {w : World} {K : PySem.W.Frag} {mg : Str → Option Value} {base : Heap}
/-- where a list of (number, event) pairs stands -/
abbrev NiR := Addr × Int × (Addr × Ev)
def NiOk (H : Hp) (t : NiR) : Prop := H t.1 = some (.tup [.int t.2.1, .ref t.2.2.1]) ∧ EvR H t.2.2
theorem NiOk.keep {H H' : Hp} {t : NiR} (h : NiOk H t) (k : My.TK H H') : NiOk H' t := ⟨k _ _ h.1, h.2.keep k⟩
def spCounters : Sp := fun vs H Q _ => ∃ (b od sm : Addr) (n c : Int) (L : Lg) (o : List Ev) (ad : Ev → Addr) (f : Ev → List (Addr × Ev)) (zs : List (Addr × Ev)), vs = [.ref b, .ref od, .ref sm, .int n] ∧ Bx H b c ∧ c < 900000000000 ∧ My.Good L ∧ BQ H od o ad f ∧ (∀ e, e ∈ o ↔ e ∈ evs L) ∧
  (∀ e ∈ o, ∀ x, x ∈ (f e).map (·.2) ↔ Ah L x e) ∧ (∀ e ∈ o, (f e).length ≤ 1000) ∧ H sm = some (.lst (zs.map fun z => V.ref z.1)) ∧ (∀ z ∈ zs, EvR H z) ∧ zs.map (·.2) = mkd L ∧ 0 ≤ n ∧ n ≤ 12 ∧
  ∀ (p : Addr) (H' : Hp) (rws : List RowZ), RowsTup H' p rws → RowsOk L (rwsEv rws) → (rws.length : Int) = n → Bx H' b (c + 40) → But b H H' → Q (.ref p) H'
theorem ok__law_counters (T : Tx K mg) : FnOk P w K mg base CX0 3 T.a_law_counters T.d_law_counters P__law_counters spCounters := by
  have G__law_take := ok__law_take (P := P) (w := w) (base := base) T
  have G__law_of := ok__law_of (P := P) (w := w) (base := base) T
  refine T.f_law_counters.ok sc__law_counters (fun vs H Q E h => ?_) (fun cdv A outer s H vs Q E hr h => ?_)
  · obtain ⟨b, od, sm, n, c, L, o, ad, f, zs, rfl, _⟩ := h
    rfl
  obtain ⟨b, od, sm, n, c, L, o, ad, f, zs, rfl, hB, hc, hG, hO, ho, hAh, hfl, hsm, hzs, ez, n0, n12, q⟩ := h
  have hu := hu_of hr
  refine ⟨_, (pss_cons (ps_asg (pe_tup (pa_cons (pe_lc (own := [("_law_turn", 6)]) (g := (gName 6)) rfl sc__law_counters.nd (pi_range1 (by rfl) T.range (pa_cons (pv 3) pa_nil)) (blkOk_by (own := [("_law_turn", 6)]) (N := N__law_counters) (sc := defScope s__law_counters) (by decide +kernel)) (fun _ _ _ _ _ => (pg_name (i := 6) sc__law_counters.nd rfl (Or.inl rfl))) (fun _ _ _ _ _ => pts_nil) (fun _ _ _ _ _ => (pe_tup pa_nil))) (pa_cons (pe_callB (sortH hr.units) (by rfl) T.sorted (by decide +kernel) (pa_cons (pe_lc (own := [("_law_own", 7)]) (g := (gName 7)) rfl sc__law_counters.nd (pi_listK (K := K) rfl (pv 2)) (blkOk_by (own := [("_law_own", 7)]) (N := N__law_counters) (sc := defScope s__law_counters) (by decide +kernel)) (fun _ _ _ _ _ => (pg_name (i := 7) sc__law_counters.nd rfl (Or.inl rfl))) (fun _ _ _ _ _ => pts_nil) (fun _ _ _ _ _ => (pe_tup (pa_cons (pe_callB lenH (by rfl) T.len (by decide +kernel) (pa_cons (pe_dget hu (pv 1) (pv 7) (fun _ _ => rfl)) pa_nil)) (pa_cons (pv 7) pa_nil))))) pa_nil)) pa_nil))) (pg_tup (by rfl) (pgs_cons (pg_name (i := 4) sc__law_counters.nd rfl (Or.inr rfl)) (pgs_cons (pg_name (i := 5) sc__law_counters.nd rfl (Or.inl rfl)) pgs_nil))))
  (pss_cons (ps_for PassesOwn.never rfl (pi_listK (K := K) rfl (pv 5)) (pg_tup (by rfl) (pgs_cons (pg_name (i := 8) sc__law_counters.nd rfl (Or.inl rfl)) (pgs_cons (pg_name (i := 9) sc__law_counters.nd rfl (Or.inr rfl)) pgs_nil)))
    (pss_cons (ps_setLc (i := 10) (own := [("_law_k", 11)]) (g := (gName 11)) rfl sc__law_counters.nd rfl rfl (sw_true rfl rfl rfl (by decide +kernel)) (pi_range1 (by rfl) T.range (pa_cons (pv 3) pa_nil)) (blkOk_by (own := [("_law_k", 11)]) (N := N__law_counters) (sc := defScope s__law_counters) (by decide +kernel)) (fun _ _ _ _ _ => (pg_name (i := 11) sc__law_counters.nd rfl (Or.inl rfl))) (fun _ _ _ _ _ => (pts_one (PW.pt (pw_or (pt_cmpR (eqH hr.units) (pe_ix ixL (pv 4) (pv 11) (fun _ _ => rfl)) (pe_tup pa_nil) (nomark _)) (pw_or1 (pt_cmpR (inH (un65p hr)) (pe_ix ixT (pe_ix ixL (pv 4) (pv 11) (fun _ _ => rfl)) (pe_un un_neg pe_int) (fun _ _ => rfl)) (pe_dget hu (pv 1) (pv 9) (fun _ _ => rfl)) (by with_unfolding_all rfl))))))) (fun _ _ _ _ _ => (pv 11)))
      (pss_one (ps_if (PW.pt (pw_and (pt_cmpR (neH hr.units) (pv 10) (pe_lst pa_nil) (nomark _)) (pw_and1 (pt_cmpR op_gt (pe_call G__law_take (hr.mono (by decide)) (by rfl) T.m_law_take T.f_law_take.kp T.b_law_take .nil pass0 (pa_cons (pv 0) (pa_cons pe_int pa_nil))) pe_int (nomark _)))))
        (pss_cons (ps_set (i := 11) sc__law_counters.nd rfl (Or.inl rfl) (pe_call G__law_of (hr.mono (by decide)) (by rfl) T.m_law_of T.f_law_of.kp T.b_law_of .nil pass0 (pa_cons (pv 0) (pa_cons (pv 10) pa_nil))))
          (pss_one (ps_asg (pe_op op_catA (pe_ix ixL (pv 4) (pv 11) (fun _ _ => rfl)) (pe_tup (pa_cons (pv 9) pa_nil))) (pg_sub (pv 4) (pv 11) set_list))))
        pss_nil))))
  (pss_one (ps_ret (pe_callTy tupH (by rfl) T.tuple (by decide +kernel) (pa_cons (pv 4) pa_nil)))))), ?_⟩
  have io : ∀ {e : Ev}, e ∈ mkd L → e ∈ o := fun {e} h => (ho e).mpr (mkd_sub hG h)
  have okN : ∀ e ∈ evs L, PyData.strOk e.1 = true := fun e he => by
    obtain ⟨k, mk, hmm, _⟩ := mem_evs.mp (show (e.1, e.2) ∈ evs L from he)
    exact hG.txt _ hmm
  have lz : zs.length ≤ 16 := by rw [← List.length_map (·.2), ez]; exact mkd_len hG
  obtain ⟨xb, hxb⟩ := hB.lst
  have ln : ((upto n.toNat).map V.int).length = n.toNat := by rw [List.length_map, upto_len]
  have wJ := wk_rng (H := H) (n := n.toNat)
  refine ⟨_, rfl, n, rfl, by omega, by omega, fun D nD => ?_⟩
  refine lc_map (J := Itr 0 n.toNat) (xs := (upto n.toNat).map V.int) nD (fun j H' s h => (wJ H' s).1 j h) (fun H' s => (wJ H' s).2.1) (fun j x H1 H2 s y => (wJ H1 s).2.2 j x H2 y) (by rw [ln, sizeLine_eq]; omega)
    (fun j y H' => ∃ a, y = V.ref a ∧ H' a = some (.tup [])) (fun j y H1 H2 s ⟨a, e, h⟩ => ⟨a, e, s _ _ h⟩) (fun j y H1 ws o hD ⟨a, e, h⟩ => ⟨a, e, tk_upd hD o _ _ h⟩) (fun _ => rfl) ?_ ?_
  · intro j x H1 Q' _ _ _ k
    exact ⟨(by show 0 ≤ sizeLine; decide), fun p np => k _ _ (same_new np _) ⟨p, rfl, upd_same⟩⟩
  intro H1 ys s1 hD1 ly hR
  obtain ⟨as, rfl, has⟩ := pick (g := fun a => V.ref a) hR
  rw [List.length_map, ln] at ly
  have hsm1 := s1 _ _ hsm
  have Db : D ≠ b := fun e => by rw [e, hxb] at nD; cases nD
  refine ⟨_, rfl, sm, rfl, ⟨_, .inl (.inl hsm1)⟩, fun D2 nD2 => ?_⟩
  refine lc_mapL hsm1 nD2 (by rw [List.length_map, sizeLine_eq]; omega) (fun j y H' => ∃ t : NiR, y = V.ref t.1 ∧ zs[j]? = some t.2.2 ∧ NiOk H' t) (fun j y Ha Hb s ⟨t, e, h1, h2⟩ => ⟨t, e, h1, h2.keep (.same s)⟩) (fun j y Ha ws u hD ⟨t, e, h1, h2⟩ => ⟨t, e, h1, h2.keep (tk_upd hD u)⟩) (fun _ => rfl) ?_ ?_
  · intro j x H2 Q' hx s2 _ k
    rw [List.getElem?_map] at hx
    obtain ⟨z, hzi, rfl⟩ := Option.map_eq_some_iff.mp hx
    have im : z.2 ∈ mkd L := by rw [← ez]; exact List.mem_map.mpr ⟨z, List.mem_of_getElem? hzi, rfl⟩
    have s02 := s1.trans s2
    have rz := EvR.keep (hzs z (List.mem_of_getElem? hzi)) (.same s02)
    refine ⟨_, rfl, _, rfl, od, _, rfl, (hO.same s02).get rz (io im), _, _, rfl, .inl ((hO.same s02).hz _ (io im)), _, rfl, (by show 2 ≤ sizeLine; decide), fun p np => ?_⟩
    exact k _ _ (same_new np _) ⟨(p, _, z), rfl, hzi, upd_same, EvR.keep rz (.same (same_new np _))⟩
  intro H2 ys2 s2 hD2 ly2 hR2
  obtain ⟨ts, rfl, hts⟩ := pick (P := fun j (t : NiR) => zs[j]? = some t.2.2 ∧ NiOk H2 t) (g := fun t : NiR => V.ref t.1) fun j y hy => by
    obtain ⟨t, e, h1, h2⟩ := hR2 j y hy
    exact ⟨t, e, h1, h2⟩
  rw [List.length_map, List.length_map] at ly2
  have et : ts.map (fun t => t.2.2) = zs := by
    refine List.ext_getElem? fun j => ?_
    rw [List.getElem?_map]
    cases e : ts[j]? with
    | some t => rw [(hts j t e).1]; rfl
    | none => rw [List.getElem?_eq_none (by have := List.getElem?_eq_none_iff.mp e; omega)]; rfl
  have okT : ∀ t ∈ ts, NiOk H2 t := fun t ht => by
    obtain ⟨j, hj⟩ := List.getElem?_of_mem ht
    exact (hts j t hj).2
  refine ⟨D2, ts.map (fun t => (V.ref t.1, niD (t.2.1, t.2.2.2))), rfl, by rw [List.map_map]; exact hD2, ?_, ?_, ?_, by rw [List.length_map, ly2, sizeLine_eq]; omega, ?_, fun zs' pL pm _ npL => ?_⟩
  · intro z h
    obtain ⟨t, ht, rfl⟩ := List.mem_map.mp h
    obtain ⟨a1, a2⟩ := okT t ht
    exact .tup a1 (.cons (.int _) (.cons (ev_rp a2) .nil))
  · have := nis_alike (ts.map fun t => (t.2.1, t.2.2.2))
    rw [List.map_map] at this ⊢
    exact this
  · have := nis_sortable (ts.map fun t => (t.2.1, t.2.2.2))
    rw [List.map_map] at this ⊢
    exact this
  · intro z h
    obtain ⟨t, ht, rfl⟩ := List.mem_map.mp h
    exact niD_depth _
  obtain ⟨us, rfl, pz⟩ := perm_inv pm rfl
  have eu : (us.map (fun t => (V.ref t.1, niD (t.2.1, t.2.2.2)))).map (·.1) = us.map fun t => V.ref t.1 := by rw [List.map_map]; rfl
  rw [eu]
  refine ⟨(by show 2 ≤ sizeLine; decide), fun tp ntp => ⟨tp, _, rfl, .inl (.inl upd_same), rfl, _, _, rfl, _, _, rfl, rfl, ?_⟩⟩
  have k1 := same_new npL (.lst (us.map fun t => V.ref t.1))
  have k2 := same_new ntp (.tup [V.ref D, V.ref pL])
  have kA := s1.trans (s2.trans (k1.trans k2))
  have hDA := k2 _ _ (k1 _ _ (s2 _ _ hD1))
  have hLA := k2 _ _ (upd_same (H := H2) (a := pL) (o := .lst (us.map fun t => V.ref t.1)))
  have pLb : pL ≠ b := fun e => by rw [e, s2 _ _ (s1 _ _ hxb)] at npL; cases npL
  have pLD : pL ≠ D := fun e => by rw [e, s2 _ _ hD1] at npL; cases npL
  have okA : ∀ t ∈ us, NiOk (upd (upd H2 pL (.lst (us.map fun t => V.ref t.1))) tp (.tup [V.ref D, V.ref pL])) t := fun t ht => (okT t (pz.mem_iff.mp ht)).keep (.same (k1.trans k2))
  have h0A : ∀ a ∈ as, (upd (upd H2 pL (.lst (us.map fun t => V.ref t.1))) tp (.tup [V.ref D, V.ref pL])) a = some (.tup []) := fun a ha => by
    obtain ⟨j, hj⟩ := List.getElem?_of_mem ha
    exact k2 _ _ (k1 _ _ (s2 _ _ (has j a hj)))
  have hBA := hB.same kA
  have hOA := hO.same kA
  generalize (upd (upd H2 pL (.lst (us.map fun t => V.ref t.1))) tp (.tup [V.ref D, V.ref pL])) = HA at kA hDA hLA okA h0A hBA hOA ⊢
  clear k1 k2 npL ntp hD2 hD1 okT hts hR2 hR
  have eun : us.map (fun t => t.2.2.2) = us.map (fun t => t.2.2.2) := rfl
  have undp : (us.map (fun t => t.2.2.2)).Perm (mkd L) := by
    have := (pz.map (fun t : NiR => t.2.2.2))
    rw [← ez, ← et, List.map_map]
    exact this
  have und : (us.map (fun t => t.2.2.2)).Nodup := (undp.nodup_iff).mpr (mkd_nodup hG)
  have lu : us.length ≤ 16 := by rw [pz.length_eq, ly2]; exact lz
  have tkO : ∀ H', (∀ a u, a ≠ b → a ≠ D → HA a = some u → H' a = some u) → My.TK HA H' := fun H' old a xs e => by
    obtain ⟨xa, hxa⟩ := hBA.lst
    exact old a _ (fun z => by rw [z, hxa] at e; cases e) (fun z => by rw [z, hDA] at e; cases e) e
  have oldO : ∀ H', (∀ a u, a ≠ b → a ≠ D → HA a = some u → H' a = some u) → BQ H' od o ad f := fun H' old => by
    obtain ⟨bx, bs, bk, hb3, _⟩ := id hBA
    refine ⟨old _ _ (ne_of hOA.hD hb3 (by intro z; cases z)) (ne_of_none hO.hD nD) hOA.hD, fun e he => old _ _ (fun z => ?_) (ne_of_none (hO.hz e he) nD) (hOA.hz e he), fun e he y hy => (hOA.he e he y hy).keep (tkO H' old)⟩
    have g := hOA.hz e he
    rw [z, hb3] at g
    cases fe : f e with
    | nil => rw [fe] at g; simp at g
    | cons y ys => rw [fe] at g; simp at g
  refine ⟨_, rfl, pL, rfl, ⟨_, .inl (.inl hLA)⟩, for_list (xs := us.map fun t => V.ref t.1) (fun i σ H' => ∃ (rws : List RowZ) (t6 t7 t8 t9 t10 t11 : Option V), σ = [some (.ref b), some (.ref od), some (.ref sm), some (.int n), some (.ref D), some (.ref pL), t6, t7, t8, t9, t10, t11] ∧
    RowsL H' D rws ∧ RowsOk L (rwsEv rws) ∧ rws.length = n.toNat ∧ (∀ e ∈ (rwsEv rws).flatten, e ∈ (us.map (fun t => t.2.2.2)).take i) ∧ Bx H' b (c + 2 * i) ∧ ∀ a u, a ≠ b → a ≠ D → HA a = some u → H' a = some u) ?_ ?_ ?_ ?_⟩
  · refine ⟨as.map fun a => (a, []), _, _, _, _, _, _, rfl, ⟨by rw [List.map_map]; exact hDA, fun r hr => ?_, fun r hr z hz => ?_⟩, ?_, by rw [List.length_map]; exact ly, fun e he => ?_, hBA.le (by omega), fun _ _ _ _ h => h⟩
    · obtain ⟨a, ha, rfl⟩ := List.mem_map.mp hr
      exact h0A a ha
    · obtain ⟨a, ha, rfl⟩ := List.mem_map.mp hr
      cases hz
    · have e0 : (rwsEv (as.map fun a => ((a, []) : RowZ))).flatten = [] := by
        unfold rwsEv
        rw [List.map_map, List.flatten_eq_nil_iff]
        intro l hl
        obtain ⟨a, _, rfl⟩ := List.mem_map.mp hl
        rfl
      refine ⟨fun r hr => ?_, by rw [e0]; exact List.nodup_nil, fun e he => by rw [e0] at he; cases he⟩
      unfold rwsEv at hr
      rw [List.map_map] at hr
      obtain ⟨a, _, rfl⟩ := List.mem_map.mp hr
      exact List.Pairwise.nil
    · unfold rwsEv at he
      rw [List.map_map] at he
      obtain ⟨l, hl, he⟩ := List.mem_flatten.mp he
      obtain ⟨a, _, rfl⟩ := List.mem_map.mp hl
      cases he
  · rintro i σ H' _ ⟨rws, t6, t7, t8, t9, t10, t11, rfl, _, _, _, _, _, old⟩
    exact .inl (.inl (old _ _ pLb pLD hLA))
  · rintro i x σ H3 hx ⟨rws, t6, t7, t8, t9, t10, t11, rfl, hRw, okR, lR, inR, hB3, old⟩
    rw [List.getElem?_map] at hx
    obtain ⟨t, hti, rfl⟩ := Option.map_eq_some_iff.mp hx
    have ut : (us.map (fun t => t.2.2.2))[i]? = some t.2.2.2 := by rw [List.getElem?_map, hti]; rfl
    have li : i < us.length := (List.getElem?_eq_some_iff.mp hti).1
    obtain ⟨ht1, ht2⟩ := (okA t (List.mem_of_getElem? hti)).keep (tkO H3 old)
    have im : t.2.2.2 ∈ mkd L := undp.mem_iff.mp (List.mem_of_getElem? ut)
    have hO3 := oldO H3 old
    obtain ⟨x3, hx3⟩ := hB3.lst
    refine ⟨t.1, _, rfl, .inl (.inl ht1), rfl, _, _, rfl, _, _, rfl, rfl, ?_⟩
    refine ⟨_, rfl, n, rfl, by omega, by omega, fun D3 nD3 => ?_⟩
    have wJ3 := wk_rng (H := H3) (n := n.toNat)
    refine lc_filt (J := Itr 0 n.toNat) (xs := (upto n.toNat).map V.int) nD3 (fun j H' s h => (wJ3 H' s).1 j h) (fun H' s => (wJ3 H' s).2.1) (fun j x H1 H2 s y => (wJ3 H1 s).2.2 j x H2 y) (by rw [ln, sizeLine_eq]; omega) (joins rws ((f t.2.2.2).map (·.2))) id (fun _ => rfl) ?_ ?_ ?_
    · intro x H4 Q' hx s4 kk
      obtain ⟨j, lj, rfl⟩ : ∃ j : Nat, j < n.toNat ∧ x = V.int (j : Int) := by
        obtain ⟨y, hy, rfl⟩ := List.mem_map.mp hx
        unfold upto at hy
        obtain ⟨j, hj, rfl⟩ := List.mem_map.mp hy
        exact ⟨j, List.mem_range.mp hj, rfl⟩
      have hj : rws[j]? = some (rws[j]'(by omega)) := List.getElem?_eq_getElem _
      generalize rws[j]'(by omega) = r at hj
      have hR4 := hRw.same s4
      have rin := List.mem_of_getElem? hj
      have hr4 := hR4.hr r rin
      have at4 : atI (rws.map fun r => V.ref r.1) (j : Int) = some (V.ref r.1) := atI_nat (by rw [List.getElem?_map, hj]; rfl)
      have rp4 : Rp H4 (.ref r.1) (.tuple (r.2.map fun z => evD z.2)) := .tup hr4 (evs_rp fun z hz => hR4.he r rin z hz)
      have shr : SeqAt.shaped (.tuple (r.2.map fun z => evD z.2)) = true := by
        have := evs_shaped (es := r.2.map (·.2)) fun e he => by
          refine okN e (mkd_sub hG (okR.mem e (List.mem_flatten.mpr ⟨_, List.mem_of_getElem? (row_at hj), he⟩)))
        rw [List.map_map] at this
        exact this
      have ej : joins rws ((f t.2.2.2).map (·.2)) (V.int (j : Int)) = match r.2.getLast? with | some y => decide (y.2 ∈ (f t.2.2.2).map (·.2)) | none => true := by
        unfold joins
        simp only [Int.toNat_natCast, hj]
        try (cases r.2.getLast? <;> rfl)
      rw [ej] at kk
      refine ⟨_, rfl, _, rfl, D, _, (j : Int), V.ref r.1, rfl, rfl, hR4.hp, at4, (by show 0 ≤ sizeLine; decide), fun p np => ?_⟩
      have sp := same_new np (.tup [])
      refine ⟨_, .tuple [], rp4.same sp, .tup upd_same .nil, shr, (by decide +kernel), _, rfl, ?_⟩
      rw [eqv_nilT]
      rcases List.eq_nil_or_concat r.2 with e0 | ⟨l, y, e0⟩
      · rw [e0] at kk ⊢
        exact iteT (kk _ sp)
      · rw [List.concat_eq_append] at e0
        have lt : r.2.getLast? = some y := by rw [e0]; simp
        rw [lt] at kk
        have ne : (r.2.map fun z => evD z.2).isEmpty = false := by rw [e0]; simp
        rw [ne]
        have hR5 := hR4.same sp
        have hO5 := (hO3.same s4).same sp
        have hr5 : (upd H4 p (.tup [])) r.1 = some (.tup ((l.map fun z => V.ref z.1) ++ [V.ref y.1])) := by
          have := hR5.hr r rin
          rw [e0, List.map_append] at this
          exact this
        have ry := hR5.he r rin y (by rw [e0]; simp)
        have ht5 := (ht2.keep (.same s4)).keep (.same sp)
        have oky : PyData.strOk y.2.1 = true := okN _ (mkd_sub hG (okR.mem y.2 (List.mem_flatten.mpr ⟨_, List.mem_of_getElem? (row_at hj), List.mem_map.mpr ⟨y, by rw [e0]; exact List.mem_append_right _ List.mem_cons_self, rfl⟩⟩)))
        have shf : SeqAt.shaped (.list (((f t.2.2.2).map (·.2)).map evD)) = true := evs_shaped fun e he => okN e (Ah.mem hG ((hAh _ (io im) e).mp he))
        refine iteF ⟨_, rfl, _, rfl, D, _, (j : Int), V.ref r.1, rfl, rfl, hR5.hp, at4, 1, rfl, r.1, _, -1, V.ref y.1, rfl, rfl, hr5, (L2.atI_last _ _), _, rfl, _, rfl, od, _, rfl, hO5.get ht5 (io im), ?_⟩
        refine ⟨evD y.2, ((f t.2.2.2).map (·.2)).map evD, ev_rp ry, ?_, ev_shaped oky, shf, _, rfl, ?_⟩
        · rw [List.map_map]
          exact .lst (hO5.hz _ (io im)) (evs_rp (hO5.he _ (io im)))
        · rw [any_ev]
          exact kk _ sp
    · intro x H4 Q' hx _ s4 kk
      exact ⟨_, rfl, kk H4 fun _ _ h => h⟩
    intro H4 s4 hD4
    rw [List.map_id] at hD4
    have hR4 := hRw.same s4
    have hO4 := hO3.same s4
    have ht4 := ht2.keep (.same s4)
    have hB4 := hB3.same s4
    have D3b : D3 ≠ b := fun e => by rw [e, hx3] at nD3; cases nD3
    have D3D : D3 ≠ D := fun e => by rw [e, hRw.hp] at nD3; cases nD3
    have ep : ∀ v ∈ ((upto n.toNat).map V.int).filter (joins rws ((f t.2.2.2).map (·.2))), ∃ (j : Nat) (r : RowZ), v = V.int (j : Int) ∧ rws[j]? = some r ∧ ∀ y ∈ r.2, Ah L y.2 t.2.2.2 := by
      intro v hv
      obtain ⟨hv1, hv2⟩ := List.mem_filter.mp hv
      obtain ⟨y, hy, rfl⟩ := List.mem_map.mp hv1
      unfold upto at hy
      obtain ⟨j, hj, rfl⟩ := List.mem_map.mp hy
      have lj := List.mem_range.mp hj
      have hj : rws[j]? = some (rws[j]'(by omega)) := List.getElem?_eq_getElem _
      generalize rws[j]'(by omega) = r at hj
      refine ⟨j, r, rfl, hj, fun y hy => ?_⟩
      unfold joins at hv2
      simp only [Int.toNat_natCast, hj] at hv2
      cases e : r.2.getLast? with
      | none => rw [List.getLast?_eq_none_iff.mp e] at hy; cases hy
      | some u =>
        rw [e] at hv2
        have ch := okR.ch _ (List.mem_of_getElem? (row_at hj))
        refine chain_last ch (y := u.2) (by rw [List.getLast?_map, e]; rfl) ((hAh _ (io im) _).mp (of_decide_eq_true hv2)) y.2 (List.mem_map.mpr ⟨y, hy, rfl⟩)
    have eints : ∃ ks : List Int, ((upto n.toNat).map V.int).filter (joins rws ((f t.2.2.2).map (·.2))) = ks.map V.int ∧ ks.length ≤ 12 := by
      refine ⟨(upto n.toNat).filter (fun k => joins rws ((f t.2.2.2).map (·.2)) (.int k)), by rw [List.filter_map]; rfl, Nat.le_trans (List.length_filter_le _ _) (by rw [upto_len]; omega)⟩
    obtain ⟨ks, eks, lks⟩ := eints
    rw [eks] at ep hD4
    -- nothing put
    have stay : ∀ (H5 : Hp) (t10' t11' t6' t7' : Option V), (∀ a u, a ≠ b → H4 a = some u → H5 a = some u) → Bx H5 b (c + 2 * ((i + 1 : Nat) : Int)) →
        ∃ (rws : List RowZ) (u6 u7 u8 u9 u10 u11 : Option V), [some (.ref b), some (.ref od), some (.ref sm), some (.int n), some (.ref D), some (.ref pL), t6', t7', some (.int t.2.1), some (.ref t.2.2.1), t10', t11'] = [some (.ref b), some (.ref od), some (.ref sm), some (.int n), some (.ref D), some (.ref pL), u6, u7, u8, u9, u10, u11] ∧
          RowsL H5 D rws ∧ RowsOk L (rwsEv rws) ∧ rws.length = n.toNat ∧ (∀ e ∈ (rwsEv rws).flatten, e ∈ (us.map (fun t => t.2.2.2)).take (i + 1)) ∧ Bx H5 b (c + 2 * ((i + 1 : Nat) : Int)) ∧ ∀ a u, a ≠ b → a ≠ D → HA a = some u → H5 a = some u := by
      intro H5 t10' t11' t6' t7' k5 hB5
      have tk5 : My.TK H4 H5 := fun a xs e => k5 a _ (fun z => by obtain ⟨x4, hx4⟩ := hB4.lst; rw [z, hx4] at e; cases e) e
      refine ⟨rws, _, _, _, _, _, _, rfl, ⟨k5 _ _ Db hR4.hp, fun r hr => tk5 _ _ (hR4.hr r hr), fun r hr z hz => (hR4.he r hr z hz).keep tk5⟩, okR, lR, fun e he => ?_, hB5, fun a u ab aD e => k5 _ _ ab (s4 _ _ (old a u ab aD e))⟩
      rw [tk_snoc ut]
      exact List.mem_append_left _ (inR e he)
    refine ⟨_, rfl, (by show 0 ≤ sizeLine; decide), fun p np => ?_⟩
    have sp := same_new np (.lst [])
    refine ⟨.list (ks.map PyData.int), .list [], .lst (sp _ _ hD4) (ints_rp ks), .lst upd_same .nil, ints_shaped ks, (by decide +kernel), _, rfl, ?_⟩
    rw [eqv_nilL]
    cases ks with
    | nil => exact iteF (stay _ _ _ _ _ (fun a u _ e => sp _ _ e) ((hB4.same sp).le (by omega)))
    | cons k0 ks =>
      refine iteT ⟨_, rfl, b, 5, _, rfl, hB4.same sp, by omega, by decide, by decide, fun r5 H5 r0 r1 hB5 k5 => ⟨r5, 0, rfl, rfl, _, rfl, ?_⟩⟩
      by_cases c5 : r5 > 0
      · rw [decide_eq_true c5]
        have hfine := k5 _ _ D3b (sp _ _ hD4)
        refine iteT ⟨_, rfl, _, rfl, b, D3, _, _, rfl, hB5, by omega, hfine, D3b, by simp, by rw [List.length_map]; omega, fun v H6 vin hB6 k6 => ?_⟩
        obtain ⟨j, r, rfl, hj, up⟩ := ep v vin
        have k46 : ∀ a u, a ≠ b → H4 a = some u → H6 a = some u := fun a u ab e => k6 _ _ ab (k5 _ _ ab (sp _ _ e))
        have tk46 : My.TK H4 H6 := fun a xs e => k46 a _ (fun z => by obtain ⟨x4, hx4⟩ := hB4.lst; rw [z, hx4] at e; cases e) e
        have hD6 := k46 _ _ Db hR4.hp
        have rin := List.mem_of_getElem? hj
        have hr6 := tk46 _ _ (hR4.hr r rin)
        have lj := (List.getElem?_eq_some_iff.mp hj).1
        have at6 : atI (rws.map fun r => V.ref r.1) (j : Int) = some (V.ref r.1) := atI_nat (by rw [List.getElem?_map, hj]; rfl)
        have lr : r.2.length ≤ 16 := by
          have h1 : (rwsEv rws).flatten.length ≤ 16 := Nat.le_trans (len_sub okR.nd fun e he => okR.mem e he) (mkd_len hG)
          have h2 : (r.2.map (·.2)).length ≤ (rwsEv rws).flatten.length := by
            have := List.sublist_flatten_of_mem (List.mem_of_getElem? (row_at hj))
            exact this.length_le
          rw [List.length_map] at h2
          omega
        have fin : ∀ (pa : Addr) (H7 : Hp), Same H6 H7 → H7 pa = some (.tup ((r.2 ++ [t.2.2]).map fun z => V.ref z.1)) →
            gSub (tVar 4) (tVar 11) rSetL (.ref pa) [some (.ref b), some (.ref od), some (.ref sm), some (.int n), some (.ref D), some (.ref pL), t6, t7, some (.int t.2.1), some (.ref t.2.2.1), some (.ref D3), some (.int (j : Int))] H7 fun σ' H' => ∃ (rws : List RowZ) (u6 u7 u8 u9 u10 u11 : Option V), σ' = [some (.ref b), some (.ref od), some (.ref sm), some (.int n), some (.ref D), some (.ref pL), u6, u7, u8, u9, u10, u11] ∧
            RowsL H' D rws ∧ RowsOk L (rwsEv rws) ∧ rws.length = n.toNat ∧ (∀ e ∈ (rwsEv rws).flatten, e ∈ (us.map (fun t => t.2.2.2)).take (i + 1)) ∧ Bx H' b (c + 2 * ((i + 1 : Nat) : Int)) ∧ ∀ a u, a ≠ b → a ≠ D → HA a = some u → H' a = some u := by
          intro pa H7 s7 hpa
          have hD7 := s7 _ _ hD6
          refine ⟨_, rfl, _, rfl, D, _, (j : Int), j, rfl, rfl, hD7, ?_, ?_⟩
          · unfold ixN
            rw [if_pos (by omega), if_pos (by rw [List.length_map]; omega)]
            simp
          have kD := tk_upd hD7 (.lst ((rws.map fun r => V.ref r.1).set j (.ref pa)))
          have tk47 : My.TK H4 (upd H7 D (.lst ((rws.map fun r => V.ref r.1).set j (.ref pa)))) := fun a xs e => kD _ _ (s7 _ _ (tk46 _ _ e))
          have ev47 : ∀ r' ∈ rws, ∀ z ∈ r'.2, EvR (upd H7 D (.lst ((rws.map fun r => V.ref r.1).set j (.ref pa)))) z := fun r' hr' z hz => (hR4.he r' hr' z hz).keep tk47
          have nin : t.2.2.2 ∉ (rwsEv rws).flatten := fun h => nin_take und ut (inR _ h)
          have more := okR.more (row_at hj) im nin fun x hx => by
            obtain ⟨y, hy, rfl⟩ := List.mem_map.mp hx
            exact up y hy
          refine ⟨rws.set j (pa, r.2 ++ [t.2.2]), _, _, _, _, _, _, rfl, ⟨?_, fun r' hr' => ?_, fun r' hr' z hz => ?_⟩, by rw [rws_set]; exact more, by rw [List.length_set]; exact lR, fun e he => ?_, ?_, fun a u ab aD e => ?_⟩
          · rw [upd_same, List.map_set]
          · rcases List.mem_or_eq_of_mem_set hr' with z | z
            · exact tk47 _ _ (hR4.hr r' z)
            · rw [z]
              exact kD _ _ hpa
          · rcases List.mem_or_eq_of_mem_set hr' with q | q
            · exact ev47 r' q z hz
            · rw [q] at hz
              rcases List.mem_append.mp hz with y | y
              · exact ev47 r rin z y
              · rw [List.mem_singleton.mp y]
                exact EvR.keep ht4 tk47
          · rw [rws_set] at he
            rw [tk_snoc ut]
            rcases List.mem_cons.mp ((flat_set (row_at hj)).mem_iff.mp he) with z | z
            · rw [z]
              exact List.mem_append_right _ List.mem_cons_self
            · exact List.mem_append_left _ (inR e z)
          · obtain ⟨y1, y2, y3, y4, y5⟩ := hB6.same s7
            exact ⟨y1, y2, y3, by rw [upd_ne (Ne.symm Db)]; exact y4, y5.1, y5.2.1, y5.2.2.1, y5.2.2.2.1, by omega⟩
          · rw [upd_ne aD]
            exact s7 _ _ (k46 _ _ ab (s4 _ _ (old a u ab aD e)))
        refine ⟨_, rfl, _, rfl, D, _, (j : Int), V.ref r.1, rfl, rfl, hD6, at6, _, rfl, (by show 1 ≤ sizeLine; decide), fun q1 nq1 => ?_⟩
        have sq := same_new nq1 (.tup [V.ref t.2.2.1])
        refine ⟨r.1, q1, _, [V.ref t.2.2.1], rfl, rfl, .inl (.inl (sq _ _ hr6)), .inl (.inl upd_same), by rw [List.length_map, sizeLine_eq]; show _ + 1 ≤ _; omega, fun e0 => ?_, (fun _ e0 => nomatch e0), fun _ _ pa npa => ?_⟩
        · refine fin q1 _ sq ?_
          rw [List.map_eq_nil_iff] at e0
          rw [e0, upd_same]
          rfl
        · refine fin pa _ (sq.trans (same_new npa _)) ?_
          rw [upd_same, List.map_append]
          rfl
      · rw [decide_eq_false c5]
        exact iteF (stay _ _ _ _ _ (fun a u ab e => k5 _ _ ab (sp _ _ e)) (hB5.le (by omega)))
  · rintro σ H3 ⟨rws, t6, t7, t8, t9, t10, t11, rfl, hRw, okR, lR, inR, hB3, old⟩
    rw [List.length_map] at hB3
    refine ⟨_, rfl, D, _, rfl, hRw.hp, fun l nl => ?_⟩
    have kl := same_new nl (.tup (rws.map fun r => V.ref r.1))
    refine q l _ rws ⟨upd_same, fun r hr => kl _ _ (hRw.hr r hr), fun r hr z hz => (hRw.he r hr z hz).keep (.same kl)⟩ okR (by omega) ((hB3.same kl).le (by omega)) fun a u ab e => kl _ _ (old a u ab (ne_of_none e nD) (kA _ _ e))

end L2.K06
namespace L2.K06
open PySem PySem.Spec PyProof.Rows L2.My
open HQ (Ev evD)
variable {P : Program} {w : World} {K : PySem.W.Frag} {mg : Str → Option Value} {base : Heap}
/-- an event and its stamp, as a datum -/
def stpD (fs : List Ev) (rows : List (List Ev)) (e : Ev) : PyData := .tuple [evD e, .tuple (rows.map fun r => .int (cntIn fs e r))]
def spStamps : Sp := fun vs H Q _ => ∃ (lv cv : V) (d dc : PyData) (L : Lg) (rows : List (List Ev)), vs = [lv, cv] ∧ Rp H lv d ∧ tupD d = encLog L ∧ slim d = true ∧ d.depth < 6 ∧ My.Good L ∧ Rp H cv dc ∧ tupD dc = encR rows ∧ slim dc = true ∧ dc.depth < 6 ∧
  (∀ r ∈ rows, r.length ≤ 1000 ∧ ∀ y ∈ r, PyData.strOk y.1 = true) ∧ rows.length ≤ 1000 ∧
  ∀ (p : Addr) (H' : Hp) (ys : List V) (af : Ev → List Ev), Same H H' → H p = none → H' p = some (.lst ys) → (∀ e ∈ evs L, ∀ x, x ∈ af e ↔ Ah L x e) → TpAll H' ys ((mkd L).map fun e => stpD (af e) rows e) → Q (.ref p) H'
theorem ok_stamps (T : Tx K mg) : FnOk P w K mg base CX0 9 T.astamps T.dstamps P_stamps spStamps := by
  have G_tupled := ok_tupled (P := P) (w := w) (base := base) T 6
  have G_aheads_of := ok_aheads_of (P := P) (w := w) (base := base) T
  have G_stamp_by := ok_stamp_by (P := P) (w := w) (base := base) T
  have G_marked := ok_marked (P := P) (w := w) (base := base) T
  refine T.fstamps.ok sc_stamps (fun vs H Q E h => ?_) (fun cdv A outer s H vs Q E hr h => ?_)
  · obtain ⟨lv, cv, d, dc, L, rows, rfl, _⟩ := h
    rfl
  obtain ⟨lv, cv, d, dc, L, rows, rfl, hl, ed, sl, dp, hG, hcv, eR, sc, dpc, okr, lr, q⟩ := h
  have hu := hu_of hr
  refine ⟨_, (pss_cons (ps_set (i := 1) sc_stamps.nd rfl (Or.inr rfl) (pe_call G_tupled (hr.mono (by decide)) (by rfl) T.mtupled T.ftupled.kp T.btupled .nil pass0 (pa_cons (pv 1) pa_nil)))
  (pss_cons (ps_set (i := 2) sc_stamps.nd rfl (Or.inr rfl) (pe_call G_aheads_of (hr.mono (by decide)) (by rfl) T.maheads_of T.faheads_of.kp T.baheads_of .nil pass0 (pa_cons (pv 0) pa_nil)))
  (pss_one (ps_ret (pe_lc (own := [("event", 3)]) (g := (gName 3)) rfl sc_stamps.nd (pi_listK (K := K) rfl (pe_call G_marked (hr.mono (by decide)) (by rfl) T.mmarked T.fmarked.kp T.bmarked .nil pass0 (pa_cons (pv 0) pa_nil))) (blkOk_by (own := [("event", 3)]) (N := N_stamps) (sc := defScope s_stamps) (by decide +kernel)) (fun _ _ _ _ _ => (pg_name (i := 3) sc_stamps.nd rfl (Or.inl rfl))) (fun _ _ _ _ _ => pts_nil) (fun _ _ _ _ _ => (pe_tup (pa_cons (pv 3) (pa_cons (pe_call G_stamp_by (hr.mono (by decide)) (by rfl) T.mstamp_by T.fstamp_by.kp T.bstamp_by .nil pass0 (pa_cons (pe_dget hu (pv 2) (pv 3) (fun _ _ => rfl)) (pa_cons (pv 1) (pa_cons (pv 3) pa_nil)))) pa_nil))))))))), ?_⟩
  refine ⟨_, rfl, cv, dc, rfl, hcv, dpc, sc, fun c' H1 s1 tc => ?_⟩
  rw [eR] at tc
  obtain ⟨c, rws, rfl, hR, er⟩ := rowsTup tc
  refine ⟨_, rfl, lv, d, L, rfl, hl.same s1, ed, sl, dp, hG, fun ad H2 o adf af s2 nad had hA hm hAh => ?_⟩
  refine ⟨_, rfl, lv, L, rfl, (logAt (hl.same s1) ed).same s2, hG, fun pm H3 zs s3 npm hpm ez eqz => ⟨pm, rfl, ⟨_, .inl (.inl hpm)⟩, fun D nD => ?_⟩⟩
  have okr' : ∀ r ∈ rws, r.2.length ≤ 1000 ∧ ∀ y ∈ r.2, PyData.strOk y.2.1 = true := fun r hr => by
    have ir : r.2.map (·.2) ∈ rows := by rw [← er]; exact List.mem_map.mpr ⟨r, hr, rfl⟩
    obtain ⟨g1, g2⟩ := okr _ ir
    rw [List.length_map] at g1
    exact ⟨g1, fun y hy => g2 y.2 (List.mem_map.mpr ⟨y, hy, rfl⟩)⟩
  have lr' : rws.length ≤ 1000 := by rw [← List.length_map (fun r : RowZ => r.2.map (·.2)), er]; exact lr
  have lz : zs.length ≤ 16 := by rw [← List.length_map (·.2), eqz]; exact mkd_len hG
  have iz : ∀ z ∈ zs, z.2 ∈ evs L := fun z hz => mkd_sub hG (by rw [← eqz]; exact List.mem_map.mpr ⟨z, hz, rfl⟩)
  refine lc_mapL hpm nD (by rw [List.length_map, sizeLine_eq]; omega)
    (fun j y H' => ∃ z, zs[j]? = some z ∧ Tp H' y (stpD (af z.2) rows z.2)) (fun j y H1 H2 s ⟨z, h1, h2⟩ => ⟨z, h1, h2.keep (.same s)⟩) (fun j y H1 ws o hD ⟨z, h1, h2⟩ => ⟨z, h1, h2.keep (tk_upd hD o)⟩) (fun _ => rfl) ?_ ?_
  · intro j x H4 Q' hx s4 _ k
    rw [List.getElem?_map] at hx
    obtain ⟨z, hzi, rfl⟩ := Option.map_eq_some_iff.mp hx
    have hz := List.mem_of_getElem? hzi
    have ie := iz z hz
    have io := (hm z.2).mpr ie
    have rz : EvR H4 z := (ez z hz).keep (.same s4)
    have hA4 := (hA.same s3).same s4
    have okN : PyData.strOk z.2.1 = true := by
      obtain ⟨k, mk, hmm, _⟩ := mem_evs.mp (show (z.2.1, z.2.2) ∈ evs L from ie)
      exact hG.txt _ hmm
    refine ⟨_, rfl, _, rfl, _, rfl, ad, _, rfl, hA4.get rz io, ?_⟩
    refine ⟨_, rfl, _, rfl, adf z.2, c, z, af z.2, rws, rfl, hA4.hz z.2 io, hR.keep (.same (s2.trans (s3.trans s4))), rz, okN, okr', lr', fun sp H5 s5 hsp => ⟨(by show 2 ≤ sizeLine; decide), fun tp ntp => ?_⟩⟩
    have s6 := same_new ntp (.tup [V.ref z.1, V.ref sp])
    refine k _ _ (s5.trans s6) ⟨z, hzi, .tup upd_same (.cons (ev_tp (EvR.keep (EvR.keep rz (.same s5)) (.same s6))) (.cons (.tup (s6 _ _ hsp) ?_) .nil))⟩
    have := ints_tp (H := upd H5 tp (.tup [V.ref z.1, V.ref sp])) (rows.map fun r => ((cntIn (af z.2) z.2 r : Nat) : Int))
    rw [List.map_map, List.map_map, ← er, List.map_map, List.map_map] at this
    rw [← er, List.map_map]
    exact this
  · intro H4 ys s4 hD ly hP
    refine q D H4 ys af (s1.trans (s2.trans (s3.trans s4))) (s1.free (s2.free (s3.free nD))) hD (fun e he x => (hAh e ((hm e).mpr he)).2 x) ?_
    have := tpAll_of (f := id) (ys := ys) (ds := (mkd L).map fun e => stpD (af e) rows e) (H := H4) (by rw [ly, ← eqz, List.length_map, List.length_map, List.length_map]) fun j y hy => by
      obtain ⟨z, h1, h2⟩ := hP j y hy
      exact ⟨_, by rw [← eqz, List.map_map, List.getElem?_map, h1]; rfl, h2⟩
    rw [List.map_id] at this
    exact this

end L2.K06
namespace L2.K06
open PySem PySem.Spec PyProof.Rows L2.My
open HQ (Ev evD)
variable {P : Program} {w : World} {K : PySem.W.Frag} {mg : Str → Option Value} {base : Heap}
def spLStamp : Sp := fun vs H Q _ => ∃ (od c : Addr) (z : Addr × Ev) (L : Lg) (o : List Ev) (ad : Ev → Addr) (f : Ev → List (Addr × Ev)) (rws : List RowZ), vs = [.ref od, .ref c, .ref z.1] ∧ BQ H od o ad f ∧ z.2 ∈ o ∧ RowsTup H c rws ∧ EvR H z ∧ PyData.strOk z.2.1 = true ∧ (∀ e ∈ (f z.2).map (·.2), PyData.strOk e.1 = true) ∧ (f z.2).length ≤ 1000 ∧ (∀ r ∈ rws, r.2.length ≤ 1000 ∧ ∀ y ∈ r.2, PyData.strOk y.2.1 = true) ∧ rws.length ≤ 1000 ∧
  ∀ (p : Addr) (H' : Hp), Same H H' → H' p = some (.tup (rws.map fun r => .int (cntIn ((f z.2).map (·.2)) z.2 (r.2.map (·.2))))) → Q (.ref p) H'
theorem ok__law_stamp (T : Tx K mg) : FnOk P w K mg base CX0 1 T.a_law_stamp T.d_law_stamp P__law_stamp spLStamp := by
  refine T.f_law_stamp.ok sc__law_stamp (fun vs H Q E h => ?_) (fun cdv A outer s H vs Q E hr h => ?_)
  · obtain ⟨od, c, z, L, o, ad, f, rws, rfl, _⟩ := h
    rfl
  obtain ⟨od, c, z, L, o, ad, f, rws, rfl, hO, io, hR, hz, okz, okf, lf, okr, lr, q⟩ := h
  have hu := hu_of hr
  refine ⟨_, (pss_one (ps_ret (pe_callTy tupH (by rfl) T.tuple (by decide +kernel) (pa_cons (pe_lc (own := [("_law_row", 4)]) (g := (gName 4)) rfl sc__law_stamp.nd (pi_tupK (K := K) rfl (pv 1)) (blkOk_by (own := [("_law_row", 4)]) (N := N__law_stamp) (sc := defScope s__law_stamp) (by decide +kernel)) (fun _ _ _ _ _ => (pg_name (i := 4) sc__law_stamp.nd rfl (Or.inl rfl))) (fun _ _ _ _ _ => pts_nil) (fun _ _ _ _ _ => (pe_callB lenH (by rfl) T.len (by decide +kernel) (pa_cons (pe_lc (own := [("_law_own", 3)]) (g := (gName 3)) rfl sc__law_stamp.nd (pi_tupK (K := K) rfl (pv 4)) (blkOk_by (own := [("_law_own", 3)]) (N := N__law_stamp) (sc := relS (lcScope (argVal (asgVal (bodyAt s__law_stamp 0)))) (defScope s__law_stamp)) (by decide +kernel)) (fun _ _ _ _ _ => (pg_name (i := 3) sc__law_stamp.nd rfl (Or.inl rfl))) (fun _ _ _ _ _ => (pts_one (PW.pt (pw_or (pt_cmpR (eqH hr.units) (pv 3) (pv 2) (nomark _)) (pw_or1 (pt_cmpR (inH (un65p hr)) (pv 3) (pe_dget hu (pv 0) (pv 2) (fun _ _ => rfl)) (by with_unfolding_all rfl))))))) (fun _ _ _ _ _ => (pv 3))) pa_nil)))) pa_nil)))), ?_⟩
  refine ⟨_, rfl, c, rfl, ⟨_, .inl (.inl hR.hc)⟩, fun D nD => ?_⟩
  refine lc_mapT hR.hc nD (by rw [List.length_map, sizeLine_eq]; omega) (fun j y H' => ∃ r, rws[j]? = some r ∧ y = V.int (cntIn ((f z.2).map (·.2)) z.2 (r.2.map (·.2)))) (fun j y H1 H2 s e => e) (fun j y H1 zs o hD e => e) (fun _ => rfl) ?_ ?_
  · intro j x H1 Q' hx s1 _ k
    rw [List.getElem?_map] at hx
    obtain ⟨r, hri, rfl⟩ := Option.map_eq_some_iff.mp hx
    have im := List.mem_of_getElem? hri
    have hr1 := s1 _ _ (hR.hr r im)
    have er1 : ∀ y ∈ r.2, EvR H1 y := fun y hy => (hR.he r im y hy).keep (.same s1)
    obtain ⟨l1, ok1⟩ := okr r im
    refine ⟨_, rfl, r.1, rfl, ⟨_, .inl (.inl hr1)⟩, fun D2 nD2 => ?_⟩
    refine lc_filtT hr1 nD2 (by rw [List.length_map, sizeLine_eq]; omega) (fun v => decide (evOf H1 v = z.2) || decide (evOf H1 v ∈ (f z.2).map (·.2))) id (fun _ => rfl) ?_ ?_ ?_
    · intro x H2 Q2 hx k2 kk
      obtain ⟨y, hy, rfl⟩ := List.mem_map.mp hx
      rw [evOf_of (er1 y hy)] at kk
      have ry := (er1 y hy).keep (.same k2)
      have s12 := s1.trans k2
      refine ⟨_, rfl, _, rfl, evD y.2, evD z.2, ev_rp ry, ev_rp (EvR.keep hz (.same s12)), ev_shaped (ok1 y hy), ev_shaped okz, _, rfl, ?_⟩
      rw [eqv_ev]
      cases e : decide (y.2 = z.2) with
      | true =>
        rw [e, Bool.true_or] at kk
        exact iteT (kk H2 fun _ _ h => h)
      | false =>
        rw [e, Bool.false_or] at kk
        have hO2 := hO.same s12
        refine iteF ⟨_, rfl, _, rfl, _, rfl, od, _, rfl, hO2.get (EvR.keep hz (.same s12)) io, evD y.2, ((f z.2).map (·.2)).map evD, ev_rp ry, ?_, ev_shaped (ok1 y hy), evs_shaped okf, _, rfl, ?_⟩
        · exact rp_evs (hO2.hz z.2 io) (fun u hu => hO2.he z.2 io u hu) rfl
        rw [any_ev]
        exact kk H2 fun _ _ h => h
    · intro x H2 Q2 hx _ k2 kk
      exact ⟨_, rfl, kk H2 fun _ _ h => h⟩
    intro H2 s2 hD2
    rw [List.map_id, filt_refs (fun e => decide (e = z.2) || decide (e ∈ (f z.2).map (·.2))) _ fun y hy => by rw [evOf_of (er1 y hy)]] at hD2
    refine ⟨D2, _, rfl, .inl hD2, ?_⟩
    refine k _ H2 s2 ⟨r, hri, ?_⟩
    unfold cntIn
    rw [List.length_map, List.filter_map, List.length_map]
    rfl
  · intro H' ys s1 hD ly hP
    refine ⟨D, ys, rfl, hD, fun l nl => q l _ (s1.trans (same_new nl _)) ?_⟩
    rw [upd_same]
    refine congrArg (fun x => some (HO.tup x)) (List.ext_getElem? fun j => ?_)
    rw [List.getElem?_map]
    cases e : ys[j]? with
    | some y =>
      obtain ⟨r, h1, h2⟩ := hP j y e
      rw [h1, h2]
      rfl
    | none =>
      have := List.getElem?_eq_none_iff.mp e
      rw [ly, List.length_map] at this
      rw [List.getElem?_eq_none this]
      rfl

end L2.K06
namespace L2.K06
open PySem PySem.Spec PyProof.Rows L2.My
open HQ (Ev evD)
variable {P : Program} {w : World} {K : PySem.W.Frag} {mg : Str → Option Value} {base : Heap}
/-- _law_refused: the event that stamp's error tells of -/
def spRef : Sp := fun vs H Q _ => ∃ (lv cv ev : V) (d de dc : PyData) (L : Lg) (e : Ev) (rows : List (List Ev)), vs = [lv, cv, ev] ∧ Rp H lv d ∧ tupD d = encLog L ∧ slim d = true ∧ d.depth < 6 ∧ My.Good L ∧ Rp H ev de ∧ tupD de = evD e ∧ Rp H cv dc ∧ tupD dc = encR rows ∧ slim dc = true ∧ dc.depth < 6 ∧
  (∀ r ∈ rows, r.length ≤ 1000 ∧ ∀ y ∈ r, PyData.strOk y.1 = true) ∧ rows.length ≤ 1000 ∧ e ∉ evs L ∧ ∀ (a : Addr) (H' : Hp), Same H H' → EvR H' (a, e) → Q (.ref a) H'
theorem ok__law_refused (T : Tx K mg) : FnOk P w K mg base CX0 10 T.a_law_refused T.d_law_refused P__law_refused spRef := by
  have G_stamp := ok_stamp (P := P) (w := w) (base := base) T
  refine T.f_law_refused.ok sc__law_refused (fun vs H Q E h => ?_) (fun cdv A outer s H vs Q E hr h => ?_)
  · obtain ⟨lv, cv, ev, d, de, dc, L, e, rows, rfl, _⟩ := h
    rfl
  obtain ⟨lv, cv, ev, d, de, dc, L, e, rows, rfl, hl, ed, sl, dp, hG, hv, eE, hcv, eR, sc, dpc, okr, lr, ne, q⟩ := h
  refine ⟨_, (pss_cons (ps_set (i := 3) sc__law_refused.nd rfl (Or.inl rfl) pe_non)
  (pss_cons (ps_try_four (i := 4) rfl rfl rfl sc__law_refused.nd rfl rfl ⟨by rfl, by decide, T.gB⟩ ⟨by rfl, by decide, T.noev.gC⟩ ⟨by rfl, by decide, T.gM⟩ ⟨by rfl, by decide, T.gA⟩
    (fun W pn xe tk _ => (pss_one (ps_expr (pe_callS G_stamp (hr.mono (by decide)) (by rfl) T.mstamp T.fstamp.kp T.bstamp (fun σ => passAt tk σ) (by exact (pa_cons (pv 0) (pa_cons (pv 1) (pa_cons (pv 2) pa_nil))))))))
    (fun a oe cls d pn hz hf => (pss_one (ps_set (i := 3) sc__law_refused.nd rfl (Or.inl rfl) (pv 4)))))
  (pss_one (ps_ret (pe_ifExp (PW.pt (pw_and (pt_val (pe_callB call_isErr (by rfl) T.isinstance (by decide +kernel) (pa_cons (pv 3) (pa_cons (pe_glob (v := .ref T.cE) (by rfl) T.noev.gC rfl) pa_nil)))) (pw_and1 (pt_val (pe_callB call_isErr (by rfl) T.isinstance (by decide +kernel) (pa_cons (pv 3) (pa_cons (pe_bltn (v := .ty "LookupError") (u := .type "LookupError") (by rfl) T.LookupError (by decide +kernel) rfl) pa_nil))))))) (pe_event T.noev (pv 3)) pe_non))))), ?_⟩
  refine ⟨_, rfl, _, rfl, _, rfl, lv, cv, ev, d, de, dc, L, e, rows, rfl, hl, ed, sl, dp, hG, hv, eE, hcv, eR, sc, dpc, okr, lr, fun h => absurd h ne, fun _ a dd H1 s1 r1 x1 => ?_⟩
  refine ⟨T.four, T.cE, rfl, fun b nb => ⟨_, rfl, ?_⟩⟩
  have s2 := same_new nb (ErrO T.cE (some dd) b)
  have eb : (upd H1 b (ErrO T.cE (some dd) b)) b = some (ErrO T.cE (some dd) b) := upd_same
  have x2 := s2 _ _ x1
  have r2 := EvR.keep r1 (.same s2)
  have s3 := s1.trans s2
  refine ⟨_, rfl, b, T.cE, dd, _, .ref T.cE, _, true, rfl, eb, x2, T.errC, fun u r => r, ?_, _, rfl, ?_⟩
  · unfold PySem.W.kitOne
    rw [if_pos (beq_self_eq_true _)]
  refine iteT ⟨_, rfl, b, T.cE, dd, _, .ty "LookupError", _, true, rfl, eb, x2, T.errC, fun u r => r, T.isL, _, rfl, ?_⟩
  exact iteT ⟨_, rfl, b, dd, .ref a, rfl, eb, x2, q a _ s3 r2⟩

end L2.K06
namespace L2.K06
open PySem PySem.Spec PyProof.Rows L2.My
open HQ (Ev evD)
variable {P : Program} {w : World} {K : PySem.W.Frag} {mg : Str → Option Value} {base : Heap}
def spHanded : Sp := fun vs H Q _ => ∃ (cv : V) (dc : PyData) (rows : List (List Ev)), vs = [cv] ∧ Rp H cv dc ∧ tupD dc = encR rows ∧ slim dc = true ∧ dc.depth < 6 ∧ (∀ r ∈ rows, r.length ≤ 1000) ∧ rows.length ≤ 1000 ∧
  ∀ (p : Addr) (H' : Hp) (us : List (Nat × Ev × Ev)) (ws : List (V × PyData)), Same H H' → H p = none → HL H' p us ws → us.Perm (hndTo rows rows.length) → us.Pairwise (fun a b => PySem.W.dataLt (HQ.hD b) (HQ.hD a) = false) → Q (.ref p) H'
theorem ok_handed (T : Tx K mg) : FnOk P w K mg base CX0 7 T.ahanded T.dhanded P_handed spHanded := by
  have G_tupled := ok_tupled (P := P) (w := w) (base := base) T 6
  refine T.fhanded.ok sc_handed (fun vs H Q E h => ?_) (fun cdv A outer s H vs Q E hr h => ?_)
  · obtain ⟨cv, dc, rows, rfl, _⟩ := h
    rfl
  obtain ⟨cv, dc, rows, rfl, hcv, eR, sc, dpc, okr, lr, q⟩ := h
  refine ⟨_, (pss_cons (ps_set (i := 1) sc_handed.nd rfl (Or.inl rfl) (pe_lst pa_nil))
  (pss_cons (ps_for PassesOwn.never rfl (pi_enumT (by rfl) T.enumerate (pa_cons (pe_call G_tupled (hr.mono (by decide)) (by rfl) T.mtupled T.ftupled.kp T.btupled .nil pass0 (pa_cons (pv 0) pa_nil)) pa_nil)) (pg_tup (by rfl) (pgs_cons (pg_name (i := 2) sc_handed.nd rfl (Or.inl rfl)) (pgs_cons (pg_name (i := 3) sc_handed.nd rfl (Or.inl rfl)) pgs_nil)))
    (pss_one (ps_for PassesOwn.never rfl (RZ.pi_zipA (by rfl) T.zip (pa_cons (pv 3) (pa_cons (pe_slice sl_tupA (pv 3) (po_some pe_int) po_none) pa_nil))) (pg_tup (by rfl) (pgs_cons (pg_name (i := 4) sc_handed.nd rfl (Or.inl rfl)) (pgs_cons (pg_name (i := 5) sc_handed.nd rfl (Or.inl rfl)) pgs_nil)))
        (pss_one (ps_if (pt_cmpR op_ne (pe_ix ixT (pv 4) pe_int (fun _ _ => rfl)) (pe_ix ixT (pv 5) pe_int (fun _ _ => rfl)) (nomark _))
            (pss_one (ps_expr (pe_bm PySem.F.plainAttrs_list PySem.F.slot_list_append PySem.F.type_list_append mt_append (pv 1) (pa_cons (pe_tup (pa_cons (pv 2) (pa_cons (pv 4) (pa_cons (pv 5) pa_nil)))) pa_nil))))
            pss_nil)))))
  (pss_one (ps_ret (pe_callB (sortH hr.units) (by rfl) T.sorted (by decide +kernel) (pa_cons (pv 1) pa_nil)))))), ?_⟩
  refine ⟨(by show 0 ≤ sizeLine; decide), fun fp nfp => ?_⟩
  have s0 := same_new nfp (.lst [])
  refine ⟨_, rfl, cv, dc, rfl, hcv.same s0, dpc, sc, fun c' H1 s1 tc => ?_⟩
  rw [eR] at tc
  obtain ⟨c, rws, rfl, hR, er⟩ := rowsTup tc
  have hf1 : HL H1 fp [] [] := ⟨s1 _ _ upd_same, (fun _ h => nomatch h), rfl⟩
  have cf : c ≠ fp := fun e => by
    have := hf1.hf
    rw [← e, hR.hc] at this
    cases this
  have lrw : rws.length = rows.length := by rw [← er, List.length_map]
  have getR : ∀ {i : Nat} {r : RowZ}, rws[i]? = some r → rows.getD i [] = r.2.map (·.2) := fun {i r} h => by
    rw [← er, List.getD_eq_getElem?_getD, List.getElem?_map, h]
    rfl
  -- what stays: the rows
  have rk : ∀ {G : Hp}, (∀ a o, a ≠ fp → H1 a = some o → G a = some o) → RowsTup G c rws := fun {G} k => hR.keep fun a xs e => k a _ (fun z => by rw [z, hf1.hf] at e; cases e) e
  refine ⟨c, _, rfl, hR.hc, for_enumT (xs := rws.map fun r => V.ref r.1) (fun i σ G => ∃ (t2 t3 t4 t5 : Option V) (zs : List (V × PyData)), σ = [some cv, some (.ref fp), t2, t3, t4, t5] ∧ (∀ a o, a ≠ fp → H1 a = some o → G a = some o) ∧ HL G fp (hndTo rows i) zs ∧ i ≤ rws.length) ?_ ?_ ?_ ?_⟩
  · exact ⟨_, _, _, _, [], rfl, fun _ _ _ e => e, hf1, Nat.zero_le _⟩
  · rintro i σ G ⟨t2, t3, t4, t5, zs, rfl, k, _⟩
    exact (rk k).hc
  · rintro i x tp σ G hx ⟨t2, t3, t4, t5, zs, rfl, k, hl, li⟩ nT
    rw [List.getElem?_map] at hx
    obtain ⟨r, hri, rfl⟩ := Option.map_eq_some_iff.mp hx
    have im := List.mem_of_getElem? hri
    have sT := same_new nT (.tup [V.int (i : Nat), V.ref r.1])
    have lt : i < rws.length := (List.getElem?_eq_some_iff.mp hri).1
    have gr := getR hri
    have lr1 : r.2.length ≤ 1000 := by
      have := okr (r.2.map (·.2)) (by rw [← er]; exact List.mem_map.mpr ⟨r, im, rfl⟩)
      rw [List.length_map] at this
      exact this
    refine ⟨tp, _, rfl, .inl (.inl upd_same), rfl, _, _, rfl, _, _, rfl, rfl, ?_⟩
    have kT : ∀ a o, a ≠ fp → H1 a = some o → (upd G tp (.tup [V.int (i : Nat), V.ref r.1])) a = some o := fun a o n e => sT _ _ (k a o n e)
    have hlT := hl.same sT
    have hrT := (rk kT).hr r im
    have heT := (rk kT).he r im
    have step : hndTo rows (i + 1) = hndTo rows i ++ hndUp i (r.2.map (·.2)) ((r.2.map (·.2)).length - 1) := by
      show hndTo rows i ++ hndUp i (rows.getD i []) ((rows.getD i []).length - 1) = _
      rw [gr]
    have sl1 : HT.sIx (r.2.map fun z => V.ref z.1).length 0 (some 1) = min 1 r.2.length := by
      rw [List.length_map]
      exact HT.sIx_nat _ _ 1
    have sl2 : HT.sIx (r.2.map fun z => V.ref z.1).length (r.2.map fun z => V.ref z.1).length none = r.2.length := by
      rw [HT.sIx_none, List.length_map]
    refine ⟨_, rfl, _, rfl, 1, rfl, r.1, _, rfl, .inl (.inl hrT), fun e0 => ?_, fun e0 p np => ?_⟩
    · -- a bare row
      have er0 : r.2 = [] := by
        rw [sl1] at e0
        exact List.eq_nil_of_length_eq_zero (by omega)
      rw [er0] at hrT step
      refine ⟨r.1, r.1, [], [], rfl, .inr ⟨.inl (.inl hrT), .inl (.inl hrT), for_zip_tail (us := []) (vs := []) (Nat.le_refl _) (fun _ τ F => τ = [some cv, some (.ref fp), some (.int (i : Nat)), some (.ref r.1), t4, t5] ∧ F = upd G tp (.tup [V.int (i : Nat), V.ref r.1])) ⟨rfl, rfl⟩ ?_ ?_ ?_⟩⟩
      · rintro k' τ F ⟨_, rfl⟩
        exact ⟨.inl (.inl hrT), .inl (.inl hrT)⟩
      · intro k' u v T τ F hu
        simp at hu
      · rintro τ F ⟨rfl, rfl⟩
        refine ⟨_, _, _, _, zs, rfl, kT, ?_, lt⟩
        rw [step]
        have : hndTo rows i ++ hndUp i (([] : List (Addr × Ev)).map (·.2)) ((([] : List (Addr × Ev)).map (·.2)).length - 1) = hndTo rows i := List.append_nil _
        rw [this]
        exact hlT
    · have ne : 0 < r.2.length := by
        rw [sl1, sl2, List.length_map] at e0
        omega
      have sp := same_new np (.tup (cutV (r.2.map fun z => V.ref z.1) (some 1) none))
      have ecut : cutV (r.2.map fun z => V.ref z.1) (some 1) none = (r.2.drop 1).map fun z => V.ref z.1 := by
        unfold cutV
        rw [sl1, sl2, show min 1 r.2.length = 1 by omega, ← List.map_drop, List.take_of_length_le (by rw [List.length_map, List.length_drop]; omega)]
      have kp : ∀ a o, a ≠ fp → H1 a = some o → (upd (upd G tp (.tup [V.int (i : Nat), V.ref r.1])) p (.tup (cutV (r.2.map fun z => V.ref z.1) (some 1) none))) a = some o := fun a o n e => sp _ _ (kT a o n e)
      have hpc : (upd (upd G tp (.tup [V.int (i : Nat), V.ref r.1])) p (.tup (cutV (r.2.map fun z => V.ref z.1) (some 1) none))) p = some (.tup ((r.2.drop 1).map fun z => V.ref z.1)) := by
        rw [upd_same, ecut]
      have hlp := hlT.same sp
      have pf : p ≠ fp := fun e => by rw [e, hlT.hf] at np; cases np
      generalize (upd (upd G tp (.tup [V.int (i : Nat), V.ref r.1])) p (.tup (cutV (r.2.map fun z => V.ref z.1) (some 1) none))) = G2 at kp hpc hlp ⊢
      refine ⟨r.1, p, _, (r.2.drop 1).map (fun z => V.ref z.1), rfl, .inr ⟨.inl (.inl ((rk kp).hr r im)), .inl (.inl hpc), for_zip_tail (us := r.2.map fun z => V.ref z.1) (vs := (r.2.drop 1).map fun z => V.ref z.1) (by rw [List.length_map, List.length_map, List.length_drop]; omega)
        (fun k' τ F => ∃ (t4 t5 : Option V) (ys : List (V × PyData)), τ = [some cv, some (.ref fp), some (.int (i : Nat)), some (.ref r.1), t4, t5] ∧ (∀ a o, a ≠ fp → G2 a = some o → F a = some o) ∧ HL F fp (hndTo rows i ++ hndUp i (r.2.map (·.2)) k') ys) ?_ ?_ ?_ ?_⟩⟩
      · exact ⟨_, _, zs, rfl, fun _ _ _ e => e, by rw [hndUp_zero, List.append_nil]; exact hlp⟩
      · rintro k' τ F ⟨t4, t5, ys, rfl, kF, _⟩
        exact ⟨.inl (.inl ((rk fun a o n e => kF a o n (kp a o n e)).hr r im)), .inl (.inl (kF _ _ pf hpc))⟩
      · rintro k' u v T τ F hu hv ⟨t4, t5, ys, rfl, kF, hF⟩ nF
        rw [List.getElem?_map] at hu hv
        obtain ⟨z1, hz1, rfl⟩ := Option.map_eq_some_iff.mp hu
        obtain ⟨z2, hz2, rfl⟩ := Option.map_eq_some_iff.mp hv
        rw [List.getElem?_drop, Nat.add_comm] at hz2
        have rF := rk fun a o n e => kF a o n (kp a o n e)
        have sF := same_new nF (.tup [V.ref z1.1, V.ref z2.1])
        have g1 : EvR (upd F T (.tup [V.ref z1.1, V.ref z2.1])) z1 := EvR.keep (rF.he r im z1 (List.mem_of_getElem? hz1)) (.same sF)
        have g2 : EvR (upd F T (.tup [V.ref z1.1, V.ref z2.1])) z2 := EvR.keep (rF.he r im z2 (List.mem_of_getElem? hz2)) (.same sF)
        have hup := hndUp_succ (k := i) (r := r.2.map (·.2)) (j := k') (x := z1.2) (y := z2.2) (by rw [List.getElem?_map, hz1]; rfl) (by rw [List.getElem?_map, hz2]; rfl)
        have hFT := hF.same sF
        have kFT : ∀ a o, a ≠ fp → G2 a = some o → (upd F T (.tup [V.ref z1.1, V.ref z2.1])) a = some o := fun a o n e => sF _ _ (kF a o n e)
        refine ⟨T, _, rfl, .inl (.inl upd_same), rfl, _, _, rfl, _, _, rfl, rfl, ?_⟩
        refine ⟨_, rfl, z1.1, _, 0, _, rfl, rfl, g1, at0, _, rfl, z2.1, _, 0, _, rfl, rfl, g2, at0, rfl, _, rfl, ?_⟩
        by_cases e : z1.2.1 = z2.2.1
        · have td : (!decide (V.str z1.2.1 = V.str z2.2.1)) = false := by rw [e]; simp
          rw [if_pos e, List.append_nil] at hup
          rw [td]
          exact iteF ⟨_, _, ys, rfl, kFT, by rw [hup]; exact hFT⟩
        · have td : (!decide (V.str z1.2.1 = V.str z2.2.1)) = true := by
            rw [decide_eq_false fun h => e (V.str.inj h)]
            rfl
          rw [if_neg e] at hup
          rw [td]
          have lys : ys.length < sizeLine := by
            have h1 := hndTo_len okr i
            have h2 := hndUp_len i (r.2.map (·.2)) k'
            have h3 : k' < r.2.length := (List.getElem?_eq_some_iff.mp hz1).1
            rw [← List.length_map (·.2), hF.eq, List.length_map, List.length_append, sizeLine_eq]
            omega
          refine iteT ⟨_, rfl, .inl ⟨rfl, _, .inl (.inl hFT.hf)⟩, _, rfl, _, rfl, _, rfl, (by show 3 ≤ sizeLine; decide), fun q nq => ⟨fp, _, _, rfl, rfl, same_new nq _ _ _ hFT.hf, by rw [List.length_map]; exact lys, ?_⟩⟩
          have sq := same_new nq (.tup [V.int (i : Nat), V.ref z1.1, V.ref z2.1])
          have tq : Tp (upd (upd F T (.tup [V.ref z1.1, V.ref z2.1])) q (.tup [V.int (i : Nat), V.ref z1.1, V.ref z2.1])) (.ref q) (HQ.hD (i, z1.2, z2.2)) := .tup upd_same (.cons (.int _) (.cons (ev_tp (EvR.keep g1 (.same sq))) (.cons (ev_tp (EvR.keep g2 (.same sq))) .nil)))
          refine ⟨_, _, _, rfl, fun a o n e => ?_, by rw [hup, ← List.append_assoc]; exact (hFT.same sq).push tq⟩
          rw [upd_ne n]
          exact sq _ _ (kFT a o n e)
      · rintro τ F ⟨t4, t5, ys, rfl, kF, hF⟩
        refine ⟨_, _, _, _, ys, rfl, fun a o n e => kF a o n (kp a o n e), ?_, lt⟩
        rw [step]
        rw [List.length_map, List.length_drop] at hF
        rw [List.length_map]
        exact hF
  · rintro σ G ⟨t2, t3, t4, t5, zs, rfl, k, hl, _⟩
    rw [List.length_map, lrw] at hl
    refine ⟨_, rfl, hl.sorted ?_ fun p H' us ws sp np hw pm pw => q p H' us ws ?_ ?_ hw pm pw⟩
    · have := hndTo_len okr rows.length
      rw [← List.length_map (·.2), hl.eq, List.length_map, sizeLine_eq]
      omega
    · intro a o e
      exact sp _ _ (k a o (ne_of_none e nfp) (s1 _ _ (s0 _ _ e)))
    · cases e : H p with
      | none => rfl
      | some o =>
        have := k p o (ne_of_none e nfp) (s1 _ _ (s0 _ _ e))
        rw [np] at this
        cases this

end L2.K06
namespace L2.K06
open PySem PySem.Spec PyProof.Rows L2.My
open HQ (Ev evD)
variable {P : Program} {w : World} {K : PySem.W.Frag} {mg : Str → Option Value} {base : Heap}
def spLHanded : Sp := fun vs H Q _ => ∃ (c : Addr) (rws : List RowZ), vs = [.ref c] ∧ RowsTup H c rws ∧ (∀ r ∈ rwsEv rws, r.length ≤ 1000) ∧ rws.length ≤ 1000 ∧
  ∀ (p : Addr) (H' : Hp) (us : List (Nat × Ev × Ev)) (ws : List (V × PyData)), Same H H' → H p = none → HL H' p us ws → us.Perm (hndTo (rwsEv rws) rws.length) → us.Pairwise (fun a b => PySem.W.dataLt (HQ.hD b) (HQ.hD a) = false) → Q (.ref p) H'
theorem ok__law_handed (T : Tx K mg) : FnOk P w K mg base CX0 1 T.a_law_handed T.d_law_handed P__law_handed spLHanded := by
  refine T.f_law_handed.ok sc__law_handed (fun vs H Q E h => ?_) (fun cdv A outer s H vs Q E hr h => ?_)
  · obtain ⟨c, rws, rfl, _⟩ := h
    rfl
  obtain ⟨c, rws, rfl, hR, okr, lr, q⟩ := h
  refine ⟨_, (pss_cons (ps_set (i := 1) sc__law_handed.nd rfl (Or.inl rfl) (pe_lst pa_nil))
  (pss_cons (ps_for PassesOwn.never rfl (pi_enumT (by rfl) T.enumerate (pa_cons (pv 0) pa_nil)) (pg_tup (by rfl) (pgs_cons (pg_name (i := 2) sc__law_handed.nd rfl (Or.inl rfl)) (pgs_cons (pg_name (i := 3) sc__law_handed.nd rfl (Or.inl rfl)) pgs_nil)))
    (pss_one (ps_for PassesOwn.never rfl (pi_range1 (by rfl) T.range (pa_cons (pe_op op_sub (pe_callB lenH (by rfl) T.len (by decide +kernel) (pa_cons (pv 3) pa_nil)) pe_int) pa_nil)) (pg_name (i := 4) sc__law_handed.nd rfl (Or.inl rfl))
        (pss_one (ps_if (pt_cmpR op_ne (pe_ix ixT (pe_ix ixT (pv 3) (pv 4) (fun _ _ => rfl)) pe_int (fun _ _ => rfl)) (pe_ix ixT (pe_ix ixT (pv 3) (pe_op op_add (pv 4) pe_int) (fun _ _ => rfl)) pe_int (fun _ _ => rfl)) (nomark _))
            (pss_one (ps_expr (pe_bm PySem.F.plainAttrs_list PySem.F.slot_list_append PySem.F.type_list_append mt_append (pv 1) (pa_cons (pe_tup (pa_cons (pv 2) (pa_cons (pe_ix ixT (pv 3) (pv 4) (fun _ _ => rfl)) (pa_cons (pe_ix ixT (pv 3) (pe_op op_add (pv 4) pe_int) (fun _ _ => rfl)) pa_nil)))) pa_nil))))
            pss_nil)))))
  (pss_one (ps_ret (pe_callB (sortH hr.units) (by rfl) T.sorted (by decide +kernel) (pa_cons (pv 1) pa_nil)))))), ?_⟩
  refine ⟨(by show 0 ≤ sizeLine; decide), fun fp nfp => ?_⟩
  have s0 := same_new nfp (.lst [])
  have hf0 : HL (upd H fp (.lst [])) fp [] [] := ⟨upd_same, (fun _ h => nomatch h), rfl⟩
  have rk : ∀ {G : Hp}, (∀ a o, a ≠ fp → H a = some o → G a = some o) → RowsTup G c rws := fun {G} k => hR.keep fun a xs e => k a _ (fun z => by rw [z, nfp] at e; cases e) e
  have getR : ∀ {i : Nat} {r : RowZ}, rws[i]? = some r → (rwsEv rws).getD i [] = r.2.map (·.2) := fun {i r} h => by
    unfold rwsEv
    rw [List.getD_eq_getElem?_getD, List.getElem?_map, h]
    rfl
  refine ⟨_, rfl, c, _, rfl, s0 _ _ hR.hc, for_enumT (xs := rws.map fun r => V.ref r.1) (fun i σ G => ∃ (t2 t3 t4 : Option V) (zs : List (V × PyData)), σ = [some (.ref c), some (.ref fp), t2, t3, t4] ∧ (∀ a o, a ≠ fp → H a = some o → G a = some o) ∧ HL G fp (hndTo (rwsEv rws) i) zs ∧ i ≤ rws.length) ?_ ?_ ?_ ?_⟩
  · exact ⟨_, _, _, [], rfl, fun a o n e => by rw [upd_ne n]; exact e, hf0, Nat.zero_le _⟩
  · rintro i σ G ⟨t2, t3, t4, zs, rfl, k, _⟩
    exact (rk k).hc
  · rintro i x tp σ G hx ⟨t2, t3, t4, zs, rfl, k, hl, li⟩ nT
    rw [List.getElem?_map] at hx
    obtain ⟨r, hri, rfl⟩ := Option.map_eq_some_iff.mp hx
    have im := List.mem_of_getElem? hri
    have sT := same_new nT (.tup [V.int (i : Nat), V.ref r.1])
    have lt : i < rws.length := (List.getElem?_eq_some_iff.mp hri).1
    have step : hndTo (rwsEv rws) (i + 1) = hndTo (rwsEv rws) i ++ hndUp i (r.2.map (·.2)) ((r.2.map (·.2)).length - 1) := by
      show hndTo (rwsEv rws) i ++ hndUp i ((rwsEv rws).getD i []) (((rwsEv rws).getD i []).length - 1) = _
      rw [getR hri]
    have lr1 : r.2.length ≤ 1000 := by
      have := okr (r.2.map (·.2)) (List.mem_map.mpr ⟨r, im, rfl⟩)
      rw [List.length_map] at this
      exact this
    refine ⟨tp, _, rfl, .inl (.inl upd_same), rfl, _, _, rfl, _, _, rfl, rfl, ?_⟩
    have kT : ∀ a o, a ≠ fp → H a = some o → (upd G tp (.tup [V.int (i : Nat), V.ref r.1])) a = some o := fun a o n e => sT _ _ (k a o n e)
    have hlT := hl.same sT
    generalize (upd G tp (.tup [V.int (i : Nat), V.ref r.1])) = G2 at kT hlT ⊢
    have ln : ((r.2.map fun z => V.ref z.1).length : Int) - 1 = (r.2.length : Int) - 1 := by rw [List.length_map]
    have etn : ((r.2.length : Int) - 1).toNat = r.2.length - 1 := by omega
    refine ⟨_, rfl, r.1, _, rfl, .inr ((rk kT).hr r im), _, _, rfl, rfl, (r.2.length : Int) - 1, by show [V.int (((r.2.map fun z => V.ref z.1).length : Int) - 1)] = _; rw [ln], by omega, by omega, ?_⟩
    rw [etn]
    refine for_range (n := r.2.length - 1) (fun k' τ F => ∃ (t4 : Option V) (ys : List (V × PyData)), τ = [some (.ref c), some (.ref fp), some (.int (i : Nat)), some (.ref r.1), t4] ∧ (∀ a o, a ≠ fp → H a = some o → F a = some o) ∧ HL F fp (hndTo (rwsEv rws) i ++ hndUp i (r.2.map (·.2)) k') ys) ?_ ?_ ?_
    · exact ⟨_, zs, rfl, kT, by rw [hndUp_zero, List.append_nil]; exact hlT⟩
    · rintro k' τ F hk ⟨t4, ys, rfl, kF, hF⟩
      obtain ⟨z1, hz1⟩ : ∃ z, r.2[k']? = some z := ⟨_, List.getElem?_eq_getElem (by omega)⟩
      obtain ⟨z2, hz2⟩ : ∃ z, r.2[k' + 1]? = some z := ⟨_, List.getElem?_eq_getElem (by omega)⟩
      have rF := rk kF
      have hrF := rF.hr r im
      have g1 : EvR F z1 := rF.he r im z1 (List.mem_of_getElem? hz1)
      have g2 : EvR F z2 := rF.he r im z2 (List.mem_of_getElem? hz2)
      have hup := hndUp_succ (k := i) (r := r.2.map (·.2)) (j := k') (x := z1.2) (y := z2.2) (by rw [List.getElem?_map, hz1]; rfl) (by rw [List.getElem?_map, hz2]; rfl)
      have a1 : atI (r.2.map fun z => V.ref z.1) (0 + (k' : Int)) = some (V.ref z1.1) := by rw [Int.zero_add]; exact atI_nat (by rw [List.getElem?_map, hz1]; rfl)
      have a2 : atI (r.2.map fun z => V.ref z.1) (0 + (k' : Int) + 1) = some (V.ref z2.1) := by rw [Int.zero_add]; exact atI_nat (j := k' + 1) (by rw [List.getElem?_map, hz2]; rfl)
      refine ⟨_, rfl, _, rfl, r.1, _, _, _, rfl, rfl, hrF, a1, z1.1, _, 0, _, rfl, rfl, g1, at0, _, rfl, _, rfl, _, _, rfl, rfl, r.1, _, _, _, rfl, rfl, hrF, a2, z2.1, _, 0, _, rfl, rfl, g2, at0, rfl, _, rfl, ?_⟩
      by_cases e : z1.2.1 = z2.2.1
      · have td : (!decide (V.str z1.2.1 = V.str z2.2.1)) = false := by rw [e]; simp
        rw [if_pos e, List.append_nil] at hup
        rw [td]
        exact iteF ⟨_, ys, rfl, kF, by rw [hup]; exact hF⟩
      · have td : (!decide (V.str z1.2.1 = V.str z2.2.1)) = true := by
          rw [decide_eq_false fun h => e (V.str.inj h)]
          rfl
        rw [if_neg e] at hup
        rw [td]
        have lys : ys.length < sizeLine := by
          have h1 := hndTo_len okr i
          have h2 := hndUp_len i (r.2.map (·.2)) k'
          rw [← List.length_map (·.2), hF.eq, List.length_map, List.length_append, sizeLine_eq]
          omega
        refine iteT ⟨_, rfl, .inl ⟨rfl, _, .inl (.inl hF.hf)⟩, _, rfl, _, rfl, _, rfl, r.1, _, _, _, rfl, rfl, hrF, a1, _, rfl, _, rfl, _, _, rfl, rfl, r.1, _, _, _, rfl, rfl, hrF, a2, (by show 3 ≤ sizeLine; decide), fun q nq => ⟨fp, _, _, rfl, rfl, same_new nq _ _ _ hF.hf, by rw [List.length_map]; exact lys, ?_⟩⟩
        have sq := same_new nq (.tup [V.int (i : Nat), V.ref z1.1, V.ref z2.1])
        have tq : Tp (upd F q (.tup [V.int (i : Nat), V.ref z1.1, V.ref z2.1])) (.ref q) (HQ.hD (i, z1.2, z2.2)) := .tup upd_same (.cons (.int _) (.cons (ev_tp (EvR.keep g1 (.same sq))) (.cons (ev_tp (EvR.keep g2 (.same sq))) .nil)))
        refine ⟨_, _, rfl, fun a o n e => ?_, by rw [hup, ← List.append_assoc]; exact (hF.same sq).push tq⟩
        rw [upd_ne n]
        exact sq _ _ (kF a o n e)
    · rintro τ F ⟨t4, ys, rfl, kF, hF⟩
      refine ⟨_, _, _, ys, rfl, kF, ?_, lt⟩
      rw [step]
      rw [List.length_map]
      exact hF
  · rintro σ G ⟨t2, t3, t4, zs, rfl, k, hl, _⟩
    rw [List.length_map] at hl
    refine ⟨_, rfl, hl.sorted ?_ fun p H' us ws sp np hw pm pw => q p H' us ws ?_ ?_ hw pm pw⟩
    · have := hndTo_len okr rws.length
      rw [← List.length_map (·.2), hl.eq, List.length_map, sizeLine_eq]
      omega
    · intro a o e
      exact sp _ _ (k a o (ne_of_none e nfp) e)
    · cases e : H p with
      | none => rfl
      | some o =>
        have := k p o (ne_of_none e nfp) e
        rw [np] at this
        cases this

end L2.K06
namespace L2.K06
open PySem PySem.Spec PyProof.Rows L2.My
open HQ (Ev evD)
variable {P : Program} {w : World} {K : PySem.W.Frag} {mg : Str → Option Value} {base : Heap}
def spLPlace : Sp := fun vs H Q _ => ∃ (c : Addr) (z : Addr × Ev) (rws : List RowZ), vs = [.ref c, .ref z.1] ∧ RowsTup H c rws ∧ EvR H z ∧ PyData.strOk z.2.1 = true ∧ (∀ r ∈ rwsEv rws, ∀ y ∈ r, PyData.strOk y.1 = true) ∧
  ∀ (v : V) (H' : Hp), Same H H' → PlcOk (rwsEv rws) z.2 v H' → Q v H'
theorem ok__law_place (T : Tx K mg) : FnOk P w K mg base CX0 1 T.a_law_place T.d_law_place P__law_place spLPlace := by
  refine T.f_law_place.ok sc__law_place (fun vs H Q E h => ?_) (fun cdv A outer s H vs Q E hr h => ?_)
  · obtain ⟨c, z, rws, rfl, _⟩ := h
    rfl
  obtain ⟨c, z, rws, rfl, hR, hz, okE, okr, q⟩ := h
  refine ⟨_, (pss_cons (ps_for PassesOwn.never rfl (pi_enumT (by rfl) T.enumerate (pa_cons (pv 0) pa_nil)) (pg_tup (by rfl) (pgs_cons (pg_name (i := 2) sc__law_place.nd rfl (Or.inl rfl)) (pgs_cons (pg_name (i := 3) sc__law_place.nd rfl (Or.inl rfl)) pgs_nil)))
    (pss_one (ps_if (pt_cmpR (inTH (un65p hr)) (pv 1) (pv 3) (by with_unfolding_all rfl))
        (pss_one (ps_ret (pe_tup (pa_cons (pv 2) (pa_cons (pe_op op_add pe_int (pe_bm PySem.F.plainAttrs_list PySem.F.slot_list_index PySem.F.type_list_index (mt_indexD (un65p hr)) (pe_callTy listH (by rfl) T.list (by decide +kernel) (pa_cons (pv 3) pa_nil)) (pa_cons (pv 1) pa_nil))) pa_nil)))))
        pss_nil)))
  (pss_one (ps_ret pe_non))), ?_⟩
  refine ⟨_, rfl, c, _, rfl, hR.hc, for_enumT (xs := rws.map fun r => V.ref r.1) (fun i σ H' => ∃ t2 t3 : Option V, σ = [some (.ref c), some (.ref z.1), t2, t3] ∧ Same H H' ∧ ∀ (j : Nat) (r' : List Ev), j < i → (rwsEv rws)[j]? = some r' → z.2 ∉ r') ?_ ?_ ?_ ?_⟩
  · exact ⟨_, _, rfl, fun _ _ h => h, fun j r' hj => absurd hj (Nat.not_lt_zero _)⟩
  · rintro i σ H' ⟨t2, t3, rfl, s, _⟩
    exact s _ _ hR.hc
  · rintro i x tp σ H3 hx ⟨t2', t3, rfl, s3, no⟩ nT
    rw [List.getElem?_map] at hx
    obtain ⟨r, hri, rfl⟩ := Option.map_eq_some_iff.mp hx
    have im := List.mem_of_getElem? hri
    have hrow : (rwsEv rws)[i]? = some (r.2.map (·.2)) := by unfold rwsEv; rw [List.getElem?_map, hri]; rfl
    have sT := same_new nT (.tup [V.int (i : Nat), V.ref r.1])
    have s4 := s3.trans sT
    have hr4 := s4 _ _ (hR.hr r im)
    have he4 : ∀ y ∈ r.2, EvR (upd H3 tp (.tup [V.int (i : Nat), V.ref r.1])) y := fun y hy => (hR.he r im y hy).keep (.same s4)
    have shR : SeqAt.shaped (.tuple ((r.2.map (·.2)).map evD)) = true := evs_shaped (okr _ (List.mem_of_getElem? hrow))
    have hz4 := EvR.keep hz (.same s4)
    have rt4 : Rp (upd H3 tp (.tup [V.int (i : Nat), V.ref r.1])) (.ref r.1) (.tuple ((r.2.map (·.2)).map evD)) := by
      rw [List.map_map]
      exact .tup hr4 (evs_rp he4)
    refine ⟨tp, _, rfl, .inl (.inl upd_same), rfl, _, _, rfl, _, _, rfl, rfl, ?_⟩
    refine ⟨_, rfl, _, rfl, evD z.2, (r.2.map (·.2)).map evD, ev_rp hz4, rt4, ev_shaped okE, shR, _, rfl, ?_⟩
    rw [any_ev]
    by_cases c' : z.2 ∈ r.2.map (·.2)
    · rw [decide_eq_true c']
      have lt := List.idxOf_lt_length_iff.mpr c'
      have ie : (r.2.map (·.2))[(r.2.map (·.2)).idxOf z.2]? = some z.2 := by rw [List.getElem?_eq_getElem lt, List.getElem_idxOf]
      have ix : ((r.2.map (·.2)).map evD)[(r.2.map (·.2)).idxOf z.2]? = some (evD z.2) := by
        rw [List.getElem?_map, ie]
        rfl
      refine iteT ⟨_, rfl, _, rfl, r.1, _, rfl, .inr hr4, fun l nl => ?_⟩
      have sl := same_new nl (.lst (r.2.map fun z => V.ref z.1))
      have dpl : Dp K (upd (upd H3 tp (.tup [V.int (i : Nat), V.ref r.1])) l (.lst (r.2.map fun z => V.ref z.1))) (.ref l) (.list ((r.2.map (·.2)).map evD)) := by
        rw [List.map_map]
        exact (Rp.lst upd_same (evs_rp fun y hy => (he4 y hy).keep (.same sl))).dp
      have dpe : Dp K (upd (upd H3 tp (.tup [V.int (i : Nat), V.ref r.1])) l (.lst (r.2.map fun z => V.ref z.1))) (.ref z.1) (evD z.2) := (ev_rp (EvR.keep hz4 (.same sl))).dp
      refine ⟨.inl ⟨rfl, _, .inl (.inl upd_same)⟩, _, rfl, l, _, evD z.2, _, (r.2.map (·.2)).idxOf z.2, evD z.2, rfl, rfl, dpl, dpe, shR, ev_shaped okE, ix, by rw [eqv_ev]; exact decide_eq_true rfl, ?_, _, _, rfl, rfl, (by show 2 ≤ sizeLine; decide), fun p np => ?_⟩
      · intro m z' hm hz'
        rw [List.getElem?_map] at hz'
        obtain ⟨y, hy, rfl⟩ := Option.map_eq_some_iff.mp hz'
        rw [eqv_ev]
        exact decide_eq_false fun e => idx_first hm (e ▸ hy)
      · refine q (.ref p) _ (s4.trans (sl.trans (same_new np _))) (.inl ⟨i, _, p, rfl, hrow, c', ?_⟩)
        rw [upd_same, Int.add_comm] <;> rfl
    · rw [decide_eq_false c']
      refine iteF ⟨_, _, rfl, s4, fun j r' hj hr' => ?_⟩
      by_cases e1 : j = i
      · subst e1
        rw [hrow] at hr'
        rw [← Option.some.inj hr']
        exact c'
      · exact no j r' (by omega) hr'
  · rintro σ H' ⟨t2', t3, rfl, s, no⟩
    refine q .non H' s (.inr ⟨rfl, fun r hr c' => ?_⟩)
    obtain ⟨j, hj⟩ := List.getElem?_of_mem hr
    have lj := (List.getElem?_eq_some_iff.mp hj).1
    refine no j r ?_ hj c'
    rw [List.length_map]
    unfold rwsEv at lj
    rw [List.length_map] at lj
    exact lj

end L2.K06
namespace L2.K06
open PySem PySem.Spec PyProof.Rows L2.My
open HQ (Ev evD)
variable {P : Program} {w : World} {K : PySem.W.Frag} {mg : Str → Option Value} {base : Heap}
theorem encR_lay : ∀ {rows : List (List Ev)}, (∀ r ∈ rows, ∀ y ∈ r, PyData.strOk y.1 = true) → (encR rows).canLay0 = true
  | [], _ => rfl
  | r :: rows, h => by
    have ih := encR_lay (rows := rows) fun r' hr => h r' (List.mem_cons_of_mem _ hr)
    have h1 := (evs_lay (h r List.mem_cons_self)).1
    have h2 : PyData.canLayAll0 (rows.map fun r => PyData.tuple (r.map evD)) = true := ih
    show (PyData.canLayAll0 (r.map evD) && PyData.canLayAll0 (rows.map fun r => PyData.tuple (r.map evD))) = true
    rw [h1, h2]
    rfl
theorem plc_one {rows : List (List Ev)} (nd : rows.flatten.Nodup) (e : Ev) : ∃ d : PyData, d.depth ≤ 1 ∧ slim d = true ∧ ∀ (v : V) (M : Hp), PlcOk rows e v M → Rp M v d := by
  by_cases h : ∃ (j : Nat) (r : List Ev), rows[j]? = some r ∧ e ∈ r
  · obtain ⟨j, r, hj, he⟩ := h
    refine ⟨.tuple [.int (j : Nat), .int ((r.idxOf e : Nat) + 1)], by simp [PyData.depth, PyData.depthAll], by simp [slim, slims], fun v M pk => ?_⟩
    rcases pk with ⟨j', r', p, rfl, hj', he', hp⟩ | ⟨_, no⟩
    · have := row_one nd hj hj' he he'
      subst this
      rw [hj] at hj'
      cases hj'
      exact .tup hp (.cons (.int _) (.cons (.int _) .nil))
    · exact absurd he (no r (List.mem_of_getElem? hj))
  · refine ⟨.none, by simp [PyData.depth], rfl, fun v M pk => ?_⟩
    rcases pk with ⟨j', r', p, rfl, hj', he', hp⟩ | ⟨rfl, no⟩
    · exact absurd ⟨j', r', hj', he'⟩ h
    · exact .non
def stpO (f : Ev → List (Addr × Ev)) (rows : List (List Ev)) (e : Ev) : PyData := stpD ((f e).map (·.2)) rows e
theorem BQ.but {H H' : Hp} {b od : Addr} {c : Int} {es : List Ev} {ad : Ev → Addr} {f : Ev → List (Addr × Ev)} (hB : Bx H b c) (h : BQ H od es ad f) (k : But b H H') : BQ H' od es ad f := by
  obtain ⟨bx, bs, bk, hb3, _⟩ := id hB
  have tk : My.TK H H' := fun a xs e => k a _ (fun z => by rw [z, hb3] at e; cases e) e
  refine ⟨k _ _ (ne_of h.hD hb3 (by intro z; cases z)) h.hD, fun e he => k _ _ (fun z => ?_) (h.hz e he), fun e he y hy => (h.he e he y hy).keep tk⟩
  have g := h.hz e he
  rw [z, hb3] at g
  cases fe : f e with
  | nil => rw [fe] at g; simp at g
  | cons y ys => rw [fe] at g; simp at g
def spRight : Sp := fun vs H Q _ => ∃ (b : Addr), vs = [.ref b] ∧ Bx H b 0 ∧ ∀ H', But b H H' → Q (.bl true) H'
theorem ok__law_right (T : Tx K mg) (kbstamps : KBinds K T.dstamps P_stamps ["counters", "log"] g2 gV2) (kbcounted : KBinds K T.dcounted P_counted P_counted g1 gV1) (kbhanded : KBinds K T.dhanded P_handed P_handed g1 gV1) (kbstamp : KBinds K T.dstamp P_stamp ["event", "counters", "log"] g3 gV3) (kbplace : KBinds K T.dplace P_place ["event", "counters"] g2 gV2) :
    FnOk P w K mg base CX0 11 T.a_law_right T.d_law_right P__law_right spRight := by
  have G__law_take := ok__law_take (P := P) (w := w) (base := base) T
  have G__law_log := ok__law_log (P := P) (w := w) (base := base) T
  have G__law_lists := ok__law_lists (P := P) (w := w) (base := base) T 7
  have G__law_same := ok__law_same (P := P) (w := w) (base := base) T 7
  have G__law_events := ok__law_events (P := P) (w := w) (base := base) T
  have G__law_marked := ok__law_marked (P := P) (w := w) (base := base) T
  have G__law_order := ok__law_order (P := P) (w := w) (base := base) T
  have G__law_counters := ok__law_counters (P := P) (w := w) (base := base) T
  have G__law_stamp := ok__law_stamp (P := P) (w := w) (base := base) T
  have G__law_place := ok__law_place (P := P) (w := w) (base := base) T
  have G__law_handed := ok__law_handed (P := P) (w := w) (base := base) T
  have G__law_refused := ok__law_refused (P := P) (w := w) (base := base) T
  have G_stamps := ok_stamps (P := P) (w := w) (base := base) T
  have G_counted := ok_counted (P := P) (w := w) (base := base) T
  have G_handed := ok_handed (P := P) (w := w) (base := base) T
  have G_stamp := ok_stamp (P := P) (w := w) (base := base) T
  have G_place := ok_place (P := P) (w := w) (base := base) T
  refine T.f_law_right.ok sc__law_right (fun vs H Q E h => ?_) (fun cdv A outer s H vs Q E hr h => ?_)
  · obtain ⟨b, rfl, _⟩ := h
    rfl
  obtain ⟨b, rfl, hB, q⟩ := h
  have hu := hu_of hr
  refine ⟨_, (pss_cons (ps_for PassesOwn.never rfl (pi_range1 (by rfl) T.range (pa_cons pe_int pa_nil)) (pg_name (i := 1) sc__law_right.nd rfl (Or.inl rfl))
    (pss_cons (ps_set (i := 2) sc__law_right.nd rfl (Or.inl rfl) (pe_call G__law_log (hr.mono (by decide)) (by rfl) T.m_law_log T.f_law_log.kp T.b_law_log .nil pass0 (pa_cons (pv 0) (pa_cons (pe_op op_add pe_int (pe_call G__law_take (hr.mono (by decide)) (by rfl) T.m_law_take T.f_law_take.kp T.b_law_take .nil pass0 (pa_cons (pv 0) (pa_cons pe_int pa_nil)))) (pa_cons (pe_call G__law_take (hr.mono (by decide)) (by rfl) T.m_law_take T.f_law_take.kp T.b_law_take .nil pass0 (pa_cons (pv 0) (pa_cons pe_int pa_nil))) (pa_cons pe_int (pa_cons pe_int pa_nil)))))))
      (pss_cons (ps_asg (pe_tup (pa_cons (pe_call G__law_lists (hr.mono (by decide)) (by rfl) T.m_law_lists T.f_law_lists.kp T.b_law_lists .nil pass0 (pa_cons (pv 2) pa_nil)) (pa_cons (pe_call G__law_order (hr.mono (by decide)) (by rfl) T.m_law_order T.f_law_order.kp T.b_law_order .nil pass0 (pa_cons (pv 2) pa_nil)) (pa_cons (pe_call G__law_marked (hr.mono (by decide)) (by rfl) T.m_law_marked T.f_law_marked.kp T.b_law_marked .nil pass0 (pa_cons (pv 2) pa_nil)) pa_nil)))) (pg_tup (by rfl) (pgs_cons (pg_name (i := 3) sc__law_right.nd rfl (Or.inl rfl)) (pgs_cons (pg_name (i := 4) sc__law_right.nd rfl (Or.inr rfl)) (pgs_cons (pg_name (i := 5) sc__law_right.nd rfl (Or.inl rfl)) pgs_nil)))))
      (pss_cons (ps_set (i := 6) sc__law_right.nd rfl (Or.inr rfl) (pe_op op_catS (pe_call G__law_counters (hr.mono (by decide)) (by rfl) T.m_law_counters T.f_law_counters.kp T.b_law_counters .nil pass0 (pa_cons (pv 0) (pa_cons (pv 4) (pa_cons (pv 5) (pa_cons (pe_op op_add pe_int (pe_call G__law_take (hr.mono (by decide)) (by rfl) T.m_law_take T.f_law_take.kp T.b_law_take .nil pass0 (pa_cons (pv 0) (pa_cons pe_int pa_nil)))) pa_nil))))) (pe_op op_mulS (pe_tup (pa_cons (pe_tup pa_nil) pa_nil)) (pe_callTy call_int1 (by rfl) T.int (by decide +kernel) (pa_cons (pe_cmpR op_eq (pe_call G__law_take (hr.mono (by decide)) (by rfl) T.m_law_take T.f_law_take.kp T.b_law_take .nil pass0 (pa_cons (pv 0) (pa_cons pe_int pa_nil))) pe_int (nomark _)) pa_nil)))))
      (pss_cons (ps_par (i := 7) (j := 8) (by rfl) sc__law_right.nd rfl rfl (by decide) rfl rfl (pa_cons (pe_call G__law_lists (hr.mono (by decide)) (by rfl) T.m_law_lists T.f_law_lists.kp T.b_law_lists .nil pass0 (pa_cons (pv 6) pa_nil)) (pa_cons (pe_lst pa_nil) pa_nil)) (by rfl))
      (pss_cons (ps_for PassesOwn.never rfl (pi_tupK (K := K) rfl (pv 6)) (pg_name (i := 9) sc__law_right.nd rfl (Or.inl rfl))
        (pss_one (ps_set (i := 8) sc__law_right.nd rfl (Or.inl rfl) (pe_op op_cat (pv 8) (pe_callTy listH (by rfl) T.list (by decide +kernel) (pa_cons (pv 9) pa_nil))))))
      (pss_cons (ps_set (i := 10) sc__law_right.nd rfl (Or.inl rfl) (pe_lst (pa_cons (pe_lc (own := [("_law_own", 11)]) (g := (gName 11)) rfl sc__law_right.nd (pi_listK (K := K) rfl (pv 5)) (blkOk_by (own := [("_law_own", 11)]) (N := N__law_right) (sc := defScope s__law_right) (by decide +kernel)) (fun _ _ _ _ _ => (pg_name (i := 11) sc__law_right.nd rfl (Or.inl rfl))) (fun _ _ _ _ _ => pts_nil) (fun _ _ _ _ _ => (pe_tup (pa_cons (pv 11) (pa_cons (pe_call G__law_stamp (hr.mono (by decide)) (by rfl) T.m_law_stamp T.f_law_stamp.kp T.b_law_stamp .nil pass0 (pa_cons (pv 4) (pa_cons (pv 6) (pa_cons (pv 11) pa_nil)))) pa_nil))))) (pa_cons (pe_callB (sortH hr.units) (by rfl) T.sorted (by decide +kernel) (pa_cons (pv 8) pa_nil)) (pa_cons (pe_call G__law_handed (hr.mono (by decide)) (by rfl) T.m_law_handed T.f_law_handed.kp T.b_law_handed .nil pass0 (pa_cons (pv 6) pa_nil)) pa_nil)))))
      (pss_cons (ps_set (i := 12) sc__law_right.nd rfl (Or.inl rfl) (pe_lst (pa_cons (pe_call G_stamps (hr.mono (by decide)) (by rfl) T.mstamps T.fstamps.kp T.bstamps .nil pass0 (pa_cons (pv 2) (pa_cons (pv 6) pa_nil))) (pa_cons (pe_call G_counted (hr.mono (by decide)) (by rfl) T.mcounted T.fcounted.kp T.bcounted .nil pass0 (pa_cons (pv 6) pa_nil)) (pa_cons (pe_call G_handed (hr.mono (by decide)) (by rfl) T.mhanded T.fhanded.kp T.bhanded .nil pass0 (pa_cons (pv 6) pa_nil)) pa_nil)))))
      (pss_cons (ps_set (i := 13) sc__law_right.nd rfl (Or.inl rfl) (pe_lst (pa_cons (pe_named G_stamps (hr.mono (by decide)) (by rfl) T.mstamps T.fstamps.kp kbstamps pass0 (pk_cons (pv 7) (pk_cons (pv 3) pk_nil))) (pa_cons (pe_named G_counted (hr.mono (by decide)) (by rfl) T.mcounted T.fcounted.kp kbcounted pass0 (pk_cons (pv 7) pk_nil)) (pa_cons (pe_named G_handed (hr.mono (by decide)) (by rfl) T.mhanded T.fhanded.kp kbhanded pass0 (pk_cons (pv 7) pk_nil)) pa_nil)))))
      (pss_cons (ps_if (pt_not (pt_val (pe_call G__law_same (hr.mono (by decide)) (by rfl) T.m_law_same T.f_law_same.kp T.b_law_same .nil pass0 (pa_cons (pe_lst (pa_cons (pv 12) (pa_cons (pv 13) pa_nil))) (pa_cons (pe_lst (pa_cons (pv 10) (pa_cons (pv 10) pa_nil))) pa_nil)))))
        (pss_one (ps_ret pe_bl))
        pss_nil)
      (pss_cons (ps_for PassesOwn.never rfl (pi_listK (K := K) rfl (pv 12)) (pg_name (i := 11) sc__law_right.nd rfl (Or.inl rfl))
        (pss_one (ps_expr (pe_bm PySem.F.plainAttrs_list PySem.F.slot_list_append PySem.F.type_list_append mt_append (pv 11) (pa_cons pe_str pa_nil)))))
      (pss_cons (ps_if (pt_not (pt_val (pe_call G__law_same (hr.mono (by decide)) (by rfl) T.m_law_same T.f_law_same.kp T.b_law_same .nil pass0 (pa_cons (pe_lst (pa_cons (pe_call G_stamps (hr.mono (by decide)) (by rfl) T.mstamps T.fstamps.kp T.bstamps .nil pass0 (pa_cons (pv 2) (pa_cons (pv 6) pa_nil))) (pa_cons (pe_call G_counted (hr.mono (by decide)) (by rfl) T.mcounted T.fcounted.kp T.bcounted .nil pass0 (pa_cons (pv 6) pa_nil)) (pa_cons (pe_call G_handed (hr.mono (by decide)) (by rfl) T.mhanded T.fhanded.kp T.bhanded .nil pass0 (pa_cons (pv 6) pa_nil)) pa_nil)))) (pa_cons (pv 10) pa_nil)))))
        (pss_one (ps_ret pe_bl))
        pss_nil)
      (pss_cons (ps_for PassesOwn.never rfl (pi_listK (K := K) rfl (pe_call G__law_events (hr.mono (by decide)) (by rfl) T.m_law_events T.f_law_events.kp T.b_law_events .nil pass0 (pa_cons (pv 2) pa_nil))) (pg_name (i := 14) sc__law_right.nd rfl (Or.inl rfl))
        (pss_cons (ps_set (i := 12) sc__law_right.nd rfl (Or.inl rfl) (pe_lst (pa_cons (pe_call G_stamp (hr.mono (by decide)) (by rfl) T.mstamp T.fstamp.kp T.bstamp .nil passF (pa_cons (pv 2) (pa_cons (pv 6) (pa_cons (pv 14) pa_nil)))) (pa_cons (pe_named G_stamp (hr.mono (by decide)) (by rfl) T.mstamp T.fstamp.kp kbstamp passF (pk_cons (pe_callTy listH (by rfl) T.list (by decide +kernel) (pa_cons (pv 14) pa_nil)) (pk_cons (pv 7) (pk_cons (pv 3) pk_nil)))) pa_nil))))
          (pss_cons (ps_if (pt_not (pt_val (pe_call G__law_same (hr.mono (by decide)) (by rfl) T.m_law_same T.f_law_same.kp T.b_law_same .nil pass0 (pa_cons (pv 12) (pa_cons (pe_op op_rep (pe_lst (pa_cons (pe_call G__law_stamp (hr.mono (by decide)) (by rfl) T.m_law_stamp T.f_law_stamp.kp T.b_law_stamp .nil pass0 (pa_cons (pv 4) (pa_cons (pv 6) (pa_cons (pv 14) pa_nil)))) pa_nil)) pe_int) pa_nil)))))
            (pss_one (ps_ret pe_bl))
            pss_nil)
          (pss_cons (ps_set (i := 12) sc__law_right.nd rfl (Or.inl rfl) (pe_lst (pa_cons (pe_call G_place (hr.mono (by decide)) (by rfl) T.mplace T.fplace.kp T.bplace .nil pass0 (pa_cons (pv 6) (pa_cons (pv 14) pa_nil))) (pa_cons (pe_named G_place (hr.mono (by decide)) (by rfl) T.mplace T.fplace.kp kbplace pass0 (pk_cons (pe_callTy listH (by rfl) T.list (by decide +kernel) (pa_cons (pv 14) pa_nil)) (pk_cons (pv 7) pk_nil))) pa_nil))))
          (pss_one (ps_if (pt_not (pt_val (pe_call G__law_same (hr.mono (by decide)) (by rfl) T.m_law_same T.f_law_same.kp T.b_law_same .nil pass0 (pa_cons (pv 12) (pa_cons (pe_op op_rep (pe_lst (pa_cons (pe_call G__law_place (hr.mono (by decide)) (by rfl) T.m_law_place T.f_law_place.kp T.b_law_place .nil pass0 (pa_cons (pv 6) (pa_cons (pv 14) pa_nil))) pa_nil)) pe_int) pa_nil)))))
            (pss_one (ps_ret pe_bl))
            pss_nil))))))
      (pss_cons (ps_for PassesOwn.never rfl (pi_tupK (K := K) rfl (pe_tup (pa_cons (pe_tup (pa_cons pe_str (pa_cons pe_int pa_nil))) (pa_cons (pe_tup (pa_cons (pe_ix ixT (pe_ix ixT (pe_ix ixT (pv 2) pe_int (fun _ _ => rfl)) pe_int (fun _ _ => rfl)) pe_int (fun _ _ => rfl)) (pa_cons (pe_ix ixT (pe_ix ixT (pe_ix ixT (pv 2) pe_int (fun _ _ => rfl)) pe_int (fun _ _ => rfl)) pe_int (fun _ _ => rfl)) pa_nil))) pa_nil)))) (pg_name (i := 15) sc__law_right.nd rfl (Or.inl rfl))
        (pss_cons (ps_set (i := 12) sc__law_right.nd rfl (Or.inl rfl) (pe_lst (pa_cons (pe_call G__law_refused (hr.mono (by decide)) (by rfl) T.m_law_refused T.f_law_refused.kp T.b_law_refused .nil pass0 (pa_cons (pv 2) (pa_cons (pv 6) (pa_cons (pv 15) pa_nil)))) (pa_cons (pe_call G__law_refused (hr.mono (by decide)) (by rfl) T.m_law_refused T.f_law_refused.kp T.b_law_refused .nil pass0 (pa_cons (pv 3) (pa_cons (pv 7) (pa_cons (pe_callTy listH (by rfl) T.list (by decide +kernel) (pa_cons (pv 15) pa_nil)) pa_nil)))) (pa_cons (pe_call G_place (hr.mono (by decide)) (by rfl) T.mplace T.fplace.kp T.bplace .nil pass0 (pa_cons (pv 6) (pa_cons (pv 15) pa_nil))) pa_nil)))))
          (pss_one (ps_if (pt_not (pt_val (pe_call G__law_same (hr.mono (by decide)) (by rfl) T.m_law_same T.f_law_same.kp T.b_law_same .nil pass0 (pa_cons (pv 12) (pa_cons (pe_lst (pa_cons (pv 15) (pa_cons (pv 15) (pa_cons pe_non pa_nil)))) pa_nil)))))
            (pss_one (ps_ret pe_bl))
            pss_nil))))
      (pss_one (ps_if (PW.pt (pw_or (pt_cmpR (neH hr.units) (pv 3) (pe_call G__law_lists (hr.mono (by decide)) (by rfl) T.m_law_lists T.f_law_lists.kp T.b_law_lists .nil pass0 (pa_cons (pv 2) pa_nil)) (nomark _)) (pw_or1 (pt_cmpR (neH hr.units) (pv 7) (pe_call G__law_lists (hr.mono (by decide)) (by rfl) T.m_law_lists T.f_law_lists.kp T.b_law_lists .nil pass0 (pa_cons (pv 6) pa_nil)) (nomark _)))))
        (pss_one (ps_ret pe_bl))
        pss_nil))))))))))))))))
  (pss_one (ps_ret pe_bl))), ?_⟩
  refine ⟨3, rfl, by decide, by decide, for_range (n := 3) (fun i σ H' => ∃ (t1 t2 t3 t4 t5 t6 t7 t8 t9 t10 t11 t12 t13 t14 t15 : Option V), σ = [some (.ref b), t1, t2, t3, t4, t5, t6, t7, t8, t9, t10, t11, t12, t13, t14, t15] ∧ Bx H' b (1200 * i) ∧ But b H H') ?_ ?_ ?_⟩
  · exact ⟨_, _, _, _, _, _, _, _, _, _, _, _, _, _, _, rfl, hB, But.refl _ _⟩
  · rintro i σ H0 hi ⟨t1, t2, t3, t4, t5, t6, t7, t8, t9, t10, t11, t12, t13, t14, t15, rfl, hB0, k0⟩
    refine ⟨_, rfl, _, rfl, b, 5, _, rfl, hB0, by omega, by decide, by decide, fun r1 H1 a1 a2 hB1 k1 => ⟨1, r1, rfl, rfl, ?_⟩⟩
    refine ⟨_, rfl, b, 17, _, rfl, hB1, by omega, by decide, by decide, fun r2 H2 c1 c2 hB2 k2 => ?_⟩
    refine ⟨b, 1 + r1, r2, 8, 12, _, rfl, hB2, by omega, by omega, by omega, by omega, by omega, fun v H3 L hG hn hpl hms hT hB3 k3 => ?_⟩
    have k03 := ((k0.trans k1).trans k2).trans k3
    clear k0 k1 k2 k3 hB0 hB1 hB2
    obtain ⟨f1, f2, f3⟩ := log_facts hG
    obtain ⟨e1, e2, e3⟩ := lst_facts (encLog L)
    have le16 := hG.few.1
    -- the list form, the order, the marked ones
    refine ⟨_, rfl, v, _, rfl, hT.rp, by omega, f1, fun sv H4 s4 nv => ?_⟩
    refine ⟨_, rfl, v, L, rfl, hT.keep (.same s4), hG, fun od H5 o ad f s5 nod hO ho hf => ?_⟩
    refine ⟨_, rfl, v, L, rfl, hT.keep (.same (s4.trans s5)), hG, fun sm H6 zs s6 nsm hsm hzs ez => ⟨(by show 3 ≤ sizeLine; decide), fun tp ntp => ⟨tp, _, rfl, .inl (.inl upd_same), rfl, _, _, rfl, _, _, rfl, _, _, rfl, rfl, ?_⟩⟩⟩
    have s7 := same_new ntp (.tup [sv, V.ref od, V.ref sm])
    have s37 := s4.trans (s5.trans (s6.trans s7))
    obtain ⟨xb3, hxb3⟩ := hB3.lst
    have smb : sm ≠ b := fun e => by rw [e, s5 _ _ (s4 _ _ hxb3)] at nsm; cases nsm
    have hO7 := (hO.same s6).same s7
    have hsm7 := s7 _ _ hsm
    have hzs7 : ∀ z ∈ zs, EvR (upd H6 tp (.tup [sv, V.ref od, V.ref sm])) z := fun z hz => (hzs z hz).keep (.same s7)
    have hT7 := hT.keep (.same s37)
    have nv7 := nv.keep (.same (s5.trans (s6.trans s7)))
    have hB7 := hB3.same s37
    generalize (upd H6 tp (.tup [sv, V.ref od, V.ref sm])) = H7 at s37 hO7 hsm7 hzs7 hT7 nv7 hB7 ⊢
    clear s4 s5 s6 s7 hO hsm hzs nod nsm ntp nv
    have lz : zs.length ≤ 16 := by rw [← List.length_map (·.2), ez]; exact mkd_len hG
    have l6 : ∀ e ∈ o, (f e).length ≤ 1000 := fun e he => by
      have h1 : ((f e).map (·.2)).length ≤ (evs L).length := len_sub (hf e he).1 fun x hx => Ah.mem hG (((hf e he).2 x).mp hx)
      rw [List.length_map] at h1
      omega
    -- the counters
    refine ⟨_, rfl, _, rfl, _, rfl, _, rfl, b, 5, _, rfl, hB7, by omega, by decide, by decide, fun r3 H8 d1 d2 hB8 k8 => ⟨1, r3, rfl, rfl, ?_⟩⟩
    have hO8 := BQ.but hB7 hO7 k8
    obtain ⟨xb7, hxb7⟩ := hB7.lst
    have tk8 := k8.tk hxb7
    have hsm8 := k8 _ _ smb hsm7
    refine ⟨b, od, sm, 1 + r3, _, L, o, ad, f, zs, rfl, hB8, by omega, hG, hO8, ho, fun e he => (hf e he).2, l6, hsm8, fun z hz => (hzs7 z hz).keep tk8, ez, by omega, by omega, fun c0 H9 rws0 hR0 okR0 lR0 hB9 k9 => ?_⟩
    have hO9 := BQ.but hB8 hO8 k9
    obtain ⟨xb8, hxb8⟩ := hB8.lst
    have tk9 := k9.tk hxb8
    have hsm9 := k9 _ _ smb hsm8
    refine ⟨(by show 0 ≤ sizeLine; decide), fun q0 nq0 => ⟨(by show 1 ≤ sizeLine; decide), fun q1 nq1 => ?_⟩⟩
    have s10 := (same_new nq0 (.tup [])).trans (same_new nq1 (.tup [V.ref q0]))
    have hq0 : (upd (upd H9 q0 (.tup [])) q1 (.tup [V.ref q0])) q0 = some (.tup []) := same_new nq1 _ _ _ upd_same
    have hq1 : (upd (upd H9 q0 (.tup [])) q1 (.tup [V.ref q0])) q1 = some (.tup [V.ref q0]) := upd_same
    have hBX := hB9.same s10
    obtain ⟨xbX, hxbX⟩ := hBX.lst
    refine ⟨_, rfl, b, 3, _, rfl, hBX, by omega, by decide, by decide, fun r4 H11 g1 g2 hB11 k11 => ⟨rfl, .inr ⟨_, rfl, q1, _, [V.ref q0], rfl, rfl, k11.tk hxbX _ _ hq1, (by simp), fun m1 H12 s12 hm1 => ⟨c0, m1, _, _, rfl, rfl, s12 _ _ (k11.tk hxbX _ _ (s10 _ _ hR0.hc)), hm1, ?_, fun c H13 s13 hc => ?_⟩⟩⟩⟩
    · have : (if decide (V.int r4 = V.int 0) = true then [V.ref q0] else ([] : List V)).length ≤ 1 := by split <;> simp
      rw [List.length_map, sizeLine_eq]
      omega
    have tk11 := k11.tk hxbX
    have tk13 := tk11.trans (.same (s12.trans s13))
    have hq0' := tk13 _ _ hq0
    obtain ⟨rws, hR, okR, lR⟩ : ∃ rws, RowsTup H13 c rws ∧ RowsOk L (rwsEv rws) ∧ rws.length ≤ 6 := by
      have hR9 := hR0.keep (.same s10)
      have hR13 := hR9.keep tk13
      cases eb : decide (V.int r4 = V.int 0) with
      | false =>
        rw [eb] at hc
        exact ⟨rws0, ⟨by rw [hc]; simp, hR13.hr, hR13.he⟩, okR0, by omega⟩
      | true =>
        rw [eb] at hc
        refine ⟨rws0 ++ [(q0, [])], ⟨by rw [hc, List.map_append]; rfl, fun r hr => ?_, fun r hr => ?_⟩, ?_, by rw [List.length_append]; show rws0.length + 1 ≤ 6; omega⟩
        · rcases List.mem_append.mp hr with z | z
          · exact hR13.hr r z
          · rw [List.mem_singleton.mp z]
            exact hq0'
        · rcases List.mem_append.mp hr with z | z
          · exact hR13.he r z
          · rw [List.mem_singleton.mp z]
            exact fun _ h => nomatch h
        · have := ok_bare okR0
          unfold rwsEv at this ⊢
          rw [List.map_append]
          exact this
    have hO13 := ((BQ.but hBX (hO9.same s10) k11).same s12).same s13
    have hsm13 := s13 _ _ (s12 _ _ (k11 _ _ smb (s10 _ _ hsm9)))
    have tkA := (((tk8.trans tk9).trans (.same s10)).trans tk13)
    have hzs13 : ∀ z ∈ zs, EvR H13 z := fun z hz => (hzs7 z hz).keep tkA
    have hT13 : Tp H13 v (encLog L) := hT7.keep tkA
    have kb13 : But b H7 H13 := ((k8.trans k9).trans (.of s10)).trans (k11.trans (.of (s12.trans s13)))
    have nv13 : Nw H3 H13 sv (lstD (encLog L)) := nv7.keep ⟨fun a o n e => kb13 a o (fun z => by rw [z, hxb3] at n; cases n) e, tkA⟩
    have hB13 := (hB11.same s12).same s13
    have kAll : But b H H13 := (k03.trans (.of s37)).trans kb13
    clear kb13 tkA hq0' tk13 tk11 hc hm1 s13 s12 hB11 k11 hxbX hBX hq1 hq0 s10 nq1 nq0 hsm9 tk9 hxb8 hO9 hB9 k9 hR0 okR0 hsm8 tk8 hxb7 hO8 hB8 k8 hB7 nv7 hT7 hzs7 hsm7 hO7 s37
    have lre : (rwsEv rws).length ≤ 6 := by unfold rwsEv; rw [List.length_map]; exact lR
    have lrow : ∀ r ∈ rwsEv rws, r.length ≤ 16 := fun r hr => okR.row_len hG hr
    have slR : slim (encR (rwsEv rws)) = true := slim_encR (by omega) fun r hr => by have := lrow r hr; omega
    have okS : ∀ r ∈ rwsEv rws, ∀ y ∈ r, PyData.strOk y.1 = true := fun r hr => okR.strs hG hr
    have okr : ∀ r ∈ rwsEv rws, r.length ≤ 1000 ∧ ∀ y ∈ r, PyData.strOk y.1 = true := fun r hr => ⟨by have := lrow r hr; omega, okS r hr⟩
    have lfl : (rwsEv rws).flatten.length ≤ 16 := Nat.le_trans (len_sub okR.nd okR.mem) (mkd_len hG)
    have dpR := depth_encR (rwsEv rws)
    obtain ⟨d1', d2', d3'⟩ := lst_facts (encR (rwsEv rws))
    -- the list form of the rows; all that are counted
    refine ⟨_, rfl, .ref c, encR (rwsEv rws), rfl, rows_rp hR, by omega, slR, fun dv H14 s14 nd => ⟨(by show 0 ≤ sizeLine; decide), fun ev nev => ⟨_, _, rfl, ?_⟩⟩⟩
    have s15 := same_new nev (.lst [])
    refine ⟨_, rfl, c, rfl, ⟨_, .inl (.inl (s15 _ _ (s14 _ _ hR.hc)))⟩, for_tup (xs := rws.map fun r => V.ref r.1) (fun k σ G => ∃ (t9 : Option V) (p : Addr) (ys : List (Addr × Ev)), σ = [some (.ref b), some (V.int (0 + (i : Int))), some v, some sv, some (.ref od), some (.ref sm), some (.ref c), some dv, some (.ref p), t9, t10, t11, t12, t13, t14, t15] ∧ Same H14 G ∧
      G p = some (.lst (ys.map fun z => V.ref z.1)) ∧ (∀ z ∈ ys, EvR G z) ∧ ys.map (·.2) = ((rwsEv rws).take k).flatten) ?_ ?_ ?_ ?_⟩
    · exact ⟨_, ev, [], rfl, s15, upd_same, (fun _ h => nomatch h), rfl⟩
    · rintro k σ G _ ⟨t9, p, ys, rfl, s, _⟩
      exact .inl (.inl (s _ _ (s14 _ _ hR.hc)))
    · rintro k x σ G hx ⟨t9, p, ys, rfl, s, hp, hy, ey⟩
      rw [List.getElem?_map] at hx
      obtain ⟨r, hri, rfl⟩ := Option.map_eq_some_iff.mp hx
      have im := List.mem_of_getElem? hri
      have hrow : (rwsEv rws)[k]? = some (r.2.map (·.2)) := by unfold rwsEv; rw [List.getElem?_map, hri]; rfl
      have hRG := (hR.keep (.same s14)).keep (.same s)
      have l1 : ys.length ≤ 16 := by
        rw [← List.length_map (·.2), ey]
        have h := congrArg (fun l : List (List Ev) => l.flatten.length) (List.take_append_drop k (rwsEv rws))
        simp only [List.flatten_append, List.length_append] at h
        omega
      have l2 : r.2.length ≤ 16 := by
        have := lrow _ (List.mem_of_getElem? hrow)
        rw [List.length_map] at this
        exact this
      refine ⟨_, rfl, _, rfl, r.1, _, rfl, .inr (hRG.hr r im), fun l nl => ⟨p, l, _, _, rfl, rfl, same_new nl _ _ _ hp, upd_same, by rw [List.length_map, List.length_map, sizeLine_eq]; omega, fun p' np' => ?_⟩⟩
      have sx := (same_new nl (.lst (r.2.map fun z => V.ref z.1))).trans (same_new np' (.lst ((ys.map fun z => V.ref z.1) ++ (r.2.map fun z => V.ref z.1))))
      refine ⟨_, p', ys ++ r.2, rfl, s.trans sx, by rw [List.map_append]; exact upd_same, fun z hz => ?_, ?_⟩
      · rcases List.mem_append.mp hz with c' | c'
        · exact EvR.keep (hy z c') (.same sx)
        · exact EvR.keep (hRG.he r im z c') (.same sx)
      · rw [tk_snoc hrow, List.flatten_append, List.map_append, ey]
        simp
    rintro σ G ⟨t9, p8, ys, rfl, sG, hp8, hy8, ey8⟩
    have ey8 : ys.map (·.2) = (rwsEv rws).flatten := by
      rw [ey8, List.length_map, List.take_of_length_le (by unfold rwsEv; rw [List.length_map]; exact Nat.le_refl _)]
    have sH := s14.trans sG
    have hRG := hR.keep (.same sH)
    have hOG := hO13.same sH
    have hTG := hT13.keep (.same sH)
    have nvG := nv13.keep (.same sH)
    have nd : Nw H13 G dv (lstD (encR (rwsEv rws))) := nd.keep (.same sG)
    have hsmG := sH _ _ hsm13
    have hzsG : ∀ z ∈ zs, EvR G z := fun z hz => (hzs13 z hz).keep (.same sH)
    have hBG := hB13.same sH
    have kG : But b H G := kAll.trans (.of sH)
    have lys : ys.length ≤ 16 := by rw [← List.length_map (·.2), ey8]; exact lfl
    clear sH sG s15 s14 nev hR hO13 hT13 nv13 hsm13 hzs13 hB13 kAll
    have imk : ∀ z ∈ zs, z.2 ∈ evs L := fun z hz => mkd_sub hG (by rw [← ez]; exact List.mem_map.mpr ⟨z, hz, rfl⟩)
    have okN : ∀ e ∈ evs L, PyData.strOk e.1 = true := fun e he => by
      obtain ⟨k, mk, hm, _⟩ := mem_evs.mp (show (e.1, e.2) ∈ evs L from he)
      exact hG.txt _ hm
    have okf : ∀ e ∈ o, ∀ x ∈ (f e).map (·.2), PyData.strOk x.1 = true := fun e he x hx => okN x (Ah.mem hG (((hf e he).2 x).mp hx))
    have okr' : ∀ r ∈ rws, r.2.length ≤ 1000 ∧ ∀ y ∈ r.2, PyData.strOk y.2.1 = true := fun r hr => by
      obtain ⟨g1, g2⟩ := okr (r.2.map (·.2)) (List.mem_map.mpr ⟨r, hr, rfl⟩)
      rw [List.length_map] at g1
      exact ⟨g1, fun y hy => g2 y.2 (List.mem_map.mpr ⟨y, hy, rfl⟩)⟩
    -- what is due
    refine ⟨_, rfl, sm, rfl, ⟨_, .inl (.inl hsmG)⟩, fun D nD => ?_⟩
    refine lc_mapL hsmG nD (by rw [List.length_map, sizeLine_eq]; omega) (fun j y H' => ∃ z : Addr × Ev, zs[j]? = some z ∧ Tp H' y (stpO f (rwsEv rws) z.2)) (fun j y Ha Hb s ⟨z, h1, h2⟩ => ⟨z, h1, h2.keep (.same s)⟩) (fun j y Ha ws u hD ⟨z, h1, h2⟩ => ⟨z, h1, h2.keep (tk_upd hD u)⟩) (fun _ => rfl) ?_ ?_
    · intro j x Ha Q' hx sa _ kk
      rw [List.getElem?_map] at hx
      obtain ⟨z, hzi, rfl⟩ := Option.map_eq_some_iff.mp hx
      have hz := List.mem_of_getElem? hzi
      have ie := imk z hz
      have io := (ho z.2).mpr ie
      have rz : EvR Ha z := (hzsG z hz).keep (.same sa)
      refine ⟨_, rfl, _, rfl, _, rfl, _, rfl, od, c, z, L, o, ad, f, rws, rfl, hOG.same sa, io, hRG.keep (.same sa), rz, okN _ ie, okf _ io, l6 _ io, okr', by omega, fun sp Hb sb hsp => ⟨(by show 2 ≤ sizeLine; decide), fun tp ntp => ?_⟩⟩
      have st := same_new ntp (.tup [V.ref z.1, V.ref sp])
      refine kk _ _ (sb.trans st) ⟨z, hzi, .tup upd_same (.cons (ev_tp (EvR.keep rz (.same (sb.trans st)))) (.cons (.tup (st _ _ hsp) ?_) .nil))⟩
      have := ints_tp (H := upd Hb tp (.tup [V.ref z.1, V.ref sp])) ((rwsEv rws).map fun r => ((cntIn ((f z.2).map (·.2)) z.2 r : Nat) : Int))
      unfold rwsEv at this ⊢
      rw [List.map_map, List.map_map, List.map_map, List.map_map] at this
      rw [List.map_map]
      exact this
    intro G1 vs1 sg1 hD1 lv1 hP1
    -- what is counted, what goes over
    refine ⟨_, rfl, ?_⟩
    dsimp only [tNil]
    refine srt_evs (sg1 _ _ hp8) (fun z hz => (hy8 z hz).keep (.same sg1)) (by omega) fun p2 ws2 np2 pm2 pw2 hw2 => ?_
    have sg2 := same_new np2 (.lst (ws2.map fun z => V.ref z.1))
    refine ⟨_, rfl, c, rws, rfl, hRG.keep (.same (sg1.trans sg2)), fun r hr => (okr r hr).1, by omega, fun p3 G3 us3 ws3 sg3 np3 hl3 pm3 pw3 => ⟨(by show 3 ≤ sizeLine; decide), fun dp ndp => ?_⟩⟩
    have sg4 := same_new ndp (.lst [V.ref D, V.ref p2, V.ref p3])
    obtain ⟨es2, ees2⟩ : ∃ es, ws2.map (·.2) = es := ⟨_, rfl⟩
    rw [ees2, ey8] at pm2
    rw [ees2] at pw2
    have lrw : (rwsEv rws).length = rws.length := by unfold rwsEv; rw [List.length_map]
    have cg : ∀ af : Ev → List Ev, (∀ e ∈ evs L, ∀ x, x ∈ af e ↔ Ah L x e) → ((mkd L).map fun e => stpD (af e) (rwsEv rws) e) = (mkd L).map fun e => stpD ((f e).map fun u => u.2) (rwsEv rws) e := fun af h => List.map_congr_left fun e he => by
      have ie := mkd_sub hG he
      have := (hf e ((ho e).mpr ie)).2
      unfold stpD
      simp only [cntIn_cg (fun x => (h e ie x).trans (this x).symm)]
    obtain ⟨dueD, edue⟩ : ∃ d, d = PyData.list [.list ((mkd L).map fun e => stpD ((f e).map fun u => u.2) (rwsEv rws) e), .list (es2.map evD), .list (us3.map HQ.hD)] := ⟨_, rfl⟩
    have tD : TpAll G1 vs1 ((mkd L).map fun e => stpD ((f e).map fun u => u.2) (rwsEv rws) e) := by
      have := tpAll_of (f := id) (ys := vs1) (ds := (mkd L).map fun e => stpD ((f e).map fun u => u.2) (rwsEv rws) e) (H := G1) (by rw [lv1, ← ez, List.length_map, List.length_map, List.length_map]) fun j y hy => by
        obtain ⟨z, h1, h2⟩ := hP1 j y hy
        exact ⟨_, by rw [← ez, List.map_map, List.getElem?_map, h1]; rfl, h2⟩
      rw [List.map_id] at this
      exact this
    have rdue : Rp (upd G3 dp (.lst [V.ref D, V.ref p2, V.ref p3])) (.ref dp) dueD := by
      rw [edue]
      exact .lst upd_same (.cons ((Rp.lst hD1 tD.rp).same (sg2.trans (sg3.trans sg4))) (.cons ((rp_evs (H := upd G1 p2 (.lst (ws2.map fun z => V.ref z.1))) upd_same (fun z hz => (hw2 z hz).keep (.same sg2)) ees2).same (sg3.trans sg4)) (.cons (hl3.rp.same sg4) .nil)))
    have sD := sg1.trans (sg2.trans (sg3.trans sg4))
    generalize (upd G3 dp (.lst [V.ref D, V.ref p2, V.ref p3])) = G4 at rdue sD ⊢
    clear sg1 sg2 sg3 sg4 tD hP1 hD1 lv1 hl3 hw2 np2 np3 ndp nD
    have b1 : slim (lstD (encLog L)) = true := by rw [e1]; exact f1
    have b2 : (lstD (encLog L)).depth < 6 := by rw [e2]; omega
    have b3 : tupD (lstD (encLog L)) = encLog L := by rw [tup_lst, tup_log]
    have c1' : slim (lstD (encR (rwsEv rws))) = true := by rw [d1']; exact slR
    have c2' : (lstD (encR (rwsEv rws))).depth < 6 := by rw [d2']; omega
    have c3' : tupD (lstD (encR (rwsEv rws))) = encR (rwsEv rws) := by rw [tup_lst, tup_encR]
    -- told
    refine ⟨_, rfl, _, rfl, v, .ref c, encLog L, encR (rwsEv rws), L, rwsEv rws, rfl, (hTG.keep (.same sD)).rp, tup_log L, f1, (by omega), hG, rows_rp (hRG.keep (.same sD)), tup_encR _, slR, (by omega), okr, by omega, fun aq1 aK1 ay1 aaf ak1 anq1 ahq1 ahaf aht => ?_⟩
    refine ⟨_, rfl, .ref c, encR (rwsEv rws), rwsEv rws, rfl, rows_rp (hRG.keep (.same (sD.trans ak1))), tup_encR _, slR, (by omega), by omega, by omega, fun aq2 aK2 az2 ak2 anq2 ahq2 ahe2 apm2 apw2 => ?_⟩
    refine ⟨_, rfl, .ref c, encR (rwsEv rws), rwsEv rws, rfl, rows_rp (hRG.keep (.same ((sD.trans ak1).trans ak2))), tup_encR _, slR, (by omega), fun r hr => (okr r hr).1, by omega, fun aq3 aK3 au3 aw3 ak3 anq3 ahl3 apm3 apw3 => ⟨(by show 3 ≤ sizeLine; decide), fun atp antp => ?_⟩⟩
    have ak4 := same_new antp (.lst [V.ref aq1, V.ref aq2, V.ref aq3])
    have ae2 : az2.map (·.2) = es2 := sorted_one (apm2.trans pm2.symm) (List.pairwise_map.mpr apw2) pw2
    have ae3 : au3 = us3 := hs_one ((show au3.Perm (hndTo (rwsEv rws) rws.length) by rw [← lrw]; exact apm3).trans pm3.symm) apw3 pw3
    have ar1 : Rp aK1 (.ref aq1) (.list ((mkd L).map fun e => stpD ((f e).map fun u => u.2) (rwsEv rws) e)) := by rw [← cg aaf ahaf]; exact .lst ahq1 aht.rp
    have ar2 := rp_evs ahq2 ahe2 ae2
    have ar3 := ahl3.rp
    rw [ae3] at ar3
    have arp : Rp (upd aK3 atp (.lst [V.ref aq1, V.ref aq2, V.ref aq3])) (.ref atp) dueD := by
      rw [edue]
      exact .lst upd_same (.cons (ar1.same (ak2.trans (ak3.trans ak4))) (.cons (ar2.same (ak3.trans ak4)) (.cons (ar3.same ak4) .nil)))
    have aS := sD.trans (ak1.trans (ak2.trans (ak3.trans ak4)))
    -- the same of the list forms, by name
    refine ⟨_, rfl, _, rfl, sv, dv, lstD (encLog L), lstD (encR (rwsEv rws)), L, rwsEv rws, rfl, (nvG.keep (.same aS)).rp, b3, b1, b2, hG, (nd.keep (.same aS)).rp, c3', c1', c2', okr, by omega, fun hq1 hK1 hy1 haf hk1 hnq1 hhq1 hhaf hht => ?_⟩
    refine ⟨_, rfl, dv, lstD (encR (rwsEv rws)), rwsEv rws, rfl, (nd.keep (.same (aS.trans hk1))).rp, c3', c1', c2', by omega, by omega, fun hq2 hK2 hz2 hk2 hnq2 hhq2 hhe2 hpm2 hpw2 => ?_⟩
    refine ⟨_, rfl, dv, lstD (encR (rwsEv rws)), rwsEv rws, rfl, (nd.keep (.same ((aS.trans hk1).trans hk2))).rp, c3', c1', c2', fun r hr => (okr r hr).1, by omega, fun hq3 hK3 hu3 hw3 hk3 hnq3 hhl3 hpm3 hpw3 => ⟨(by show 3 ≤ sizeLine; decide), fun htp hntp => ?_⟩⟩
    have hk4 := same_new hntp (.lst [V.ref hq1, V.ref hq2, V.ref hq3])
    have he2 : hz2.map (·.2) = es2 := sorted_one (hpm2.trans pm2.symm) (List.pairwise_map.mpr hpw2) pw2
    have he3 : hu3 = us3 := hs_one ((show hu3.Perm (hndTo (rwsEv rws) rws.length) by rw [← lrw]; exact hpm3).trans pm3.symm) hpw3 pw3
    have hr1 : Rp hK1 (.ref hq1) (.list ((mkd L).map fun e => stpD ((f e).map fun u => u.2) (rwsEv rws) e)) := by rw [← cg haf hhaf]; exact .lst hhq1 hht.rp
    have hr2 := rp_evs hhq2 hhe2 he2
    have hr3 := hhl3.rp
    rw [he3] at hr3
    have hrp : Rp (upd hK3 htp (.lst [V.ref hq1, V.ref hq2, V.ref hq3])) (.ref htp) dueD := by
      rw [edue]
      exact .lst upd_same (.cons (hr1.same (hk2.trans (hk3.trans hk4))) (.cons (hr2.same (hk3.trans hk4)) (.cons (hr3.same hk4) .nil)))
    have hS := aS.trans (hk1.trans (hk2.trans (hk3.trans hk4)))
    have lus : us3.length ≤ 16 := by
      have h1 := pm3.length_eq
      have : ∀ (rows : List (List Ev)) (k : Nat), (hndTo rows k).length ≤ (rows.take k).flatten.length := fun rows k => by
        induction k with
        | zero => exact Nat.le_refl _
        | succ k ih =>
          have h2 := hndUp_len k (rows.getD k []) ((rows.getD k []).length - 1)
          show (hndTo rows k ++ hndUp k (rows.getD k []) ((rows.getD k []).length - 1)).length ≤ _
          rw [List.length_append]
          cases er : rows[k]? with
          | none =>
            have : rows.getD k [] = [] := by rw [List.getD_eq_getElem?_getD, er]; rfl
            rw [this] at h2 ⊢
            have h3 := List.getElem?_eq_none_iff.mp er
            rw [List.take_of_length_le (by omega)] at ih ⊢
            have h4 : ([] : List Ev).length - 1 = 0 := rfl
            rw [h4] at h2 ⊢
            omega
          | some r =>
            have : rows.getD k [] = r := by rw [List.getD_eq_getElem?_getD, er]; rfl
            rw [this] at h2 ⊢
            rw [tk_snoc er, List.flatten_append, List.length_append]
            have : ([r] : List (List Ev)).flatten.length = r.length := by simp
            omega
      have h2 := this (rwsEv rws) rws.length
      rw [List.take_of_length_le (by omega)] at h2
      omega
    have les2 : es2.length ≤ 16 := by rw [pm2.length_eq]; exact lfl
    have lmk16 := mkd_len hG
    have dueS : slim dueD = true := by
      rw [edue]
      refine slim_lst (by show 3 ≤ 1000; decide) fun d hd => ?_
      simp only [List.mem_cons, List.not_mem_nil, or_false] at hd
      rcases hd with rfl | rfl | rfl
      · refine slim_lst (by rw [List.length_map]; omega) fun d hd => ?_
        obtain ⟨e, _, rfl⟩ := List.mem_map.mp hd
        refine slim_tup (by show 2 ≤ 1000; decide) fun d hd => ?_
        simp only [List.mem_cons, List.not_mem_nil, or_false] at hd
        rcases hd with rfl | rfl
        · simp [evD, slim, slims]
        · refine slim_tup (by rw [List.length_map]; omega) fun d hd => ?_
          obtain ⟨r, _, rfl⟩ := List.mem_map.mp hd
          rfl
      · exact slim_evs les2
      · refine slim_lst (by rw [List.length_map]; omega) fun d hd => ?_
        obtain ⟨e, _, rfl⟩ := List.mem_map.mp hd
        simp [HQ.hD, evD, slim, slims]
    have dueP : dueD.depth ≤ 4 := by
      rw [edue]
      refine depth_lst (n := 3) fun d hd => ?_
      simp only [List.mem_cons, List.not_mem_nil, or_false] at hd
      rcases hd with rfl | rfl | rfl
      · refine depth_lst (n := 2) fun d hd => ?_
        obtain ⟨e, _, rfl⟩ := List.mem_map.mp hd
        refine depth_tup (n := 1) fun d hd => ?_
        simp only [List.mem_cons, List.not_mem_nil, or_false] at hd
        rcases hd with rfl | rfl
        · exact Nat.le_of_eq (HQ.evD_depth e)
        · refine depth_tup (n := 0) fun d hd => ?_
          obtain ⟨r, _, rfl⟩ := List.mem_map.mp hd
          exact Nat.le_refl _
      · exact Nat.le_trans (depth_evs _) (by decide)
      · refine depth_lst (n := 2) fun d hd => ?_
        obtain ⟨e, _, rfl⟩ := List.mem_map.mp hd
        simp [HQ.hD, evD, PyData.depth, PyData.depthAll]
    have dpD2 : (PyData.list [dueD, dueD]).depth ≤ 5 := depth_lst (n := 4) fun d hd => by
      simp only [List.mem_cons, List.not_mem_nil, or_false] at hd
      rcases hd with rfl | rfl <;> exact dueP
    have slD2 : slim (.list [dueD, dueD]) = true := slim_lst (by show 2 ≤ 1000; decide) fun d hd => by
      simp only [List.mem_cons, List.not_mem_nil, or_false] at hd
      rcases hd with rfl | rfl <;> exact dueS
    have arp' := arp.same (hk1.trans (hk2.trans (hk3.trans hk4)))
    have rdue' := rdue.same ((ak1.trans (ak2.trans (ak3.trans ak4))).trans (hk1.trans (hk2.trans (hk3.trans hk4))))
    refine ⟨_, rfl, _, rfl, (by show 2 ≤ sizeLine; decide), fun x1 nx1 => ⟨_, rfl, _, rfl, (by show 2 ≤ sizeLine; decide), fun x2 nx2 => ?_⟩⟩
    have xs1 := same_new nx1 (.lst [V.ref atp, V.ref htp])
    have xs2 := same_new nx2 (.lst [V.ref dp, V.ref dp])
    have xs12 := xs1.trans xs2
    refine ⟨_, _, .list [dueD, dueD], rfl, .lst (xs := [V.ref atp, V.ref htp]) (xs2 _ _ upd_same) (.cons (arp'.same xs12) (.cons (hrp.same xs12) .nil)), .lst (xs := [V.ref dp, V.ref dp]) upd_same (.cons (rdue'.same xs12) (.cons (rdue'.same xs12) .nil)), by omega, slD2, fun K5 xs3 => ⟨_, rfl, iteF ?_⟩⟩
    -- what was told is changed
    have n1 : G4 aq1 = none := anq1
    have n2 : G4 aq2 = none := ak1.free anq2
    have n3 : G4 aq3 = none := ak1.free (ak2.free anq3)
    have u1 : atp ≠ aq1 := fun e => by rw [e, ak3 _ _ (ak2 _ _ ahq1)] at antp; cases antp
    have u2 : atp ≠ aq2 := fun e => by rw [e, ak3 _ _ ahq2] at antp; cases antp
    have u3 : atp ≠ aq3 := fun e => by rw [e, ahl3.hf] at antp; cases antp
    have tail5 := (hk1.trans (hk2.trans (hk3.trans hk4))).trans (xs12.trans xs3)
    have s45 := (ak1.trans (ak2.trans (ak3.trans ak4))).trans tail5
    have g1 := tail5 _ _ (ak4 _ _ (ak3 _ _ (ak2 _ _ ahq1)))
    have g2 := tail5 _ _ (ak4 _ _ (ak3 _ _ ahq2))
    have g3 := tail5 _ _ (ak4 _ _ ahl3.hf)
    have gt := tail5 _ _ (upd_same : (upd aK3 atp (.lst [V.ref aq1, V.ref aq2, V.ref aq3])) atp = some (.lst [V.ref aq1, V.ref aq2, V.ref aq3]))
    have L1 : ay1.length ≤ 1000 := by
      have := aht.length
      rw [List.length_map] at this
      omega
    have L2' : (az2.map fun z => V.ref z.1).length ≤ 1000 := by rw [List.length_map, ← List.length_map (·.2), ae2]; omega
    have L3 : (aw3.map (·.1)).length ≤ 1000 := by
      have := congrArg List.length ahl3.eq
      rw [List.length_map, List.length_map, ae3] at this
      rw [List.length_map]
      omega
    clear tail5 xs12 xs1 xs2 nx1 nx2 arp' rdue'
    refine ⟨_, rfl, atp, rfl, ⟨_, .inl (.inl gt)⟩, for_list (xs := [V.ref aq1, V.ref aq2, V.ref aq3]) (fun j σ J => ∃ (t11 : Option V), σ = [some (.ref b), some (V.int (0 + (i : Int))), some v, some sv, some (.ref od), some (.ref sm), some (.ref c), some dv, some (.ref p8), t9, some (.ref dp), t11, some (.ref atp), some (.ref htp), t14, t15] ∧ Same G4 J ∧ J atp = some (.lst [V.ref aq1, V.ref aq2, V.ref aq3]) ∧
        ∀ a, a = aq1 ∨ a = aq2 ∨ a = aq3 → ∃ xs, J a = some (.lst xs) ∧ xs.length ≤ 1000 + j) ?_ ?_ ?_ ?_⟩
    · refine ⟨_, rfl, s45, gt, fun a ha => ?_⟩
      rcases ha with rfl | rfl | rfl
      · exact ⟨_, g1, L1⟩
      · exact ⟨_, g2, L2'⟩
      · exact ⟨_, g3, L3⟩
    · rintro j σ J _ ⟨t11, rfl, _, h, _⟩
      exact .inl (.inl h)
    · rintro j x σ J hx ⟨t11, rfl, s, ht, hqs⟩
      have lj : j < 3 := (List.getElem?_eq_some_iff.mp hx).1
      have ex : ∃ a, x = V.ref a ∧ (a = aq1 ∨ a = aq2 ∨ a = aq3) := by
        have := List.mem_of_getElem? hx
        simp only [List.mem_cons, List.not_mem_nil, or_false] at this
        rcases this with e | e | e
        · exact ⟨aq1, e, .inl rfl⟩
        · exact ⟨aq2, e, .inr (.inl rfl)⟩
        · exact ⟨aq3, e, .inr (.inr rfl)⟩
      obtain ⟨a, rfl, ha⟩ := ex
      obtain ⟨ws, hws, lws⟩ := hqs a ha
      have na : G4 a = none := by rcases ha with rfl | rfl | rfl <;> assumption
      have ta : atp ≠ a := by rcases ha with rfl | rfl | rfl <;> assumption
      refine ⟨_, rfl, .inl ⟨rfl, _, .inl (.inl hws)⟩, a, _, _, rfl, rfl, hws, by rw [sizeLine_eq]; omega, _, rfl, Same.put s na _, by rw [upd_ne ta]; exact ht, fun a' ha' => ?_⟩
      by_cases c' : a' = a
      · subst c'
        exact ⟨_, upd_same, by rw [List.length_append, List.length_singleton]; omega⟩
      · obtain ⟨xs', h1, h2⟩ := hqs a' ha'
        exact ⟨xs', by rw [upd_ne c']; exact h1, by omega⟩
    rintro σ J ⟨t11', rfl, sJ4, _, _⟩
    have sJ := sD.trans sJ4
    have rdueJ := rdue.same sJ4
    clear L1 L2' L3 g1 g2 g3 gt s45 u1 u2 u3 n1 n2 n3 xs3 hrp hS hr1 hr2 hr3 hk1 hk2 hk3 hk4 arp aS ar1 ar2 ar3 ak1 ak2 ak3 ak4 ahl3 hhl3 ahe2 hhe2 aht hht ahq1 hhq1 ahq2 hhq2 antp hntp anq1 anq2 anq3 hnq1 hnq2 hnq3 rdue sJ4 sD
    refine ⟨_, rfl, _, rfl, v, .ref c, encLog L, encR (rwsEv rws), L, rwsEv rws, rfl, (hTG.keep (.same sJ)).rp, tup_log L, f1, (by omega), hG, rows_rp (hRG.keep (.same sJ)), tup_encR _, slR, (by omega), okr, by omega, fun mq1 mK1 my1 maf mk1 mnq1 mhq1 mhaf mht => ?_⟩
    refine ⟨_, rfl, .ref c, encR (rwsEv rws), rwsEv rws, rfl, rows_rp (hRG.keep (.same (sJ.trans mk1))), tup_encR _, slR, (by omega), by omega, by omega, fun mq2 mK2 mz2 mk2 mnq2 mhq2 mhe2 mpm2 mpw2 => ?_⟩
    refine ⟨_, rfl, .ref c, encR (rwsEv rws), rwsEv rws, rfl, rows_rp (hRG.keep (.same ((sJ.trans mk1).trans mk2))), tup_encR _, slR, (by omega), fun r hr => (okr r hr).1, by omega, fun mq3 mK3 mu3 mw3 mk3 mnq3 mhl3 mpm3 mpw3 => ⟨(by show 3 ≤ sizeLine; decide), fun mtp mntp => ?_⟩⟩
    have mk4 := same_new mntp (.lst [V.ref mq1, V.ref mq2, V.ref mq3])
    have me2 : mz2.map (·.2) = es2 := sorted_one (mpm2.trans pm2.symm) (List.pairwise_map.mpr mpw2) pw2
    have me3 : mu3 = us3 := hs_one ((show mu3.Perm (hndTo (rwsEv rws) rws.length) by rw [← lrw]; exact mpm3).trans pm3.symm) mpw3 pw3
    have mr1 : Rp mK1 (.ref mq1) (.list ((mkd L).map fun e => stpD ((f e).map fun u => u.2) (rwsEv rws) e)) := by rw [← cg maf mhaf]; exact .lst mhq1 mht.rp
    have mr2 := rp_evs mhq2 mhe2 me2
    have mr3 := mhl3.rp
    rw [me3] at mr3
    have mrp : Rp (upd mK3 mtp (.lst [V.ref mq1, V.ref mq2, V.ref mq3])) (.ref mtp) dueD := by
      rw [edue]
      exact .lst upd_same (.cons (mr1.same (mk2.trans (mk3.trans mk4))) (.cons (mr2.same (mk3.trans mk4)) (.cons (mr3.same mk4) .nil)))
    have mS := sJ.trans (mk1.trans (mk2.trans (mk3.trans mk4)))
    have rdueM := rdueJ.same (mk1.trans (mk2.trans (mk3.trans mk4)))
    refine ⟨_, rfl, _, _, dueD, rfl, mrp, rdueM, by omega, dueS, fun K6 ms => ⟨_, rfl, iteF ?_⟩⟩
    have s6 := mS.trans ms
    clear ms rdueM mrp mS mr1 mr2 mr3 mk1 mk2 mk3 mk4 mhl3 mhe2 mht mhq1 mhq2 mntp mnq1 mnq2 mnq3
    -- each event
    refine ⟨_, rfl, v, L, rfl, hTG.keep (.same s6), hG, fun pe K7 vs7 s7 npe hpe hve eve => ⟨pe, rfl, ⟨_, .inl (.inl hpe)⟩, for_list (xs := vs7.map fun z => V.ref z.1) (fun j σ J2 => ∃ (t12 t14 : Option V), σ = [some (.ref b), some (V.int (0 + (i : Int))), some v, some sv, some (.ref od), some (.ref sm), some (.ref c), some dv, some (.ref p8), t9, some (.ref dp), t11', t12, some (.ref htp), t14, t15] ∧ Same K7 J2) ?_ ?_ ?_ ?_⟩⟩
    · exact ⟨_, _, rfl, fun _ _ e => e⟩
    · rintro j σ J2 _ ⟨t12, t14, rfl, sx⟩
      exact .inl (.inl (sx _ _ hpe))
    · rintro j x σ J2 hx ⟨t12, t14, rfl, sx⟩
      rw [List.getElem?_map] at hx
      obtain ⟨z, hzi, rfl⟩ := Option.map_eq_some_iff.mp hx
      have hz := List.mem_of_getElem? hzi
      have ie : z.2 ∈ evs L := by rw [← eve]; exact List.mem_map.mpr ⟨z, hz, rfl⟩
      have io := (ho z.2).mpr ie
      have rz : EvR J2 z := (hve z hz).keep (.same sx)
      have sA := s6.trans (s7.trans sx)
      obtain ⟨stD, estD⟩ : ∃ d, d = PyData.tuple ((rwsEv rws).map fun r => .int ((cntIn ((f z.2).map fun u => u.2) z.2 r : Nat) : Int)) := ⟨_, rfl⟩
      have stR : ∀ {M : Hp} {w : Addr} {fs : List Ev}, (∀ x, x ∈ fs ↔ Ah L x z.2) → M w = some (.tup ((rwsEv rws).map fun r => V.int ((cntIn fs z.2 r : Nat) : Int))) → Rp M (.ref w) stD := fun {M w fs} hfs hw => by
        have e : ((rwsEv rws).map fun r => V.int ((cntIn fs z.2 r : Nat) : Int)) = ((rwsEv rws).map fun r => ((cntIn ((f z.2).map fun u => u.2) z.2 r : Nat) : Int)).map V.int := by
          have h1 : ((rwsEv rws).map fun r => V.int ((cntIn fs z.2 r : Nat) : Int)) = (rwsEv rws).map fun r => V.int ((cntIn ((f z.2).map fun u => u.2) z.2 r : Nat) : Int) := List.map_congr_left fun r _ => by rw [cntIn_cg (fun x => (hfs x).trans ((hf z.2 io).2 x).symm)]
          exact h1.trans List.map_map.symm
        rw [e] at hw
        have := nums_rp hw
        rw [List.map_map] at this
        rw [estD]
        exact this
      have stS : slim stD = true ∧ stD.depth ≤ 1 := by
        rw [estD]
        refine ⟨slim_tup (by rw [List.length_map]; omega) fun d hd => ?_, depth_tup (n := 0) fun d hd => ?_⟩ <;>
          (obtain ⟨r, _, rfl⟩ := List.mem_map.mp hd; first | rfl | exact Nat.le_refl _)
      -- its stamp
      refine ⟨_, rfl, _, rfl, _, rfl, v, .ref c, .ref z.1, encLog L, evD z.2, encR (rwsEv rws), L, z.2, rwsEv rws, rfl, (hTG.keep (.same sA)).rp, tup_log L, f1, by omega, hG, ev_rp rz, rfl, rows_rp (hRG.keep (.same sA)), tup_encR _, slR, by omega, okr, by omega, fun _ w1 M1 fs1 m1 hfs1 hw1 => ?_, fun n => absurd ie n⟩
      refine ⟨_, rfl, z.1, evV z.2, rfl, .inr (EvR.keep rz (.same m1)), fun l1 nl1 => ⟨_, rfl, _, rfl, ?_⟩⟩
      have m2 := same_new nl1 (.lst (evV z.2))
      have mA := sA.trans (m1.trans m2)
      refine ⟨sv, dv, .ref l1, lstD (encLog L), .list [.str z.2.1, .int z.2.2], lstD (encR (rwsEv rws)), L, z.2, rwsEv rws, rfl, (nvG.keep (.same mA)).rp, b3, b1, b2, hG, lev_rp upd_same, rfl, (nd.keep (.same mA)).rp, c3', c1', c2', okr, by omega, fun _ w2 M2 fs2 m3 hfs2 hw2 => ⟨(by show 2 ≤ sizeLine; decide), fun l2 nl2 => ?_⟩, fun n => absurd ie n⟩
      have m4 := same_new nl2 (.lst [V.ref w1, V.ref w2])
      have rt : Rp (upd M2 l2 (.lst [V.ref w1, V.ref w2])) (.ref l2) (.list [stD, stD]) := .lst upd_same (.cons ((stR hfs1 hw1).same (m2.trans (m3.trans m4))) (.cons ((stR hfs2 hw2).same m4) .nil))
      have mB := m1.trans (m2.trans (m3.trans m4))
      have sB := sA.trans mB
      refine ⟨_, rfl, _, rfl, _, rfl, _, rfl, od, c, z, L, o, ad, f, rws, rfl, hOG.same sB, io, hRG.keep (.same sB), EvR.keep rz (.same mB), okN _ ie, okf _ io, l6 _ io, okr', by omega, fun sp M3 m5 hsp => ⟨(by show 1 ≤ sizeLine; decide), fun l3 nl3 => ⟨l3, 2, [V.ref sp], rfl, rfl, upd_same, by decide, by decide, (by show 1 * 2 ≤ sizeLine; decide), fun l4 nl4 => ?_⟩⟩⟩
      have m6 := (same_new nl3 (.lst [V.ref sp])).trans (same_new nl4 (.lst (List.replicate (2 : Int).toNat [V.ref sp]).flatten))
      have rs := (stR (M := M3) (w := sp) (fs := (f z.2).map fun u => u.2) (fun x => (hf z.2 io).2 x) (by rw [hsp]; unfold rwsEv; rw [List.map_map]; rfl)).same m6
      refine ⟨_, _, .list [stD, stD], rfl, rt.same (m5.trans m6), .lst (xs := [V.ref sp, V.ref sp]) upd_same (.cons rs (.cons rs .nil)), ?_, ?_, fun M4 m7 => ⟨_, rfl, iteF ?_⟩⟩
      · have := depth_lst (ds := [stD, stD]) (n := 1) fun d hd => by
          simp only [List.mem_cons, List.not_mem_nil, or_false] at hd
          rcases hd with rfl | rfl <;> exact stS.2
        omega
      · exact slim_lst (by show 2 ≤ 1000; decide) fun d hd => by
          simp only [List.mem_cons, List.not_mem_nil, or_false] at hd
          rcases hd with rfl | rfl <;> exact stS.1
      -- its place
      have mC := mB.trans (m5.trans (m6.trans m7))
      have sC := sA.trans mC
      have rzC := EvR.keep rz (.same mC)
      obtain ⟨pD, pd1, pd2, pdR⟩ := plc_one okR.nd z.2
      clear m1 m2 m3 m4 m5 m6 m7 mA mB sB rt rs hw1 hw2 hsp nl1 nl2 nl3 nl4
      refine ⟨_, rfl, _, rfl, .ref c, .ref z.1, encR (rwsEv rws), evD z.2, rwsEv rws, z.2, rfl, rows_rp (hRG.keep (.same sC)), tup_encR _, slR, by omega, ev_rp rzC, rfl, okN _ ie, okS, fun v1 N1 n1 pk1 => ?_⟩
      refine ⟨_, rfl, z.1, evV z.2, rfl, .inr (EvR.keep rzC (.same n1)), fun l1 nl1 => ⟨_, rfl, ?_⟩⟩
      have n2 := same_new nl1 (.lst (evV z.2))
      refine ⟨dv, .ref l1, lstD (encR (rwsEv rws)), .list [.str z.2.1, .int z.2.2], rwsEv rws, z.2, rfl, (nd.keep (.same (sC.trans (n1.trans n2)))).rp, c3', c1', c2', lev_rp upd_same, rfl, okN _ ie, okS, fun v2 N2 n3 pk2 => ⟨(by show 2 ≤ sizeLine; decide), fun l2 nl2 => ?_⟩⟩
      have n4 := same_new nl2 (.lst [v1, v2])
      have rt : Rp (upd N2 l2 (.lst [v1, v2])) (.ref l2) (.list [pD, pD]) := .lst upd_same (.cons ((pdR _ _ pk1).same (n2.trans (n3.trans n4))) (.cons ((pdR _ _ pk2).same n4) .nil))
      have nB := n1.trans (n2.trans (n3.trans n4))
      refine ⟨_, rfl, _, rfl, _, rfl, c, z, rws, rfl, hRG.keep (.same (sC.trans nB)), EvR.keep rzC (.same nB), okN _ ie, okS, fun v3 N3 n5 pk3 => ⟨(by show 1 ≤ sizeLine; decide), fun l3 nl3 => ⟨l3, 2, [v3], rfl, rfl, upd_same, by decide, by decide, (by show 1 * 2 ≤ sizeLine; decide), fun l4 nl4 => ?_⟩⟩⟩
      have n6 := (same_new nl3 (.lst [v3])).trans (same_new nl4 (.lst (List.replicate (2 : Int).toNat [v3]).flatten))
      have rs := (pdR _ _ pk3).same n6
      refine ⟨_, _, .list [pD, pD], rfl, rt.same (n5.trans n6), .lst (xs := [v3, v3]) upd_same (.cons rs (.cons rs .nil)), ?_, ?_, fun N4 n7 => ⟨_, rfl, iteF ⟨_, _, rfl, sx.trans (mC.trans (nB.trans (n5.trans (n6.trans n7))))⟩⟩⟩
      · have := depth_lst (ds := [pD, pD]) (n := 1) fun d hd => by
          simp only [List.mem_cons, List.not_mem_nil, or_false] at hd
          rcases hd with rfl | rfl <;> exact pd1
        omega
      · exact slim_lst (by show 2 ≤ 1000; decide) fun d hd => by
          simp only [List.mem_cons, List.not_mem_nil, or_false] at hd
          rcases hd with rfl | rfl <;> exact pd2
    rintro σ J2 ⟨t12', t14', rfl, sx⟩
    have s8 := s6.trans (s7.trans sx)
    clear sx s7 s6 hpe hve npe
    -- two events that are not there
    have tv8 := hTG.keep (.same s8)
    obtain ⟨a, m, l, xs, zl, hLT⟩ := logTup tv8
    have rv := hLT.ea
    subst rv
    obtain ⟨x0, hx0⟩ : ∃ x0, xs[0]? = some x0 := by
      have : 0 < xs.length := by rw [hLT.lx]; omega
      exact ⟨_, List.getElem?_eq_getElem this⟩
    obtain ⟨mm, mq, mr, hmm, rfl, hmq, _⟩ := hLT.hx 0 x0 hx0
    have mmI : (mm.1, mm.2.1, mm.2.2) ∈ L.ms := List.mem_of_getElem? hmm
    have ax0 : atI xs 0 = some (V.ref mq) := atI_nat hx0
    refine ⟨(by show 2 ≤ sizeLine; decide), fun o1 no1 => ?_⟩
    have j1 := same_new no1 (.tup [V.str ("no" : Str), V.int 0])
    refine ⟨_, rfl, a, _, 0, _, rfl, rfl, j1 _ _ hLT.ha, at0, m, _, 0, _, rfl, rfl, j1 _ _ hLT.hm, ax0, mq, _, 0, _, rfl, rfl, j1 _ _ hmq, at0, ?_⟩
    refine ⟨_, rfl, a, _, 0, _, rfl, rfl, j1 _ _ hLT.ha, at0, m, _, 0, _, rfl, rfl, j1 _ _ hLT.hm, ax0, mq, _, 1, _, rfl, rfl, j1 _ _ hmq, at1, (by show 2 ≤ sizeLine; decide), fun o2 no2 => ⟨(by show 2 ≤ sizeLine; decide), fun ot not_ => ?_⟩⟩
    have j2 := same_new no2 (.tup [V.str mm.1, V.int (mm.2.1 : Int)])
    have j3 := same_new not_ (.tup [V.ref o1, V.ref o2])
    obtain ⟨os, eos⟩ : ∃ os : List (Addr × Ev), os = [(o1, (("no" : Str), 0)), (o2, (mm.1, (mm.2.1 : Int)))] := ⟨_, rfl⟩
    have j13 := j1.trans (j2.trans j3)
    have out : ∀ u ∈ os, u.2 ∉ evs L ∧ PyData.strOk u.2.1 = true := fun u hu => by
      rw [eos] at hu
      simp only [List.mem_cons, List.not_mem_nil, or_false] at hu
      rcases hu with rfl | rfl
      · exact ⟨no_out hpl, (by show PyData.strOk ("no" : Str) = true; decide +kernel)⟩
      · exact ⟨far_out hG mmI, hG.txt _ mmI⟩
    have hos : ∀ u ∈ os, EvR (upd (upd (upd J2 o1 (.tup [V.str ("no" : Str), V.int 0])) o2 (.tup [V.str mm.1, V.int (mm.2.1 : Int)])) ot (.tup [V.ref o1, V.ref o2])) u := fun u hu => by
      rw [eos] at hu
      simp only [List.mem_cons, List.not_mem_nil, or_false] at hu
      rcases hu with rfl | rfl
      · exact j3 _ _ (j2 _ _ upd_same)
      · exact j3 _ _ upd_same
    have hot : (upd (upd (upd J2 o1 (.tup [V.str ("no" : Str), V.int 0])) o2 (.tup [V.str mm.1, V.int (mm.2.1 : Int)])) ot (.tup [V.ref o1, V.ref o2])) ot = some (.tup (os.map fun u => V.ref u.1)) := by
      rw [eos]
      exact upd_same
    refine ⟨ot, rfl, ⟨_, .inl (.inl hot)⟩, for_tup (xs := os.map fun u => V.ref u.1) (fun k σ J => ∃ (t12 t15 : Option V), σ = [some (.ref b), some (V.int (0 + (i : Int))), some (.ref a), some sv, some (.ref od), some (.ref sm), some (.ref c), some dv, some (.ref p8), t9, some (.ref dp), t11', t12, some (.ref htp), t14', t15] ∧ Same (upd (upd (upd J2 o1 (.tup [V.str ("no" : Str), V.int 0])) o2 (.tup [V.str mm.1, V.int (mm.2.1 : Int)])) ot (.tup [V.ref o1, V.ref o2])) J) ?_ ?_ ?_ ?_⟩
    · exact ⟨_, _, rfl, fun _ _ e => e⟩
    · rintro k σ J _ ⟨t12, t15, rfl, sJ⟩
      exact .inl (.inl (sJ _ _ hot))
    · rintro k x σ J hx ⟨t12, t15, rfl, sJ⟩
      rw [List.getElem?_map] at hx
      obtain ⟨u, hui, rfl⟩ := Option.map_eq_some_iff.mp hx
      have hu := List.mem_of_getElem? hui
      obtain ⟨nu, okU⟩ := out u hu
      have ru : EvR J u := (hos u hu).keep (.same sJ)
      have sA := s8.trans (j13.trans sJ)
      refine ⟨_, rfl, _, rfl, _, rfl, .ref a, .ref c, .ref u.1, encLog L, evD u.2, encR (rwsEv rws), L, u.2, rwsEv rws, rfl, (hTG.keep (.same sA)).rp, tup_log L, f1, by omega, hG, ev_rp ru, rfl, rows_rp (hRG.keep (.same sA)), tup_encR _, slR, by omega, okr, by omega, nu, fun w1 M1 m1 y1 => ?_⟩
      refine ⟨_, rfl, _, rfl, _, rfl, u.1, evV u.2, rfl, .inr (EvR.keep ru (.same m1)), fun l1 nl1 => ?_⟩
      have m2 := same_new nl1 (.lst (evV u.2))
      have sB := sA.trans (m1.trans m2)
      refine ⟨sv, dv, .ref l1, lstD (encLog L), .list [.str u.2.1, .int u.2.2], lstD (encR (rwsEv rws)), L, u.2, rwsEv rws, rfl, (nvG.keep (.same sB)).rp, b3, b1, b2, hG, lev_rp upd_same, rfl, (nd.keep (.same sB)).rp, c3', c1', c2', okr, by omega, nu, fun w2 M2 m3 y2 => ?_⟩
      have m13 := m1.trans (m2.trans m3)
      refine ⟨_, rfl, _, rfl, .ref c, .ref u.1, encR (rwsEv rws), evD u.2, rwsEv rws, u.2, rfl, rows_rp (hRG.keep (.same (sA.trans m13))), tup_encR _, slR, by omega, ev_rp (EvR.keep ru (.same m13)), rfl, okU, okS, fun v3 M3 m4 pk => ⟨(by show 3 ≤ sizeLine; decide), fun l2 nl2 => ?_⟩⟩
      have ev3 : v3 = .non := by
        rcases pk with ⟨j', r', p, _, hj', he', _⟩ | ⟨e, _⟩
        · exact absurd (mkd_sub hG (okR.mem _ (List.mem_flatten.mpr ⟨r', List.mem_of_getElem? hj', he'⟩))) nu
        · exact e
      subst ev3
      have m5 := same_new nl2 (.lst [V.ref w1, V.ref w2, V.non])
      refine ⟨_, rfl, _, rfl, _, rfl, (by show 3 ≤ sizeLine; decide), fun l3 nl3 => ?_⟩
      have m6 := same_new nl3 (.lst [V.ref u.1, V.ref u.1, V.non])
      have m46 := m4.trans (m5.trans m6)
      have ru6 := ev_rp (EvR.keep ru (.same (m13.trans m46)))
      refine ⟨_, _, .list [evD u.2, evD u.2, .none], rfl, .lst (xs := [V.ref w1, V.ref w2, V.non]) (m6 _ _ upd_same) (.cons (ev_rp (EvR.keep y1 (.same (m2.trans (m3.trans m46))))) (.cons (ev_rp (EvR.keep y2 (.same m46))) (.cons .non .nil))), .lst (xs := [V.ref u.1, V.ref u.1, V.non]) upd_same (.cons ru6 (.cons ru6 (.cons .non .nil))), ?_, ?_, fun M7 m7 => ⟨_, rfl, iteF ⟨_, _, rfl, sJ.trans (m13.trans (m46.trans m7))⟩⟩⟩
      · simp [evD, PyData.depth, PyData.depthAll]
      · simp [evD, slim, slims]
    rintro σ J ⟨t12'', t15', rfl, sJ⟩
    have s9 := s8.trans (j13.trans sJ)
    -- nothing was changed
    refine ⟨_, rfl, _, rfl, .ref a, _, rfl, (hTG.keep (.same s9)).rp, by omega, f1, fun sv2 N1 n1 nv2 => ?_⟩
    have sh : SeqAt.shaped (lstD (encLog L)) = true := by
      simp only [SeqAt.shaped, e3, f3, e2, Bool.true_and]
      exact decide_eq_true (by omega)
    have er : PyData.eqv (lstD (encLog L)) (lstD (encLog L)) = true := PySem.SeqAt.eqv_refl _ (by rw [e3]; exact f3)
    refine ⟨_, _, (nvG.keep (.same (s9.trans n1))).rp, nv2.rp, sh, sh, _, rfl, ?_⟩
    rw [er]
    refine iteF ⟨_, rfl, _, rfl, .ref c, _, rfl, rows_rp (hRG.keep (.same (s9.trans n1))), by omega, slR, fun dv2 N2 n2 nd2 => ?_⟩
    have dcl : (encR (rwsEv rws)).canLay0 = true := encR_lay okS
    have sh2 : SeqAt.shaped (lstD (encR (rwsEv rws))) = true := by
      simp only [SeqAt.shaped, d3', dcl, d2', Bool.true_and]
      exact decide_eq_true (by omega)
    have er2 : PyData.eqv (lstD (encR (rwsEv rws))) (lstD (encR (rwsEv rws))) = true := PySem.SeqAt.eqv_refl _ (by rw [d3']; exact dcl)
    refine ⟨_, _, (nd.keep (.same (s9.trans (n1.trans n2)))).rp, nd2.rp, sh2, sh2, _, rfl, ?_⟩
    rw [er2]
    exact iteF ⟨_, _, _, _, _, _, _, _, _, _, _, _, _, _, _, rfl, (hBG.same (s9.trans (n1.trans n2))).le (by omega), kG.trans (.of (s9.trans (n1.trans n2)))⟩
  · rintro σ H' ⟨t1, t2, t3, t4, t5, t6, t7, t8, t9, t10, t11, t12, t13, t14, t15, rfl, hB', k'⟩
    exact q H' k'

end L2.K06
namespace L2.K06
open PySem PySem.Spec PyProof.Rows L2.My
open HQ (Ev evD)
variable {P : Program} {w : World} {K : PySem.W.Frag} {mg : Str → Option Value} {base : Heap}
def spLaw (K : PySem.W.Frag) : Sp := fun vs H Q _ => ∃ (a : Addr) (ns : List Int), vs = [.ref a] ∧ SqL K H a (ns.map V.int) ∧ ns.length ≤ 63 ∧ ∀ H', Q (.bl true) H'
theorem ok_law (T : Tx K mg) (kbstamps : KBinds K T.dstamps P_stamps ["counters", "log"] g2 gV2) (kbcounted : KBinds K T.dcounted P_counted P_counted g1 gV1) (kbhanded : KBinds K T.dhanded P_handed P_handed g1 gV1) (kbstamp : KBinds K T.dstamp P_stamp ["event", "counters", "log"] g3 gV3) (kbplace : KBinds K T.dplace P_place ["event", "counters"] g2 gV2) :
    FnOk P w K mg base CX0 12 T.alaw T.dlaw P_law (spLaw K) := by
  have G__law_box := ok__law_box (P := P) (w := w) (base := base) T
  have G__law_right := ok__law_right (P := P) (w := w) (base := base) T kbstamps kbcounted kbhanded kbstamp kbplace
  refine T.flaw.ok sc_law (fun vs H Q E h => ?_) (fun cdv A outer s H vs Q E hr h => ?_)
  · obtain ⟨a, ns, rfl, _⟩ := h
    rfl
  obtain ⟨a, ns, rfl, hS, hl, q⟩ := h
  refine ⟨_, (pss_one (ps_ret (pe_callB (allH rfl) (by rfl) T.all (by decide +kernel) (pa_cons (pe_lc (own := [("_law_k", 1)]) (g := (gName 1)) rfl sc_law.nd (pi_range1 (by rfl) T.range (pa_cons (pe_op op_add pe_int (pe_callB (call_min2 rfl) (by rfl) T.min (by decide +kernel) (pa_cons pe_int (pa_cons (pe_callB call_len_seq (by rfl) T.len (by decide +kernel) (pa_cons (pv 0) pa_nil)) pa_nil)))) pa_nil)) (blkOk_by (own := [("_law_k", 1)]) (N := N_law) (sc := defScope s_law) (by decide +kernel)) (fun _ _ _ _ _ => (pg_name (i := 1) sc_law.nd rfl (Or.inl rfl))) (fun _ _ _ _ _ => pts_nil) (fun _ _ _ _ _ => (pe_call G__law_right (hr.mono (by decide)) (by rfl) T.m_law_right T.f_law_right.kp T.b_law_right .nil pass0 (pa_cons (pe_call G__law_box (hr.mono (by decide)) (by rfl) T.m_law_box T.f_law_box.kp T.b_law_box .nil pass0 (pa_cons (pv 0) (pa_cons (pv 1) pa_nil))) pa_nil)))) pa_nil)))), ?_⟩
  have lm : ((ns.map V.int).length : Int) = ns.length := by rw [List.length_map]
  refine ⟨_, rfl, a, _, rfl, .inl hS, 1, _, rfl, 1, _, rfl, rfl, _, rfl, ?_, ?_, fun D nD => ?_⟩
  · split <;> omega
  · split <;> omega
  have few : (1 + (if ((ns.map V.int).length : Int) < 1 then ((ns.map V.int).length : Int) else 1)).toNat ≤ 2 := by split <;> omega
  generalize (1 + (if ((ns.map V.int).length : Int) < 1 then ((ns.map V.int).length : Int) else 1)).toNat = n at few ⊢
  have wJ := wk_rng (H := H) (n := n)
  have ll : ((upto n).map V.int).length = n := by rw [List.length_map, upto_len]
  refine lc_map (J := Itr 0 n) (xs := (upto n).map V.int) nD (fun j H' s h => (wJ H' s).1 j h) (fun H' s => (wJ H' s).2.1) (fun j x H1 H2 s y => (wJ H1 s).2.2 j x H2 y) (by rw [ll, sizeLine_eq]; omega)
    (fun j y H' => y = V.bl true) (fun j y H1 H2 s e => e) (fun j y H1 zs o hD e => e) (fun _ => rfl) ?_ ?_
  · intro j x H1 Q' hx s1 _ k
    have lj : j < n := by
      have := (List.getElem?_eq_some_iff.mp hx).1
      rw [ll] at this
      exact this
    have ex : x = V.int (j : Int) := by
      unfold upto at hx
      rw [List.map_map, List.getElem?_map, List.getElem?_range lj] at hx
      exact (Option.some.inj hx).symm
    subst ex
    refine ⟨_, rfl, _, rfl, a, ns, j, rfl, s1.seq hS, by omega, fun b H2 s2 nb hB => ?_⟩
    refine ⟨b, rfl, hB, fun H3 k3 => k _ H3 (fun c o e => ?_) rfl⟩
    refine k3 _ _ (fun z => ?_) (s2 _ _ e)
    rw [z, nb] at e
    cases e
  · intro H' ys s1 hD ly hR
    refine ⟨D, List.replicate ys.length true, rfl, ?_, ?_⟩
    · rw [hD, List.map_replicate]
      refine congrArg (fun x => some (HO.lst x)) ?_
      refine List.ext_getElem? fun i => ?_
      cases c : ys[i]? with
      | none => rw [List.getElem?_eq_none (by rw [List.length_replicate]; exact List.getElem?_eq_none_iff.mp c)]
      | some y =>
        have li := (List.getElem?_eq_some_iff.mp c).1
        rw [hR i y c, List.getElem?_replicate, if_pos li]
    · have e : (List.replicate ys.length true).all id = true := by rw [List.all_replicate]; cases ys.length <;> rfl
      rw [e]
      exact q _

end L2.K06
namespace L2.K06
open PySem PySem.Spec PyProof.Rows L2.My
open HQ (Ev evD)
variable {P : Program} {w : World} {K : PySem.W.Frag} {mg : Str → Option Value} {base : Heap}
/-! ### what the top has written; the law's own head -/
theorem all_mk {l : PySem.W.OpenLaw} {w : World} {K : PySem.W.Frag} {h : Heap} {mg : Str → Option Value} {fa : Addr} (X : K.In h) (G : h.Ns mainGlobals mg) (hfa : mg "law" = some (.ref fa))
    {f0 f1 f2 f3 f4 f5 f6 f7 f8 f9 f10 f11 f12 f13 f14 f15 f16 f17 f18 f19 f20 f21 f22 f23 f24 f25 f26 f27 f28 f29 f30 f31 f32 f33 f34 f35 f36 : Addr}
    {od0 an0 od1 an1 od2 an2 od3 an3 od4 an4 od5 an5 od6 an6 od7 an7 od8 an8 od9 an9 od10 an10 od11 an11 od12 an12 od13 an13 od14 an14 od15 an15 od16 an16 od17 an17 od18 an18 od19 an19 od20 an20 od21 an21 od22 an22 od23 an23 od24 an24 od25 an25 od26 an26 od27 an27 od28 an28 od29 an29 od30 an30 od31 an31 od32 an32 od33 an33 od34 an34 od35 an35 od36 an36 : Option Addr} {sl0 sl1 sl2 sl3 sl4 sl5 sl6 sl7 sl8 sl9 sl10 sl11 sl12 sl13 sl14 sl15 sl16 sl17 sl18 sl19 sl20 sl21 sl22 sl23 sl24 sl25 sl26 sl27 sl28 sl29 sl30 sl31 sl32 sl33 sl34 sl35 sl36 : Array (Option Value)} {oc0 kV0 dc0 pm0 cd0 ct0 oc1 kV1 dc1 pm1 cd1 ct1 oc2 kV2 dc2 pm2 cd2 ct2 oc3 kV3 dc3 pm3 cd3 ct3 oc4 kV4 dc4 pm4 cd4 ct4 oc5 kV5 dc5 pm5 cd5 ct5 oc6 kV6 dc6 pm6 cd6 ct6 oc7 kV7 dc7 pm7 cd7 ct7 oc8 kV8 dc8 pm8 cd8 ct8 oc9 kV9 dc9 pm9 cd9 ct9 oc10 kV10 dc10 pm10 cd10 ct10 oc11 kV11 dc11 pm11 cd11 ct11 oc12 kV12 dc12 pm12 cd12 ct12 oc13 kV13 dc13 pm13 cd13 ct13 oc14 kV14 dc14 pm14 cd14 ct14 oc15 kV15 dc15 pm15 cd15 ct15 oc16 kV16 dc16 pm16 cd16 ct16 oc17 kV17 dc17 pm17 cd17 ct17 oc18 kV18 dc18 pm18 cd18 ct18 oc19 kV19 dc19 pm19 cd19 ct19 oc20 kV20 dc20 pm20 cd20 ct20 oc21 kV21 dc21 pm21 cd21 ct21 oc22 kV22 dc22 pm22 cd22 ct22 oc23 kV23 dc23 pm23 cd23 ct23 oc24 kV24 dc24 pm24 cd24 ct24 oc25 kV25 dc25 pm25 cd25 ct25 oc26 kV26 dc26 pm26 cd26 ct26 oc27 kV27 dc27 pm27 cd27 ct27 oc28 kV28 dc28 pm28 cd28 ct28 oc29 kV29 dc29 pm29 cd29 ct29 oc30 kV30 dc30 pm30 cd30 ct30 oc31 kV31 dc31 pm31 cd31 ct31 oc32 kV32 dc32 pm32 cd32 ct32 oc33 kV33 dc33 pm33 cd33 ct33 oc34 kV34 dc34 pm34 cd34 ct34 oc35 kV35 dc35 pm35 cd35 ct35 oc36 kV36 dc36 pm36 cd36 ct36 : Value}
    (a0 : PySem.W.nsIn K mainGlobals "tupled" = some (some (.ref f0))) (l0 : K.lookup f0 = some ⟨oc0, od0, .func (PySem.W.fnOf "tupled" "tupled" (defArgs s_tupled) (defBody s_tupled) (defScope s_tupled) .none kV0 dc0 pm0 an0 cd0 ct0), sl0⟩)
    (c0 : PySem.W.codeIn K cd0 "tupled" = true) (k0 : PySem.W.keepIn K (.ref f0) = true)
    (a1 : PySem.W.nsIn K mainGlobals "is_number" = some (some (.ref f1))) (l1 : K.lookup f1 = some ⟨oc1, od1, .func (PySem.W.fnOf "is_number" "is_number" (defArgs s_is_number) (defBody s_is_number) (defScope s_is_number) .none kV1 dc1 pm1 an1 cd1 ct1), sl1⟩)
    (c1 : PySem.W.codeIn K cd1 "is_number" = true) (k1 : PySem.W.keepIn K (.ref f1) = true)
    (a2 : PySem.W.nsIn K mainGlobals "is_tuple_of" = some (some (.ref f2))) (l2 : K.lookup f2 = some ⟨oc2, od2, .func (PySem.W.fnOf "is_tuple_of" "is_tuple_of" (defArgs s_is_tuple_of) (defBody s_is_tuple_of) (defScope s_is_tuple_of) .none kV2 dc2 pm2 an2 cd2 ct2), sl2⟩)
    (c2 : PySem.W.codeIn K cd2 "is_tuple_of" = true) (k2 : PySem.W.keepIn K (.ref f2) = true)
    (a3 : PySem.W.nsIn K mainGlobals "looks_like_event" = some (some (.ref f3))) (l3 : K.lookup f3 = some ⟨oc3, od3, .func (PySem.W.fnOf "looks_like_event" "looks_like_event" (defArgs s_looks_like_event) (defBody s_looks_like_event) (defScope s_looks_like_event) .none kV3 dc3 pm3 an3 cd3 ct3), sl3⟩)
    (c3 : PySem.W.codeIn K cd3 "looks_like_event" = true) (k3 : PySem.W.keepIn K (.ref f3) = true)
    (a4 : PySem.W.nsIn K mainGlobals "sizes_of" = some (some (.ref f4))) (l4 : K.lookup f4 = some ⟨oc4, od4, .func (PySem.W.fnOf "sizes_of" "sizes_of" (defArgs s_sizes_of) (defBody s_sizes_of) (defScope s_sizes_of) .none kV4 dc4 pm4 an4 cd4 ct4), sl4⟩)
    (c4 : PySem.W.codeIn K cd4 "sizes_of" = true) (k4 : PySem.W.keepIn K (.ref f4) = true)
    (a5 : PySem.W.nsIn K mainGlobals "is_event" = some (some (.ref f5))) (l5 : K.lookup f5 = some ⟨oc5, od5, .func (PySem.W.fnOf "is_event" "is_event" (defArgs s_is_event) (defBody s_is_event) (defScope s_is_event) .none kV5 dc5 pm5 an5 cd5 ct5), sl5⟩)
    (c5 : PySem.W.codeIn K cd5 "is_event" = true) (k5 : PySem.W.keepIn K (.ref f5) = true)
    (a6 : PySem.W.nsIn K mainGlobals "linked" = some (some (.ref f6))) (l6 : K.lookup f6 = some ⟨oc6, od6, .func (PySem.W.fnOf "linked" "linked" (defArgs s_linked) (defBody s_linked) (defScope s_linked) .none kV6 dc6 pm6 an6 cd6 ct6), sl6⟩)
    (c6 : PySem.W.codeIn K cd6 "linked" = true) (k6 : PySem.W.keepIn K (.ref f6) = true)
    (a7 : PySem.W.nsIn K mainGlobals "turned" = some (some (.ref f7))) (l7 : K.lookup f7 = some ⟨oc7, od7, .func (PySem.W.fnOf "turned" "turned" (defArgs s_turned) (defBody s_turned) (defScope s_turned) .none kV7 dc7 pm7 an7 cd7 ct7), sl7⟩)
    (c7 : PySem.W.codeIn K cd7 "turned" = true) (k7 : PySem.W.keepIn K (.ref f7) = true)
    (a8 : PySem.W.nsIn K mainGlobals "least_first" = some (some (.ref f8))) (l8 : K.lookup f8 = some ⟨oc8, od8, .func (PySem.W.fnOf "least_first" "least_first" (defArgs s_least_first) (defBody s_least_first) (defScope s_least_first) .none kV8 dc8 pm8 an8 cd8 ct8), sl8⟩)
    (c8 : PySem.W.codeIn K cd8 "least_first" = true) (k8 : PySem.W.keepIn K (.ref f8) = true)
    (a9 : PySem.W.nsIn K mainGlobals "befores_of" = some (some (.ref f9))) (l9 : K.lookup f9 = some ⟨oc9, od9, .func (PySem.W.fnOf "befores_of" "befores_of" (defArgs s_befores_of) (defBody s_befores_of) (defScope s_befores_of) .none kV9 dc9 pm9 an9 cd9 ct9), sl9⟩)
    (c9 : PySem.W.codeIn K cd9 "befores_of" = true) (k9 : PySem.W.keepIn K (.ref f9) = true)
    (a10 : PySem.W.nsIn K mainGlobals "aheads_of" = some (some (.ref f10))) (l10 : K.lookup f10 = some ⟨oc10, od10, .func (PySem.W.fnOf "aheads_of" "aheads_of" (defArgs s_aheads_of) (defBody s_aheads_of) (defScope s_aheads_of) .none kV10 dc10 pm10 an10 cd10 ct10), sl10⟩)
    (c10 : PySem.W.codeIn K cd10 "aheads_of" = true) (k10 : PySem.W.keepIn K (.ref f10) = true)
    (a11 : PySem.W.nsIn K mainGlobals "there" = some (some (.ref f11))) (l11 : K.lookup f11 = some ⟨oc11, od11, .func (PySem.W.fnOf "there" "there" (defArgs s_there) (defBody s_there) (defScope s_there) .none kV11 dc11 pm11 an11 cd11 ct11), sl11⟩)
    (c11 : PySem.W.codeIn K cd11 "there" = true) (k11 : PySem.W.keepIn K (.ref f11) = true)
    (a12 : PySem.W.nsIn K mainGlobals "events" = some (some (.ref f12))) (l12 : K.lookup f12 = some ⟨oc12, od12, .func (PySem.W.fnOf "events" "events" (defArgs s_events) (defBody s_events) (defScope s_events) .none kV12 dc12 pm12 an12 cd12 ct12), sl12⟩)
    (c12 : PySem.W.codeIn K cd12 "events" = true) (k12 : PySem.W.keepIn K (.ref f12) = true)
    (a13 : PySem.W.nsIn K mainGlobals "marked" = some (some (.ref f13))) (l13 : K.lookup f13 = some ⟨oc13, od13, .func (PySem.W.fnOf "marked" "marked" (defArgs s_marked) (defBody s_marked) (defScope s_marked) .none kV13 dc13 pm13 an13 cd13 ct13), sl13⟩)
    (c13 : PySem.W.codeIn K cd13 "marked" = true) (k13 : PySem.W.keepIn K (.ref f13) = true)
    (a14 : PySem.W.nsIn K mainGlobals "counted" = some (some (.ref f14))) (l14 : K.lookup f14 = some ⟨oc14, od14, .func (PySem.W.fnOf "counted" "counted" (defArgs s_counted) (defBody s_counted) (defScope s_counted) .none kV14 dc14 pm14 an14 cd14 ct14), sl14⟩)
    (c14 : PySem.W.codeIn K cd14 "counted" = true) (k14 : PySem.W.keepIn K (.ref f14) = true)
    (a15 : PySem.W.nsIn K mainGlobals "place" = some (some (.ref f15))) (l15 : K.lookup f15 = some ⟨oc15, od15, .func (PySem.W.fnOf "place" "place" (defArgs s_place) (defBody s_place) (defScope s_place) .none kV15 dc15 pm15 an15 cd15 ct15), sl15⟩)
    (c15 : PySem.W.codeIn K cd15 "place" = true) (k15 : PySem.W.keepIn K (.ref f15) = true)
    (a16 : PySem.W.nsIn K mainGlobals "stamp_by" = some (some (.ref f16))) (l16 : K.lookup f16 = some ⟨oc16, od16, .func (PySem.W.fnOf "stamp_by" "stamp_by" (defArgs s_stamp_by) (defBody s_stamp_by) (defScope s_stamp_by) .none kV16 dc16 pm16 an16 cd16 ct16), sl16⟩)
    (c16 : PySem.W.codeIn K cd16 "stamp_by" = true) (k16 : PySem.W.keepIn K (.ref f16) = true)
    (a17 : PySem.W.nsIn K mainGlobals "stamp" = some (some (.ref f17))) (l17 : K.lookup f17 = some ⟨oc17, od17, .func (PySem.W.fnOf "stamp" "stamp" (defArgs s_stamp) (defBody s_stamp) (defScope s_stamp) .none kV17 dc17 pm17 an17 cd17 ct17), sl17⟩)
    (c17 : PySem.W.codeIn K cd17 "stamp" = true) (k17 : PySem.W.keepIn K (.ref f17) = true)
    (a18 : PySem.W.nsIn K mainGlobals "stamps" = some (some (.ref f18))) (l18 : K.lookup f18 = some ⟨oc18, od18, .func (PySem.W.fnOf "stamps" "stamps" (defArgs s_stamps) (defBody s_stamps) (defScope s_stamps) .none kV18 dc18 pm18 an18 cd18 ct18), sl18⟩)
    (c18 : PySem.W.codeIn K cd18 "stamps" = true) (k18 : PySem.W.keepIn K (.ref f18) = true)
    (a19 : PySem.W.nsIn K mainGlobals "handed" = some (some (.ref f19))) (l19 : K.lookup f19 = some ⟨oc19, od19, .func (PySem.W.fnOf "handed" "handed" (defArgs s_handed) (defBody s_handed) (defScope s_handed) .none kV19 dc19 pm19 an19 cd19 ct19), sl19⟩)
    (c19 : PySem.W.codeIn K cd19 "handed" = true) (k19 : PySem.W.keepIn K (.ref f19) = true)
    (a20 : PySem.W.nsIn K mainGlobals "_law_box" = some (some (.ref f20))) (l20 : K.lookup f20 = some ⟨oc20, od20, .func (PySem.W.fnOf "_law_box" "_law_box" (defArgs s__law_box) (defBody s__law_box) (defScope s__law_box) .none kV20 dc20 pm20 an20 cd20 ct20), sl20⟩)
    (c20 : PySem.W.codeIn K cd20 "_law_box" = true) (k20 : PySem.W.keepIn K (.ref f20) = true)
    (a21 : PySem.W.nsIn K mainGlobals "_law_take" = some (some (.ref f21))) (l21 : K.lookup f21 = some ⟨oc21, od21, .func (PySem.W.fnOf "_law_take" "_law_take" (defArgs s__law_take) (defBody s__law_take) (defScope s__law_take) .none kV21 dc21 pm21 an21 cd21 ct21), sl21⟩)
    (c21 : PySem.W.codeIn K cd21 "_law_take" = true) (k21 : PySem.W.keepIn K (.ref f21) = true)
    (a22 : PySem.W.nsIn K mainGlobals "_law_of" = some (some (.ref f22))) (l22 : K.lookup f22 = some ⟨oc22, od22, .func (PySem.W.fnOf "_law_of" "_law_of" (defArgs s__law_of) (defBody s__law_of) (defScope s__law_of) .none kV22 dc22 pm22 an22 cd22 ct22), sl22⟩)
    (c22 : PySem.W.codeIn K cd22 "_law_of" = true) (k22 : PySem.W.keepIn K (.ref f22) = true)
    (a23 : PySem.W.nsIn K mainGlobals "_law_lists" = some (some (.ref f23))) (l23 : K.lookup f23 = some ⟨oc23, od23, .func (PySem.W.fnOf "_law_lists" "_law_lists" (defArgs s__law_lists) (defBody s__law_lists) (defScope s__law_lists) .none kV23 dc23 pm23 an23 cd23 ct23), sl23⟩)
    (c23 : PySem.W.codeIn K cd23 "_law_lists" = true) (k23 : PySem.W.keepIn K (.ref f23) = true)
    (a24 : PySem.W.nsIn K mainGlobals "_law_same" = some (some (.ref f24))) (l24 : K.lookup f24 = some ⟨oc24, od24, .func (PySem.W.fnOf "_law_same" "_law_same" (defArgs s__law_same) (defBody s__law_same) (defScope s__law_same) .none kV24 dc24 pm24 an24 cd24 ct24), sl24⟩)
    (c24 : PySem.W.codeIn K cd24 "_law_same" = true) (k24 : PySem.W.keepIn K (.ref f24) = true)
    (a25 : PySem.W.nsIn K mainGlobals "_law_names" = some (some (.ref f25))) (l25 : K.lookup f25 = some ⟨oc25, od25, .func (PySem.W.fnOf "_law_names" "_law_names" (defArgs s__law_names) (defBody s__law_names) (defScope s__law_names) .none kV25 dc25 pm25 an25 cd25 ct25), sl25⟩)
    (c25 : PySem.W.codeIn K cd25 "_law_names" = true) (k25 : PySem.W.keepIn K (.ref f25) = true)
    (a26 : PySem.W.nsIn K mainGlobals "_law_log" = some (some (.ref f26))) (l26 : K.lookup f26 = some ⟨oc26, od26, .func (PySem.W.fnOf "_law_log" "_law_log" (defArgs s__law_log) (defBody s__law_log) (defScope s__law_log) .none kV26 dc26 pm26 an26 cd26 ct26), sl26⟩)
    (c26 : PySem.W.codeIn K cd26 "_law_log" = true) (k26 : PySem.W.keepIn K (.ref f26) = true)
    (a27 : PySem.W.nsIn K mainGlobals "_law_events" = some (some (.ref f27))) (l27 : K.lookup f27 = some ⟨oc27, od27, .func (PySem.W.fnOf "_law_events" "_law_events" (defArgs s__law_events) (defBody s__law_events) (defScope s__law_events) .none kV27 dc27 pm27 an27 cd27 ct27), sl27⟩)
    (c27 : PySem.W.codeIn K cd27 "_law_events" = true) (k27 : PySem.W.keepIn K (.ref f27) = true)
    (a28 : PySem.W.nsIn K mainGlobals "_law_marked" = some (some (.ref f28))) (l28 : K.lookup f28 = some ⟨oc28, od28, .func (PySem.W.fnOf "_law_marked" "_law_marked" (defArgs s__law_marked) (defBody s__law_marked) (defScope s__law_marked) .none kV28 dc28 pm28 an28 cd28 ct28), sl28⟩)
    (c28 : PySem.W.codeIn K cd28 "_law_marked" = true) (k28 : PySem.W.keepIn K (.ref f28) = true)
    (a29 : PySem.W.nsIn K mainGlobals "_law_order" = some (some (.ref f29))) (l29 : K.lookup f29 = some ⟨oc29, od29, .func (PySem.W.fnOf "_law_order" "_law_order" (defArgs s__law_order) (defBody s__law_order) (defScope s__law_order) .none kV29 dc29 pm29 an29 cd29 ct29), sl29⟩)
    (c29 : PySem.W.codeIn K cd29 "_law_order" = true) (k29 : PySem.W.keepIn K (.ref f29) = true)
    (a30 : PySem.W.nsIn K mainGlobals "_law_counters" = some (some (.ref f30))) (l30 : K.lookup f30 = some ⟨oc30, od30, .func (PySem.W.fnOf "_law_counters" "_law_counters" (defArgs s__law_counters) (defBody s__law_counters) (defScope s__law_counters) .none kV30 dc30 pm30 an30 cd30 ct30), sl30⟩)
    (c30 : PySem.W.codeIn K cd30 "_law_counters" = true) (k30 : PySem.W.keepIn K (.ref f30) = true)
    (a31 : PySem.W.nsIn K mainGlobals "_law_stamp" = some (some (.ref f31))) (l31 : K.lookup f31 = some ⟨oc31, od31, .func (PySem.W.fnOf "_law_stamp" "_law_stamp" (defArgs s__law_stamp) (defBody s__law_stamp) (defScope s__law_stamp) .none kV31 dc31 pm31 an31 cd31 ct31), sl31⟩)
    (c31 : PySem.W.codeIn K cd31 "_law_stamp" = true) (k31 : PySem.W.keepIn K (.ref f31) = true)
    (a32 : PySem.W.nsIn K mainGlobals "_law_refused" = some (some (.ref f32))) (l32 : K.lookup f32 = some ⟨oc32, od32, .func (PySem.W.fnOf "_law_refused" "_law_refused" (defArgs s__law_refused) (defBody s__law_refused) (defScope s__law_refused) .none kV32 dc32 pm32 an32 cd32 ct32), sl32⟩)
    (c32 : PySem.W.codeIn K cd32 "_law_refused" = true) (k32 : PySem.W.keepIn K (.ref f32) = true)
    (a33 : PySem.W.nsIn K mainGlobals "_law_place" = some (some (.ref f33))) (l33 : K.lookup f33 = some ⟨oc33, od33, .func (PySem.W.fnOf "_law_place" "_law_place" (defArgs s__law_place) (defBody s__law_place) (defScope s__law_place) .none kV33 dc33 pm33 an33 cd33 ct33), sl33⟩)
    (c33 : PySem.W.codeIn K cd33 "_law_place" = true) (k33 : PySem.W.keepIn K (.ref f33) = true)
    (a34 : PySem.W.nsIn K mainGlobals "_law_handed" = some (some (.ref f34))) (l34 : K.lookup f34 = some ⟨oc34, od34, .func (PySem.W.fnOf "_law_handed" "_law_handed" (defArgs s__law_handed) (defBody s__law_handed) (defScope s__law_handed) .none kV34 dc34 pm34 an34 cd34 ct34), sl34⟩)
    (c34 : PySem.W.codeIn K cd34 "_law_handed" = true) (k34 : PySem.W.keepIn K (.ref f34) = true)
    (a35 : PySem.W.nsIn K mainGlobals "_law_right" = some (some (.ref f35))) (l35 : K.lookup f35 = some ⟨oc35, od35, .func (PySem.W.fnOf "_law_right" "_law_right" (defArgs s__law_right) (defBody s__law_right) (defScope s__law_right) .none kV35 dc35 pm35 an35 cd35 ct35), sl35⟩)
    (c35 : PySem.W.codeIn K cd35 "_law_right" = true) (k35 : PySem.W.keepIn K (.ref f35) = true)
    (a36 : PySem.W.nsIn K mainGlobals "law" = some (some (.ref f36))) (l36 : K.lookup f36 = some ⟨oc36, od36, .func (PySem.W.fnOf "law" "law" (defArgs s_law) (defBody s_law) (defScope s_law) .none kV36 dc36 pm36 an36 cd36 ct36), sl36⟩)
    (c36 : PySem.W.codeIn K cd36 "law" = true) (k36 : PySem.W.keepIn K (.ref f36) = true)
    (z_LookupError : PySem.W.nsIn K mainGlobals "LookupError" = some none)
    (z_abs : PySem.W.nsIn K mainGlobals "abs" = some none)
    (z_all : PySem.W.nsIn K mainGlobals "all" = some none)
    (z_bool : PySem.W.nsIn K mainGlobals "bool" = some none)
    (z_dict : PySem.W.nsIn K mainGlobals "dict" = some none)
    (z_enumerate : PySem.W.nsIn K mainGlobals "enumerate" = some none)
    (z_int : PySem.W.nsIn K mainGlobals "int" = some none)
    (z_isinstance : PySem.W.nsIn K mainGlobals "isinstance" = some none)
    (z_len : PySem.W.nsIn K mainGlobals "len" = some none)
    (z_list : PySem.W.nsIn K mainGlobals "list" = some none)
    (z_min : PySem.W.nsIn K mainGlobals "min" = some none)
    (z_range : PySem.W.nsIn K mainGlobals "range" = some none)
    (z_set : PySem.W.nsIn K mainGlobals "set" = some none)
    (z_sorted : PySem.W.nsIn K mainGlobals "sorted" = some none)
    (z_str : PySem.W.nsIn K mainGlobals "str" = some none)
    (z_tuple : PySem.W.nsIn K mainGlobals "tuple" = some none)
    (z_zip : PySem.W.nsIn K mainGlobals "zip" = some none)
    (y_heappop : PySem.W.nsIn K mainGlobals "heappop" = some (some (.builtin "_heapq.heappop")))
    (y_heappush : PySem.W.nsIn K mainGlobals "heappush" = some (some (.builtin "_heapq.heappush")))
    {C fI cM cA cB : Addr} {nm q : Str} {N : Addr} {bs : List Value} {sn : List Str} {sub : List Value} {ab : Bool} {col : Option Bool} {dd : Option Addr} {m0 m1 m2 m3 m5 : Option Value} {odI anI : Option Addr} {slI : Array (Option Value)} {ocI dcI pmI cdI ctI : Value}
    (aC : PySem.W.nsIn K mainGlobals "NoEvent" = some (some (.ref C)))
    (xL : K.lookup C = some (excClassObj nm q C N bs XB.leTail true sn sub ab col dd m0 m1 m2 m3 m5 "LookupError.__new__"))
    (sa : PySem.W.findIn K (.ref C) "__setattr__" = some (some (.builtin "object.__setattr__"))) (ga : PySem.W.findIn K (.ref C) "__getattribute__" = some (some (.builtin "BaseException.__getattribute__"))) (gg : PySem.W.findIn K (.ref C) "__getattr__" = some none) (nb : PySem.W.findIn K (.ref C) "event" = some none)
    (aI : PySem.W.findIn K (.ref C) "__init__" = some (some (.ref fI))) (tI : PySem.W.typeIn K (.ref fI) = some (.type "function"))
    (lI : K.lookup fI = some ⟨ocI, odI, .func (PySem.W.fnOf "__init__" "NoEvent.__init__" (XB.nA ⟨5, 17, 5, 21⟩ ⟨5, 23, 5, 28⟩) (XB.nB ⟨6, 8, 6, 12⟩ ⟨6, 8, 6, 18⟩ ⟨6, 21, 6, 26⟩ ⟨6, 8, 6, 26⟩) XB.nS .none .none dcI pmI anI cdI ctI), slI⟩) (cI : PySem.W.codeIn K cdI "NoEvent.__init__" = true)
    (kC : PySem.W.keepIn K (.ref C) = true) (eC : PySem.W.subIn K (.ref C) (.type "BaseException") = some true) (tC : PySem.W.typeIn K (.ref C) = some (.type "type")) (hC : PySem.W.hasDictIn K C = true) (iC : PySem.W.isClsIn K C = true) (sC : PySem.W.subIn K (.ref C) (.ref C) = some true)
    (gC : PySem.W.findIn K (.ref C) "__class__" = some (some (.builtin "object.__class__"))) (gn : PySem.W.specialIn K (.builtin "object.__class__") "__get__" = some (some (.builtin "getset_descriptor.__get__"))) (gt : PySem.W.takesIn K (.builtin "object.__class__") = some true) (gm : PySem.W.mroIn K C (.type "object") = some true)
    (sL : PySem.W.subIn K (.ref C) (.type "LookupError") = some true)
    (aM : PySem.W.nsIn K mainGlobals "NoMachine" = some (some (.ref cM))) (eM : PySem.W.subIn K (.ref cM) (.type "BaseException") = some true) (tM : PySem.W.typeIn K (.ref cM) = some (.type "type")) (hM : PySem.W.hasDictIn K cM = true) (sM : PySem.W.subIn K (.ref C) (.ref cM) = some false)
    (aA : PySem.W.nsIn K mainGlobals "NotAhead" = some (some (.ref cA))) (eA : PySem.W.subIn K (.ref cA) (.type "BaseException") = some true) (tA : PySem.W.typeIn K (.ref cA) = some (.type "type")) (hA : PySem.W.hasDictIn K cA = true) (sA : PySem.W.subIn K (.ref C) (.ref cA) = some false)
    (aB : PySem.W.nsIn K mainGlobals "BadLine" = some (some (.ref cB))) (eB : PySem.W.subIn K (.ref cB) (.type "BaseException") = some true) (tB : PySem.W.typeIn K (.ref cB) = some (.type "type")) (hB : PySem.W.hasDictIn K cB = true) (sB : PySem.W.subIn K (.ref C) (.ref cB) = some false) :
    ∃ fd : FuncData, (∀ (s : Shared) (v : Value), BindsTo s fd ⟨[v], []⟩ [("_law_script", v)]) ∧ ∀ base : Heap, K.In base → base.Ns mainGlobals mg → FnOk l.prog w K mg base CX0 12 fa fd ["_law_script"] (spLaw K) := by
  have e := hfa.symm.trans (PySem.W.mg_of X G a36)
  cases e
  have F0 := fun_mk (st := s_tupled) l0 c0 k0
  have F1 := fun_mk (st := s_is_number) l1 c1 k1
  have F2 := fun_mk (st := s_is_tuple_of) l2 c2 k2
  have F3 := fun_mk (st := s_looks_like_event) l3 c3 k3
  have F4 := fun_mk (st := s_sizes_of) l4 c4 k4
  have F5 := fun_mk (st := s_is_event) l5 c5 k5
  have F6 := fun_mk (st := s_linked) l6 c6 k6
  have F7 := fun_mk (st := s_turned) l7 c7 k7
  have F8 := fun_mk (st := s_least_first) l8 c8 k8
  have F9 := fun_mk (st := s_befores_of) l9 c9 k9
  have F10 := fun_mk (st := s_aheads_of) l10 c10 k10
  have F11 := fun_mk (st := s_there) l11 c11 k11
  have F12 := fun_mk (st := s_events) l12 c12 k12
  have F13 := fun_mk (st := s_marked) l13 c13 k13
  have F14 := fun_mk (st := s_counted) l14 c14 k14
  have F15 := fun_mk (st := s_place) l15 c15 k15
  have F16 := fun_mk (st := s_stamp_by) l16 c16 k16
  have F17 := fun_mk (st := s_stamp) l17 c17 k17
  have F18 := fun_mk (st := s_stamps) l18 c18 k18
  have F19 := fun_mk (st := s_handed) l19 c19 k19
  have F20 := fun_mk (st := s__law_box) l20 c20 k20
  have F21 := fun_mk (st := s__law_take) l21 c21 k21
  have F22 := fun_mk (st := s__law_of) l22 c22 k22
  have F23 := fun_mk (st := s__law_lists) l23 c23 k23
  have F24 := fun_mk (st := s__law_same) l24 c24 k24
  have F25 := fun_mk (st := s__law_names) l25 c25 k25
  have F26 := fun_mk (st := s__law_log) l26 c26 k26
  have F27 := fun_mk (st := s__law_events) l27 c27 k27
  have F28 := fun_mk (st := s__law_marked) l28 c28 k28
  have F29 := fun_mk (st := s__law_order) l29 c29 k29
  have F30 := fun_mk (st := s__law_counters) l30 c30 k30
  have F31 := fun_mk (st := s__law_stamp) l31 c31 k31
  have F32 := fun_mk (st := s__law_refused) l32 c32 k32
  have F33 := fun_mk (st := s__law_place) l33 c33 k33
  have F34 := fun_mk (st := s__law_handed) l34 c34 k34
  have F35 := fun_mk (st := s__law_right) l35 c35 k35
  have F36 := fun_mk (st := s_law) l36 c36 k36
  have NE : XB.NoEv K mg C fI := { gC := PySem.W.mg_of X G aC, cls := ⟨nm, q, N, bs, sn, sub, ab, col, dd, m0, m1, m2, m3, m5, xL⟩, sa := sa, ga := ga, gg := gg, noN := nb, iC := aI, tC := tI, kC := kC, exC := eC, tyC := tC, hdC := hC, fn := ⟨_, _, _, _, _, _, _, _, _, _, _, _, _, _, lI, cI⟩ }
  have clC : (PySem.W.clsIn K C).isSome = true := cls_some hC
  let T : Tx K mg := {
    cE := C
    iE := fI
    cM := cM
    cA := cA
    cB := cB
    noev := NE
    errC := ⟨clC, ga, gg, eC, gC, gn, gt, gm⟩
    gM := PySem.W.mg_of X G aM
    gA := PySem.W.mg_of X G aA
    gB := PySem.W.mg_of X G aB
    four := exm_four (PySem.W.exm_ref eB hB tB sB) (PySem.W.exm_ref eC hC tC sC) (PySem.W.exm_ref eM hM tM sM) (PySem.W.exm_ref eA hA tA sA)
    isL := kit_le sL
    isM := kit_not sC sM hM tM
    LookupError := PySem.W.mg_none_of X G z_LookupError
    abs := PySem.W.mg_none_of X G z_abs
    all := PySem.W.mg_none_of X G z_all
    bool := PySem.W.mg_none_of X G z_bool
    dict := PySem.W.mg_none_of X G z_dict
    enumerate := PySem.W.mg_none_of X G z_enumerate
    int := PySem.W.mg_none_of X G z_int
    isinstance := PySem.W.mg_none_of X G z_isinstance
    len := PySem.W.mg_none_of X G z_len
    list := PySem.W.mg_none_of X G z_list
    min := PySem.W.mg_none_of X G z_min
    range := PySem.W.mg_none_of X G z_range
    set := PySem.W.mg_none_of X G z_set
    sorted := PySem.W.mg_none_of X G z_sorted
    str := PySem.W.mg_none_of X G z_str
    tuple := PySem.W.mg_none_of X G z_tuple
    zip := PySem.W.mg_none_of X G z_zip
    mheappop := PySem.W.mg_of X G y_heappop
    mheappush := PySem.W.mg_of X G y_heappush
    atupled := f0
    dtupled := _
    ftupled := F0
    mtupled := PySem.W.mg_of X G a0
    btupled := F0.binds (ps := P_tupled) fun _ _ _ _ _ _ us hl => match us, hl with | [_], _ => rfl
    ais_number := f1
    dis_number := _
    fis_number := F1
    mis_number := PySem.W.mg_of X G a1
    bis_number := F1.binds (ps := P_is_number) fun _ _ _ _ _ _ us hl => match us, hl with | [_], _ => rfl
    ais_tuple_of := f2
    dis_tuple_of := _
    fis_tuple_of := F2
    mis_tuple_of := PySem.W.mg_of X G a2
    bis_tuple_of := F2.binds (ps := P_is_tuple_of) fun _ _ _ _ _ _ us hl => match us, hl with | [_, _], _ => rfl
    alooks_like_event := f3
    dlooks_like_event := _
    flooks_like_event := F3
    mlooks_like_event := PySem.W.mg_of X G a3
    blooks_like_event := F3.binds (ps := P_looks_like_event) fun _ _ _ _ _ _ us hl => match us, hl with | [_], _ => rfl
    asizes_of := f4
    dsizes_of := _
    fsizes_of := F4
    msizes_of := PySem.W.mg_of X G a4
    bsizes_of := F4.binds (ps := P_sizes_of) fun _ _ _ _ _ _ us hl => match us, hl with | [_], _ => rfl
    ais_event := f5
    dis_event := _
    fis_event := F5
    mis_event := PySem.W.mg_of X G a5
    bis_event := F5.binds (ps := P_is_event) fun _ _ _ _ _ _ us hl => match us, hl with | [_, _], _ => rfl
    alinked := f6
    dlinked := _
    flinked := F6
    mlinked := PySem.W.mg_of X G a6
    blinked := F6.binds (ps := P_linked) fun _ _ _ _ _ _ us hl => match us, hl with | [_, _], _ => rfl
    aturned := f7
    dturned := _
    fturned := F7
    mturned := PySem.W.mg_of X G a7
    bturned := F7.binds (ps := P_turned) fun _ _ _ _ _ _ us hl => match us, hl with | [_], _ => rfl
    aleast_first := f8
    dleast_first := _
    fleast_first := F8
    mleast_first := PySem.W.mg_of X G a8
    bleast_first := F8.binds (ps := P_least_first) fun _ _ _ _ _ _ us hl => match us, hl with | [_], _ => rfl
    abefores_of := f9
    dbefores_of := _
    fbefores_of := F9
    mbefores_of := PySem.W.mg_of X G a9
    bbefores_of := F9.binds (ps := P_befores_of) fun _ _ _ _ _ _ us hl => match us, hl with | [_], _ => rfl
    aaheads_of := f10
    daheads_of := _
    faheads_of := F10
    maheads_of := PySem.W.mg_of X G a10
    baheads_of := F10.binds (ps := P_aheads_of) fun _ _ _ _ _ _ us hl => match us, hl with | [_], _ => rfl
    athere := f11
    dthere := _
    fthere := F11
    mthere := PySem.W.mg_of X G a11
    bthere := F11.binds (ps := P_there) fun _ _ _ _ _ _ us hl => match us, hl with | [_, _], _ => rfl
    aevents := f12
    devents := _
    fevents := F12
    mevents := PySem.W.mg_of X G a12
    bevents := F12.binds (ps := P_events) fun _ _ _ _ _ _ us hl => match us, hl with | [_], _ => rfl
    amarked := f13
    dmarked := _
    fmarked := F13
    mmarked := PySem.W.mg_of X G a13
    bmarked := F13.binds (ps := P_marked) fun _ _ _ _ _ _ us hl => match us, hl with | [_], _ => rfl
    acounted := f14
    dcounted := _
    fcounted := F14
    mcounted := PySem.W.mg_of X G a14
    bcounted := F14.binds (ps := P_counted) fun _ _ _ _ _ _ us hl => match us, hl with | [_], _ => rfl
    aplace := f15
    dplace := _
    fplace := F15
    mplace := PySem.W.mg_of X G a15
    bplace := F15.binds (ps := P_place) fun _ _ _ _ _ _ us hl => match us, hl with | [_, _], _ => rfl
    astamp_by := f16
    dstamp_by := _
    fstamp_by := F16
    mstamp_by := PySem.W.mg_of X G a16
    bstamp_by := F16.binds (ps := P_stamp_by) fun _ _ _ _ _ _ us hl => match us, hl with | [_, _, _], _ => rfl
    astamp := f17
    dstamp := _
    fstamp := F17
    mstamp := PySem.W.mg_of X G a17
    bstamp := F17.binds (ps := P_stamp) fun _ _ _ _ _ _ us hl => match us, hl with | [_, _, _], _ => rfl
    astamps := f18
    dstamps := _
    fstamps := F18
    mstamps := PySem.W.mg_of X G a18
    bstamps := F18.binds (ps := P_stamps) fun _ _ _ _ _ _ us hl => match us, hl with | [_, _], _ => rfl
    ahanded := f19
    dhanded := _
    fhanded := F19
    mhanded := PySem.W.mg_of X G a19
    bhanded := F19.binds (ps := P_handed) fun _ _ _ _ _ _ us hl => match us, hl with | [_], _ => rfl
    a_law_box := f20
    d_law_box := _
    f_law_box := F20
    m_law_box := PySem.W.mg_of X G a20
    b_law_box := F20.binds (ps := P__law_box) fun _ _ _ _ _ _ us hl => match us, hl with | [_, _], _ => rfl
    a_law_take := f21
    d_law_take := _
    f_law_take := F21
    m_law_take := PySem.W.mg_of X G a21
    b_law_take := F21.binds (ps := P__law_take) fun _ _ _ _ _ _ us hl => match us, hl with | [_, _], _ => rfl
    a_law_of := f22
    d_law_of := _
    f_law_of := F22
    m_law_of := PySem.W.mg_of X G a22
    b_law_of := F22.binds (ps := P__law_of) fun _ _ _ _ _ _ us hl => match us, hl with | [_, _], _ => rfl
    a_law_lists := f23
    d_law_lists := _
    f_law_lists := F23
    m_law_lists := PySem.W.mg_of X G a23
    b_law_lists := F23.binds (ps := P__law_lists) fun _ _ _ _ _ _ us hl => match us, hl with | [_], _ => rfl
    a_law_same := f24
    d_law_same := _
    f_law_same := F24
    m_law_same := PySem.W.mg_of X G a24
    b_law_same := F24.binds (ps := P__law_same) fun _ _ _ _ _ _ us hl => match us, hl with | [_, _], _ => rfl
    a_law_names := f25
    d_law_names := _
    f_law_names := F25
    m_law_names := PySem.W.mg_of X G a25
    b_law_names := F25.binds (ps := P__law_names) fun _ _ _ _ _ _ us hl => match us, hl with | [_, _], _ => rfl
    a_law_log := f26
    d_law_log := _
    f_law_log := F26
    m_law_log := PySem.W.mg_of X G a26
    b_law_log := F26.binds (ps := P__law_log) fun _ _ _ _ _ _ us hl => match us, hl with | [_, _, _, _, _], _ => rfl
    a_law_events := f27
    d_law_events := _
    f_law_events := F27
    m_law_events := PySem.W.mg_of X G a27
    b_law_events := F27.binds (ps := P__law_events) fun _ _ _ _ _ _ us hl => match us, hl with | [_], _ => rfl
    a_law_marked := f28
    d_law_marked := _
    f_law_marked := F28
    m_law_marked := PySem.W.mg_of X G a28
    b_law_marked := F28.binds (ps := P__law_marked) fun _ _ _ _ _ _ us hl => match us, hl with | [_], _ => rfl
    a_law_order := f29
    d_law_order := _
    f_law_order := F29
    m_law_order := PySem.W.mg_of X G a29
    b_law_order := F29.binds (ps := P__law_order) fun _ _ _ _ _ _ us hl => match us, hl with | [_], _ => rfl
    a_law_counters := f30
    d_law_counters := _
    f_law_counters := F30
    m_law_counters := PySem.W.mg_of X G a30
    b_law_counters := F30.binds (ps := P__law_counters) fun _ _ _ _ _ _ us hl => match us, hl with | [_, _, _, _], _ => rfl
    a_law_stamp := f31
    d_law_stamp := _
    f_law_stamp := F31
    m_law_stamp := PySem.W.mg_of X G a31
    b_law_stamp := F31.binds (ps := P__law_stamp) fun _ _ _ _ _ _ us hl => match us, hl with | [_, _, _], _ => rfl
    a_law_refused := f32
    d_law_refused := _
    f_law_refused := F32
    m_law_refused := PySem.W.mg_of X G a32
    b_law_refused := F32.binds (ps := P__law_refused) fun _ _ _ _ _ _ us hl => match us, hl with | [_, _, _], _ => rfl
    a_law_place := f33
    d_law_place := _
    f_law_place := F33
    m_law_place := PySem.W.mg_of X G a33
    b_law_place := F33.binds (ps := P__law_place) fun _ _ _ _ _ _ us hl => match us, hl with | [_, _], _ => rfl
    a_law_handed := f34
    d_law_handed := _
    f_law_handed := F34
    m_law_handed := PySem.W.mg_of X G a34
    b_law_handed := F34.binds (ps := P__law_handed) fun _ _ _ _ _ _ us hl => match us, hl with | [_], _ => rfl
    a_law_right := f35
    d_law_right := _
    f_law_right := F35
    m_law_right := PySem.W.mg_of X G a35
    b_law_right := F35.binds (ps := P__law_right) fun _ _ _ _ _ _ us hl => match us, hl with | [_], _ => rfl
    alaw := fa
    dlaw := _
    flaw := F36
    mlaw := PySem.W.mg_of X G a36
    blaw := F36.binds (ps := P_law) fun _ _ _ _ _ _ us hl => match us, hl with | [_], _ => rfl }
  exact ⟨_, fun s v => .of_eq rfl, fun base _ _ => ok_law T (kb2 fun _ _ => rfl) (kb1 fun _ => rfl) (kb1 fun _ => rfl) (kb3 fun _ _ _ => rfl) (kb2 fun _ _ => rfl)⟩

end L2.K06
open PySem PySem.W PyProof.Rows
set_option maxHeartbeats 0 in
theorem PySem.Challenge.cw_fewstamps_k06_stamps_holds : PySem.Challenge.rw_fewstamps_k06_stamps.Holds := by
  w_on; o_law; k_head; (case hw => w_witness2)
  k_fill
  refine L2.walk_of (l := PySem.Challenge.rw_fewstamps_k06_stamps) (n := 63) (k := 12) (x := "_law_script") (CX := fun _ => L2.CX0) (sp := fun w => L2.K06.spLaw _) rfl (by decide) rfl ⟨rfl, by decide, by decide⟩ (fun w h Y => PySem.W.kIn_of Y) ?F (fun _ _ a ns hl _ hS => ⟨a, ns, rfl, hS, hl, fun _ => rfl⟩) (fun _ _ _ _ _ h => h)
  case F =>
    intro w mg fa h KX G hmg
    refine' L2.K06.all_mk KX G hmg ?a0 ?l0 ?c0 ?k0 ?a1 ?l1 ?c1 ?k1 ?a2 ?l2 ?c2 ?k2 ?a3 ?l3 ?c3 ?k3 ?a4 ?l4 ?c4 ?k4 ?a5 ?l5 ?c5 ?k5 ?a6 ?l6 ?c6 ?k6 ?a7 ?l7 ?c7 ?k7 ?a8 ?l8 ?c8 ?k8 ?a9 ?l9 ?c9 ?k9 ?a10 ?l10 ?c10 ?k10 ?a11 ?l11 ?c11 ?k11 ?a12 ?l12 ?c12 ?k12 ?a13 ?l13 ?c13 ?k13 ?a14 ?l14 ?c14 ?k14 ?a15 ?l15 ?c15 ?k15 ?a16 ?l16 ?c16 ?k16 ?a17 ?l17 ?c17 ?k17 ?a18 ?l18 ?c18 ?k18 ?a19 ?l19 ?c19 ?k19 ?a20 ?l20 ?c20 ?k20 ?a21 ?l21 ?c21 ?k21 ?a22 ?l22 ?c22 ?k22 ?a23 ?l23 ?c23 ?k23 ?a24 ?l24 ?c24 ?k24 ?a25 ?l25 ?c25 ?k25 ?a26 ?l26 ?c26 ?k26 ?a27 ?l27 ?c27 ?k27 ?a28 ?l28 ?c28 ?k28 ?a29 ?l29 ?c29 ?k29 ?a30 ?l30 ?c30 ?k30 ?a31 ?l31 ?c31 ?k31 ?a32 ?l32 ?c32 ?k32 ?a33 ?l33 ?c33 ?k33 ?a34 ?l34 ?c34 ?k34 ?a35 ?l35 ?c35 ?k35 ?a36 ?l36 ?c36 ?k36 ?z_LookupError ?z_abs ?z_all ?z_bool ?z_dict ?z_enumerate ?z_int ?z_isinstance ?z_len ?z_list ?z_min ?z_range ?z_set ?z_sorted ?z_str ?z_tuple ?z_zip ?y_heappop ?y_heappush ?aC ?xL ?sa ?ga ?gg ?nb ?aI ?tI ?lI ?cI ?kC ?eC ?tC ?hC ?iC ?sC ?gC ?gn ?gt ?gm ?sL ?aM ?eM ?tM ?hM ?sM ?aA ?eA ?tA ?hA ?sA ?aB ?eB ?tB ?hB ?sB
    (case a0 => k_is); (case l0 => k_is); (case c0 => k_is); (case k0 => k_is); (case a1 => k_is); (case l1 => k_is); (case c1 => k_is); (case k1 => k_is); (case a2 => k_is); (case l2 => k_is); (case c2 => k_is); (case k2 => k_is); (case a3 => k_is); (case l3 => k_is); (case c3 => k_is); (case k3 => k_is); (case a4 => k_is); (case l4 => k_is); (case c4 => k_is); (case k4 => k_is); (case a5 => k_is); (case l5 => k_is); (case c5 => k_is); (case k5 => k_is); (case a6 => k_is); (case l6 => k_is); (case c6 => k_is); (case k6 => k_is); (case a7 => k_is); (case l7 => k_is); (case c7 => k_is); (case k7 => k_is); (case a8 => k_is); (case l8 => k_is); (case c8 => k_is); (case k8 => k_is); (case a9 => k_is); (case l9 => k_is); (case c9 => k_is); (case k9 => k_is); (case a10 => k_is); (case l10 => k_is); (case c10 => k_is); (case k10 => k_is); (case a11 => k_is); (case l11 => k_is); (case c11 => k_is); (case k11 => k_is); (case a12 => k_is); (case l12 => k_is); (case c12 => k_is); (case k12 => k_is); (case a13 => k_is); (case l13 => k_is); (case c13 => k_is); (case k13 => k_is); (case a14 => k_is); (case l14 => k_is); (case c14 => k_is); (case k14 => k_is); (case a15 => k_is); (case l15 => k_is); (case c15 => k_is); (case k15 => k_is); (case a16 => k_is); (case l16 => k_is); (case c16 => k_is); (case k16 => k_is); (case a17 => k_is); (case l17 => k_is); (case c17 => k_is); (case k17 => k_is); (case a18 => k_is); (case l18 => k_is); (case c18 => k_is); (case k18 => k_is); (case a19 => k_is); (case l19 => k_is); (case c19 => k_is); (case k19 => k_is); (case a20 => k_is); (case l20 => k_is); (case c20 => k_is); (case k20 => k_is); (case a21 => k_is); (case l21 => k_is); (case c21 => k_is); (case k21 => k_is); (case a22 => k_is); (case l22 => k_is); (case c22 => k_is); (case k22 => k_is); (case a23 => k_is); (case l23 => k_is); (case c23 => k_is); (case k23 => k_is); (case a24 => k_is); (case l24 => k_is); (case c24 => k_is); (case k24 => k_is); (case a25 => k_is); (case l25 => k_is); (case c25 => k_is); (case k25 => k_is); (case a26 => k_is); (case l26 => k_is); (case c26 => k_is); (case k26 => k_is); (case a27 => k_is); (case l27 => k_is); (case c27 => k_is); (case k27 => k_is); (case a28 => k_is); (case l28 => k_is); (case c28 => k_is); (case k28 => k_is); (case a29 => k_is); (case l29 => k_is); (case c29 => k_is); (case k29 => k_is); (case a30 => k_is); (case l30 => k_is); (case c30 => k_is); (case k30 => k_is); (case a31 => k_is); (case l31 => k_is); (case c31 => k_is); (case k31 => k_is); (case a32 => k_is); (case l32 => k_is); (case c32 => k_is); (case k32 => k_is); (case a33 => k_is); (case l33 => k_is); (case c33 => k_is); (case k33 => k_is); (case a34 => k_is); (case l34 => k_is); (case c34 => k_is); (case k34 => k_is); (case a35 => k_is); (case l35 => k_is); (case c35 => k_is); (case k35 => k_is); (case a36 => k_is); (case l36 => k_is); (case c36 => k_is); (case k36 => k_is); (case z_LookupError => k_is); (case z_abs => k_is); (case z_all => k_is); (case z_bool => k_is); (case z_dict => k_is); (case z_enumerate => k_is); (case z_int => k_is); (case z_isinstance => k_is); (case z_len => k_is); (case z_list => k_is); (case z_min => k_is); (case z_range => k_is); (case z_set => k_is); (case z_sorted => k_is); (case z_str => k_is); (case z_tuple => k_is); (case z_zip => k_is); (case y_heappop => k_is); (case y_heappush => k_is); (case aC => k_is); (case xL => k_is); (case sa => k_is); (case ga => k_is); (case gg => k_is); (case nb => k_is); (case aI => k_is); (case tI => k_is); (case lI => k_is); (case cI => k_is); (case kC => k_is); (case eC => k_is); (case tC => k_is); (case hC => k_is); (case iC => k_is); (case sC => first | rfl | k_is); (case gC => k_is); (case gn => k_is); (case gt => k_is); (case gm => k_is); (case sL => first | rfl | k_is); (case aM => k_is); (case eM => k_is); (case tM => k_is); (case hM => k_is); (case sM => first | rfl | k_is); (case aA => k_is); (case eA => k_is); (case tA => k_is); (case hA => k_is); (case sA => first | rfl | k_is); (case aB => k_is); (case eB => k_is); (case tB => k_is); (case hB => k_is); (case sB => first | rfl | k_is)

