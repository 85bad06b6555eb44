import PyProof.Rows.All
import Wide.All
import OpenK.AllK
import Wide.FinOn
import HandS.ForMost
import HandS.IsInst
import HandS.Gcd
import HandS.Style
import HandS.SetFor
import HandS.Strs
import PyProof.ReprRoads
import KE.Datum
import KE.SortData
import KE.GoesMore
import KE.GoesZip
import HandS.Walk
import HandS.TupAny
import HandS.Star
import HandS.Deep
import HandS.Codes
import HandS.Conv
import KE.GoesEnum
import HandS.SortInts
import PyProof.ReprBulk
import PySem.Challenge.RW_fromplaces_k28_whole_lists_of_counts_cha
set_option Elab.async false
set_option linter.all false
set_option maxRecDepth 100000
set_option maxHeartbeats 8000000
namespace Fp
open PySem PySem.Spec PyProof.Rows L2

/-! ### heaps -/
theorem same_new {H : Hp} {p : Addr} {o : HO} (h : H p = none) : Same H (upd H p o) := fun b u q => by rw [upd_ne (ne_of_none q h)]; exact q
theorem same_sqT {K : PySem.W.Frag} {H H' : Hp} {a : Addr} {xs : List V} (e : Same H H') (h : SqT K H a xs) : SqT K H' a xs := by
  rcases h with (h | ⟨o, h⟩) | h
  · exact Or.inl (Or.inl (e _ _ h))
  · exact Or.inl (Or.inr ⟨o, e _ _ h⟩)
  · exact Or.inr h
/-- a list or a tuple that is read -/
def Sq (K : PySem.W.Frag) (H : Hp) (a : Addr) (xs : List V) : Prop := SqL K H a xs ∨ SqT K H a xs
theorem Sq.same {K : PySem.W.Frag} {H H' : Hp} {a : Addr} {xs : List V} (h : Sq K H a xs) (e : Same H H') : Sq K H' a xs := h.imp (fun q => e.seq q) (fun q => same_sqT e q)
theorem sq_lst {K : PySem.W.Frag} {H : Hp} {a : Addr} {xs : List V} (h : H a = some (.lst xs)) : Sq K H a xs := Or.inl (SqL.of h)
theorem sq_tup {K : PySem.W.Frag} {H : Hp} {a : Addr} {xs : List V} (h : H a = some (.tup xs)) : Sq K H a xs := Or.inr (SqT.of h)
/-- all but p as it was -/
def Keep (p : Addr) (H H' : Hp) : Prop := ∀ b o, b ≠ p → H b = some o → H' b = some o
theorem Keep.refl (p : Addr) (H : Hp) : Keep p H H := fun _ _ _ h => h
theorem Keep.trans {p : Addr} {H H1 H2 : Hp} (a : Keep p H H1) (b : Keep p H1 H2) : Keep p H H2 := fun c o n h => b c o n (a c o n h)
theorem Keep.of {p : Addr} {H H' : Hp} (a : Same H H') : Keep p H H' := fun c o _ h => a c o h
theorem keep_upd {p : Addr} {H : Hp} {o : HO} : Keep p H (upd H p o) := fun b u n q => by rw [upd_ne n]; exact q

/-! ### what is walked: a list or a tuple -/
section
variable {X : Cx} {tg : Expr}
theorem pi_or {l : Expr} {w1 w2 : TI} (h1 : PI X tg l w1) (h2 : PI X tg l w2) : PI X tg l (fun σ H R => w1 σ H R ∨ w2 σ H R) :=
  ⟨fun pins s σ H R I h => h.elim (fun q => h1.run pins s σ H R I q) (fun q => h2.run pins s σ H R I q)⟩
def iSq (K : PySem.W.Frag) (tl : TE) : TI := fun σ H R => iList K tl σ H R ∨ iTup K tl σ H R
theorem pi_sq {l : Expr} {tl : TE} (hl : PE X l tl) : PI X tg l (iSq X.K tl) := pi_or (pi_list hl) (pi_tup hl)
end
section
variable {K : PySem.W.Frag} {tl : TE} {a : Addr} {xs : List V} {g : TG} {tt : TT} {te : TE} {vs : List Nat} {σ : L2.St} {H : Hp} {Q : VK} {tb : TS} {D : Ends}
/-- for x in a list or a tuple that stood at H0 and stands still -/
theorem for_sq {H0 : Hp} (Pv : Nat → L2.St → Hp → Prop) (hv : ∀ R : V → Hp → Prop, R (.ref a) H → tl σ H R) (hS : Sq K H0 a xs) (e0 : Same H0 H) (h0 : Pv 0 σ H) (hl : ∀ i σ' H', Pv i σ' H' → Same H0 H')
    (hs : ∀ i x σ H, xs[i]? = some x → Pv i σ H → g x σ H fun σ2 H2 => tb { D with nx := Pv (i + 1), ct := Pv (i + 1), bk := D.nx } σ2 H2) (hd : ∀ σ H, Pv xs.length σ H → D.nx σ H) : tFor (iSq K tl) g tb D σ H := by
  rcases hS with hS | hS
  · exact Or.inl (hv _ ⟨a, rfl, ⟨xs, e0.seq hS⟩, for_list (xs := xs) Pv h0 (fun i σ' H' _ p => (hl i σ' H' p).seq hS) hs hd⟩)
  · exact Or.inr (hv _ ⟨a, rfl, ⟨xs, same_sqT e0 hS⟩, for_tup (xs := xs) Pv h0 (fun i σ' H' _ p => same_sqT (hl i σ' H' p) hS) hs hd⟩)

/-! ### comprehensions whose elements leave what is tracked as it was: index i yields f i (or is left out) -/
theorem fm_succ {α : Type} (f : Nat → Option α) (i : Nat) : (List.range (i + 1)).filterMap f = (List.range i).filterMap f ++ (match f i with | some y => [y] | none => []) := by
  rw [List.range_succ, List.filterMap_append]
  cases e : f i <;> simp [e]
theorem fm_len {α : Type} (f : Nat → Option α) (n : Nat) : ((List.range n).filterMap f).length ≤ n := by
  have q := List.length_filterMap_le f (List.range n)
  rw [List.length_range] at q
  exact q
/-- the part of a reading that a turn of such a comprehension is -/
def LcTurn (f : Nat → Option V) (g : TG) (tt : TT) (te : TE) (vs : List Nat) (σ : L2.St) (i : Nat) (x : V) (H0 H1 : Hp) : Prop :=
  ∀ (Y : V → Hp → Prop) (N : Hp → Prop), (∀ y H2, Same H0 H2 → f i = some y → Y y H2) → (∀ H2, Same H0 H2 → f i = none → N H2) →
    g x (wipe σ vs) H1 fun σ2 H2 => wipe σ2 vs = wipe σ vs ∧ tt σ2 H2 fun b H3 => if b = true then te σ2 H3 Y else N H3
/-- the invariant -/
def LcInv (f : Nat → Option V) (H : Hp) (Dd : Addr) (i : Nat) (H1 : Hp) : Prop := Same H H1 ∧ H1 Dd = some (.lst ((List.range i).filterMap f))
theorem LcInv.start {f : Nat → Option V} {Dd : Addr} (hD : H Dd = none) : LcInv f H Dd 0 (upd H Dd (.lst [])) := ⟨same_new hD, by rw [upd_same]; rfl⟩
theorem LcInv.turn {f : Nat → Option V} {Dd : Addr} (hD : H Dd = none) {i : Nat} (hz : i < sizeLine) {x : V} {H1 H0 : Hp} (h : LcInv f H Dd i H1) (h0 : Same H1 H0) (t : LcTurn f g tt te vs σ i x H1 H0) :
    g x (wipe σ vs) H0 fun σ2 H2 => wipe σ2 vs = wipe σ vs ∧ tt σ2 H2 fun b H3 =>
      if b = true then te σ2 H3 fun y H4 => ∃ acc, H4 Dd = some (.lst acc) ∧ acc.length < sizeLine ∧ LcInv f H Dd (i + 1) (upd H4 Dd (.lst (acc ++ [y]))) else LcInv f H Dd (i + 1) H3 := by
  refine t _ _ (fun y H2 sm e => ?_) fun H2 sm e => ?_
  · refine ⟨_, sm _ _ h.2, Nat.lt_of_le_of_lt (fm_len f i) hz, fun b o q => ?_, ?_⟩
    · rw [upd_ne (ne_of_none q hD)]
      exact sm _ _ (h.1 _ _ q)
    · rw [upd_same, fm_succ, e]
  · refine ⟨fun b o q => sm _ _ (h.1 _ _ q), ?_⟩
    rw [sm _ _ h.2, fm_succ, e, List.append_nil]
theorem lc_sq (f : Nat → Option V) (hv : ∀ R : V → Hp → Prop, R (.ref a) H → tl σ H R) (hS : Sq K H a xs) (hz : xs.length ≤ sizeLine)
    (hs : ∀ i x H1, xs[i]? = some x → Same H H1 → LcTurn f g tt te vs σ i x H1 H1)
    (hd : ∀ Dd H1, Same H H1 → H Dd = none → H1 Dd = some (.lst ((List.range xs.length).filterMap f)) → Q (.ref Dd) H1) : tLc (iSq K tl) g tt te vs σ H Q := by
  have hi : ∀ {i : Nat} {x : V}, xs[i]? = some x → i < sizeLine := fun {i x} e => Nat.lt_of_lt_of_le (List.getElem?_eq_some_iff.mp e).1 hz
  rcases hS with hS | hS
  · exact Or.inl (hv _ ⟨a, rfl, ⟨xs, hS⟩, fun Dd hD => lc_list (xs := xs) (LcInv f H Dd) (LcInv.start hD) (fun i H1 _ p => p.1.seq hS)
      (fun i x H1 hx p => p.turn hD (hi hx) (Same.refl _) (hs i x H1 hx p.1)) fun H1 p => hd Dd H1 p.1 hD p.2⟩)
  · exact Or.inr (hv _ ⟨a, rfl, ⟨xs, hS⟩, fun Dd hD => lc_tup (xs := xs) (LcInv f H Dd) (LcInv.start hD) (fun i H1 _ p => same_sqT p.1 hS)
      (fun i x H1 hx p => p.turn hD (hi hx) (Same.refl _) (hs i x H1 hx p.1)) fun H1 p => hd Dd H1 p.1 hD p.2⟩)
/-- over a range: ahead of it stand the range's own words -/
theorem lc_rg {lo : Int} {n : Nat} {Dd : Addr} {Qd : Hp → Prop} (f : Nat → Option V) (hD : H Dd = none) (hz : n ≤ sizeLine)
    (hs : ∀ i H1, i < n → Same H H1 → LcTurn f g tt te vs σ i (.int (lo + i)) H1 H1)
    (hd : ∀ H1, Same H H1 → H1 Dd = some (.lst ((List.range n).filterMap f)) → Qd H1) : ∃ W : Nat → Nat → Hp → Prop, (∃ m, W 0 m (upd H Dd (.lst []))) ∧ ∀ i m H, W i m H →
      ((Itr lo n).stop i H ∧ Qd H) ∨ ((Itr lo n).go i H ∧ ∃ Nx : Hp → Prop, (∀ H', Nx H' → ∃ m', m' < m ∧ W (i + 1) m' H') ∧ ∀ x H', (Itr lo n).yld i H x H' → g x (wipe σ vs) H' fun σ2 H2 => wipe σ2 vs = wipe σ vs ∧ tt σ2 H2 fun b H3 =>
        if b = true then te σ2 H3 fun y H4 => ∃ acc, H4 Dd = some (.lst acc) ∧ acc.length < sizeLine ∧ Nx (upd H4 Dd (.lst (acc ++ [y]))) else Nx H3) :=
  lc_range (lo := lo) (n := n) (LcInv f H Dd) (LcInv.start hD) (fun i H1 hi p => p.turn hD (Nat.lt_of_lt_of_le hi hz) (Same.refl _) (hs i H1 hi p.1)) fun H1 p => hd H1 p.1 p.2
/-- over enumerate of a list -/
theorem lc_en {Dd : Addr} {Qd : Hp → Prop} (f : Nat → Option V) (hS : SqL K H a xs) (hD : H Dd = none) (hz : xs.length ≤ sizeLine)
    (hs : ∀ i x H1 T, xs[i]? = some x → Same H H1 → H1 T = none → LcTurn f g tt te vs σ i (.ref T) H1 (upd H1 T (.tup [.int (i : Nat), x])))
    (hd : ∀ H1, Same H H1 → H1 Dd = some (.lst ((List.range xs.length).filterMap f)) → Qd H1) : ∃ W : Nat → Nat → Hp → Prop, (∃ m, W 0 m (upd H Dd (.lst []))) ∧ ∀ i m H, W i m H →
      ((Ite K a).stop i H ∧ Qd H) ∨ ((Ite K a).go i H ∧ ∃ Nx : Hp → Prop, (∀ H', Nx H' → ∃ m', m' < m ∧ W (i + 1) m' H') ∧ ∀ x H', (Ite K a).yld i H x H' → g x (wipe σ vs) H' fun σ2 H2 => wipe σ2 vs = wipe σ vs ∧ tt σ2 H2 fun b H3 =>
        if b = true then te σ2 H3 fun y H4 => ∃ acc, H4 Dd = some (.lst acc) ∧ acc.length < sizeLine ∧ Nx (upd H4 Dd (.lst (acc ++ [y]))) else Nx H3) := by
  refine ⟨fun i m H1 => m = xs.length - i ∧ i ≤ xs.length ∧ LcInv f H Dd i H1, ⟨xs.length, rfl, Nat.zero_le _, LcInv.start hD⟩, ?_⟩
  rintro i m H1 ⟨rfl, hi, p⟩
  have q : SqL K H1 a xs := p.1.seq hS
  by_cases hlt : i < xs.length
  · have hx : xs[i]? = some xs[i] := List.getElem?_eq_getElem hlt
    refine Or.inr ⟨⟨xs, xs[i], q, hx⟩, LcInv f H Dd (i + 1), fun H' p' => ⟨xs.length - (i + 1), by omega, rfl, hlt, p'⟩, ?_⟩
    rintro v H' ⟨T, x, rfl, hT, rfl, hy⟩
    have ex : x = xs[i] := Option.some.inj ((hy xs q).symm.trans hx)
    subst ex
    exact p.turn hD (Nat.lt_of_lt_of_le hlt hz) (same_new hT) (hs i _ H1 T hx p.1 hT)
  · have e : i = xs.length := by omega
    subst e
    exact Or.inl ⟨⟨xs, q, Nat.le_refl _⟩, hd H1 p.1 p.2⟩
end
/-- from an index to the items -/
theorem fm_take {α : Type} (xs : List α) (h : α → Option V) : ∀ n, (List.range n).filterMap (fun i => (xs[i]?).bind h) = (xs.take n).filterMap h
  | 0 => by rw [List.take_zero]; rfl
  | n + 1 => by
    rw [fm_succ, fm_take xs h n, List.take_add_one, List.filterMap_append]
    cases e : xs[n]? with
    | none => rfl
    | some x =>
      cases e2 : h x <;> simp [e2]
theorem fm_all {α : Type} (xs : List α) (h : α → Option V) : (List.range xs.length).filterMap (fun i => (xs[i]?).bind h) = xs.filterMap h := by
  rw [fm_take, List.take_length]
end Fp

namespace Fp
open PySem PySem.Spec PyProof.Rows L2

/-! ### isinstance(x, (list, tuple)) -/
theorem tyx_of {K : PySem.W.Frag} {H : Hp} {a : Addr} {xs : List V} (h : Sq K H a xs) : TyX K H (.ref a) (.type "list") ∨ TyX K H (.ref a) (.type "tuple") := by
  rcases h with ((h | ⟨o, h⟩) | ⟨o, its, n, hk, hc, _⟩) | ((h | ⟨o, h⟩) | ⟨o, its, n, hk, hc, _⟩)
  · exact Or.inl (.base (.lst h))
  · exact Or.inl (.base (.frz h))
  · exact Or.inl (.kList hk hc)
  · exact Or.inr (.base (.tup h))
  · exact Or.inr (.fTuple h)
  · exact Or.inr (.kTuple hk hc)
theorem kit_lt {K : PySem.W.Frag} : PySem.W.kitAny K (.type "list") [.type "list", .type "tuple"] = some true ∧ PySem.W.kitAny K (.type "tuple") [.type "list", .type "tuple"] = some true := by
  refine ⟨kitAny_cons (kit_ty (r := true) (by decide +kernel)) (fun z => nomatch z) (fun _ => rfl), ?_⟩
  exact kitAny_cons (kit_ty (r := false) (by decide +kernel)) (fun _ => kitAny_cons (kit_ty (r := true) (by decide +kernel)) (fun z => nomatch z) (fun _ => rfl)) (fun z => nomatch z)
theorem isi_lt {K : PySem.W.Frag} {H : Hp} {a tp : Addr} {xs : List V} {Q : VK} (h : Sq K H a xs) (ht : H tp = some (.tup [.ty "list", .ty "tuple"])) (q : Q (.bl true) H) : rIsiT K [.ref a, .ref tp] H Q := by
  rcases tyx_of h with t | t
  · exact ⟨_, tp, _, _, _, true, rfl, ht, .cons (.ty _) (.cons (.ty _) .nil), t, kit_lt.1, q⟩
  · exact ⟨_, tp, _, _, _, true, rfl, ht, .cons (.ty _) (.cons (.ty _) .nil), t, kit_lt.2, q⟩
theorem kit_int {K : PySem.W.Frag} : PySem.W.kitOne K (.type "int") (.type "int") = some true := kit_ty (by decide +kernel)
theorem kit_int_bool {K : PySem.W.Frag} : PySem.W.kitOne K (.type "int") (.type "bool") = some false := kit_ty (by decide +kernel)
theorem isi_int {K : PySem.W.Frag} {H : Hp} {i : Int} {Q : VK} (q : Q (.bl true) H) : rIsi K [.int i, .ty "int"] H Q := ⟨_, _, _, _, true, rfl, .ty _, .base (.int i), kit_int, q⟩
theorem isi_bool {K : PySem.W.Frag} {H : Hp} {i : Int} {Q : VK} (q : Q (.bl false) H) : rIsi K [.int i, .ty "bool"] H Q := ⟨_, _, _, _, false, rfl, .ty _, .base (.int i), kit_int_bool, q⟩

/-! ### len of a list or a tuple -/
theorem len_sq {K : PySem.W.Frag} {H : Hp} {a : Addr} {xs : List V} {Q : VK} (h : Sq K H a xs) (q : Q (.int xs.length) H) : ∃ p ys, [V.ref a] = [.ref p] ∧ (SqL K H p ys ∨ SqT K H p ys) ∧ Q (.int ys.length) H := ⟨a, xs, rfl, h, q⟩

/-! ### set(..) of a list or a tuple of ints -/
abbrev eset (w : World) : Obj := { cls := .type "set", dict := none, data := .set #[] 0 (.fresh 0 0 (!w.params.followText "set-order")) }
section
variable {P : Program} {w : World} {A : Around} {E : Value → Shared → Prop} {s : Shared}
theorem call_set_lstI {l : Addr} {xs : Array Value} (ns : List Int) {Q : Value → Shared → Prop} (hh : A.handled = none) (hl : s.heap.IsList l xs) (hi : IntsAre xs.toList ns) (hb : ns.length + 1 < scanBound)
    (q : ∀ (h' : Heap) (tk c : Nat), SetR w h' s.heap.objs.size (fun j => decide (j ∈ ns)) c → c ≤ ns.length → (∀ b o, s.heap.get? b = some o → h'.get? b = some o) → Q (.ref s.heap.objs.size) { s with heap := h', toks := tk }) :
    wpAny (model P w) A (call (.type "set") [.ref l]) Q E s := by
  have sz : xs.size = ns.length := by have z := IntsAre.length hi; rw [Array.length_toList] at z; exact z
  obtain ⟨c0, tl0, mro0⟩ := F.called_set.mro
  have f1 := F.called_set.made
  have f2 := F.called_set.sub
  have f3 := F.called_set.notType
  have f4 := F.called_set.canCreate
  have f5 := F.typeCall_set_1 (.ref l)
  refine wpAny_call (codeAny_of_tree (wpAny_pure ⟨Code.quiet_builtin _ (by decide +kernel), codeAny_builtin F.entry_type_call ?_⟩))
  rw [Around.under_plain (weight_type_call_type "set" [.ref l] []) rfl]
  repeat (any_goals (first | assumption | wp_step))
  refine codeAny_mono (code_set_led1 (.ref l) (E := E) (Q₁ := fun ob sb => ob = .ref s.heap.objs.size ∧ sb = { s with heap := s.heap.push (eset w) }) ⟨rfl, rfl⟩) ?_
  rintro (e | fl) s1 hr
  · exact hr
  cases fl with
  | next => exact hr.elim
  | brk => exact hr.elim
  | cont => exact hr.elim
  | ret ob =>
    obtain ⟨rfl, rfl⟩ := hr
    have g0 : (s.heap.push (eset w)).get? s.heap.objs.size = some (eset w) := Heap.get?_push_size _ rfl
    have gT : Shared.TypeIs { s with heap := s.heap.push (eset w) } (.ref s.heap.objs.size) "set" := ⟨_, g0, rfl⟩
    have i1 := F.called_set.init.lookup
    have i2 := F.called_set.init.bind (.ref s.heap.objs.size)
    repeat (any_goals (first | assumption | wp_step))
    refine codeAny_mono (codeAny_call_builtin (R := wants (fun r sb => r = .none ∧ ∃ h' tk c, sb = { s with heap := h', toks := tk } ∧ SetR w h' s.heap.objs.size (fun j => decide (j ∈ ns)) c ∧ c ≤ ns.length ∧
        (∀ b o, s.heap.get? b = some o → h'.get? b = some o)) E) F.called_set.init.plain F.entry_set_init (check_set_init_1 gT ?_)) ?_
    · obtain ⟨⟨ocls, odict, odata, oslots⟩, hol, hcl, nl, hdl⟩ := hl
      simp only at hcl hdl
      subst hcl; subst hdl
      have hl0 : l < s.heap.objs.size := Heap.lt_size hol
      have hol1 : (s.heap.push (eset w)).get? l = some { cls := .type "list", dict := odict, data := .seq xs nl, slots := oslots } := Heap.get?_push_of_some _ hol
      have hl1 : (s.heap.push (eset w)).IsList l xs := ⟨_, hol1, rfl, nl, rfl⟩
      have u1 := F.sub_list_set
      have u2 := F.sub_list_frozenset
      have u3 : (Value.type "list" == Value.type "dict") = false := by decide
      unfold Builtin.«set.__init__» noKeywords Builtin.Frozenset.updateFrom
      generalize hPI : pyIter = PI
      wp_walk
      subst hPI
      refine wpAny_pyIter_list hl1 ?_
      refine wpAny_bind (wpAny_runValue ?_)
      have z1 : (s.heap.push (eset w)).objs.size = s.heap.objs.size + 1 := Heap.size_push ..
      have n1 : l ≠ (s.heap.push (eset w)).objs.size := Nat.ne_of_lt (by rw [z1]; exact Nat.lt_succ_of_lt hl0)
      have n2 : s.heap.objs.size ∉ [(s.heap.push (eset w)).objs.size, l] := by
        simp only [List.mem_cons, List.not_mem_nil, or_false, not_or]
        exact ⟨Nat.ne_of_lt (by rw [z1]; exact Nat.lt_succ_self _), Nat.ne_of_gt hl0⟩
      have it : ∀ (i : Nat) (v : Value), xs[i]? = some v → ∃ k t, ns[i]? = some k ∧ v = .int k t := fun i v hv => by
        have hlt : i < ns.length := by rw [← sz]; exact (Array.getElem?_eq_some_iff.mp hv).1
        obtain ⟨t, e⟩ := PyProof.Rows.IntsAre.int_at hi i v (by rw [Array.getElem?_toList]; exact hv)
        refine ⟨ns[i], t, List.getElem?_eq_getElem hlt, e.trans ?_⟩
        rw [List.getD_eq_getElem?_getD, List.getElem?_eq_getElem hlt]; rfl
      have hA3 : A.in1.in1.in1.handled = none := by simp [hh]
      refine set_update_ints ((Walks.list hA3 _ l n1 xs).toS) s.heap.objs.size n2 ns sz hb it (xs.size - 0) 0 _ (by omega) (Nat.zero_le _) ⟨⟨_, Heap.get?_push_size _ rfl, rfl, rfl⟩, (hl1.push _)⟩ ?_ ?_
      · exact ⟨0, Nat.le_refl 0, setR_new_at (Heap.get?_push_of_some _ g0)⟩
      · rintro ⟨h', g2, d', tk', os'⟩ c' hm hc' hS'
        obtain rfl : g2 = s.gens := hm.gens
        obtain rfl : d' = s.drawn := hm.drawn
        obtain rfl : os' = s.os := hm.os
        rw [sz] at hc'
        refine wpAny_pure (wpAny_pure ⟨rfl, h', tk', c', rfl, hS', hc', fun b o e => ?_⟩)
        have hb0 : b < s.heap.objs.size := Heap.lt_size e
        refine hm.heap b o ?_ (Heap.get?_push_of_some _ (Heap.get?_push_of_some _ e))
        simp only [List.mem_cons, List.not_mem_nil, or_false, not_or]
        exact ⟨Nat.ne_of_lt hb0, Nat.ne_of_lt (by rw [z1]; exact Nat.lt_succ_of_lt hb0)⟩
    · rintro (e | f2) s2 hr2
      · exact hr2
      cases f2 with
      | next => exact hr2.elim
      | brk => exact hr2.elim
      | cont => exact hr2.elim
      | ret r =>
        obtain ⟨rfl, h', tk, c', rfl, hS', hc', hk'⟩ := hr2
        repeat (any_goals (first | assumption | wp_step))
        exact q _ _ _ hS' hc' hk'
end
end Fp

namespace Fp
open PySem PySem.Spec PyProof.Rows L2

/-! ### repr(..) of data, where nothing is being shown -/
def rRepr (K : PySem.W.Frag) : List V → Hp → VK → Prop := fun vs H Q => ∃ (a : Addr) (d : PyData), vs = [.ref a] ∧ Dp K H (.ref a) d ∧ d.showable = true ∧ d.hasDict = false ∧ d.depth ≤ 8 ∧ d.shown.length ≤ sizeLine ∧ Q (.str d.shown) H
theorem cr_repr {X : Cx} (hu : X.A.units + 64 < cLine) (hg : X.A.guards = some []) : CallR X (.builtin "repr") (rRepr X.K) := by
  intro pins s σ H xs us Q I r h
  obtain ⟨a, d, rfl, hd, h1, h2, h3, h4, q⟩ := h
  rw [Vals.ref1 r]
  obtain ⟨as, hr⟩ := Dp.reads I d _ (.ref a) hd rfl
  refine repr_of_reads' hr h1 (fun z => by rw [h2] at z; cases z) hg (by omega) (fun _ _ e => e) (fun h' u tk k => ?_) h4
  exact ⟨.str d.shown, H, I.kept (t' := tk) k, ⟨u, rfl⟩, q⟩

/-! ### defs that are called where nothing is being shown -/
structure FnG (P : Program) (w : World) (K : PySem.W.Frag) (mg : Str → Option Value) (base : Heap) (CX : CXT) (k : Nat) (f : Addr) (fd : FuncData) (ps : List Str) (sp : Sp) : Prop where
  len : ∀ vs H Q E, sp vs H Q E → vs.length = ps.length
  go : ∀ (A : Around) (outer : List Env) (s : Shared) (H : Hp) (args : Args) (us : List Value) (vs : List V) (Q : VK) (E : XK), A.guards = some [] → Room k A → Env0 P w K mg base A outer s H → BindsTo s fd args (ps.zip us) → Vals vs us → sp vs H Q E →
    codeAny (model P w) A (.call (.ref f) args) (CR CX outer P w H s Q E) s
section
variable {P : Program} {w : World} {K : PySem.W.Frag} {mg : Str → Option Value} {base : Heap} {CX : CXT} {k : Nat} {f : Addr}
theorem fnG_of {name qual : Str} {params : Arguments} {body : List Stmt} {scope : Scope} {dV kV doc pm cdv ct oc : Value} {an od : Option Addr} {osl : Array (Option Value)} {N ps : List Str} {sp : Sp}
    (lk : K.lookup f = some ⟨oc, od, .func (PySem.W.fnOf name qual params body scope dV kV doc pm an cdv ct), osl⟩) (hcd : PySem.W.codeIn K cdv qual = true) (S : FnScope N ps scope) (len : ∀ vs H Q E, sp vs H Q E → vs.length = ps.length)
    (hb : ∀ (A : Around) (outer : List Env) (s : Shared) (H : Hp) (vs : List V) (Q : VK) (E : XK), A.guards = some [] → Room k (A.deeper (envOfC qual scope s.heap.objs.size f cdv)) → sp vs H Q E →
      ∃ t, PSs (cxOf CX P w K mg base N qual scope f cdv A outer s H E) body t ∧ t { nx := fun _ H1 => Q .non H1, rt := Q } (start N vs) H) :
    FnG P w K mg base CX (k + 1) f (PySem.W.fnOf name qual params body scope dV kV doc pm an cdv ct) ps sp := by
  constructor
  · exact len
  intro A outer s H args us vs Q E hgd hr e0 hbd rv hsp
  have z := len _ _ _ _ hsp
  have KX : K.In s.heap := e0.mod.kin.keeps (fun b o e => (e0.bs b o e).1)
  have nl : s.heap.NoLimit := e0.mod.nolimit.keeps (fun b o e => (e0.bs b o e).1)
  have par : ∀ y ∈ ps.zip us, scope.names.lookup y.1 = some .local ∨ (scope.names.lookup y.1 = some .cell ∧ ((cellsFrom (s.heap.objs.size + 1) scope.names []).lookup y.1).isSome = true) := by
    rintro ⟨n, v⟩ hy
    exact (S.par n (List.of_mem_zip hy).1).imp id fun q => ⟨q, PySem.W.cellsFrom_some _ _ _ (.inl q)⟩
  refine codeAny_call_function hr.depth (KX _ _ lk) rfl S.co S.gen rfl (PySem.W.codeRec_of KX hcd) (hbd _ _ _ _ (wpAny_newFunctionEnv_cells S.kind par ?_))
  rintro env rfl s1 x
  refine ⟨nl.keeps x.toInCall.keep, codeAny_func ?_⟩
  obtain ⟨t, ht, hq⟩ := hb A outer s H vs Q E hgd (hr.deeper _) hsp
  have I := inv_start (CX := CX) (cd := cdv) (f := f) (E := E) S hr.hd e0 z rv x
  refine wpAny_mono (ht.run [] s1 (start N vs) H _ I hq) ?_ (fun e s' h => h)
  rintro (_ | _ | _ | u) s' h
  · obtain ⟨σ', H', J, q⟩ := h
    exact ⟨.non, H', J.os, J.bare, J.base, J.hok, rfl, q⟩
  · obtain ⟨_, _, _, q⟩ := h
    exact q.elim
  · obtain ⟨_, _, _, q⟩ := h
    exact q.elim
  · obtain ⟨v, σ', H', J, r, q⟩ := h
    exact ⟨v, H', J.os, J.bare, J.base, J.hok, r, q⟩
/-- the rule for such a def -/
theorem fun_okG {x qual : Str} {st : Stmt} {fd : FuncData} {N ps : List Str} {sp : Sp} (F : Fun K x qual st f fd) (S : FnScope N ps (defScope st)) (len : ∀ vs H Q E, sp vs H Q E → vs.length = ps.length)
    (hb : ∀ (cdv : Value) (A : Around) (outer : List Env) (s : Shared) (H : Hp) (vs : List V) (Q : VK) (E : XK), A.guards = some [] → Room k (A.deeper (envOfC qual (defScope st) s.heap.objs.size f cdv)) → sp vs H Q E →
      ∃ t, PSs (cxOf CX0 P w K mg base N qual (defScope st) f cdv A outer s H E).nox (defBody st) t ∧ t { nx := fun _ H' => Q .non H', rt := Q } (start N vs) H) : FnG P w K mg base CX0 (k + 1) f fd ps sp := by
  obtain ⟨oc, od, kV, doc, pm, an, cdv, ct, osl, rfl, lk, hcd⟩ := F.ex
  refine fnG_of lk hcd S len fun A outer s H vs Q E hg hr hsp => ?_
  obtain ⟨t, h, q⟩ := hb cdv A outer s H vs Q E hg hr hsp
  exact ⟨t, h.nox, q⟩
end
section
variable {X : Cx} {CX : CXT} {k : Nat} {f : Addr} {fd : FuncData} {ps : List Str} {sp : Sp} {E : XK} {x : Str} {p pos : Pos} {e : Expr} {es : List Expr} {t : TA}
theorem pe_callG (F : FnG X.prog X.w X.K X.mg X.base CX k f fd ps sp) (hgd : X.A.guards = some []) (hr : Room k X.A) (hg : Gl X x) (hm : X.mg x = some (.ref f)) (hk : PySem.W.keepIn X.K (.ref f) = true) (hb : Binds X.K fd ps []) (hx : Passes CX X E)
    (ha : PA X (e :: es) t) (hdb : (x == ("__debug__" : Str)) = false := by decide) (he : starEach (e :: es) X.env = (false, eval e X.env) :: starEach es X.env := by rfl) (hpl : (backTo pos (starEach es X.env)).any (·.1) = false := by rfl) :
    PE X (.Call (.Name x p) (e :: es) [] pos) (fun σ H Q => t σ H fun vs H1 => sp vs H1 Q E) := by
  constructor
  intro pins s σ H Q I h
  refine wpAny_Call_Name_kw (ld_glob I hg hm (PySem.W.callWith_K (h₀ := X.base) I.ok.mod.kin hk (thn (ha.run pos pins s σ H _ I h) ?_) he hpl) hdb)
  rintro us s1 ⟨vs, H1, I1, r, q⟩
  refine ⟨I1.kIn, ?_⟩
  have hl : us.length = ps.length := by rw [← r.length]; exact F.len _ _ _ _ q
  have hb' : BindsTo s1 fd ⟨us, []⟩ (ps.zip us) := by
    have z := hb s1 us I1.kIn (by rw [List.append_nil]; exact hl)
    rw [List.append_nil] at z
    exact z
  refine wpAny_call (codeAny_mono (F.go X.A X.stack s1 H1 ⟨us, []⟩ us vs Q E hgd hr I1.env0 hb' r q) ?_)
  rintro (e | fl) s' hq
  · exact hx pins σ H1 s1 e s' I1 hq
  · cases fl with
    | ret u => exact I1.after hq
    | next => exact hq.elim
    | brk => exact hq.elim
    | cont => exact hq.elim
end
end Fp

namespace Fp
open PySem PySem.Spec PyProof.Rows L2

/-! ### the law's own call, by FnG -/
theorem only_base {P : Program} {w : World} {K : PySem.W.Frag} {mg mb : Str → Option Value} {a : Addr} {s : Shared} {vs : List Value} {H : Hp} (KX : K.In s.heap) (hns : s.heap.Ns mainGlobals mg) (hb : s.heap.Ns builtinsNs mb)
    (hbb : ∀ x : Str, x ≠ "__name__" → mb x = bootBuiltins x) (hlim : s.heap.NoLimit) (hgen : s.gens = #[]) (ha : s.heap.get? a = some { cls := .type "list", data := .seq vs.toArray }) (hok : HOk P w H s.heap)
    (hA : ∀ b, H b ≠ none → b = a) (hK : H a ≠ none → K.lookup a = none) : K.In (hidT s.heap H) ∧ (hidT s.heap H).Ns mainGlobals mg ∧ Env0 P w K mg (hidT s.heap H) callerA [] s H := by
  have fr : ∀ {b : Addr}, b ≠ a → H b = none := fun {b} n => by
    cases q : H b with
    | none => rfl
    | some u => exact absurd (hA b fun z => by rw [q] at z; cases z) n
  have dn : ∀ {b : Addr} {m : Str → Option Value}, s.heap.Ns b m → (hidT s.heap H).Ns b m := fun {b m} ⟨o, es, ep, e, d, r⟩ => by
    refine ⟨o, es, ep, hidT_get e (fr fun z => ?_), d, r⟩
    subst z
    obtain rfl := Option.some.inj (e.symm.trans ha)
    cases (show Data.seq vs.toArray _ = Data.dict es ep from d)
  have k0 : K.In (hidT s.heap H) := fun b o e => by
    by_cases z : H b = none
    · exact hidT_get (KX b o e) z
    · have eb := hA b z
      subst eb
      rw [hK z] at e
      cases e
  obtain ⟨mc, l1, l2⟩ := hlim
  exact ⟨k0, dn hns, ⟨rfl, ⟨k0, dn hns, ⟨mb, dn hb, hbb⟩, ⟨mc, dn l1, l2⟩⟩, fun b o e => of_hidT e, Nat.le_of_eq (hidT_size _ _), trivial, fun b z => absurd (show b ∈ ([] : List Addr) from z) (by simp), hok, .of_eq hgen⟩⟩
theorem law_callG {P : Program} {w : World} {K : PySem.W.Frag} {mg mb : Str → Option Value} {CX : CXT} {k : Nat} {fa a : Addr} {fd : FuncData} {x : Str} {sp : Sp} {s : Shared} {vs : List Value} {ns : List Int}
    (KX : K.In s.heap) (hns : s.heap.Ns mainGlobals mg) (hb : s.heap.Ns builtinsNs mb) (hbb : ∀ x : Str, x ≠ "__name__" → mb x = bootBuiltins x) (hlim : s.heap.NoLimit) (hgen : s.gens = #[])
    (ha : s.heap.get? a = some { cls := .type "list", data := .seq vs.toArray }) (hi : IntsAre vs ns) (hl : ns.length ≤ sizeLine) (hr : Room k callerA)
    (F : ∀ base : Heap, K.In base → base.Ns mainGlobals mg → FnG P w K mg base CX k fa fd [x] sp) (hbind : ∀ (s : Shared) (u : Value), BindsTo s fd ⟨[u], []⟩ [(x, u)])
    (hsp : ∀ H : Hp, Only H → SqL K H a (ns.map V.int) → sp [.ref a] H (fun v _ => v = .bl true) fun _ _ _ => False) (hCX : ∀ H e s', CX [] H s (fun _ _ _ => False) e s' → False) :
    codeAny (model P w) callerA (.call (.ref fa) ⟨[.ref a], []⟩) (fun r s' => r = .ok (.ret (.bool true)) ∧ OldK s.heap s'.heap ∧ s'.os = s.os ∧ AllBare s'.gens) s := by
  have rv := vals_ints hi
  have core : ∀ H : Hp, Only H → SqL K H a (ns.map V.int) → HOk P w H s.heap → (∀ b, H b ≠ none → b = a) → (H a ≠ none → K.lookup a = none) →
      codeAny (model P w) callerA (.call (.ref fa) ⟨[.ref a], []⟩) (fun r s' => r = .ok (.ret (.bool true)) ∧ OldK s.heap s'.heap ∧ s'.os = s.os ∧ AllBare s'.gens) s := by
    intro H hO hS hok hA hK
    obtain ⟨k0, n0, e0⟩ := only_base (P := P) (w := w) KX hns hb hbb hlim hgen ha hok hA hK
    refine codeAny_mono ((F _ k0 n0).go callerA [] s H ⟨[.ref a], []⟩ [.ref a] [.ref a] _ _ rfl hr e0 (hbind s (.ref a)) (.cons rfl .nil) (hsp H hO hS)) ?_
    rintro (e | fl) s' h
    · exact (hCX H e s' h).elim
    cases fl with
    | next => exact h.elim
    | brk => exact h.elim
    | cont => exact h.elim
    | ret u =>
      obtain ⟨v, H', os, bare, un, hok', r, q⟩ := h
      obtain rfl : v = .bl true := q
      obtain rfl : u = Value.bool true := r
      refine ⟨rfl, OldK.of_keep fun b o e => ?_, os, bare⟩
      rcases hO b with z | ⟨ob, xs, z⟩
      · exact un.keep b o e z (fun z => absurd (show b ∈ ([] : List Addr) from z) (by simp)) (by simp)
      · obtain ⟨e1, _⟩ := hok b _ z
        obtain ⟨e2, _⟩ := hok' b _ (un.frzs b ob _ z)
        exact e2.trans (e1.symm.trans e)
  cases hk : K.lookup a with
  | some o =>
    obtain rfl := Option.some.inj ((KX a o hk).symm.trans ha)
    exact core (fun _ => none) (fun _ => .inl rfl) (.inr ⟨_, vs.toArray, _, hk, rfl, rfl, rfl, by rw [List.size_toArray, hi.length]; exact hl, by simpa using rv⟩) (fun b u z => by cases (show (none : Option HO) = some u from z)) (fun b z => absurd rfl z) (fun z => absurd rfl z)
  | none =>
    have up : ∀ {b : Addr} {u : HO}, (fun c => if c = a then some (HO.frz { cls := .type "list", data := .seq vs.toArray } (.lst (ns.map V.int))) else none) b = some u → b = a ∧ u = HO.frz { cls := .type "list", data := .seq vs.toArray } (.lst (ns.map V.int)) := fun {b u} z => by
      by_cases hb : b = a
      · exact ⟨hb, (Option.some.inj ((if_pos hb).symm.trans z)).symm⟩
      · cases (if_neg hb).symm.trans z
    refine core (fun c => if c = a then some (HO.frz { cls := .type "list", data := .seq vs.toArray } (.lst (ns.map V.int))) else none) (fun b => ?_) (.inl (.inr ⟨_, if_pos rfl⟩)) (fun b u z => ?_) (fun b z => ?_) (fun _ => hk)
    · by_cases hb : b = a
      · exact .inr ⟨_, _, if_pos hb⟩
      · exact .inl (if_neg hb)
    · obtain ⟨rfl, rfl⟩ := up z
      exact ⟨ha, by rw [List.length_map]; exact hl, vs, _, rv, ha⟩
    · by_cases hb : b = a
      · exact hb
      · exact absurd (if_neg hb) z
theorem walk_ofG {l : PySem.W.OpenLaw} {n k : Nat} {q : Program} {loose : List Str} {XP : (Str → Option Value) → Heap → Prop} {YP : World → Heap → Prop} {d : DefRec} {K : Params → PySem.W.Frag} {sp : PySem.W.Frag → Sp} {x : Str}
    (hn : l.most = some n) (hn2 : n ≤ sizeLine) (hdf : d.params.defaults = []) (hr : Room k callerA) (hY : ∀ (w : World) (h : Heap), YP w h → (K w.params).In h)
    (F : ∀ (w : World) (mg : Str → Option Value) (fa : Addr) (h : Heap), (K w.params).In h → h.Ns mainGlobals mg → mg d.name = some (.ref fa) →
      ∃ fd : FuncData, (∀ (s : Shared) (u : Value), BindsTo s fd ⟨[u], []⟩ [(x, u)]) ∧ ∀ base : Heap, (K w.params).In base → base.Ns mainGlobals mg → FnG l.prog w (K w.params) mg base CX0 k fa fd [x] (sp (K w.params)))
    (hsp : ∀ (K : PySem.W.Frag) (H : Hp) (a : Addr) (ns : List Int), ns.length ≤ n → Only H → SqL K H a (ns.map V.int) → sp K [.ref a] H (fun v _ => v = .bl true) fun _ _ _ => False) :
    PySem.W.WalkO q loose XP YP l.row.toRowW d [] (fun f vs => PySem.call f vs) := by
  refine Att.attach_call hn hdf ?_
  intro w s₀ s₁ mg mb fa o pm cd doc a vs ns G Y ho hd hcd hmg hobj hints hlen hg
  have KX := hY w _ Y
  obtain ⟨fd, hb, hF⟩ := F w mg fa _ KX G.T.g hmg
  exact law_callG KX G.T.g G.T.b G.T.builtins G.T.nolimit hg hobj hints (Nat.le_trans hlen hn2) hr hF hb (fun H hO hS => hsp (K w.params) H a ns hlen hO hS) (fun H e s' h => h.elim)
end Fp

namespace Fp
open PySem PySem.Spec PyProof.Rows L2

/-- the def that stands at the module's name x -/
structure Bnd (K : PySem.W.Frag) (mg : Str → Option Value) (x : Str) (st : Stmt) : Prop where
  ex : ∃ (f : Addr) (fd : FuncData), mg x = some (.ref f) ∧ Fun K x x st f fd
/-- the def at the module's name x keeps its promise -/
structure Def (P : Program) (w : World) (K : PySem.W.Frag) (mg : Str → Option Value) (base : Heap) (k : Nat) (x : Str) (st : Stmt) (ps : List Str) (sp : Sp) : Prop where
  ex : ∃ (f : Addr) (fd : FuncData), mg x = some (.ref f) ∧ Fun K x x st f fd ∧ Binds K fd ps [] ∧ FnOk P w K mg base CX0 k f fd ps sp
structure DefG (P : Program) (w : World) (K : PySem.W.Frag) (mg : Str → Option Value) (base : Heap) (k : Nat) (x : Str) (st : Stmt) (ps : List Str) (sp : Sp) : Prop where
  ex : ∃ (f : Addr) (fd : FuncData), mg x = some (.ref f) ∧ Fun K x x st f fd ∧ Binds K fd ps [] ∧ FnG P w K mg base CX0 k f fd ps sp
/-- how a def without defaults binds -/
abbrev Bind (x : Str) (st : Stmt) (ps : List Str) : Prop := ∀ (kV doc pm : Value) (an : Option Addr) (cdv ct : Value) (us : List Value), us.length = ps.length → bindArgs (PySem.W.fnOf x x (defArgs st) (defBody st) (defScope st) .none kV doc pm an cdv ct) ⟨us, []⟩ = pure (ps.zip us)
section
variable {P : Program} {w : World} {K : PySem.W.Frag} {mg : Str → Option Value} {base : Heap} {k : Nat} {x : Str} {st : Stmt} {N ps : List Str} {sp : Sp}
theorem Def.mono {j : Nat} (D : Def P w K mg base k x st ps sp) (h : k ≤ j) : Def P w K mg base j x st ps sp := by
  obtain ⟨f, fd, a, b, c, d⟩ := D.ex
  exact ⟨f, fd, a, b, c, d.mono h⟩
theorem def_of (B : Bnd K mg x st) (S : FnScope N ps (defScope st)) (len : ∀ vs H Q E, sp vs H Q E → vs.length = ps.length) (hbi : Bind x st ps)
    (hb : ∀ (f : Addr) (cdv : Value) (A : Around) (outer : List Env) (s : Shared) (H : Hp) (vs : List V) (Q : VK) (E : XK), Room k (A.deeper (envOfC x (defScope st) s.heap.objs.size f cdv)) → sp vs H Q E →
      ∃ t, PSs (cxOf CX0 P w K mg base N x (defScope st) f cdv A outer s H E).nox (defBody st) t ∧ t { nx := fun _ H' => Q .non H', rt := Q } (start N vs) H) : Def P w K mg base (k + 1) x st ps sp := by
  obtain ⟨f, fd, hm, F⟩ := B.ex
  exact ⟨f, fd, hm, F, F.binds hbi, F.ok S len (hb f)⟩
theorem defG_of (B : Bnd K mg x st) (S : FnScope N ps (defScope st)) (len : ∀ vs H Q E, sp vs H Q E → vs.length = ps.length) (hbi : Bind x st ps)
    (hb : ∀ (f : Addr) (cdv : Value) (A : Around) (outer : List Env) (s : Shared) (H : Hp) (vs : List V) (Q : VK) (E : XK), A.guards = some [] → Room k (A.deeper (envOfC x (defScope st) s.heap.objs.size f cdv)) → sp vs H Q E →
      ∃ t, PSs (cxOf CX0 P w K mg base N x (defScope st) f cdv A outer s H E).nox (defBody st) t ∧ t { nx := fun _ H' => Q .non H', rt := Q } (start N vs) H) : DefG P w K mg base (k + 1) x st ps sp := by
  obtain ⟨f, fd, hm, F⟩ := B.ex
  exact ⟨f, fd, hm, F, F.binds hbi, fun_okG F S len (hb f)⟩
end
def tD (sp : Sp) (t : TA) : TE := fun σ H Q => t σ H fun vs H1 => sp vs H1 Q E0
def tDK (n m : Nat) (b : Bool) (sp : Sp) (t tk : TA) : TE := fun σ H Q => t σ H fun vs H1 => tk σ H1 fun zs H2 => vs.length = n ∧ zs.length = m ∧ sp (vs ++ if b = true then zs.reverse else zs) H2 Q E0
/-- how a def without defaults binds n values by place and m by the names ks (b: turned about) -/
abbrev BindK (n m : Nat) (b : Bool) (x : Str) (st : Stmt) (ps ks : List Str) : Prop := ∀ (kV doc pm : Value) (an : Option Addr) (cdv ct : Value) (us ws : List Value), us.length = n → ws.length = m →
  bindArgs (PySem.W.fnOf x x (defArgs st) (defBody st) (defScope st) .none kV doc pm an cdv ct) ⟨us, ks.zip ws⟩ = pure (ps.zip (us ++ if b = true then ws.reverse else ws))
section
variable {X : Cx} {k : Nat} {x : Str} {st : Stmt} {ps ks : List Str} {sp : Sp} {p pos : Pos} {e : Expr} {es : List Expr} {t tk : TA} {kws : List Keyword} {n m : Nat} {b : Bool}
/-- f(e, ..) -/
theorem pe_d (D : Def X.prog X.w X.K X.mg X.base k x st ps sp) (hr : Room k X.A) (hg : Gl X x) (ha : PA X (e :: es) t)
    (hdb : (x == ("__debug__" : Str)) = false := by decide) (he : starEach (e :: es) X.env = (false, eval e X.env) :: starEach es X.env := by rfl) (hpl : (backTo pos (starEach es X.env)).any (·.1) = false := by rfl) :
    PE X (.Call (.Name x p) (e :: es) [] pos) (tD sp t) := by
  obtain ⟨f, fd, hm, F, hb, ok⟩ := D.ex
  have q := pe_call (p := p) ok hr hg hm F.kp hb .nil (pass0 (X := X)) ha hdb he hpl
  have z : tCall sp [] E0 t = tD sp t := by
    funext σ H Q
    unfold tCall tD
    simp only [List.append_nil]
  rw [z] at q
  exact q
theorem pe_dG (D : DefG X.prog X.w X.K X.mg X.base k x st ps sp) (hgd : X.A.guards = some []) (hr : Room k X.A) (hg : Gl X x) (ha : PA X (e :: es) t)
    (hdb : (x == ("__debug__" : Str)) = false := by decide) (he : starEach (e :: es) X.env = (false, eval e X.env) :: starEach es X.env := by rfl) (hpl : (backTo pos (starEach es X.env)).any (·.1) = false := by rfl) :
    PE X (.Call (.Name x p) (e :: es) [] pos) (tD sp t) := by
  obtain ⟨f, fd, hm, F, hb, ok⟩ := D.ex
  exact pe_callG (p := p) ok hgd hr hg hm F.kp hb (pass0 (X := X)) ha hdb he hpl
theorem run_dk {pins : List (Addr × Obj)} {σ : L2.St} {H : Hp} {s : Shared} {Q : VK} {us ws : List Value} {vs zs : List V} {f : Addr} {fd : FuncData} (F : Fun X.K x x st f fd) (ok : FnOk X.prog X.w X.K X.mg X.base CX0 k f fd ps sp) (hr : Room k X.A)
    (hb : BindK n m b x st ps ks) (I : Inv X pins σ H s) (r : Vals vs us) (rz : Vals zs ws) (hn : vs.length = n) (hm : zs.length = m) (h : sp (vs ++ if b = true then zs.reverse else zs) H Q E0) :
    wpAny (model X.prog X.w) X.A (call (.ref f) us (ks.zip ws)) (EP X pins σ Q) X.xe s := by
  obtain ⟨oc, od, kV, doc, pm, an, cdv, ct, osl, efd, lk, hcd⟩ := F.ex
  have rr : Vals (vs ++ if b = true then zs.reverse else zs) (us ++ if b = true then ws.reverse else ws) := by
    refine r.append ?_
    cases b with
    | true => rw [if_pos rfl, if_pos rfl]; exact rz.reverse
    | false => rw [if_neg Bool.false_ne_true, if_neg Bool.false_ne_true]; exact rz
  have hbd : BindsTo s fd ⟨us, ks.zip ws⟩ (ps.zip (us ++ if b = true then ws.reverse else ws)) := by
    rw [efd]
    exact .of_eq (hb kV doc pm an cdv ct us ws (r.length.symm.trans hn) (rz.length.symm.trans hm))
  refine wpAny_call (codeAny_mono (ok.run X.A X.stack s H ⟨us, ks.zip ws⟩ _ _ Q E0 hr I.env0 hbd rr h) ?_)
  rintro (e | fl) s' hq
  · exact pass0 (X := X) pins σ H s e s' I hq
  · cases fl with
    | ret u => exact I.after hq
    | next => exact hq.elim
    | brk => exact hq.elim
    | cont => exact hq.elim
/-- f(e, .., k = v, ..) -/
theorem pe_dk (D : Def X.prog X.w X.K X.mg X.base k x st ps sp) (hr : Room k X.A) (hg : Gl X x) (n m : Nat) (b : Bool) (ks : List Str) (hb : BindK n m b x st ps ks) (ha : PA X (e :: es) t) (hkw : PK X kws tk)
    (hks : (backToKw pos (keywordEach kws X.env)).filterMap (·.1) = ks := by rfl) (hall : (backToKw pos (keywordEach kws X.env)).all (·.1.isSome) = true := by rfl) (hdb : (x == ("__debug__" : Str)) = false := by decide)
    (he : starEach (e :: es) X.env = (false, eval e X.env) :: starEach es X.env := by rfl) (hpl : ((backTo pos (starEach (e :: es) X.env)).any (·.1) || (backToKw pos (keywordEach kws X.env)).any (·.1.isNone)) = false := by rfl) :
    PE X (.Call (.Name x p) (e :: es) kws pos) (tDK n m b sp t tk) := by
  obtain ⟨f, fd, hm, F, _, ok⟩ := D.ex
  constructor
  intro pins s σ H Q I h
  refine wpAny_Call_Name_kw (ld_glob I hg hm (PySem.W.callWith_KW (h₀ := X.base) I.ok.mod.kin F.kp hall (thn (ha.run pos pins s σ H _ I h) ?_) hpl he) hdb)
  rintro us s1 ⟨vs, H1, I1, r, q⟩
  refine thn (hkw.run pos pins s1 σ H1 _ I1 q) ?_
  rintro ws s2 ⟨zs, H2, I2, rz, q2⟩
  refine ⟨I2.kIn, ?_⟩
  rw [hks]
  exact run_dk F ok hr hb I2 r rz q2.1 q2.2.1 q2.2.2
/-- f(k = v, ..) -/
theorem pe_dk0 (D : Def X.prog X.w X.K X.mg X.base k x st ps sp) (hr : Room k X.A) (hg : Gl X x) (m : Nat) (b : Bool) (ks : List Str) (hb : BindK 0 m b x st ps ks) (hkw : PK X kws tk)
    (hks : (backToKw pos (keywordEach kws X.env)).filterMap (·.1) = ks := by rfl) (hall : (backToKw pos (keywordEach kws X.env)).all (·.1.isSome) = true := by rfl) (hdb : (x == ("__debug__" : Str)) = false := by decide)
    (hpl : ((backTo pos (starEach [] X.env)).any (·.1) || (backToKw pos (keywordEach kws X.env)).any (·.1.isNone)) = false := by rfl) :
    PE X (.Call (.Name x p) [] kws pos) (tDK 0 m b sp tNil tk) := by
  obtain ⟨f, fd, hm, F, _, ok⟩ := D.ex
  constructor
  intro pins s σ H Q I h
  refine wpAny_Call_Name_kw (ld_glob I hg hm (PySem.W.callWith_KW0 (h₀ := X.base) I.ok.mod.kin F.kp hall (thn (hkw.run pos pins s σ H _ I h) ?_) hpl) hdb)
  rintro ws s2 ⟨zs, H2, I2, rz, q2⟩
  refine ⟨I2.kIn, ?_⟩
  rw [hks]
  exact run_dk F ok hr hb I2 .nil rz q2.1 q2.2.1 q2.2.2
end
/-- sorted(set(..)) and set(..) -/
def rSetI (K : PySem.W.Frag) (w : World) : List V → Hp → VK → Prop := fun vs H Q => ∃ (a : Addr) (ns : List Int), vs = [.ref a] ∧ Sq K H a (ns.map V.int) ∧ ns.length ≤ 60 ∧
  ∀ (p : Addr) (n : Nat), n ≤ ns.length → H p = none → Q (.ref p) (upd H p (SetO w p (fun j => decide (j ∈ ns)) n))
theorem cr_setI {X : Cx} (hc : X.calm = true) : CallR X (.type "set") (rSetI X.K X.w) := by
  intro pins s σ H vs us Q I r h
  obtain ⟨a, ns, rfl, hS, hz, q⟩ := h
  rw [Vals.ref1 r]
  have hb : ns.length + 1 < scanBound := by unfold scanBound; omega
  have fin : ∀ (h' : Heap) (tk c : Nat), SetR X.w h' s.heap.objs.size (fun j => decide (j ∈ ns)) c → c ≤ ns.length → (∀ b o, s.heap.get? b = some o → h'.get? b = some o) → EP X pins σ Q (.ref s.heap.objs.size) { s with heap := h', toks := tk } :=
    fun h' tk c R hc k => ⟨.ref s.heap.objs.size, _, I.laid (t' := tk) k (Nat.le_refl _) (setO_new R), rfl, q _ c hc (I.hok.fresh (Nat.le_refl _))⟩
  rcases hS with hS | hS
  · obtain ⟨its, rv, pl, _⟩ := I.list hS
    exact call_set_lstI ns (I.ok.hd hc) pl.isList (by simpa using Vals.ints rv) hb fin
  · obtain ⟨its, rv, pl, _⟩ := I.tuple hS
    exact call_set_tupI ns (I.ok.hd hc) pl (by simpa using Vals.ints rv) hb fin
end Fp

namespace Fp
open PySem PySem.Spec PyProof.Rows L2 PySem.W

/-! ### data by a Lean type -/
section
variable {K : PySem.W.Frag} {H H' : Hp}
mutual
theorem dp_same (e : Same H H') : ∀ (d : PyData) (v : V), Dp K H v d → Dp K H' v d
  | .none, _, h => by cases h; exact .non
  | .bool _, _, h => by cases h; exact .bl _
  | .int _, _, h => by cases h; exact .int _
  | .str _, _, h => by cases h; exact .str _
  | .list ds, _, h => by
    cases h with
    | lst a b => exact .lst (e.seq a) (dpAll_same e ds _ b)
  | .tuple ds, _, h => by
    cases h with
    | tup a b => exact .tup (same_sqT e a) (dpAll_same e ds _ b)
  | .dict _, _, h => by cases h
theorem dpAll_same (e : Same H H') : ∀ (ds : List PyData) (vs : List V), DpAll K H vs ds → DpAll K H' vs ds
  | [], _, h => by cases h; exact .nil
  | d :: ds, _, h => by
    cases h with
    | cons a b => exact .cons (dp_same e d _ a) (dpAll_same e ds _ b)
end
theorem dpAll_len : ∀ {vs : List V} {ds : List PyData}, DpAll K H vs ds → vs.length = ds.length
  | _, _, .nil => rfl
  | _, _, .cons _ b => congrArg (· + 1) (dpAll_len b)
theorem dpAll_app : ∀ {vs ws : List V} {ds es : List PyData}, DpAll K H vs ds → DpAll K H ws es → DpAll K H (vs ++ ws) (ds ++ es)
  | _, _, _, _, .nil, b => b
  | _, _, _, _, .cons a r, b => .cons a (dpAll_app r b)
theorem dpAll_at : ∀ {vs : List V} {ds : List PyData}, DpAll K H vs ds → ∀ {i : Nat} {v : V}, vs[i]? = some v → ∃ d, ds[i]? = some d ∧ Dp K H v d
  | _, _, .nil, i, v, h => by cases h
  | _, _, .cons a r, 0, v, h => by obtain rfl := Option.some.inj h; exact ⟨_, rfl, a⟩
  | _, _, .cons a r, i + 1, v, h => dpAll_at r (i := i) h
theorem dpAll_get : ∀ {vs : List V} {ds : List PyData}, DpAll K H vs ds → ∀ {i : Nat} {d : PyData}, ds[i]? = some d → ∃ v, vs[i]? = some v ∧ Dp K H v d
  | _, _, .nil, i, v, h => by cases h
  | _, _, .cons a r, 0, v, h => by obtain rfl := Option.some.inj h; exact ⟨_, rfl, a⟩
  | _, _, .cons a r, i + 1, v, h => dpAll_get r (i := i) h
theorem dpAll_rev : ∀ {vs : List V} {ds : List PyData}, DpAll K H vs ds → DpAll K H vs.reverse ds.reverse
  | _, _, .nil => .nil
  | _, _, .cons a r => by
    rw [List.reverse_cons, List.reverse_cons]
    exact dpAll_app (dpAll_rev r) (.cons a .nil)
theorem dpAll_take : ∀ {vs : List V} {ds : List PyData}, DpAll K H vs ds → ∀ n, DpAll K H (vs.take n) (ds.take n)
  | _, _, .nil, n => by rw [List.take_nil, List.take_nil]; exact .nil
  | _, _, .cons a r, 0 => .nil
  | _, _, .cons a r, n + 1 => .cons a (dpAll_take r n)
theorem dpAll_drop : ∀ {vs : List V} {ds : List PyData}, DpAll K H vs ds → ∀ n, DpAll K H (vs.drop n) (ds.drop n)
  | _, _, .nil, n => by rw [List.drop_nil, List.drop_nil]; exact .nil
  | _, _, .cons a r, 0 => .cons a r
  | _, _, .cons a r, n + 1 => dpAll_drop r n
theorem dpAll_ints : ∀ ns : List Int, DpAll K H (ns.map V.int) (ns.map Datum.toD)
  | [] => .nil
  | n :: r => .cons (.int n) (dpAll_ints r)
theorem ints_dpAll : ∀ {vs : List V} {ns : List Int}, DpAll K H vs (ns.map Datum.toD) → vs = ns.map V.int
  | [], [], _ => rfl
  | [], _ :: _, h => by cases h
  | _ :: _, [], h => by cases h
  | v :: vs, n :: ns, h => by
    cases h with
    | cons a r =>
      have e : v = .int n := by
        have a' : Dp K H v (.int n) := a
        cases a'; rfl
      rw [e, ints_dpAll r]; rfl
section
variable {α β : Type} [DecidableEq α] [Datum α] [DecidableEq β] [Datum β]
/-- v holds x -/
abbrev Hd (K : PySem.W.Frag) (H : Hp) (v : V) (x : α) : Prop := Dp K H v (Datum.toD x)
/-- the values hold the items -/
abbrev Hs (K : PySem.W.Frag) (H : Hp) (vs : List V) (xs : List α) : Prop := DpAll K H vs (xs.map Datum.toD)
theorem Hd.same {v : V} {x : α} (h : Hd K H v x) (e : Same H H') : Hd K H' v x := dp_same e _ _ h
theorem Hs.same {vs : List V} {xs : List α} (h : Hs K H vs xs) (e : Same H H') : Hs K H' vs xs := dpAll_same e _ _ h
theorem hd_lst {a : Addr} {vs : List V} {xs : List α} (h : SqL K H a vs) (r : Hs K H vs xs) : Hd K H (.ref a) xs := Dp.lst h r
theorem hd_pair {a : Addr} {u v : V} {x : α} {y : β} (h : SqT K H a [u, v]) (r : Hd K H u x) (q : Hd K H v y) : Hd K H (.ref a) (x, y) := Dp.tup h (.cons r (.cons q .nil))
theorem hd_int (i : Int) : Hd K H (.int i) i := .int i
theorem lst_hd {v : V} {xs : List α} (h : Hd K H v xs) : ∃ a vs, v = .ref a ∧ SqL K H a vs ∧ Hs K H vs xs := by
  have h' : Dp K H v (.list (xs.map Datum.toD)) := h
  cases h' with
  | lst a b => exact ⟨_, _, rfl, a, b⟩
theorem pair_hd {v : V} {p : α × β} (h : Hd K H v p) : ∃ a x y, v = .ref a ∧ SqT K H a [x, y] ∧ Hd K H x p.1 ∧ Hd K H y p.2 := by
  have h' : Dp K H v (.tuple [Datum.toD p.1, Datum.toD p.2]) := h
  cases h' with
  | tup a b =>
    cases b with
    | cons b1 b2 =>
      cases b2 with
      | cons b2 b3 =>
        cases b3
        exact ⟨_, _, _, rfl, a, b1, b2⟩
theorem hd_ints {a : Addr} {ns : List Int} (h : SqL K H a (ns.map V.int)) : Hd K H (.ref a) ns := hd_lst h (dpAll_ints ns)
theorem ints_hd {v : V} {ns : List Int} (h : Hd K H v ns) : ∃ a, v = .ref a ∧ SqL K H a (ns.map V.int) := by
  obtain ⟨a, vs, e, hs, r⟩ := lst_hd h
  rw [ints_dpAll r] at hs
  exact ⟨a, e, hs⟩
theorem int_hd {v : V} {n : Int} (h : Hd K H v n) : v = .int n := by
  have h' : Dp K H v (.int n) := h
  cases h'; rfl
theorem Hs.len {vs : List V} {xs : List α} (h : Hs K H vs xs) : vs.length = xs.length := by rw [dpAll_len h, List.length_map]
theorem Hs.at {vs : List V} {xs : List α} (h : Hs K H vs xs) {i : Nat} {v : V} (e : vs[i]? = some v) : ∃ x, xs[i]? = some x ∧ Hd K H v x := by
  obtain ⟨d, e2, hd⟩ := dpAll_at h e
  rw [List.getElem?_map] at e2
  cases q : xs[i]? with
  | none => rw [q] at e2; cases e2
  | some x =>
    rw [q] at e2
    obtain rfl : Datum.toD x = d := Option.some.inj e2
    exact ⟨x, rfl, hd⟩
theorem Hs.get {vs : List V} {xs : List α} (h : Hs K H vs xs) {i : Nat} {x : α} (e : xs[i]? = some x) : ∃ v, vs[i]? = some v ∧ Hd K H v x :=
  dpAll_get h (by rw [List.getElem?_map, e]; rfl)
theorem Hs.app {vs ws : List V} {xs ys : List α} (h : Hs K H vs xs) (r : Hs K H ws ys) : Hs K H (vs ++ ws) (xs ++ ys) := by
  show DpAll K H (vs ++ ws) ((xs ++ ys).map Datum.toD)
  rw [List.map_append]
  exact dpAll_app h r
theorem Hs.one {v : V} {x : α} (h : Hd K H v x) : Hs K H [v] [x] := .cons h .nil
theorem Hs.snoc {vs : List V} {xs : List α} {v : V} {x : α} (h : Hs K H vs xs) (r : Hd K H v x) : Hs K H (vs ++ [v]) (xs ++ [x]) := h.app (.one r)
theorem Hs.rev {vs : List V} {xs : List α} (h : Hs K H vs xs) : Hs K H vs.reverse xs.reverse := by
  show DpAll K H vs.reverse (xs.reverse.map Datum.toD)
  rw [List.map_reverse]
  exact dpAll_rev h
theorem Hs.take {vs : List V} {xs : List α} (h : Hs K H vs xs) (n : Nat) : Hs K H (vs.take n) (xs.take n) := by
  show DpAll K H (vs.take n) ((xs.take n).map Datum.toD)
  rw [List.map_take]
  exact dpAll_take h n
theorem Hs.drop {vs : List V} {xs : List α} (h : Hs K H vs xs) (n : Nat) : Hs K H (vs.drop n) (xs.drop n) := by
  show DpAll K H (vs.drop n) ((xs.drop n).map Datum.toD)
  rw [List.map_drop]
  exact dpAll_drop h n
end
end

/-! ### ==, !=, in, not in of such -/
section
variable {X : Cx}
def rEqH (α : Type) [DecidableEq α] [Datum α] (K : PySem.W.Frag) : R2 := fun x y H Q => ∃ a b : α, Hd K H x a ∧ Hd K H y b ∧ Q (.bl (decide (a = b))) H
def rNeH (α : Type) [DecidableEq α] [Datum α] (K : PySem.W.Frag) : R2 := fun x y H Q => ∃ a b : α, Hd K H x a ∧ Hd K H y b ∧ Q (.bl (decide (a ≠ b))) H
def rInH (α : Type) [DecidableEq α] [Datum α] (K : PySem.W.Frag) : R2 := fun x y H Q => ∃ (a : α) (bs : List α), Hd K H x a ∧ Hd K H y bs ∧ Q (.bl (decide (a ∈ bs))) H
def rNiH (α : Type) [DecidableEq α] [Datum α] (K : PySem.W.Frag) : R2 := fun x y H Q => ∃ (a : α) (bs : List α), Hd K H x a ∧ Hd K H y bs ∧ Q (.bl (decide (a ∉ bs))) H
theorem op_eqH (α : Type) [DecidableEq α] [Datum α] (hu : X.A.units + Datum.depth α < cLine) : OpR X (compareOp .Eq) (rEqH α X.K) := by
  intro pins s σ H x y v u Q I rx ry h
  obtain ⟨a, b, ha, hb, q⟩ := h
  exact eq_datum (Dp.reads I _ x v ha rx) (Dp.reads I _ y u hb ry) hu ⟨.bl _, H, I, rfl, q⟩
theorem op_neH (α : Type) [DecidableEq α] [Datum α] (hu : X.A.units + Datum.depth α < cLine) : OpR X (compareOp .NotEq) (rNeH α X.K) := by
  intro pins s σ H x y v u Q I rx ry h
  obtain ⟨a, b, ha, hb, q⟩ := h
  exact ne_datum (Dp.reads I _ x v ha rx) (Dp.reads I _ y u hb ry) hu ⟨.bl _, H, I, rfl, q⟩
theorem op_inH (α : Type) [DecidableEq α] [Datum α] (hu : X.A.units + 1 + Datum.depth α < cLine) : OpR X (compareOp .In) (rInH α X.K) := by
  intro pins s σ H x y v u Q I rx ry h
  obtain ⟨a, bs, ha, hb, q⟩ := h
  obtain ⟨l, vs, rfl, hs, r⟩ := lst_hd hb
  obtain ⟨its, rv, pl, _⟩ := I.list hs
  cases ry
  exact in_list_datum pl.isList (Dp.readsAll I _ vs its r rv) (Dp.reads I _ x v ha rx) hu ⟨.bl _, H, I, rfl, q⟩
theorem op_niH (α : Type) [DecidableEq α] [Datum α] (hu : X.A.units + 1 + Datum.depth α < cLine) : OpR X (compareOp .NotIn) (rNiH α X.K) := by
  intro pins s σ H x y v u Q I rx ry h
  obtain ⟨a, bs, ha, hb, q⟩ := h
  obtain ⟨l, vs, rfl, hs, r⟩ := lst_hd hb
  obtain ⟨its, rv, pl, _⟩ := I.list hs
  cases ry
  exact notIn_list_datum pl.isList (Dp.readsAll I _ vs its r rv) (Dp.reads I _ x v ha rx) hu ⟨.bl _, H, I, rfl, q⟩
end

/-! ### sorted of such, any number -/
section
variable {X : Cx}
/-- data that a sort takes: all of one build, no tuples -/
class Srt1 (α : Type) [DecidableEq α] [Datum α] : Prop where
  like : ∀ a b : α, alike (Datum.toD a) (Datum.toD b) = true
  other : ∀ a : α, Datum.toD a ≠ .none ∧ ∀ xs, Datum.toD a ≠ .tuple xs
theorem like_all {α : Type} [DecidableEq α] [Datum α] (h : ∀ a b : α, alike (Datum.toD a) (Datum.toD b) = true) : ∀ xs ys : List α, alikeAll (xs.map Datum.toD) (ys.map Datum.toD) = true
  | [], _ => by simp [alikeAll]
  | _ :: _, [] => by simp [alikeAll]
  | x :: xs, y :: ys => by
    show alikeAll (Datum.toD x :: xs.map Datum.toD) (Datum.toD y :: ys.map Datum.toD) = true
    rw [alikeAll, h x y, like_all h xs ys]; rfl
instance : Srt1 Int where
  like _ _ := by simp [Datum.toD, alike]
  other _ := ⟨(fun z => by cases z), (fun _ z => by cases z)⟩
instance {α : Type} [DecidableEq α] [Datum α] [Srt1 α] : Srt1 (List α) where
  like a b := by
    show alike (.list (a.map Datum.toD)) (.list (b.map Datum.toD)) = true
    simpa [alike] using like_all Srt1.like a b
  other _ := ⟨(fun z => by cases z), (fun _ z => by cases z)⟩
theorem vals_of_each {R : Value → V → Prop} : ∀ {out : List Value}, (∀ v ∈ out, ∃ x, R v x) → ∃ ws : List V, EachIs R out ws
  | [], _ => ⟨[], .nil⟩
  | v :: out, h => by
    obtain ⟨x, hx⟩ := h v List.mem_cons_self
    obtain ⟨ws, e⟩ := vals_of_each (out := out) fun u hu => h u (List.mem_cons_of_mem _ hu)
    exact ⟨x :: ws, .cons hx e⟩
def SrR (K : PySem.W.Frag) (H : Hp) (vs : List V) {α : Type} [DecidableEq α] [Datum α] (v : Value) (b : α) : Prop := ∃ x, x ∈ vs ∧ RelV x v ∧ Hd K H x b
theorem srt_in {α : Type} [DecidableEq α] [Datum α] {K : PySem.W.Frag} {H : Hp} {all : List V} : ∀ {vs : List V} {its : List Value} {xs : List α}, (∀ v ∈ vs, v ∈ all) → Vals vs its → Hs K H vs xs → EachIs (SrR K H all) its xs
  | [], _, [], _, r, _ => by cases r; exact .nil
  | [], _, _ :: _, _, _, h => by cases h
  | _ :: _, _, [], _, _, h => by cases h
  | v :: vs, _, x :: xs, m, r, h => by
    cases r with
    | cons r1 r2 =>
      cases h with
      | cons h1 h2 => exact .cons ⟨v, m v List.mem_cons_self, r1, h1⟩ (srt_in (fun u hu => m u (List.mem_cons_of_mem _ hu)) r2 h2)
theorem srt_out {α : Type} [DecidableEq α] [Datum α] {K : PySem.W.Frag} {H : Hp} {all : List V} : ∀ {its : List Value} {xs : List α}, EachIs (SrR K H all) its xs → ∃ ws, Vals ws its ∧ Hs K H ws xs ∧ ∀ w ∈ ws, w ∈ all
  | _, _, .nil => ⟨[], .nil, .nil, fun w h => by cases h⟩
  | _, _, .cons h r => by
    obtain ⟨x, m, rx, hx⟩ := h
    obtain ⟨ws, r1, r2, r3⟩ := srt_out r
    exact ⟨x :: ws, .cons rx r1, .cons hx r2, fun w hw => by
      rcases List.mem_cons.mp hw with e | e
      · rw [e]; exact m
      · exact r3 w e⟩
/-- the order of sorted -/
def leH {α : Type} [DecidableEq α] [Datum α] : α → α → Bool := dataLe false Datum.toD
def rSortH (α : Type) [DecidableEq α] [Datum α] (K : PySem.W.Frag) : List V → Hp → VK → Prop := fun vs H Q => ∃ (a : Addr) (xs : List V) (L : List α), vs = [V.ref a] ∧ SqL K H a xs ∧ Hs K H xs L ∧
  ∀ p ws, (∀ w ∈ ws, w ∈ xs) → Hs K H ws (L.mergeSort leH) → H p = none → Q (.ref p) (upd H p (.lst ws))
theorem cr_sortH (α : Type) [DecidableEq α] [Datum α] [Srt1 α] (hu : X.A.units + 2 + Datum.depth α < cLine) : CallR X (.builtin "sorted") (rSortH α X.K) := by
  intro pins s σ H vs us Q I r h
  obtain ⟨a, xs, L, rfl, hs, hL, q⟩ := h
  obtain ⟨its, rv, hl, hz⟩ := I.list hs
  rw [Vals.ref1 r]
  have el := srt_in (all := xs) (fun _ m => m) rv hL
  have n1 : L.length = xs.length := hL.len.symm
  have er : EachIs (fun v (b : α) => ∃ as, Reads s.heap v (Datum.toD b) as) its L := el.mono fun v b ⟨x, _, rx, hx⟩ => Dp.reads I _ x v hx rx
  refine sorted_data (enc := Datum.toD) hl.isList el er (AllAlike.of Srt1.like) (Sortable.others Srt1.other) (by rw [n1]; exact hz) (fun b _ => Nat.lt_of_le_of_lt (Nat.add_le_add_left (Datum.depth_le b) _) hu) fun out ho eo => ?_
  obtain ⟨ws, r1, r2, r3⟩ := srt_out eo
  obtain ⟨ep, he'⟩ := PyProof.Rows.sortedAll_at s.heap its out.toArray
  have hlen : ws.length ≤ sizeLine := by rw [r1.length, ho, n1]; exact hz
  exact ⟨.ref _, upd H (s.heap.objs.size + 1) (.lst ws), I.laid (t' := s.toks) (fun _ _ => PyProof.Rows.sortedAll_old) (Nat.le_succ _) ⟨hlen, out, ep, r1, he'⟩, rfl, q _ _ r3 r2 (I.hok.fresh (Nat.le_succ _))⟩
end

/-! ### zip of lists and tuples -/
def SqK (κ : Bool) (K : PySem.W.Frag) (H : Hp) (a : Addr) (xs : List V) : Prop := if κ = true then SqT K H a xs else SqL K H a xs
theorem sqk_of {K : PySem.W.Frag} {H : Hp} {a : Addr} {xs : List V} (h : Sq K H a xs) : ∃ κ, SqK κ K H a xs := h.elim (fun q => ⟨false, q⟩) (fun q => ⟨true, q⟩)
theorem SqK.same {κ : Bool} {K : PySem.W.Frag} {H H' : Hp} {a : Addr} {xs : List V} (e : Same H H') (h : SqK κ K H a xs) : SqK κ K H' a xs := by
  cases κ with
  | false => exact e.seq (show SqL K H a xs from h)
  | true => exact same_sqT e (show SqT K H a xs from h)
theorem sqk_lst {K : PySem.W.Frag} {H : Hp} {a : Addr} {xs : List V} (h : H a = some (.lst xs)) : SqK false K H a xs := SqL.of h
theorem SqK.sq {κ : Bool} {K : PySem.W.Frag} {H : Hp} {a : Addr} {xs : List V} (h : SqK κ K H a xs) : Sq K H a xs := by
  cases κ with
  | false => exact .inl h
  | true => exact .inr h
def ItAtK (κ : Bool) (h : Heap) (it l : Addr) (i : Nat) : Prop := if κ = true then h.IsTupleIter it l i else h.IsListIter it l i
def SqAtK (κ : Bool) (h : Heap) (l : Addr) (its : Array Value) : Prop := if κ = true then h.IsTuple l its else h.IsList l its
theorem ItAtK.at {κ : Bool} {h h' : Heap} {it l : Addr} {i : Nat} (a : ItAtK κ h it l i) (k : ∀ o, h.get? it = some o → h'.get? it = some o) : ItAtK κ h' it l i := by
  cases κ with
  | false => exact Heap.IsListIter.at (show h.IsListIter it l i from a) k
  | true => exact Heap.IsTupleIter.at (show h.IsTupleIter it l i from a) k
theorem ItAtK.obj {κ : Bool} {h : Heap} {it l : Addr} {i : Nat} (a : ItAtK κ h it l i) : ∃ o, h.get? it = some o ∧ ∀ v, o.data ≠ .cell v := by
  cases κ with
  | false => obtain ⟨o, e, _, d⟩ := (show h.IsListIter it l i from a); exact ⟨o, e, fun v q => by rw [d] at q; cases q⟩
  | true => obtain ⟨o, e, _, d⟩ := (show h.IsTupleIter it l i from a); exact ⟨o, e, fun v q => by rw [d] at q; cases q⟩
theorem draws_k {prog : Program} {w : World} {A : Around} (κ : Bool) (hh : A.handled = none) (it l : Addr) (ne : l ≠ it) (its : Array Value) :
    Draws prog w A it [it, l] its.size (fun i v => its[i]? = some v) (fun i h => ItAtK κ h it l i ∧ SqAtK κ h l its) := by
  cases κ with
  | false => exact Draws.list hh it l ne its
  | true => exact Draws.tuple hh it l ne its
theorem Inv.seqK {X : Cx} {pins : List (Addr × Obj)} {σ : L2.St} {H : Hp} {s : Shared} {κ : Bool} {a : Addr} {xs : List V} (I : L2.Inv X pins σ H s) (h : SqK κ X.K H a xs) : ∃ its : List Value, Vals xs its ∧ SqAtK κ s.heap a its.toArray ∧ a < s.heap.objs.size := by
  cases κ with
  | false =>
    obtain ⟨its, rv, p, _⟩ := I.list (show SqL X.K H a xs from h)
    exact ⟨its, rv, p.isList, p.lt⟩
  | true =>
    obtain ⟨its, rv, p, _⟩ := I.tuple (show SqT X.K H a xs from h)
    obtain ⟨o, ho, _⟩ := id p
    exact ⟨its, rv, p, Heap.lt_size ho⟩
theorem Inv.seqK_inj {X : Cx} {pins : List (Addr × Obj)} {σ : L2.St} {H : Hp} {s : Shared} {κ : Bool} {a : Addr} {xs ys : List V} (I : L2.Inv X pins σ H s) (h : SqK κ X.K H a xs) (g : SqK κ X.K H a ys) : xs = ys := by
  cases κ with
  | false => exact I.list_inj (show SqL X.K H a xs from h) (show SqL X.K H a ys from g)
  | true => exact I.tuple_inj (show SqT X.K H a xs from h) (show SqT X.K H a ys from g)
def ItZ (K : PySem.W.Frag) (κ1 κ2 : Bool) (a b : Addr) (xs ys : List V) : It :=
  ⟨fun i H => SqK κ1 K H a xs ∧ SqK κ2 K H b ys ∧ i < xs.length ∧ i < ys.length,
    fun i H v H' => ∃ T x y, v = .ref T ∧ H T = none ∧ H' = upd H T (.tup [x, y]) ∧ xs[i]? = some x ∧ ys[i]? = some y,
    fun i H => SqK κ1 K H a xs ∧ SqK κ2 K H b ys ∧ i ≤ xs.length ∧ i ≤ ys.length ∧ (i = xs.length ∨ i = ys.length)⟩
def TnZ (κ1 κ2 : Bool) (z TI TO i1 i2 a b : Addr) (i : Nat) (h : Heap) : Prop := IsZip h z TI TO .none ∧ IsPair h TI (.ref i1) (.ref i2) ∧ (∃ x y, IsPair h TO x y) ∧ ItAtK κ1 h i1 a i ∧ ItAtK κ2 h i2 b i
theorem zip_turns {P : Program} {w : World} {K : PySem.W.Frag} {elts : List Expr} {kk : Nat} {tpos : Pos} {κ1 κ2 : Bool} {a b z TI TO i1 i2 : Addr} {xs ys : List V} (D : ZipApart z TI TO i1 i2 a b) :
    Turn P w K (.Tuple elts kk tpos) (ItZ K κ1 κ2 a b xs ys) [z, TI, TO, i1, i2] z (TnZ κ1 κ2 z TI TO i1 i2 a b) := by
  have S : ZipSep2 z TI TO i1 i2 [i1, a] [i2, b] := by
    refine ⟨D.TIz, D.TOz, D.TITO, D.TIi1, by simp, ?_, ?_, D.TIi2, by simp, ?_, ?_, ?_, ?_⟩ <;>
      · simp only [List.mem_cons, List.not_mem_nil, or_false, not_or]
        first
          | exact ⟨D.i1z.symm, D.l1z.symm⟩ | exact ⟨D.TOi1, D.l1TO.symm⟩ | exact ⟨D.i2z.symm, D.l2z.symm⟩ | exact ⟨D.TOi2, D.l2TO.symm⟩ | exact ⟨D.i12, D.l2i1.symm⟩ | exact ⟨D.i12.symm, D.l1i2.symm⟩
  refine ⟨by simp, ?_, ?_, ?_, ?_, ?_⟩
  · rintro i h ⟨hz, hTI, ⟨x, y, hTO⟩, h1, h2⟩ c hc
    have e' : c = z ∨ c = TI ∨ c = TO ∨ c = i1 ∨ c = i2 := by simpa using hc
    rcases e' with q | q | q | q | q <;> subst q
    · exact ⟨_, hz, fun v q => nomatch q⟩
    · exact ⟨_, hTI, fun v q => nomatch q⟩
    · exact ⟨_, hTO, fun v q => nomatch q⟩
    · exact h1.obj
    · exact h2.obj
  · rintro i h h' ⟨hz, hTI, ⟨x, y, hTO⟩, h1, h2⟩ k
    exact ⟨k z (by simp) _ hz, k TI (by simp) _ hTI, ⟨x, y, k TO (by simp) _ hTO⟩, h1.at fun o q => k i1 (by simp) o q, h2.at fun o q => k i2 (by simp) o q⟩
  · intro X hP hw hK hc i pins s σ H E I hf st hg
    subst hP hw hK
    obtain ⟨hz, hTI, ⟨x0, y0, hTO⟩, h1, h2⟩ := st
    obtain ⟨qx, qy, l1, l2⟩ := hg
    obtain ⟨its, rv, p, _⟩ := Inv.seqK I qx
    obtain ⟨its2, rv2, p2, _⟩ := Inv.seqK I qy
    have hA : X.A.in1.handled = none := by
      have q := I.ok.hd hc
      simpa using q
    have zl : z < s.heap.objs.size := Heap.lt_size hz
    have n1 := rv.length
    have n2 := rv2.length
    refine wpAny_pyNext_zipD2_item S (draws_k κ1 hA i1 a D.l1i1 its.toArray) (draws_k κ2 hA i2 b D.l2i2 its2.toArray) hz hTI hTO ⟨h1, p⟩ ⟨h2, p2⟩ (by simp; omega) (by simp; omega) ?_
    intro u u2 h' tk hu hu2 z' TO' st1 st2 hT hsz hk
    obtain ⟨x, hx, ru⟩ : ∃ x, xs[i]? = some x ∧ RelV x u := by
      obtain ⟨u', e1, e2⟩ := rv.get (List.getElem?_eq_getElem l1)
      have e3 : its[i]? = some u := by simpa using hu
      rw [e1] at e3
      obtain rfl := Option.some.inj e3
      exact ⟨_, List.getElem?_eq_getElem l1, e2⟩
    obtain ⟨y, hy, ru2⟩ : ∃ y, ys[i]? = some y ∧ RelV y u2 := by
      obtain ⟨u', e1, e2⟩ := rv2.get (List.getElem?_eq_getElem l2)
      have e3 : its2[i]? = some u2 := by simpa using hu2
      rw [e1] at e3
      obtain rfl := Option.some.inj e3
      exact ⟨_, List.getElem?_eq_getElem l2, e2⟩
    refine ⟨_, rfl, wpAny_letOwnedTupleGo_zip (s := { s with heap := h', toks := tk }) z' fun h'' z'' sb => ?_⟩
    have T2 : h''.get? s.heap.objs.size = some { cls := .type "tuple", data := .seq #[u, u2] } := (sb.2 _ (Nat.ne_of_gt zl)).trans hT
    have far : ∀ c o, c ∉ [z, TI, TO, i1, i2] → s.heap.get? c = some o → h''.get? c = some o := fun c o hb q => by
      simp only [List.mem_cons, List.not_mem_nil, or_false, not_or] at hb
      exact (sb.2 c hb.1).trans (hk c o hb.1 hb.2.2.1 hb.2.2.2.1 hb.2.2.2.2 q)
    have I1 : L2.Inv X pins σ (upd H s.heap.objs.size (.tup [x, y])) { s with heap := h'', toks := tk } :=
      I.turnedNew (t' := tk) (ch := [z, TI, TO, i1, i2]) far hf (Nat.le_refl _) ⟨by show 2 ≤ sizeLine; decide, [u, u2], .cons ru (.cons ru2 .nil), ⟨_, T2, rfl, _, rfl⟩⟩
    refine ⟨.ref s.heap.objs.size, _, I1, rfl, ⟨_, x, y, rfl, I.hok.fresh (Nat.le_refl _), rfl, hx, hy⟩, ⟨z'', ?_, ⟨u, u2, ?_⟩, ?_, ?_⟩, fun c hcm => ?_⟩
    · exact (sb.2 _ D.TIz).trans (hk _ _ D.TIz D.TITO D.TIi1 D.TIi2 hTI)
    · exact (sb.2 _ D.TOz).trans TO'
    · exact st1.1.at fun o q => (sb.2 _ D.i1z).trans q
    · exact st2.1.at fun o q => (sb.2 _ D.i2z).trans q
    · have lt : c < s.heap.objs.size := by
        have e' : c = z ∨ c = TI ∨ c = TO ∨ c = i1 ∨ c = i2 := by simpa using hcm
        rcases e' with q | q | q | q | q <;> subst q
        · exact zl
        · exact Heap.lt_size hTI
        · exact Heap.lt_size hTO
        · obtain ⟨_, e1, _⟩ := h1.obj; exact Heap.lt_size e1
        · obtain ⟨_, e2, _⟩ := h2.obj; exact Heap.lt_size e2
      rw [upd_ne (Nat.ne_of_lt lt)]
      exact (hf c hcm).1
  · intro X hP hw hK hc i pins s σ H E I hf st hg
    subst hP hw hK
    obtain ⟨hz, hTI, ⟨x0, y0, hTO⟩, h1, h2⟩ := st
    obtain ⟨qx, qy, l1, l2, l3⟩ := hg
    obtain ⟨its, rv, p, _⟩ := Inv.seqK I qx
    obtain ⟨its2, rv2, p2, _⟩ := Inv.seqK I qy
    have hA : X.A.in1.handled = none := by
      have q := I.ok.hd hc
      simpa using q
    have n1 := rv.length
    have n2 := rv2.length
    refine wpAny_pyNext_zipD2_end S (draws_k κ1 hA i1 a D.l1i1 its.toArray) (draws_k κ2 hA i2 b D.l2i2 its2.toArray) hz hTI hTO ⟨h1, p⟩ ⟨h2, p2⟩ (by simp; omega) (by simp; omega) (by simp; omega) fun h' tk hk => ?_
    refine ⟨rfl, I.turnedL (t' := tk) (ch := [z, TI, TO, i1, i2]) (fun c o hb q => ?_) hf⟩
    simp only [List.mem_cons, List.not_mem_nil, or_false, not_or] at hb
    exact hk c o hb.1 hb.2.2.1 hb.2.2.2.1 hb.2.2.2.2 q
  · intro A i s Q E st h
    exact wpAny_pyIter_zip st.1 h
def iZipS (K : PySem.W.Frag) (ta : TA) : TI := fun σ H R => ta σ H fun vs H1 => ∃ a b xs ys κ1 κ2, vs = [.ref a, .ref b] ∧ SqK κ1 K H1 a xs ∧ SqK κ2 K H1 b ys ∧ R (ItZ K κ1 κ2 a b xs ys) H1
theorem zip_made {prog : Program} {w : World} {A : Around} {E : Value → Shared → Prop} {s : Shared} {κ1 κ2 : Bool} {l1 l2 : Addr} {xs ys : Array Value} {Q : Value → Shared → Prop} (h1 : SqAtK κ1 s.heap l1 xs) (h2 : SqAtK κ2 s.heap l2 ys)
    (h : ∀ h', IsZip h' (s.heap.objs.size + 4) (s.heap.objs.size + 2) (s.heap.objs.size + 3) .none → IsPair h' (s.heap.objs.size + 2) (.ref s.heap.objs.size) (.ref (s.heap.objs.size + 1)) → IsPair h' (s.heap.objs.size + 3) .none .none →
      ItAtK κ1 h' s.heap.objs.size l1 0 → ItAtK κ2 h' (s.heap.objs.size + 1) l2 0 → (∀ c o, s.heap.get? c = some o → h'.get? c = some o) → Q (.ref (s.heap.objs.size + 4)) { s with heap := h' }) :
    wpAny (model prog w) A (call (.type "zip") [.ref l1, .ref l2]) Q E s := by
  cases κ1 <;> cases κ2
  · exact zip_begins2 (begins_list l1 xs) (begins_list l2 ys) h1 h2 fun h' a b c d e _ f => h h' a b c ⟨_, d, rfl, rfl⟩ ⟨_, e, rfl, rfl⟩ f
  · exact zip_begins2 (begins_list l1 xs) (begins_tuple l2 ys) h1 h2 fun h' a b c d e _ f => h h' a b c ⟨_, d, rfl, rfl⟩ ⟨_, e, rfl, rfl⟩ f
  · exact zip_begins2 (begins_tuple l1 xs) (begins_list l2 ys) h1 h2 fun h' a b c d e _ f => h h' a b c ⟨_, d, rfl, rfl⟩ ⟨_, e, rfl, rfl⟩ f
  · exact zip_begins2 (begins_tuple l1 xs) (begins_tuple l2 ys) h1 h2 fun h' a b c d e _ f => h h' a b c ⟨_, d, rfl, rfl⟩ ⟨_, e, rfl, rfl⟩ f
theorem pi_zipS {X : Cx} {e e2 : Expr} {ta : TA} {p pos tpos : Pos} {elts : List Expr} {kk : Nat} (hg : Gl X "zip") (hm : X.mg "zip" = none) (ha : PA X [e, e2] ta)
    (hs : starEach [e, e2] X.env = (false, eval e X.env) :: starEach [e2] X.env := by rfl) (hpl : (backTo pos (starEach [e2] X.env)).any (·.1) = false := by rfl) :
    PI X (.Tuple elts kk tpos) (.Call (.Name "zip" p) [e, e2] [] pos) (iZipS X.K ta) := by
  refine ⟨fun pins s σ H R I h => Call_ (ld_blt I hg hm PyProof.Rows.boot_zip (PyProof.Rows.callWith_type1 (thn (ha.run pos pins s σ H _ I h) ?_) hs hpl))⟩
  rintro us s1 ⟨vs, H1, I1, r1, a, b, xs, ys, κ1, κ2, rfl, kx, ky, q⟩
  obtain ⟨u1, u2, rfl, ra, rb⟩ := vals2 r1
  cases ra
  cases rb
  obtain ⟨its, rv, p1, la⟩ := Inv.seqK I1 kx
  obtain ⟨its2, rv2, p2, lb⟩ := Inv.seqK I1 ky
  refine zip_made p1 p2 fun h' hz hTI hTO h1 h2 hk => wpAny_pyIter_zip hz ?_
  refine ⟨s1.heap.objs.size + 4, _, _, _, H1, rfl, I1.kept (t' := s1.toks) hk, zip_turns (PySem.W.ktu_apart s1.heap.objs.size a b la lb), ⟨hz, hTI, ⟨_, _, hTO⟩, h1, h2⟩, fun c hcm => ?_, q⟩
  have le : s1.heap.objs.size ≤ c := by
    have e' : c = s1.heap.objs.size + 4 ∨ c = s1.heap.objs.size + 2 ∨ c = s1.heap.objs.size + 3 ∨ c = s1.heap.objs.size ∨ c = s1.heap.objs.size + 1 := by simpa using hcm
    rcases e' with z | z | z | z | z <;> rw [z] <;> first | exact Nat.le_refl _ | exact Nat.le_add_right _ _
  exact I1.fpOk le (I1.hok.fresh le)
theorem walk_zipS {K : PySem.W.Frag} {κ1 κ2 : Bool} {a b : Addr} {xs ys : List V} {n : Nat} (hn : n = min xs.length ys.length) :
    Walk (ItZ K κ1 κ2 a b xs ys) n (fun H => SqK κ1 K H a xs ∧ SqK κ2 K H b ys) (YPair (fun i => xs[i]?) (fun i => ys[i]?)) := by
  subst hn
  refine ⟨fun i _ hi q => ⟨q.1, q.2, by omega, by omega⟩, fun _ q => ⟨q.1, q.2, by omega, by omega, by omega⟩, fun i H v H' _ q y => ?_⟩
  obtain ⟨T, x, z, h1, h2, h3, h4, h5⟩ := y
  exact ⟨T, x, z, h1, h2, h3, h4, h5⟩

/-! ### comprehensions whose elements make new objects: Rel by the turn and what was made so far -/
/-- the heap without D -/
def wo (D : Addr) (H : Hp) : Hp := fun b => if b = D then none else H b
theorem wo_upd {D : Addr} {H : Hp} {o : HO} : wo D (upd H D o) = wo D H := by
  funext b
  unfold wo
  by_cases e : b = D
  · rw [if_pos e, if_pos e]
  · rw [if_neg e, if_neg e, upd_ne e]
theorem wo_same {D : Addr} {H H' : Hp} (e : Same H H') : Same (wo D H) (wo D H') := fun b o q => by
  unfold wo at q ⊢
  by_cases z : b = D
  · rw [if_pos z] at q; cases q
  · rw [if_neg z] at q ⊢; exact e _ _ q
theorem same_wo {D : Addr} {H H' : Hp} (n : H D = none) (e : Same H H') : Same H (wo D H') := fun b o q => by
  unfold wo
  rw [if_neg (ne_of_none q n)]
  exact e _ _ q
theorem wo_le {D : Addr} {H : Hp} : Same (wo D H) H := fun b o q => by
  unfold wo at q
  by_cases z : b = D
  · rw [if_pos z] at q; cases q
  · rw [if_neg z] at q; exact q
theorem wo_ne {D b : Addr} {H : Hp} (h : b ≠ D) : wo D H b = H b := if_neg h
/-- a new object beside D -/
theorem wo_new {D p : Addr} {H : Hp} {o : HO} {acc : List V} (hD : H D = some (.lst acc)) (hp : H p = none) : wo D (upd H p o) = upd (wo D H) p o := by
  have ne : p ≠ D := fun z => by rw [z, hD] at hp; cases hp
  funext b
  by_cases e : b = D
  · subst e
    rw [upd_ne ne.symm]
    exact (if_pos rfl).trans (if_pos rfl).symm
  · rw [wo_ne e]
    by_cases z : b = p
    · subst z
      rw [upd_same, upd_same]
    · rw [upd_ne z, upd_ne z, wo_ne e]
section
variable {J : It} {n : Nat} {G : Hp → Prop} {Y : Nat → Hp → V → Hp → Prop} {g : TG} {tt : TT} {te : TE} {vs : List Nat} {σ : L2.St} {H1 : Hp} {D : Addr} {Qd : Hp → Prop}
def RInv (Rel : Nat → List V → Hp → Prop) (H1 : Hp) (D : Addr) (i : Nat) (H : Hp) : Prop := Same H1 H ∧ ∃ acc, H D = some (.lst acc) ∧ acc.length ≤ i ∧ Rel i acc (wo D H)
theorem lc_rel (w : Walk J n G Y) (Rel : Nat → List V → Hp → Prop) (hD : H1 D = none) (hz : n ≤ sizeLine) (hG : ∀ H', Same H1 H' → G H') (h0 : Rel 0 [] H1) (hm : ∀ i acc A B, Same A B → Rel i acc A → Rel i acc B)
    (hs : ∀ i x acc Ha Hb, i < n → Same H1 Ha → Ha D = some (.lst acc) → Rel i acc (wo D Ha) → Y i Ha x Hb → ∀ (Yc : V → Hp → Prop) (Nc : Hp → Prop), (∀ y H4, Same Ha H4 → Rel (i + 1) (acc ++ [y]) (wo D H4) → Yc y H4) → (∀ H3, Same Ha H3 → Rel (i + 1) acc (wo D H3) → Nc H3) →
      g x (wipe σ vs) Hb fun σ2 H2 => wipe σ2 vs = wipe σ vs ∧ tt σ2 H2 fun b H3 => if b = true then te σ2 H3 Yc else Nc H3)
    (hd : ∀ acc H', Same H1 H' → H' D = some (.lst acc) → Rel n acc (wo D H') → Qd H') :
    ∃ W : Nat → Nat → Hp → Prop, (∃ m, W 0 m (upd H1 D (.lst []))) ∧ ∀ i m H, W i m H →
      (J.stop i H ∧ Qd H) ∨ (J.go i H ∧ ∃ Nx : Hp → Prop, (∀ H', Nx H' → ∃ m', m' < m ∧ W (i + 1) m' H') ∧ ∀ x H', J.yld i H x H' → g x (wipe σ vs) H' fun σ2 H2 => wipe σ2 vs = wipe σ vs ∧ tt σ2 H2 fun b H3 =>
        if b = true then te σ2 H3 fun y H4 => ∃ acc, H4 D = some (.lst acc) ∧ acc.length < sizeLine ∧ Nx (upd H4 D (.lst (acc ++ [y]))) else Nx H3) := by
  refine lc_it w (RInv Rel H1 D) ⟨same_new hD, [], upd_same, Nat.le_refl _, ?_⟩ (fun i H hi p => hG H p.1) (fun i x H H' hi ⟨s1, acc, ha, hl, hr⟩ y => ?_) (fun H ⟨s1, acc, ha, _, hr⟩ => hd acc H s1 ha hr)
  · rw [wo_upd]
    exact hm _ _ _ _ (same_wo hD (Same.refl _)) h0
  · refine hs i x acc H H' hi s1 ha hr y _ _ (fun y H4 s2 r => ?_) (fun H3 s2 r => ?_)
    · refine ⟨acc, s2 _ _ ha, by omega, ?_, acc ++ [y], upd_same, ?_, ?_⟩
      · intro b o q
        rw [upd_ne (ne_of_none q hD)]
        exact s2 _ _ (s1 _ _ q)
      · rw [List.length_append]; simp only [List.length_cons, List.length_nil]; omega
      · rw [wo_upd]; exact r
    · exact ⟨s1.trans s2, acc, s2 _ _ ha, by omega, r⟩
end
end Fp

namespace Fp
open PySem PySem.Spec PyProof.Rows L2 PySem.W
theorem dle {u d : Nat} (hu : u + 64 < cLine) (h : d ≤ 60) : u + d < cLine := by omega
theorem dle1 {u d : Nat} (hu : u + 64 < cLine) (h : d ≤ 60) : u + 1 + d < cLine := by omega
theorem dle2 {u d : Nat} (hu : u + 64 < cLine) (h : d ≤ 60) : u + 2 + d < cLine := by omega
theorem iteT2 {b : Bool} {A B : Prop} (h : b = true) (a : A) : if b = true then A else B := by subst h; exact iteT a
theorem iteF2 {b : Bool} {A B : Prop} (h : b = false) (a : B) : if b = true then A else B := by subst h; exact iteF a
section
variable {X : Cx}
/-! ### subscripts and slices of a list or a tuple -/
def rIxQ (K : PySem.W.Frag) : R2 := fun x y H Q => rIxL K x y H Q ∨ rIxT K x y H Q
theorem ix_sq : IxR X (rIxQ X.K) := ix_list.or ix_tup
theorem ixq {K : PySem.W.Frag} {H : Hp} {a : Addr} {xs : List V} {i : Int} {v : V} {Q : VK} (h : Sq K H a xs) (e : atI xs i = some v) (q : Q v H) : rIxQ K (.ref a) (.int i) H Q :=
  h.elim (fun s => .inl ⟨a, xs, i, v, rfl, rfl, s, e, q⟩) (fun s => .inr ⟨a, xs, i, v, rfl, rfl, s, e, q⟩)
theorem sl_or {r r' : V → Option Int → Option Int → Hp → VK → Prop} (h : SlR X r) (h' : SlR X r') : SlR X (fun x lo hi H Q => r x lo hi H Q ∨ r' x lo hi H Q) := by
  intro pins s σ H x v vl vu lo hi sl Q I rx hs pl pu q
  rcases q with q | q
  · exact h pins s σ H x v vl vu lo hi sl Q I rx hs pl pu q
  · exact h' pins s σ H x v vl vu lo hi sl Q I rx hs pl pu q
def rSlS (K : PySem.W.Frag) : V → Option Int → Option Int → Hp → VK → Prop := fun x lo hi H Q => rSlL K x lo hi H Q ∨ rSlA K x lo hi H Q
theorem sl_sq : SlR X (rSlS X.K) := sl_or sl_list sl_tupA
/-- a slice of a list or a tuple: something that is read as its part -/
theorem slq {K : PySem.W.Frag} {H : Hp} {a : Addr} {xs : List V} {lo hi : Option Int} {Q : VK} (h : Sq K H a xs) (q : ∀ p H', Same H H' → Sq K H' p (cutV xs lo hi) → Q (.ref p) H') : rSlS K (.ref a) lo hi H Q := by
  rcases h with h | h
  · exact .inl ⟨a, xs, rfl, h, fun p hp => q p _ (same_new hp) (sq_lst upd_same)⟩
  · refine .inr ⟨a, xs, rfl, h, fun z => q a H (Same.refl H) (.inr ?_), fun _ p hp => q p _ (same_new hp) (sq_tup upd_same)⟩
    have e : cutV xs lo hi = xs := by
      unfold cutV
      rw [z.1, z.2]; simp
    rw [e]; exact h
theorem cut_from {xs : List V} (n : Nat) : cutV xs (some (n : Int)) none = xs.drop n := by
  have e : HT.sIx xs.length 0 (some (n : Int)) = min n xs.length := by
    show (if (n : Int) < 0 then ((n : Int) + (xs.length : Int)).toNat else min (n : Int).toNat xs.length) = min n xs.length
    rw [if_neg (by omega), Int.toNat_natCast]
  unfold cutV
  rw [e, HT.sIx_none, List.take_of_length_le (by rw [List.length_drop]; omega)]
  rcases Nat.le_total n xs.length with h | h
  · rw [Nat.min_eq_left h]
  · rw [Nat.min_eq_right h, List.drop_of_length_le (Nat.le_refl _), List.drop_of_length_le h]
theorem cut_to {xs : List V} (n : Nat) : cutV xs none (some (n : Int)) = xs.take n := by
  have e : HT.sIx xs.length xs.length (some (n : Int)) = min n xs.length := by
    show (if (n : Int) < 0 then ((n : Int) + (xs.length : Int)).toNat else min (n : Int).toNat xs.length) = min n xs.length
    rw [if_neg (by omega), Int.toNat_natCast]
  have e0 : HT.sIx xs.length 0 none = 0 := rfl
  unfold cutV
  rw [e, e0, List.drop_zero, Nat.sub_zero]
  rcases Nat.le_total n xs.length with h | h
  · rw [Nat.min_eq_left h]
  · rw [Nat.min_eq_right h, List.take_of_length_le (Nat.le_refl _), List.take_of_length_le h]
/-! ### xs[i] op= e -/
theorem pget_list : PGet X (fun o i H Q => ∃ p xs k v, o = .ref p ∧ i = .int k ∧ SqL X.K H p xs ∧ 0 ≤ k ∧ xs[k.toNat]? = some v ∧ Q v H) := by
  intro pins s σ H o i ov iv Q I ro ri h
  obtain ⟨p, xs, k, v, rfl, rfl, hq, h0, he, q⟩ := h
  cases ro
  obtain ⟨t, rfl⟩ := ri
  obtain ⟨its, r, pl, hz⟩ := I.list hq
  obtain ⟨w, ew, rw'⟩ := r.get he
  have hl := r.length
  have hn := line63
  have hk := (List.getElem?_eq_some_iff.mp he).1
  exact wpAny_getItem_list (x := w) pl.isList h0 (by omega) (by simpa using ew) ⟨v, H, I, rw', q⟩
end
/-! ### truth of lists of bools, tables -/
theorem hs_bls {K : PySem.W.Frag} {H : Hp} : ∀ bs : List Bool, Hs K H (bs.map V.bl) bs
  | [] => .nil
  | b :: r => .cons (.bl b) (hs_bls r)
theorem bls_hs {K : PySem.W.Frag} {H : Hp} : ∀ {vs : List V} {bs : List Bool}, Hs K H vs bs → vs = bs.map V.bl
  | [], [], _ => rfl
  | [], _ :: _, h => by cases h
  | _ :: _, [], h => by cases h
  | v :: vs, b :: bs, h => by
    cases h with
    | cons a r =>
      have e : v = .bl b := by
        have a' : Dp K H v (.bool b) := a
        cases a'; rfl
      rw [e, bls_hs r]; rfl
theorem bls_hd {K : PySem.W.Frag} {H : Hp} {v : V} {bs : List Bool} (h : Hd K H v bs) : ∃ a, v = .ref a ∧ SqL K H a (bs.map V.bl) := by
  obtain ⟨a, vs, e, hs, r⟩ := lst_hd h
  rw [bls_hs r] at hs
  exact ⟨a, e, hs⟩
/-! ### comprehensions with two fors -/
section
variable {J : It} {n : Nat} {G : Hp → Prop} {Y : Nat → Hp → V → Hp → Prop} {g : TG} {tt : TT} {te : TE} {vs : List Nat} {σ : L2.St} {H1 : Hp} {D : Addr} {Qd : Hp → Prop}
/-- the inner loop's own reading -/
def In2 (D : Addr) (σ2 : L2.St) (vs1 : List Nat) (g1 : TG) (tt1 : TT) (te : TE) (Nx : Hp → Prop) (J1 : It) (H4 : Hp) : Prop := ∃ W1 : Nat → Nat → Hp → Prop, (∃ m, W1 0 m H4) ∧ ∀ j k H, W1 j k H →
  (J1.stop j H ∧ Nx H) ∨ (J1.go j H ∧ ∃ Nx1 : Hp → Prop, (∀ H', Nx1 H' → ∃ k', k' < k ∧ W1 (j + 1) k' H') ∧ ∀ x H', J1.yld j H x H' → g1 x (wipe σ2 vs1) H' fun σ3 H5 => wipe σ3 vs1 = wipe σ2 vs1 ∧ tt1 σ3 H5 fun b H6 =>
    if b = true then te σ3 H6 fun y H7 => ∃ acc, H7 D = some (.lst acc) ∧ acc.length < sizeLine ∧ Nx1 (upd H7 D (.lst (acc ++ [y]))) else Nx1 H6)
theorem lc2_in {σ2 : L2.St} {vs1 : List Nat} {g1 : TG} {tt1 : TT} {Nx : Hp → Prop} {H4 : Hp} {acc0 : List V} (w : Walk J n G Y) (Rel : Nat → List V → Hp → Prop) (hD : H4 D = some (.lst acc0)) (h0 : Rel 0 acc0 (wo D H4)) (hz : ∀ i acc H, i ≤ n → Rel i acc H → acc.length < sizeLine) (hG : ∀ H', Same (wo D H4) (wo D H') → G H')
    (hs : ∀ i x acc Ha Hb, i < n → Same (wo D H4) (wo D Ha) → Ha D = some (.lst acc) → Rel i acc (wo D Ha) → Y i Ha x Hb → ∀ (Yc : V → Hp → Prop) (Nc : Hp → Prop), (∀ y Hc, Same Ha Hc → Rel (i + 1) (acc ++ [y]) (wo D Hc) → Yc y Hc) → (∀ Hc, Same Ha Hc → Rel (i + 1) acc (wo D Hc) → Nc Hc) →
      g1 x (wipe σ2 vs1) Hb fun σ3 H5 => wipe σ3 vs1 = wipe σ2 vs1 ∧ tt1 σ3 H5 fun b H6 => if b = true then te σ3 H6 Yc else Nc H6)
    (hd : ∀ acc H', Same (wo D H4) (wo D H') → H' D = some (.lst acc) → Rel n acc (wo D H') → Nx H') : In2 D σ2 vs1 g1 tt1 te Nx J H4 := by
  refine ⟨fun i m H => m = n - i ∧ i ≤ n ∧ Same (wo D H4) (wo D H) ∧ ∃ acc, H D = some (.lst acc) ∧ Rel i acc (wo D H), ⟨n, by simp, Nat.zero_le _, Same.refl _, acc0, hD, h0⟩, ?_⟩
  rintro i m H ⟨rfl, hi, s1, acc, ha, hr⟩
  have q := hG H s1
  by_cases hlt : i < n
  · refine .inr ⟨w.goes i H hlt q, fun H' => i + 1 ≤ n ∧ Same (wo D H4) (wo D H') ∧ ∃ acc, H' D = some (.lst acc) ∧ Rel (i + 1) acc (wo D H'), fun H' p' => ⟨n - (i + 1), by omega, rfl, p'.1, p'.2⟩, fun x H' y => ?_⟩
    refine hs i x acc H H' hlt s1 ha hr (w.yields i H x H' hlt q y) _ _ (fun y Hc s2 r => ?_) (fun Hc s2 r => ?_)
    · refine ⟨acc, s2 _ _ ha, hz i acc _ hi hr, hlt, ?_, acc ++ [y], upd_same, ?_⟩
      · rw [wo_upd]; exact s1.trans (wo_same s2)
      · rw [wo_upd]; exact r
    · exact ⟨hlt, s1.trans (wo_same s2), acc, s2 _ _ ha, r⟩
  · have e : i = n := by omega
    subst e
    exact .inl ⟨w.stops H q, hd acc H s1 ha hr⟩
theorem lc2_rel {wi1 : TI} {vs1 : List Nat} {g1 : TG} {tt1 : TT} (w : Walk J n G Y) (Rel : Nat → List V → Hp → Prop) (hD : H1 D = none) (hG : ∀ H', Same H1 H' → G H') (h0 : Rel 0 [] H1) (hm : ∀ i acc A B, Same A B → Rel i acc A → Rel i acc B)
    (hs : ∀ i x acc Ha Hb, i < n → Same H1 Ha → Ha D = some (.lst acc) → Rel i acc (wo D Ha) → Y i Ha x Hb → ∀ Nx : Hp → Prop, (∀ acc' H', Same H1 H' → H' D = some (.lst acc') → Rel (i + 1) acc' (wo D H') → Nx H') →
      g x (wipe σ vs) Hb fun σ2 H2 => wipe σ2 vs = wipe σ vs ∧ tt σ2 H2 fun b H3 => if b = true then wi1 σ2 H3 (In2 D σ2 vs1 g1 tt1 te Nx) else Nx H3)
    (hd : ∀ acc H', Same H1 H' → H' D = some (.lst acc) → Rel n acc (wo D H') → Qd H') :
    ∃ W : Nat → Nat → Hp → Prop, (∃ m, W 0 m (upd H1 D (.lst []))) ∧ ∀ i m H, W i m H →
      (J.stop i H ∧ Qd H) ∨ (J.go i H ∧ ∃ Nx : Hp → Prop, (∀ H', Nx H' → ∃ m', m' < m ∧ W (i + 1) m' H') ∧ ∀ x H', J.yld i H x H' → g x (wipe σ vs) H' fun σ2 H2 => wipe σ2 vs = wipe σ vs ∧ tt σ2 H2 fun b H3 =>
        if b = true then wi1 σ2 H3 (In2 D σ2 vs1 g1 tt1 te Nx) else Nx H3) := by
  refine ⟨fun i m H => m = n - i ∧ i ≤ n ∧ Same H1 H ∧ ∃ acc, H D = some (.lst acc) ∧ Rel i acc (wo D H), ⟨n, by simp, Nat.zero_le _, same_new hD, [], upd_same, ?_⟩, ?_⟩
  · rw [wo_upd]
    exact hm _ _ _ _ (same_wo hD (Same.refl _)) h0
  rintro i m H ⟨rfl, hi, s1, acc, ha, hr⟩
  have q := hG H s1
  by_cases hlt : i < n
  · refine .inr ⟨w.goes i H hlt q, fun H' => i + 1 ≤ n ∧ Same H1 H' ∧ ∃ acc, H' D = some (.lst acc) ∧ Rel (i + 1) acc (wo D H'), fun H' p' => ⟨n - (i + 1), by omega, rfl, p'.1, p'.2⟩, fun x H' y => ?_⟩
    exact hs i x acc H H' hlt s1 ha hr (w.yields i H x H' hlt q y) _ fun acc' H' a b c => ⟨hlt, a, acc', b, c⟩
  · have e : i = n := by omega
    subst e
    exact .inl ⟨w.stops H q, hd acc H s1 ha hr⟩
end
/-! ### repr(..) of a truth value -/
theorem cr_reprB {X : Cx} : CallR X (.builtin "repr") (fun xs H Q => ∃ b : Bool, xs = [.bl b] ∧ Q (.str (if b then "True" else "False")) H) := by
  intro pins s σ H xs us Q I r h
  obtain ⟨b, rfl, q⟩ := h
  obtain ⟨u, rfl, ru⟩ := vals1 r
  cases ru
  exact PySem.P.repr_of_bool ⟨.str _, H, I.tok _, ⟨_, rfl⟩, q⟩
theorem cut_neg {xs : List V} (n : Nat) (h : 0 < n) : cutV xs (some (-(n : Int))) none = xs.drop (xs.length - n) := by
  have e : HT.sIx xs.length 0 (some (-(n : Int))) = xs.length - n := by
    show (if (-(n : Int)) < 0 then ((-(n : Int)) + (xs.length : Int)).toNat else min (-(n : Int)).toNat xs.length) = xs.length - n
    rw [if_pos (by omega)]; omega
  unfold cutV
  rw [e, HT.sIx_none, List.take_of_length_le (by rw [List.length_drop]; omega)]
/-! ### lists of new lists of ints -/
structure A2 {β : Type} (R : V → β → Prop) (vs : List V) (bs : List β) : Prop where
  len : vs.length = bs.length
  at_ : ∀ (i : Nat) (v : V), vs[i]? = some v → ∃ b, bs[i]? = some b ∧ R v b
section
variable {β : Type} {R S : V → β → Prop}
theorem A2.nil : A2 R [] [] := ⟨rfl, fun i v h => by cases h⟩
theorem A2.snoc {vs : List V} {bs : List β} {v : V} {b : β} (h : A2 R vs bs) (r : R v b) : A2 R (vs ++ [v]) (bs ++ [b]) := by
  refine ⟨by rw [List.length_append, List.length_append, h.len]; rfl, fun i u hu => ?_⟩
  by_cases e : i < vs.length
  · rw [List.getElem?_append_left e] at hu
    obtain ⟨b', e1, e2⟩ := h.at_ i u hu
    exact ⟨b', by rw [List.getElem?_append_left (by rw [← h.len]; exact e)]; exact e1, e2⟩
  · rw [List.getElem?_append_right (by omega)] at hu
    have z : i - vs.length = 0 := by
      have := (List.getElem?_eq_some_iff.mp hu).1
      simp only [List.length_cons, List.length_nil] at this
      omega
    rw [z] at hu
    obtain rfl := Option.some.inj hu
    exact ⟨b, by rw [List.getElem?_append_right (by rw [← h.len]; omega), ← h.len, z]; rfl, r⟩
theorem A2.mono {vs : List V} {bs : List β} (h : A2 R vs bs) (k : ∀ v b, R v b → S v b) : A2 S vs bs := ⟨h.len, fun i v e => let ⟨b, e1, e2⟩ := h.at_ i v e; ⟨b, e1, k v b e2⟩⟩
theorem A2.tail {v : V} {vs : List V} {b : β} {bs : List β} (h : A2 R (v :: vs) (b :: bs)) : R v b ∧ A2 R vs bs := by
  refine ⟨?_, by simpa using h.len, fun i u e => h.at_ (i + 1) u e⟩
  obtain ⟨b', e1, e2⟩ := h.at_ 0 v rfl
  obtain rfl : b = b' := Option.some.inj e1
  exact e2
theorem A2.cons {v : V} {vs : List V} {b : β} {bs : List β} (r : R v b) (h : A2 R vs bs) : A2 R (v :: vs) (b :: bs) := by
  refine ⟨by rw [List.length_cons, List.length_cons, h.len], fun i u e => ?_⟩
  cases i with
  | zero => obtain rfl := Option.some.inj e; exact ⟨b, rfl, r⟩
  | succ i => exact h.at_ i u e
theorem A2.app {vs ws : List V} {bs cs : List β} (h : A2 R vs bs) (g : A2 R ws cs) : A2 R (vs ++ ws) (bs ++ cs) := by
  induction vs generalizing bs with
  | nil =>
    cases bs with
    | nil => exact g
    | cons _ _ => have := h.len; cases this
  | cons v vs ih =>
    cases bs with
    | nil => have := h.len; cases this
    | cons b bs => exact .cons h.tail.1 (ih h.tail.2)
theorem A2.get {vs : List V} {bs : List β} (h : A2 R vs bs) {i : Nat} {b : β} (e : bs[i]? = some b) : ∃ v, vs[i]? = some v ∧ R v b := by
  have l := (List.getElem?_eq_some_iff.mp e).1
  have hv : vs[i]? = some (vs[i]'(by rw [h.len]; exact l)) := List.getElem?_eq_getElem _
  obtain ⟨b', e1, e2⟩ := h.at_ i _ hv
  rw [e] at e1
  obtain rfl := Option.some.inj e1
  exact ⟨_, hv, e2⟩
end
theorem a2_hs {K : PySem.W.Frag} {H : Hp} {α : Type} [DecidableEq α] [Datum α] {R : V → α → Prop} (k : ∀ v b, R v b → Hd K H v b) : ∀ {vs : List V} {bs : List α}, A2 R vs bs → Hs K H vs bs
  | [], [], _ => .nil
  | [], _ :: _, h => by have := h.len; cases this
  | _ :: _, [], h => by have := h.len; cases this
  | _ :: _, _ :: _, h => .cons (k _ _ h.tail.1) (a2_hs k h.tail.2)
/-- a list of ints that is new since H0 -/
def Rw (H0 H : Hp) (v : V) (l : List Int) : Prop := ∃ b, v = .ref b ∧ H0 b = none ∧ H b = some (.lst (l.map V.int))
theorem Rw.same {H0 H H' : Hp} {v : V} {l : List Int} (e : Same H H') (h : Rw H0 H v l) : Rw H0 H' v l := let ⟨b, a, c, d⟩ := h; ⟨b, a, c, e _ _ d⟩
theorem Rw.old {H0 G0 H : Hp} {v : V} {l : List Int} (e : Same G0 H0) (h : Rw H0 H v l) : Rw G0 H v l := let ⟨b, a, c, d⟩ := h; ⟨b, a, e.free c, d⟩
theorem Rw.hd {K : PySem.W.Frag} {H0 H : Hp} {v : V} {l : List Int} (h : Rw H0 H v l) : Hd K H v l := by
  obtain ⟨b, rfl, _, d⟩ := h
  exact hd_ints (SqL.of d)
theorem rws_hs {K : PySem.W.Frag} {H0 H : Hp} {vs : List V} {L : List (List Int)} (h : A2 (Rw H0 H) vs L) : Hs K H vs L := a2_hs (fun _ _ r => r.hd) h
end Fp

namespace Fp
open PySem PySem.Spec PyProof.Rows L2 PySem.W
/-! ### enumerate of a list or a tuple -/
abbrev eObj (it : Addr) : Obj := { cls := .type "enumerate", data := .fields #[.none, .bool false, .ref it, rawInt 0, .none, .none] }
theorem meets_enum1 {v : Value} {o : Obj} {G : Heap → Prop} (B : Begins v o G) :
    Meets (Builtin.«enumerate.__new__» ⟨[.type "enumerate", v], []⟩) (fun _ R s => G s.heap ∧ R (.ok (.ret (.ref (s.heap.push o).objs.size))) { s with heap := (s.heap.push o).push (eObj s.heap.objs.size) }) :=
  .of_wp fun prog w A R s0 hyp => by
    obtain ⟨hp0, gens0, drawn0, tok0, os0⟩ := s0
    obtain ⟨ground, fin⟩ := hyp
    have subE := sub_enumerate
    have first : ∀ {A' : Around} {E : Value → Shared → Prop} {Q : Value → Shared → Prop}, Q (.ref hp0.objs.size) ⟨hp0.push o, gens0, drawn0, tok0, os0⟩ → wpAny (model prog w) A' (pyIter v) Q E ⟨hp0, gens0, drawn0, tok0, os0⟩ :=
      fun z => B.iter prog w _ _ ⟨hp0, gens0, drawn0, tok0, os0⟩ _ ground z
    wp_walk using first
    refine wpAny_stack_any fun frames => wpAny_pure ?_
    split
    · rename_i cl _ _ _ _ _
      cases (cl == Value.type "enumerate") <;>
      · wp_walk using first
        exact ⟨_, rfl, fin⟩
    · wp_walk using first
      exact ⟨_, rfl, fin⟩
section
variable {prog : Program} {w : World} {A : Around} {E : Value → Shared → Prop} {s : Shared}
theorem enum_made {κ : Bool} {l : Addr} {xs : Array Value} {Q : Value → Shared → Prop} (h1 : SqAtK κ s.heap l xs)
    (h : ∀ h', IsEnum h' (s.heap.objs.size + 1) s.heap.objs.size 0 .none → ItAtK κ h' s.heap.objs.size l 0 → (∀ b o, s.heap.get? b = some o → h'.get? b = some o) → Q (.ref (s.heap.objs.size + 1)) { s with heap := h' }) :
    wpAny (model prog w) A (call (.type "enumerate") [.ref l]) Q E s := by
  have key : ∀ {o : Obj} {G : Heap → Prop}, Begins (.ref l) o G → G s.heap → (∀ h' : Heap, h'.get? s.heap.objs.size = some o → ItAtK κ h' s.heap.objs.size l 0) → wpAny (model prog w) A (call (.type "enumerate") [.ref l]) Q E s := by
    intro o G B hG hit
    refine callType_new F.called_enumerate (by decide) (F.typeCall_enumerate_1 _) (F.newCall_enumerate_1 _) (fun obj => F.args_object_init_2 obj _) F.entry_enumerate_new (meets_enum1 B) ⟨hG, ?_⟩
    have sz : (s.heap.push o).objs.size = s.heap.objs.size + 1 := Heap.size_push ..
    have at1 : ((s.heap.push o).push (eObj s.heap.objs.size)).get? (s.heap.objs.size + 1) = some (eObj s.heap.objs.size) := by
      have z := Heap.get?_push_size (s.heap.push o) (o := eObj s.heap.objs.size) rfl
      rw [sz] at z
      exact z
    show _ ∧ _
    rw [sz]
    exact ⟨⟨_, at1, rfl⟩, h _ at1 (hit _ (Heap.get?_push_of_some _ (Heap.get?_push_size _ B.free))) fun b o x => Heap.get?_push_of_some _ (Heap.get?_push_of_some _ x)⟩
  cases κ with
  | false => exact key (begins_list l xs) h1 fun h' e => ⟨_, e, rfl, rfl⟩
  | true => exact key (begins_tuple l xs) h1 fun h' e => ⟨_, e, rfl, rfl⟩
end
def ItN (K : PySem.W.Frag) (κ : Bool) (a : Addr) (xs : List V) : It :=
  ⟨fun i H => SqK κ K H a xs ∧ i < xs.length, fun i H v H' => ∃ T x, v = .ref T ∧ H T = none ∧ H' = upd H T (.tup [.int (i : Nat), x]) ∧ xs[i]? = some x, fun i H => SqK κ K H a xs ∧ i = xs.length⟩
def TnN (κ : Bool) (e it a : Addr) (i : Nat) (h : Heap) : Prop := (∃ old, IsEnum h e it ((i : Nat) : Int) old) ∧ ItAtK κ h it a i ∧ e ≠ it ∧ e ≠ a ∧ a ≠ it
theorem enum_turns {P : Program} {w : World} {K : PySem.W.Frag} {elts : List Expr} {kk : Nat} {tpos : Pos} {κ : Bool} {a e it : Addr} {xs : List V} :
    Turn P w K (.Tuple elts kk tpos) (ItN K κ a xs) [e, it] e (TnN κ e it a) := by
  refine ⟨by simp, ?_, ?_, ?_, ?_, ?_⟩
  · rintro i h ⟨⟨old, he⟩, hi, _⟩ b hb
    have e' : b = e ∨ b = it := by simpa using hb
    rcases e' with z | z <;> subst z
    · exact ⟨_, he, fun v q => nomatch q⟩
    · exact hi.obj
  · rintro i h h' ⟨⟨old, he⟩, hi, n1, n2, n3⟩ k
    exact ⟨⟨old, k e (by simp) _ he⟩, hi.at fun o q => k it (by simp) o q, n1, n2, n3⟩
  · intro X hP hw hK hc i pins s σ H E I hf st hg
    subst hP hw hK
    obtain ⟨⟨old, he⟩, hit, n1, n2, n3⟩ := st
    obtain ⟨qx, lx⟩ := hg
    obtain ⟨its, rv, p, _⟩ := Inv.seqK I qx
    have hA : X.A.in1.handled = none := by
      have q := I.ok.hd hc
      simpa using q
    have el : e < s.heap.objs.size := Heap.lt_size he
    have il : it < s.heap.objs.size := by obtain ⟨_, q, _⟩ := hit.obj; exact Heap.lt_size q
    have len := rv.length
    refine wpAny_pyNext_enum_itemC (draws_k κ hA it a n3 its.toArray) he ⟨hit, p⟩ (by simp; omega) n1 (by simp only [List.mem_cons, List.not_mem_nil, or_false, not_or]; exact ⟨n1, n2⟩) ?_
    intro u h' tk hu ho st' hT hsz hk
    obtain ⟨x, hx, ru⟩ : ∃ x, xs[i]? = some x ∧ RelV x u := by
      obtain ⟨u', e1, e2⟩ := rv.get (List.getElem?_eq_getElem lx)
      have e3 : its[i]? = some u := by simpa using hu
      rw [e1] at e3
      obtain rfl := Option.some.inj e3
      exact ⟨_, List.getElem?_eq_getElem lx, e2⟩
    refine ⟨_, rfl, wpAny_letOwnedTupleGo_enum (s := { s with heap := h', toks := tk + 1 }) ho fun h'' he' sb => ?_⟩
    have T2 : h''.get? s.heap.objs.size = some { cls := .type "tuple", data := .seq #[.int i tk, u] } := (sb.2 _ (Nat.ne_of_gt el)).trans hT
    have I1 : L2.Inv X pins σ (upd H s.heap.objs.size (.tup [.int (i : Nat), x])) { s with heap := h'', toks := tk + 1 } :=
      I.turnedNew (ch := [e, it]) (fun b ob hb q => (sb.2 b (fun z => hb (by simp [z]))).trans (hk b ob (fun z => hb (by simp [z])) (fun z => hb (by simp [z])) q)) hf (Nat.le_refl _)
        ⟨by show 2 ≤ sizeLine; decide, [.int i tk, u], .cons ⟨_, rfl⟩ (.cons ru .nil), ⟨_, T2, rfl, _, rfl⟩⟩
    refine ⟨.ref s.heap.objs.size, _, I1, rfl, ⟨_, x, rfl, I.hok.fresh (Nat.le_refl _), rfl, hx⟩, ⟨⟨u, ?_⟩, st'.1.at fun o q => (sb.2 it (Ne.symm n1)).trans q, n1, n2, n3⟩, fun b hb => ?_⟩
    · have e1 : ((i + 1 : Nat) : Int) = (i : Int) + 1 := by omega
      rw [e1]; exact he'
    · have lt : b < s.heap.objs.size := by
        have e' : b = e ∨ b = it := by simpa using hb
        rcases e' with z | z <;> subst z
        · exact el
        · exact il
      rw [upd_ne (Nat.ne_of_lt lt)]
      exact (hf b hb).1
  · intro X hP hw hK hc i pins s σ H E I hf st hg
    subst hP hw hK
    obtain ⟨⟨old, he⟩, hit, n1, n2, n3⟩ := st
    obtain ⟨qx, lx⟩ := hg
    obtain ⟨its, rv, p, _⟩ := Inv.seqK I qx
    have hA : X.A.in1.handled = none := by
      have q := I.ok.hd hc
      simpa using q
    have len := rv.length
    obtain ⟨f0, f1, f2, f3, f4, f5⟩ := hf it (by simp)
    have le : its.toArray.size = i := by simp; omega
    refine wpAny_pyNext_enum_endD (draws_k κ hA it a n3 its.toArray) he (by rw [le]; exact ⟨hit, p⟩) fun h' eb => ⟨rfl, I.turned (t' := s.toks) (fun b o hb q => eb b o hb q) f0 f1 f3 f4 f5⟩
  · rintro A i s Q E ⟨⟨old, he⟩, _⟩ h
    exact wpAny_pyIter_enum he h
def iEnumS (K : PySem.W.Frag) (ta : TA) : TI := fun σ H R => ta σ H fun vs H1 => ∃ a xs κ, vs = [.ref a] ∧ SqK κ K H1 a xs ∧ R (ItN K κ a xs) H1
theorem pi_enumS {X : Cx} {e : Expr} {ta : TA} {p pos tpos : Pos} {elts : List Expr} {kk : Nat} (hg : Gl X "enumerate") (hm : X.mg "enumerate" = none) (ha : PA X [e] ta) (hs : starEach [e] X.env = [(false, eval e X.env)] := by rfl) :
    PI X (.Tuple elts kk tpos) (.Call (.Name "enumerate" p) [e] [] pos) (iEnumS X.K ta) := by
  refine ⟨fun pins s σ H R I h => Call_ (ld_blt I hg hm boot_enumerate (PyProof.Rows.callWith_type1 (thn (ha.run pos pins s σ H _ I h) ?_) hs rfl))⟩
  rintro us s1 ⟨vs, H1, I1, r1, a, xs, κ, rfl, kx, q⟩
  obtain ⟨u1, rfl, ra⟩ := vals1 r1
  cases ra
  obtain ⟨its, rv, p1, la⟩ := Inv.seqK I1 kx
  refine enum_made p1 fun h' he hit hk => wpAny_pyIter_enum he ?_
  refine ⟨s1.heap.objs.size + 1, _, _, _, H1, rfl, I1.kept (t' := s1.toks) hk, enum_turns, ⟨⟨.none, he⟩, hit, Nat.succ_ne_self _, Nat.ne_of_gt (Nat.lt_succ_of_lt la), Nat.ne_of_lt la⟩, fun b hb => ?_, q⟩
  have le : s1.heap.objs.size ≤ b := by
    have e' : b = s1.heap.objs.size + 1 ∨ b = s1.heap.objs.size := by simpa using hb
    rcases e' with z | z <;> rw [z]
    · exact Nat.le_succ _
    · exact Nat.le_refl _
  exact I1.fpOk le (I1.hok.fresh le)
theorem walk_enumS {K : PySem.W.Frag} {κ : Bool} {a : Addr} {xs : List V} {n : Nat} (hn : n = xs.length) : Walk (ItN K κ a xs) n (fun H => SqK κ K H a xs) (YPair (fun i => some (.int (i : Nat))) (fun i => xs[i]?)) := by
  subst hn
  refine ⟨fun i _ hi q => ⟨q, hi⟩, fun _ q => ⟨q, rfl⟩, fun i H v H' _ q y => ?_⟩
  obtain ⟨T, x, h1, h2, h3, h4⟩ := y
  exact ⟨T, .int (i : Nat), x, h1, h2, h3, rfl, h4⟩
end Fp

namespace PyProof.Rows
open PySem PySem.Spec PySem.W
theorem collect_tupI {prog : Program} {w : World} {A : Around} {E : Value → Shared → Prop} {s : Shared} {l : Addr} {vs : List Value} {Q : List Value → Shared → Prop} (hl : s.heap.IsTuple l vs.toArray)
    (h : Q vs { s with heap := (s.heap.push (seqObj "list" #[] 0)).update s.heap.objs.size (Obj.mapSeq (· ++ vs.toArray)) }) (hsz : vs.length ≤ sizeLine) :
    wpAny (model prog w) A (collect (.ref l)) Q E s := by
  obtain ⟨o, ho, hc, n, hd⟩ := id hl
  unfold collect
  refine wpAny_bind (wpAny_runValue (codeAny_builtin entry_proto_collect' ?_))
  show wpAny _ _ (do again (.builtin "list.__iadd__" ⟨[← newList [], .ref l], []⟩)) _ _ s
  refine wpAny_bind (wpAny_newList (wpAny_pure ⟨Code.quiet_builtin _ (by decide +kernel), codeAny_builtin entry_list_iadd' ?_⟩))
  show wpAny _ _ (Builtin.List.listExtendWith (.ref s.heap.objs.size) (.ref l) (.ref s.heap.objs.size)) _ _ { s with heap := s.heap.push (seqObj "list" #[] 0) }
  unfold Builtin.List.listExtendWith
  have ho' : (s.heap.push (seqObj "list" #[] 0)).get? l = some o := Heap.get?_push_of_some _ ho
  refine wpAny_bind (wpAny_typeOf (T := "tuple") ⟨o, ho', hc⟩ ?_)
  have ht : (Value.type "tuple" == Value.type "tuple") = true := by rfl
  rw [if_pos (by rw [ht]; simp)]
  refine wpAny_bind (listItems_at ho' hd ?_)
  refine wpAny_bind (listItems_at (xs := #[]) (n := 0) (Heap.get?_push_size _ rfl) rfl ?_)
  rw [if_neg (by simp)]
  refine wpAny_bind (listUpdate_at (xs := #[]) (n := 0) (Heap.get?_push_size _ rfl) rfl ?_ (Nat.zero_le _) (by show (#[] ++ vs.toArray).size ≤ sizeLine + 1; simp only [Array.size_append, List.size_toArray, List.length_nil]; omega))
  refine wpAny_pure ?_
  show wpAny (model prog w) A (do
      let o ← load s.heap.objs.size
      match o.data with
      | .seq xs _ => pure xs.toList
      | _ => unsupported "internal:collect") Q E { s with heap := (s.heap.push (seqObj "list" #[] 0)).update s.heap.objs.size (Obj.mapSeq (· ++ vs.toArray)) }
  refine wpAny_bind (wpAny_load (get?_update_seq (Heap.get?_push_size _ rfl) _) ?_)
  show wpAny _ _ (pure ((#[] : Array Value) ++ vs.toArray).toList) Q E _
  refine wpAny_pure ?_
  simpa using h
end PyProof.Rows
namespace SrtO
open PySem PySem.Spec PyProof.Rows PySem.W
theorem sorted_ordT {prog : Program} {w : World} {A : Around} {E : Value → Shared → Prop} {s : Shared} {l : Addr} {vs : List Value} {ltv : Value → Value → Bool} {Q : Value → Shared → Prop} (O : Swo ltv) (hl : s.heap.IsTuple l vs.toArray) (hz : vs.length ≤ sizeLine)
    (hS : 2 ≤ vs.length → ∀ (h₁ : Heap) (a : Addr), h₁.get? a = some (seqObj "list" vs.toArray 0) → (∀ b o, s.heap.get? b = some o → b ≠ a ∧ h₁.get? b = some o) → SortableO prog w A.in1.in1 { s with heap := h₁ } a vs ltv)
    (h : ∀ out : List Value, Srtd ltv out → Stb ltv out vs → Q (.ref (s.heap.objs.size + 1)) { s with heap := sortedAll s.heap vs out.toArray }) :
    wpAny (model prog w) A (call (.builtin "sorted") [.ref l]) Q E s := by
  refine Calls.call_function_entry kind_sorted plain_sorted entry_sorted (args_sorted1 _) ?_
  unfold Builtin.«sorted»
  refine wpAny_bind (m := checkCount "sorted" 1 1 _) (wpAny_pure ?_)
  refine wpAny_bind (collect_tupI hl ?_ hz)
  refine wpAny_bind (wpAny_newList ?_ hz)
  have hsz : ((s.heap.push (seqObj "list" #[] 0)).update s.heap.objs.size (Obj.mapSeq (· ++ vs.toArray))).objs.size = s.heap.objs.size + 1 := by
    rw [Heap.size_update, size_push']
  have hoL : (((s.heap.push (seqObj "list" #[] 0)).update s.heap.objs.size (Obj.mapSeq (· ++ vs.toArray))).push (seqObj "list" vs.toArray 0)).get? (s.heap.objs.size + 1) = some (seqObj "list" vs.toArray 0) := by
    rw [← hsz]; exact Heap.get?_push_size _ rfl
  have keep : ∀ b o, s.heap.get? b = some o → b ≠ s.heap.objs.size + 1 ∧ (((s.heap.push (seqObj "list" #[] 0)).update s.heap.objs.size (Obj.mapSeq (· ++ vs.toArray))).push (seqObj "list" vs.toArray 0)).get? b = some o := fun b o q => by
    have hlt : b < s.heap.objs.size := Heap.lt_size q
    refine ⟨Nat.ne_of_lt (Nat.lt_succ_of_lt hlt), Heap.get?_push_of_some _ ?_⟩
    rw [Heap.get?_update_ne _ _ _ _ (Nat.ne_of_lt hlt)]
    exact Heap.get?_push_of_some _ q
  show wpAny _ _ _ _ _ { s with heap := ((s.heap.push (seqObj "list" #[] 0)).update s.heap.objs.size (Obj.mapSeq (· ++ vs.toArray))).push (seqObj "list" vs.toArray 0) }
  rw [hsz]
  refine wpAny_bind (wpAny_holding (wpAny_call_entry slot_list_sort ⟨_, hoL, rfl⟩ entry_list_sort (list_sort_ord O hoL hz (fun h2 => hS h2 _ _ hoL keep) fun out hs hb => ⟨_, rfl, ?_⟩) (args_list_sort _)))
  exact wpAny_pure ⟨_, rfl, h out hs hb⟩
end SrtO
namespace Fp
open PySem PySem.Spec PyProof.Rows L2 PySem.W
/-- sorted of ints in a list or a tuple -/
def rSortIS (K : PySem.W.Frag) : List V → Hp → VK → Prop := fun vs H Q => ∃ (a : Addr) (ns : List Int), vs = [V.ref a] ∧ Sq K H a (ns.map V.int) ∧
  ∀ (ns' : List Int) (p : Addr), ns'.Perm ns → ns'.Pairwise (· ≤ ·) → H p = none → Q (.ref p) (upd H p (.lst (ns'.map V.int)))
theorem cr_sortIS {X : Cx} : CallR X (.builtin "sorted") (rSortIS X.K) := by
  intro pins s σ H vs us Q I r h
  obtain ⟨a, ns, rfl, hs, q⟩ := h
  rcases hs with hs | hs
  · exact cr_sortedI pins s σ H [.ref a] us Q I r ⟨a, ns, rfl, hs, q⟩
  obtain ⟨its, rv, hl, hz⟩ := I.tuple hs
  rw [Vals.ref1 r]
  have hi := rv.ints
  have hz' : its.length ≤ sizeLine := by
    have := rv.length
    first | omega | exact this ▸ hz | simpa using hz
  refine SrtO.sorted_ordT SrtO.swo_int hl hz' (fun h2 h₁ a' _ _ => SrtO.ints_sortable hi h2) fun out h1 h2 => ?_
  obtain ⟨k1, k2, k3⟩ := SrtO.ints_out hi h1 h2
  obtain ⟨ep, he'⟩ := PyProof.Rows.sortedAll_at s.heap its out.toArray
  have hlen : ((out.map SrtO.iv).map V.int).length ≤ sizeLine := by
    rw [List.length_map, k2.length_eq]
    have := hi.length
    omega
  exact ⟨.ref _, upd H (s.heap.objs.size + 1) (.lst ((out.map SrtO.iv).map V.int)), I.laid (t' := s.toks) (fun _ _ => PyProof.Rows.sortedAll_old) (Nat.le_succ _) ⟨hlen, out, ep, vals_of_ints k1, he'⟩, rfl, q _ _ k2 k3 (I.hok.fresh (Nat.le_succ _))⟩
/-! ### min and max of ints in a list or a tuple -/
theorem min_tupI {prog : Program} {w : World} {A : Around} {E : Value → Shared → Prop} {s : Shared} {l : Addr} {its : List Value} {ns : List Int} {Q : Value → Shared → Prop} (hh : A.handled = none) (hl : s.heap.IsTuple l its.toArray) (hi : IntsAre its ns) (hne : 0 < ns.length)
    (h : ∀ h' tk M t', (∀ b o, s.heap.get? b = some o → h'.get? b = some o) → M ∈ ns → (∀ a, a ∈ ns → M ≤ a) → Q (.int M t') { s with heap := h', toks := tk }) : wpAny (model prog w) A (call (.builtin "min") [.ref l]) Q E s := by
  obtain ⟨xs, e⟩ := hi.allInts.items
  have hn : numsOf (intItems xs).toList = ns := by rw [← e]; exact hi.numsOf
  rw [nums_intItems] at hn
  subst hn
  rw [e] at hl
  have hsz : 0 < xs.size := by simpa using hne
  have hl0 : l < s.heap.objs.size := by obtain ⟨o, ho, _⟩ := hl; exact Heap.lt_size ho
  refine call_min_walk (wpAny_pyIter_tuple hl ?_)
  refine ⟨_, [_, l], [_], _, _, _, _, rfl, Walks.tuple (A := A.in1) hh _ l (Nat.ne_of_lt hl0) (intItems xs), ⟨⟨_, Heap.get?_push_size _ rfl, rfl, rfl⟩, hl.push _⟩, fun c hc => ?_, by simpa [intItems] using hsz, CmpOf.ints_lt (numAt xs) (fun _ _ => intItems_at), fun v h' tk hP hk => ?_⟩
  · show c < (s.heap.push _).objs.size
    rw [Heap.size_push]
    rcases List.mem_cons.mp hc with rfl | hc
    · exact Nat.lt_succ_self _
    · rw [List.mem_singleton.mp hc]; exact Nat.lt_succ_of_lt hl0
  · have kept : ∀ b o, s.heap.get? b = some o → h'.get? b = some o := fun b o eb => hk b o (fun hm => by
      rw [List.mem_singleton.mp hm] at eb
      exact Nat.lt_irrefl _ (Heap.lt_size eb)) (Heap.get?_push_of_some _ eb)
    obtain ⟨t, rfl⟩ := intItems_at (by simpa [intItems] using hP)
    obtain ⟨h1, h2⟩ := argBest_lt (numAt xs) (xs.size - 1)
    refine h h' tk _ t kept ?_ fun a ha => ?_
    · rw [numAt_eq]; exact PySem.getD_mem (by rw [List.length_map, Array.length_toList]; omega)
    · obtain ⟨j, hj, rfl⟩ := mem_getD ha
      rw [List.length_map, Array.length_toList] at hj
      rw [← numAt_eq]; exact h2 j (by omega)
def rMinS (K : PySem.W.Frag) : List V → Hp → VK → Prop := fun vs H Q => ∃ (a : Addr) (ns : List Int), vs = [V.ref a] ∧ Sq K H a (ns.map V.int) ∧ 0 < ns.length ∧ ∀ m, m ∈ ns → (∀ y, y ∈ ns → m ≤ y) → Q (.int m) H
theorem cr_minS {X : Cx} (hc : X.calm = true) : CallR X (.builtin "min") (rMinS X.K) := by
  intro pins s σ H vs us Q I r h
  obtain ⟨a, ns, rfl, hs, hne, q⟩ := h
  rcases hs with hs | hs
  · exact cr_min hc pins s σ H [.ref a] us Q I r ⟨a, ns, rfl, hs, hne, q⟩
  · obtain ⟨its, rv, hl, _⟩ := I.tuple hs
    rw [Vals.ref1 r]
    exact min_tupI (I.ok.hd hc) hl rv.ints hne fun h' tk m t' hk h1 h2 => ⟨.int _, H, I.kept hk, ⟨_, rfl⟩, q m h1 h2⟩
theorem max_tupI {prog : Program} {w : World} {A : Around} {E : Value → Shared → Prop} {s : Shared} {l : Addr} {its : List Value} {ns : List Int} {Q : Value → Shared → Prop} (hh : A.handled = none) (hl : s.heap.IsTuple l its.toArray) (hi : IntsAre its ns) (hne : 0 < ns.length)
    (h : ∀ h' tk M t', (∀ b o, s.heap.get? b = some o → h'.get? b = some o) → M ∈ ns → (∀ a, a ∈ ns → a ≤ M) → Q (.int M t') { s with heap := h', toks := tk }) : wpAny (model prog w) A (call (.builtin "max") [.ref l]) Q E s := by
  obtain ⟨xs, e⟩ := hi.allInts.items
  have hn : numsOf (intItems xs).toList = ns := by rw [← e]; exact hi.numsOf
  rw [nums_intItems] at hn
  subst hn
  rw [e] at hl
  have hsz : 0 < xs.size := by simpa using hne
  have hl0 : l < s.heap.objs.size := by obtain ⟨o, ho, _⟩ := hl; exact Heap.lt_size ho
  refine call_max_walk (wpAny_pyIter_tuple hl ?_)
  refine ⟨_, [_, l], [_], _, _, _, _, rfl, Walks.tuple (A := A.in1) hh _ l (Nat.ne_of_lt hl0) (intItems xs), ⟨⟨_, Heap.get?_push_size _ rfl, rfl, rfl⟩, hl.push _⟩, fun c hc => ?_, by simpa [intItems] using hsz, CmpOf.ints_gt (numAt xs) (fun _ _ => intItems_at), fun v h' tk hP hk => ?_⟩
  · show c < (s.heap.push _).objs.size
    rw [Heap.size_push]
    rcases List.mem_cons.mp hc with rfl | hc
    · exact Nat.lt_succ_self _
    · rw [List.mem_singleton.mp hc]; exact Nat.lt_succ_of_lt hl0
  · have kept : ∀ b o, s.heap.get? b = some o → h'.get? b = some o := fun b o eb => hk b o (fun hm => by
      rw [List.mem_singleton.mp hm] at eb
      exact Nat.lt_irrefl _ (Heap.lt_size eb)) (Heap.get?_push_of_some _ eb)
    obtain ⟨t, rfl⟩ := intItems_at (by simpa [intItems] using hP)
    obtain ⟨h1, h2⟩ := argBest_gt (numAt xs) (xs.size - 1)
    refine h h' tk _ t kept ?_ fun a ha => ?_
    · have h1' : argBest (fun i j => decide (numAt xs j < numAt xs i)) (xs.size - 1) ≤ xs.size - 1 := h1
      rw [numAt_eq]; exact PySem.getD_mem (by rw [List.length_map, Array.length_toList]; omega)
    · obtain ⟨j, hj, rfl⟩ := mem_getD ha
      rw [List.length_map, Array.length_toList] at hj
      rw [← numAt_eq]; exact h2 j (by omega)
def rMaxS (K : PySem.W.Frag) : List V → Hp → VK → Prop := fun vs H Q => ∃ (a : Addr) (ns : List Int), vs = [V.ref a] ∧ Sq K H a (ns.map V.int) ∧ 0 < ns.length ∧ ∀ m, m ∈ ns → (∀ y, y ∈ ns → y ≤ m) → Q (.int m) H
theorem cr_maxS {X : Cx} (hc : X.calm = true) : CallR X (.builtin "max") (rMaxS X.K) := by
  intro pins s σ H vs us Q I r h
  obtain ⟨a, ns, rfl, hs, hne, q⟩ := h
  rcases hs with hs | hs
  · exact cr_max hc pins s σ H [.ref a] us Q I r ⟨a, ns, rfl, hs, hne, q⟩
  · obtain ⟨its, rv, hl, _⟩ := I.tuple hs
    rw [Vals.ref1 r]
    exact max_tupI (I.ok.hd hc) hl rv.ints hne fun h' tk m t' hk h1 h2 => ⟨.int _, H, I.kept hk, ⟨_, rfl⟩, q m h1 h2⟩
end Fp

namespace Fp
open PySem PySem.Spec PyProof.Rows L2 PySem.W
section
variable {X : Cx}
/-! ### sorted, in whatever heap the items are read -/
def SrR2 {α : Type} (all : List V) (L : List α) (v : Value) (b : α) : Prop := ∃ x, x ∈ all ∧ RelV x v ∧ ∀ S : V → α → Prop, A2 S all L → S x b
theorem srt_in2 {α : Type} {all : List V} {L : List α} : ∀ {vs : List V} {its : List Value} {xs : List α}, (∀ v ∈ vs, v ∈ all) → (∀ S : V → α → Prop, A2 S all L → A2 S vs xs) → Vals vs its → vs.length = xs.length → EachIs (SrR2 all L) its xs
  | [], _, [], _, _, r, _ => by cases r; exact .nil
  | [], _, _ :: _, _, _, _, h => by cases h
  | _ :: _, _, [], _, _, _, h => by cases h
  | v :: vs, _, x :: xs, m, t, r, h => by
    cases r with
    | cons r1 r2 =>
      exact .cons ⟨v, m v List.mem_cons_self, r1, fun S g => (t S g).tail.1⟩ (srt_in2 (fun u hu => m u (List.mem_cons_of_mem _ hu)) (fun S g => (t S g).tail.2) r2 (by simpa using h))
theorem srt_out2 {α : Type} {all : List V} {L : List α} : ∀ {its : List Value} {xs : List α}, EachIs (SrR2 all L) its xs → ∃ ws, Vals ws its ∧ (∀ S : V → α → Prop, A2 S all L → A2 S ws xs) ∧ ∀ w ∈ ws, w ∈ all
  | _, _, .nil => ⟨[], .nil, fun _ _ => .nil, fun w h => by cases h⟩
  | _, _, .cons h r => by
    obtain ⟨x, m, rx, hx⟩ := h
    obtain ⟨ws, r1, r2, r3⟩ := srt_out2 r
    exact ⟨x :: ws, .cons rx r1, fun S g => .cons (hx S g) (r2 S g), fun w hw => by
      rcases List.mem_cons.mp hw with e | e
      · rw [e]; exact m
      · exact r3 w e⟩
theorem hs_a2 {α : Type} [DecidableEq α] [Datum α] {K : PySem.W.Frag} {H : Hp} {vs : List V} {L : List α} (h : Hs K H vs L) : A2 (Hd K H) vs L := ⟨h.len, fun _ _ e => h.at e⟩
def rSortH2 (α : Type) [DecidableEq α] [Datum α] (K : PySem.W.Frag) : List V → Hp → VK → Prop := fun vs H Q => ∃ (a : Addr) (xs : List V) (L : List α), vs = [V.ref a] ∧ SqL K H a xs ∧ Hs K H xs L ∧
  ∀ p ws, (∀ w ∈ ws, w ∈ xs) → (∀ S : V → α → Prop, A2 S xs L → A2 S ws (L.mergeSort leH)) → H p = none → Q (.ref p) (upd H p (.lst ws))
theorem cr_sortH2 (α : Type) [DecidableEq α] [Datum α] [Srt1 α] (hu : X.A.units + 2 + Datum.depth α < cLine) : CallR X (.builtin "sorted") (rSortH2 α X.K) := by
  intro pins s σ H vs us Q I r h
  obtain ⟨a, xs, L, rfl, hs, hL, q⟩ := h
  obtain ⟨its, rv, hl, hz⟩ := I.list hs
  rw [Vals.ref1 r]
  have el := srt_in2 (all := xs) (L := L) (fun _ m => m) (fun _ g => g) rv hL.len
  have n1 : L.length = xs.length := hL.len.symm
  have er : EachIs (fun v (b : α) => ∃ as, Reads s.heap v (Datum.toD b) as) its L := el.mono fun v b ⟨x, _, rx, hx⟩ => Dp.reads I _ x v (hx _ (hs_a2 hL)) rx
  refine sorted_data (enc := Datum.toD) hl.isList el er (AllAlike.of Srt1.like) (Sortable.others Srt1.other) (by rw [n1]; exact hz) (fun b _ => Nat.lt_of_le_of_lt (Nat.add_le_add_left (Datum.depth_le b) _) hu) fun out ho eo => ?_
  obtain ⟨ws, r1, r2, r3⟩ := srt_out2 eo
  obtain ⟨ep, he'⟩ := PyProof.Rows.sortedAll_at s.heap its out.toArray
  have hlen : ws.length ≤ sizeLine := by rw [r1.length, ho, n1]; exact hz
  exact ⟨.ref _, upd H (s.heap.objs.size + 1) (.lst ws), I.laid (t' := s.toks) (fun _ _ => PyProof.Rows.sortedAll_old) (Nat.le_succ _) ⟨hlen, out, ep, r1, he'⟩, rfl, q _ _ r3 r2 (I.hok.fresh (Nat.le_succ _))⟩
end
end Fp

namespace K21
/-- the numbers that are sums of the ints that P tells -/
inductive Rch (P : Int → Prop) : Int → Prop
  | zero : Rch P 0
  | step {n c : Int} (h : P c) (r : Rch P n) : Rch P (n + c)
theorem Rch.add {P : Int → Prop} {a b : Int} (ha : Rch P a) (hb : Rch P b) : Rch P (a + b) := by
  induction hb with
  | zero => rw [Int.add_zero]; exact ha
  | step h r ih => rw [← Int.add_assoc]; exact .step h ih
theorem Rch.one {P : Int → Prop} {c : Int} (h : P c) : Rch P c := by
  have q := Rch.step h (.zero (P := P))
  rw [Int.zero_add] at q
  exact q
theorem Rch.trans {P Q : Int → Prop} (h : ∀ c, P c → Rch Q c) {n : Int} (r : Rch P n) : Rch Q n := by
  induction r with
  | zero => exact .zero
  | step hc _ ih => exact ih.add (h _ hc)
theorem Rch.mono {P Q : Int → Prop} (h : ∀ c, P c → Q c) {n : Int} (r : Rch P n) : Rch Q n := r.trans fun c hc => .one (h c hc)
theorem Rch.nonneg {P : Int → Prop} (h : ∀ c, P c → 0 < c) {n : Int} (r : Rch P n) : 0 ≤ n := by
  induction r with
  | zero => exact Int.le_refl 0
  | step hc _ ih => have := h _ hc; omega
theorem Rch.le {P : Int → Prop} (h : ∀ c, P c → 0 < c) {n : Int} (r : Rch P n) : Rch (fun c => P c ∧ c ≤ n) n := by
  induction r with
  | zero => exact .zero
  | @step n c hc r ih =>
    have h0 := Rch.nonneg h r
    have h1 := h _ hc
    exact .step ⟨hc, by omega⟩ (ih.mono fun d hd => ⟨hd.1, by omega⟩)
theorem rch_next {P : Int → Prop} (h : ∀ c, P c → 0 < c) {n : Int} (hn : 0 < n) : Rch P n ↔ ∃ c, P c ∧ c ≤ n ∧ Rch P (n - c) := by
  constructor
  · intro r
    cases r with
    | zero => omega
    | @step m c hc r =>
      have h0 := Rch.nonneg h r
      refine ⟨c, hc, by omega, ?_⟩
      rw [Int.add_sub_cancel]
      exact r
  · rintro ⟨c, hc, _, r⟩
    have q := Rch.step hc r
    rw [Int.sub_add_cancel] at q
    exact q
/-- met, as a bool -/
noncomputable def mb (cs : List Int) (n : Int) : Bool := @decide (Rch (· ∈ cs) n) (Classical.propDecidable _)
theorem mb_iff {cs : List Int} {n : Int} : mb cs n = true ↔ Rch (· ∈ cs) n := by
  unfold mb
  exact @decide_eq_true_iff _ (Classical.propDecidable _)
theorem mb_false {cs : List Int} {n : Int} : mb cs n = false ↔ ¬ Rch (· ∈ cs) n := by
  rw [← mb_iff]
  cases mb cs n <;> simp
theorem mb_congr {cs ds : List Int} {n : Int} (h : Rch (· ∈ cs) n ↔ Rch (· ∈ ds) n) : mb cs n = mb ds n := by
  cases e : mb ds n with
  | true => exact mb_iff.mpr (h.mpr (mb_iff.mp e))
  | false => exact mb_false.mpr fun z => mb_false.mp e (h.mp z)
theorem mb_zero {cs : List Int} : mb cs 0 = true := mb_iff.mpr .zero
def Pos (cs : List Int) : Prop := ∀ c ∈ cs, 0 < c
theorem mb_next {cs : List Int} (h : Pos cs) {n : Int} (hn : 0 < n) : mb cs n = cs.any fun c => decide (c ≤ n) && mb cs (n - c) := by
  cases e : (cs.any fun c => decide (c ≤ n) && mb cs (n - c)) with
  | true =>
    obtain ⟨c, hc, q⟩ := List.any_eq_true.mp e
    rw [Bool.and_eq_true, decide_eq_true_eq] at q
    exact mb_iff.mpr ((rch_next h hn).mpr ⟨c, hc, q.1, mb_iff.mp q.2⟩)
  | false =>
    refine mb_false.mpr fun r => ?_
    obtain ⟨c, hc, hl, r⟩ := (rch_next h hn).mp r
    have q := List.any_eq_false.mp e c hc
    rw [mb_iff.mpr r, decide_eq_true hl] at q
    exact q rfl
/-- the table of what is met -/
noncomputable def tb (cs : List Int) (m : Nat) : List Bool := (List.range m).map fun i : Nat => mb cs ((i : Nat) : Int)
theorem tb_len (cs : List Int) (m : Nat) : (tb cs m).length = m := by unfold tb; rw [List.length_map, List.length_range]
theorem tb_at {cs : List Int} {m i : Nat} (h : i < m) : (tb cs m)[i]? = some (mb cs (i : Int)) := by
  unfold tb
  rw [List.getElem?_map, List.getElem?_range h]; rfl
theorem tb_succ (cs : List Int) (m : Nat) : tb cs (m + 1) = tb cs m ++ [mb cs (m : Int)] := by
  unfold tb
  rw [List.range_succ, List.map_append]; rfl
theorem tb_one (cs : List Int) : tb cs 1 = [true] := by
  rw [tb_succ]
  show [] ++ [mb cs ((0 : Nat) : Int)] = [true]
  rw [show ((0 : Nat) : Int) = 0 from rfl, mb_zero]; rfl
/-! ### least counts -/
def stepL (f : List Int → Int → Bool) (found : List Int) (x : Int) : List Int := if f found x = true then found else found ++ [x]
noncomputable def lst (s : List Int) : List Int := s.foldl (stepL mb) []
structure IsL (cs R : List Int) : Prop where
  srt : R.Pairwise (· < ·)
  mem : ∀ x, x ∈ R ↔ x ∈ cs ∧ ¬ Rch (fun c => c ∈ cs ∧ c < x) x
theorem sorted_ext : ∀ {R S : List Int}, R.Pairwise (· < ·) → S.Pairwise (· < ·) → (∀ x, x ∈ R ↔ x ∈ S) → R = S
  | [], [], _, _, _ => rfl
  | [], y :: _, _, _, h => absurd ((h y).mpr List.mem_cons_self) (by simp)
  | x :: _, [], _, _, h => absurd ((h x).mp List.mem_cons_self) (by simp)
  | x :: R, y :: S, hR, hS, h => by
    obtain ⟨h1, h2⟩ := List.pairwise_cons.mp hR
    obtain ⟨h3, h4⟩ := List.pairwise_cons.mp hS
    have exy : x = y := by
      rcases List.mem_cons.mp ((h x).mp List.mem_cons_self) with e | e
      · exact e
      · rcases List.mem_cons.mp ((h y).mpr List.mem_cons_self) with e' | e'
        · exact e'.symm
        · have a := h1 _ e'
          have b := h3 _ e
          omega
    subst exy
    rw [sorted_ext h2 h4 fun z => ?_]
    constructor
    · intro hz
      rcases List.mem_cons.mp ((h z).mp (List.mem_cons_of_mem _ hz)) with e | e
      · have := h1 _ hz; omega
      · exact e
    · intro hz
      rcases List.mem_cons.mp ((h z).mpr (List.mem_cons_of_mem _ hz)) with e | e
      · have := h3 _ hz; omega
      · exact e
theorem IsL.uniq {cs R S : List Int} (a : IsL cs R) (b : IsL cs S) : R = S := sorted_ext a.srt b.srt fun x => (a.mem x).trans (b.mem x).symm
theorem IsL.congr {cs ds R : List Int} (a : IsL cs R) (h : ∀ x, x ∈ cs ↔ x ∈ ds) : IsL ds R :=
  ⟨a.srt, fun x => by
    have e : (fun c => c ∈ cs ∧ c < x) = fun c => c ∈ ds ∧ c < x := funext fun c => propext (by rw [h])
    rw [a.mem x, h, e]⟩
/-- the state of the search behind a part p of the sorted counts -/
structure Sch (cs p f : List Int) : Prop where
  srt : f.Pairwise (· < ·)
  mem : ∀ x, x ∈ f ↔ x ∈ p ∧ ¬ Rch (fun c => c ∈ cs ∧ c < x) x
  rch : ∀ n, Rch (· ∈ f) n ↔ Rch (· ∈ p) n
theorem Sch.nil {cs : List Int} : Sch cs [] [] := ⟨List.Pairwise.nil, fun x => by simp, fun n => Iff.rfl⟩
theorem Sch.turn {cs p f r : List Int} {x : Int} (hs : (p ++ x :: r).Pairwise (· ≤ ·)) (hm : ∀ c, c ∈ cs ↔ c ∈ p ++ x :: r) (S : Sch cs p f) : Sch cs (p ++ [x]) (stepL mb f x) := by
  have hp : ∀ c ∈ p, c ≤ x := fun c hc => (List.pairwise_append.mp hs).2.2 c hc x List.mem_cons_self
  have hr : ∀ c ∈ r, x ≤ c := fun c hc => (List.pairwise_cons.mp (List.pairwise_append.mp hs).2.1).1 c hc
  have hpc : ∀ c ∈ p, c ∈ cs := fun c hc => (hm c).mpr (List.mem_append_left _ hc)
  have hlow : ∀ c, c ∈ cs → c < x → c ∈ p := fun c hc hl => by
    rcases List.mem_append.mp ((hm c).mp hc) with h | h
    · exact h
    · rcases List.mem_cons.mp h with h | h
      · omega
      · have := hr c h; omega
  have hfp : ∀ c ∈ f, c ∈ p := fun c hc => ((S.mem c).mp hc).1
  have mem1 : ∀ c, c ∈ p ++ [x] ↔ c ∈ p ∨ c = x := fun c => by simp
  unfold stepL
  cases e : mb f x with
  | true =>
    rw [if_pos rfl]
    have rx : Rch (· ∈ p) x := (S.rch x).mp (mb_iff.mp e)
    refine ⟨S.srt, fun y => ?_, fun n => ?_⟩
    · rw [S.mem y, mem1]
      constructor
      · exact fun h => ⟨.inl h.1, h.2⟩
      · rintro ⟨h | h, h2⟩
        · exact ⟨h, h2⟩
        · subst h
          by_cases hy : y ∈ p
          · exact ⟨hy, h2⟩
          · refine absurd (rx.mono fun c hc => ⟨hpc c hc, ?_⟩) h2
            have := hp c hc
            have hne : c ≠ y := fun z => hy (z ▸ hc)
            omega
    · rw [S.rch n]
      constructor
      · exact fun q => q.mono fun c hc => (mem1 c).mpr (.inl hc)
      · refine fun q => q.trans fun c hc => ?_
        rcases (mem1 c).mp hc with h | h
        · exact .one h
        · rw [h]; exact rx
  | false =>
    rw [if_neg Bool.false_ne_true]
    have nx : ¬ Rch (· ∈ p) x := fun z => mb_false.mp e ((S.rch x).mpr z)
    have hxp : x ∉ p := fun z => nx (.one z)
    have mem2 : ∀ c, c ∈ f ++ [x] ↔ c ∈ f ∨ c = x := fun c => by simp
    refine ⟨?_, fun y => ?_, fun n => ?_⟩
    · refine List.pairwise_append.mpr ⟨S.srt, List.pairwise_singleton _ _, fun a ha b hb => ?_⟩
      rw [List.mem_singleton.mp hb]
      have := hp a (hfp a ha)
      have hne : a ≠ x := fun z => hxp (z ▸ hfp a ha)
      omega
    · rw [mem2, S.mem y, mem1]
      constructor
      · rintro (h | h)
        · exact ⟨.inl h.1, h.2⟩
        · subst h
          exact ⟨.inr rfl, fun z => nx (z.mono fun c hc => hlow c hc.1 hc.2)⟩
      · rintro ⟨h | h, h2⟩
        · exact .inl ⟨h, h2⟩
        · exact .inr h
    · constructor
      · refine fun q => q.mono fun c hc => (mem1 c).mpr ?_
        rcases (mem2 c).mp hc with h | h
        · exact .inl (hfp c h)
        · exact .inr h
      · refine fun q => q.trans fun c hc => ?_
        rcases (mem1 c).mp hc with h | h
        · exact ((S.rch c).mpr (.one h)).mono fun d hd => (mem2 d).mpr (.inl hd)
        · exact .one ((mem2 c).mpr (.inr h))
theorem take_split {α : Type} {l : List α} {i : Nat} {x : α} (h : l[i]? = some x) : l = l.take i ++ x :: l.drop (i + 1) := by
  obtain ⟨hi, e⟩ := List.getElem?_eq_some_iff.mp h
  subst e
  rw [← List.drop_eq_getElem_cons hi, List.take_append_drop]
theorem take_one {α : Type} {l : List α} {i : Nat} {x : α} (h : l[i]? = some x) : l.take (i + 1) = l.take i ++ [x] := by
  rw [List.take_add_one, h]; rfl
theorem lst_take {s : List Int} {i : Nat} {x : Int} (h : s[i]? = some x) : lst (s.take (i + 1)) = stepL mb (lst (s.take i)) x := by
  unfold lst
  rw [take_one h, List.foldl_append]; rfl
theorem sch_take {cs s : List Int} (hs : s.Pairwise (· ≤ ·)) (hm : ∀ c, c ∈ cs ↔ c ∈ s) : ∀ i, i ≤ s.length → Sch cs (s.take i) (lst (s.take i))
  | 0, _ => by rw [List.take_zero]; exact Sch.nil
  | i + 1, h => by
    have hx : s[i]? = some s[i] := List.getElem?_eq_getElem h
    have e := take_split hx
    rw [lst_take hx, take_one hx]
    refine Sch.turn (r := s.drop (i + 1)) ?_ ?_ (sch_take hs hm i (Nat.le_of_lt h))
    · rw [← e]; exact hs
    · rw [← e]; exact hm
theorem lst_len_le (s : List Int) : ∀ i, (lst (s.take i)).length ≤ i
  | 0 => by simp [lst]
  | i + 1 => by
    cases e : s[i]? with
    | none =>
      have h : s.length ≤ i := List.getElem?_eq_none_iff.mp e
      have q := lst_len_le s i
      rw [List.take_of_length_le h] at q
      rw [List.take_of_length_le (Nat.le_succ_of_le h)]
      omega
    | some x =>
      have q := lst_len_le s i
      rw [lst_take e]
      unfold stepL
      split
      · omega
      · rw [List.length_append, List.length_singleton]; omega
theorem lst_mem {s : List Int} : ∀ i, ∀ x ∈ lst (s.take i), x ∈ s
  | 0, x, h => by simp [lst] at h
  | i + 1, x, h => by
    cases e : s[i]? with
    | none =>
      have hl : s.length ≤ i := List.getElem?_eq_none_iff.mp e
      rw [List.take_of_length_le (Nat.le_succ_of_le hl), ← List.take_of_length_le hl] at h
      exact lst_mem i x h
    | some y =>
      rw [lst_take e] at h
      unfold stepL at h
      split at h
      · exact lst_mem i x h
      · rcases List.mem_append.mp h with h | h
        · exact lst_mem i x h
        · rw [List.mem_singleton.mp h]; exact List.mem_of_getElem? e
/-- what least counts are -/
structure IsLst (cs R : List Int) : Prop where
  isL : IsL cs R
  rch : ∀ n, Rch (· ∈ R) n ↔ Rch (· ∈ cs) n
theorem lst_is {cs s : List Int} (hs : s.Pairwise (· ≤ ·)) (hm : ∀ c, c ∈ cs ↔ c ∈ s) : IsLst cs (lst s) := by
  have S := sch_take hs hm s.length (Nat.le_refl _)
  rw [List.take_length] at S
  refine ⟨⟨S.srt, fun x => (S.mem x).trans (by rw [hm])⟩, fun n => (S.rch n).trans ?_⟩
  have e : (· ∈ s) = (· ∈ cs) := funext fun c => propext (hm c).symm
  rw [e]
theorem IsLst.self {cs R : List Int} (a : IsLst cs R) : IsL R R :=
  ⟨a.isL.srt, fun x => ⟨fun h => ⟨h, fun z => ((a.isL.mem x).mp h).2 (z.mono fun c hc => ⟨((a.isL.mem c).mp hc.1).1, hc.2⟩)⟩, fun h => h.1⟩⟩
theorem IsLst.more {cs ds R : List Int} {b : Int} (hp : Pos cs) (hb : Rch (· ∈ cs) b) (hm : ∀ x, x ∈ ds ↔ x ∈ cs ∨ x = b) (a : IsLst cs R) : IsL ds R := by
  refine ⟨a.isL.srt, fun x => ?_⟩
  rw [a.isL.mem x, hm]
  have hb' := Rch.le hp hb
  constructor
  · rintro ⟨h1, h2⟩
    refine ⟨.inl h1, fun z => h2 (z.trans fun c hc => ?_)⟩
    rcases (hm c).mp hc.1 with h | h
    · exact .one ⟨h, hc.2⟩
    · subst h
      exact hb'.mono fun d hd => ⟨hd.1, by have := hc.2; have := hd.2; omega⟩
  · rintro ⟨h1, h2⟩
    rcases h1 with h1 | h1
    · exact ⟨h1, fun z => h2 (z.mono fun c hc => ⟨(hm c).mpr (.inl hc.1), hc.2⟩)⟩
    · subst h1
      by_cases hx : x ∈ cs
      · exact ⟨hx, fun z => h2 (z.mono fun c hc => ⟨(hm c).mpr (.inl hc.1), hc.2⟩)⟩
      · refine absurd (hb'.mono fun c hc => ⟨(hm c).mpr (.inl hc.1), ?_⟩) h2
        have hne : c ≠ x := fun z => hx (z ▸ hc.1)
        have := hc.2
        omega
theorem rch_more {cs ds : List Int} {b : Int} (hb : Rch (· ∈ cs) b) (hm : ∀ x, x ∈ ds ↔ x ∈ cs ∨ x = b) (n : Int) : Rch (· ∈ ds) n ↔ Rch (· ∈ cs) n :=
  ⟨fun q => q.trans fun c hc => by
    rcases (hm c).mp hc with h | h
    · exact .one h
    · rw [h]; exact hb, fun q => q.mono fun c hc => (hm c).mpr (.inl hc)⟩
theorem rch_congr {cs ds : List Int} (hm : ∀ x, x ∈ ds ↔ x ∈ cs) (n : Int) : Rch (· ∈ ds) n ↔ Rch (· ∈ cs) n := by
  have e : (· ∈ ds) = (· ∈ cs) := funext fun c => propext (hm c)
  rw [e]
/-! ### common counts -/
def gstep (g c : Int) : Int := ((Nat.gcd g.natAbs c.natAbs : Nat) : Int)
def gl (cs : List Int) : Int := cs.foldl gstep 0
theorem gl_take {s : List Int} {i : Nat} {x : Int} (h : s[i]? = some x) : gl (s.take (i + 1)) = gstep (gl (s.take i)) x := by
  unfold gl
  rw [take_one h, List.foldl_append]; rfl
theorem gfold_nonneg : ∀ (cs : List Int) (g : Int), 0 ≤ g → 0 ≤ cs.foldl gstep g
  | [], g, h => h
  | c :: r, g, _ => gfold_nonneg r (gstep g c) (Int.natCast_nonneg _)
theorem gl_nonneg (cs : List Int) : 0 ≤ gl cs := gfold_nonneg cs 0 (Int.le_refl 0)
theorem gfold_dvd : ∀ (cs : List Int) (g : Int) (d : Nat), d ∣ (cs.foldl gstep g).natAbs ↔ d ∣ g.natAbs ∧ ∀ c ∈ cs, d ∣ c.natAbs
  | [], g, d => by simp
  | c :: r, g, d => by
    rw [List.foldl_cons, gfold_dvd r (gstep g c) d]
    unfold gstep
    rw [Int.natAbs_natCast, Nat.dvd_gcd_iff]
    constructor
    · rintro ⟨⟨h1, h2⟩, h3⟩
      exact ⟨h1, fun x hx => (List.mem_cons.mp hx).elim (fun e => e ▸ h2) (h3 x)⟩
    · rintro ⟨h1, h2⟩
      exact ⟨⟨h1, h2 c List.mem_cons_self⟩, fun x hx => h2 x (List.mem_cons_of_mem _ hx)⟩
theorem gl_dvd (cs : List Int) (d : Nat) : d ∣ (gl cs).natAbs ↔ ∀ c ∈ cs, d ∣ c.natAbs := by
  unfold gl
  rw [gfold_dvd]
  simp
theorem gl_eq {cs ds : List Int} (h : ∀ d : Nat, (∀ c ∈ cs, d ∣ c.natAbs) ↔ ∀ c ∈ ds, d ∣ c.natAbs) : gl cs = gl ds := by
  have e : (gl cs).natAbs = (gl ds).natAbs := Nat.dvd_antisymm ((gl_dvd ds _).mpr ((h _).mp ((gl_dvd cs _).mp (Nat.dvd_refl _)))) ((gl_dvd cs _).mpr ((h _).mpr ((gl_dvd ds _).mp (Nat.dvd_refl _))))
  have h1 := gl_nonneg cs
  have h2 := gl_nonneg ds
  omega
theorem rch_dvd {cs : List Int} {d : Nat} (h : ∀ c ∈ cs, d ∣ c.natAbs) {n : Int} (r : Rch (· ∈ cs) n) : d ∣ n.natAbs := by
  rw [← Int.ofNat_dvd_left] at *
  induction r with
  | zero => exact Int.dvd_zero _
  | step hc _ ih => exact Int.dvd_add ih (Int.ofNat_dvd_left.mpr (h _ hc))
theorem gl_more {cs ds : List Int} {b : Int} (hb : Rch (· ∈ cs) b) (hm : ∀ x, x ∈ ds ↔ x ∈ cs ∨ x = b) : gl ds = gl cs :=
  gl_eq fun d => ⟨fun h c hc => h c ((hm c).mpr (.inl hc)), fun h c hc => by
    rcases (hm c).mp hc with q | q
    · exact h c q
    · rw [q]; exact rch_dvd h hb⟩
theorem gl_congr {cs ds : List Int} (hm : ∀ x, x ∈ ds ↔ x ∈ cs) : gl ds = gl cs := gl_eq fun d => ⟨fun h c hc => h c ((hm c).mpr hc), fun h c hc => h c ((hm c).mp hc)⟩
end K21

namespace K21
/-! ### residues -/
/-- z is a reached number, but for multiples of a -/
def Md (P : Int → Prop) (a z : Int) : Prop := ∃ n, Rch P n ∧ a ∣ z - n
theorem Md.zero {P : Int → Prop} {a : Int} : Md P a 0 := ⟨0, .zero, by simp⟩
theorem Md.add {P : Int → Prop} {a x y : Int} (hx : Md P a x) (hy : Md P a y) : Md P a (x + y) := by
  obtain ⟨n, rn, dn⟩ := hx
  obtain ⟨m, rm, dm⟩ := hy
  refine ⟨n + m, rn.add rm, ?_⟩
  have e : x + y - (n + m) = (x - n) + (y - m) := by omega
  rw [e]
  exact Int.dvd_add dn dm
theorem Md.nmul {P : Int → Prop} {a x : Int} (hx : Md P a x) : ∀ k : Nat, Md P a ((k : Int) * x)
  | 0 => by rw [Int.natCast_zero, Int.zero_mul]; exact .zero
  | k + 1 => by
    have e : ((k + 1 : Nat) : Int) * x = (k : Int) * x + x := by
      rw [Int.natCast_succ, Int.add_mul, Int.one_mul]
    rw [e]
    exact (hx.nmul k).add hx
theorem Md.congr {P : Int → Prop} {a x y : Int} (hx : Md P a x) (h : a ∣ y - x) : Md P a y := by
  obtain ⟨n, rn, dn⟩ := hx
  refine ⟨n, rn, ?_⟩
  have e : y - n = (y - x) + (x - n) := by omega
  rw [e]
  exact Int.dvd_add h dn
theorem Md.neg {P : Int → Prop} {a x : Int} (ha : 0 < a) (hx : Md P a x) : Md P a (-x) := by
  refine (hx.nmul (a.toNat - 1)).congr ?_
  have e : -x - ((a.toNat - 1 : Nat) : Int) * x = a * (-x) := by
    have e1 : ((a.toNat - 1 : Nat) : Int) = a - 1 := by omega
    rw [e1, Int.sub_mul, Int.one_mul, Int.mul_neg]
    omega
  rw [e]
  exact Int.dvd_mul_right _ _
theorem Md.mul {P : Int → Prop} {a x : Int} (ha : 0 < a) (hx : Md P a x) (k : Int) : Md P a (k * x) := by
  rcases Int.le_total 0 k with h | h
  · have := hx.nmul k.toNat
    rwa [show ((k.toNat : Nat) : Int) = k by omega] at this
  · have := (hx.nmul (-k).toNat).neg ha
    rw [show (((-k).toNat : Nat) : Int) = -k by omega, Int.neg_mul, Int.neg_neg] at this
    exact this
theorem Md.gcd {P : Int → Prop} {a : Int} (ha : 0 < a) (x y : Nat) : Md P a x → Md P a y → Md P a ((Nat.gcd x y : Nat) : Int) := by
  induction x, y using Nat.gcd.induction with
  | H0 n => intro _ hy; rw [Nat.gcd_zero_left]; exact hy
  | H1 m n hm ih =>
    intro hx hy
    rw [Nat.gcd_rec]
    refine ih ?_ hx
    have e : ((n % m : Nat) : Int) = (n : Int) + (-((n / m : Nat) : Int)) * (m : Int) := by
      have := Nat.mod_add_div n m
      have h2 : ((n % m : Nat) : Int) + ((m * (n / m) : Nat) : Int) = (n : Int) := by rw [← Int.natCast_add, this]
      rw [Int.natCast_mul] at h2
      rw [Int.neg_mul, Int.mul_comm]
      omega
    rw [e]
    exact hy.add (hx.mul ha _)
theorem md_gl {cs : List Int} {a : Int} (ha : 0 < a) (hp : Pos cs) : Md (· ∈ cs) a (gl cs) := by
  have gen : ∀ (ds : List Int) (g : Int), (∀ d ∈ ds, d ∈ cs) → 0 ≤ g → Md (· ∈ cs) a g → Md (· ∈ cs) a (ds.foldl gstep g) := by
    intro ds
    induction ds with
    | nil => intro g _ _ h; exact h
    | cons d r ih =>
      intro g hm h0 hg
      rw [List.foldl_cons]
      have hd : Md (· ∈ cs) a d := ⟨d, .one (hm d List.mem_cons_self), by simp⟩
      have hd0 := hp d (hm d List.mem_cons_self)
      refine ih _ (fun x hx => hm x (List.mem_cons_of_mem _ hx)) (Int.natCast_nonneg _) (Md.gcd ha _ _ ?_ ?_)
      · rw [show ((g.natAbs : Nat) : Int) = g by omega]; exact hg
      · rw [show ((d.natAbs : Nat) : Int) = d by omega]; exact hd
  exact gen cs 0 (fun _ h => h) (Int.le_refl 0) .zero
theorem cover {cs : List Int} {a : Int} (ha : 0 < a) (hp : Pos cs) (h1 : gl cs = 1) (z : Int) : Md (· ∈ cs) a z := by
  have h := (md_gl ha hp).mul ha z
  rw [h1, Int.mul_one] at h
  exact h
/-- a reached number is reached by few of each -/
theorem few {a : Int} (ha : 0 < a) : ∀ (cs : List Int), Pos cs → ∀ n, Rch (· ∈ cs) n → ∃ m, Rch (· ∈ cs) m ∧ a ∣ n - m ∧ m ≤ (a - 1) * cs.sum
  | [], _, n, r => by
    refine ⟨0, .zero, ?_, by simp⟩
    cases r with
    | zero => simp
    | step h _ => simp at h
  | c :: cs, hp, n, r => by
    have split : ∃ (k : Nat) (n1 : Int), n = (k : Int) * c + n1 ∧ Rch (· ∈ cs) n1 := by
      clear hp
      induction r with
      | zero => exact ⟨0, 0, by simp, .zero⟩
      | @step n d hd _ ih =>
        obtain ⟨k, n1, e, r1⟩ := ih
        rcases List.mem_cons.mp hd with h | h
        · subst h
          refine ⟨k + 1, n1, ?_, r1⟩
          rw [e, Int.natCast_succ, Int.add_mul, Int.one_mul]
          omega
        · exact ⟨k, n1 + d, by omega, .step h r1⟩
    obtain ⟨k, n1, e, r1⟩ := split
    obtain ⟨m1, q1, d1, b1⟩ := few ha cs (fun x hx => hp x (List.mem_cons_of_mem _ hx)) n1 r1
    have hc := hp c List.mem_cons_self
    have rep : ∀ j : Nat, Rch (· ∈ c :: cs) ((j : Int) * c) := by
      intro j
      induction j with
      | zero => rw [Int.natCast_zero, Int.zero_mul]; exact .zero
      | succ j ih =>
        rw [Int.natCast_succ, Int.add_mul, Int.one_mul]
        exact .step List.mem_cons_self ih
    have k0 : 0 ≤ (k : Int) % a := Int.emod_nonneg _ (by omega)
    have k1 : (k : Int) % a < a := Int.emod_lt_of_pos _ ha
    have ek : ((((k : Int) % a).toNat : Nat) : Int) = (k : Int) % a := by omega
    refine ⟨(k : Int) % a * c + m1, ?_, ?_, ?_⟩
    · have q := rep ((k : Int) % a).toNat
      rw [ek] at q
      exact q.add (q1.mono fun x hx => List.mem_cons_of_mem _ hx)
    · have e2 : n - ((k : Int) % a * c + m1) = a * ((k : Int) / a * c) + (n1 - m1) := by
        have e3 := Int.emod_add_mul_ediv (k : Int) a
        have e4 : (k : Int) * c = ((k : Int) % a) * c + a * ((k : Int) / a) * c := by rw [← Int.add_mul, e3]
        rw [Int.mul_assoc] at e4
        omega
      rw [e2]
      exact Int.dvd_add (Int.dvd_mul_right _ _) d1
    · rw [List.sum_cons, Int.mul_add]
      have h2 : (k : Int) % a * c ≤ (a - 1) * c := Int.mul_le_mul_of_nonneg_right (by omega) (by omega)
      omega
theorem rch_up {P : Int → Prop} {a m : Int} (ha : P a) (hm : Rch P m) : ∀ k : Nat, Rch P (m + a * (k : Int))
  | 0 => by rw [Int.natCast_zero, Int.mul_zero, Int.add_zero]; exact hm
  | k + 1 => by
    have e : m + a * ((k + 1 : Nat) : Int) = m + a * (k : Int) + a := by
      rw [Int.natCast_succ, Int.mul_add, Int.mul_one]
      omega
    rw [e]
    exact .step ha (rch_up ha hm k)
theorem rch_ge {P : Int → Prop} {a m n : Int} (ha : P a) (h0 : 0 < a) (hm : Rch P m) (hd : a ∣ n - m) (hle : m ≤ n) : Rch P n := by
  obtain ⟨k, hk⟩ := hd
  have k0 : 0 ≤ k := by
    rcases Int.lt_or_le k 0 with h | h
    · have := Int.mul_neg_of_pos_of_neg h0 h
      omega
    · exact h
  have q := rch_up ha hm k.toNat
  rw [show ((k.toNat : Nat) : Int) = k by omega, ← hk] at q
  rw [show n = m + (n - m) by omega]
  exact q
/-- from some number on all are met -/
theorem all_met {cs : List Int} {a n : Int} (hp : Pos cs) (ha : a ∈ cs) (h1 : gl cs = 1) (hn : (a - 1) * cs.sum ≤ n) : Rch (· ∈ cs) n := by
  have h0 := hp a ha
  obtain ⟨m, rm, dm⟩ := cover h0 hp h1 n
  obtain ⟨m2, r2, d2, b2⟩ := few h0 cs hp m rm
  have e : n - m2 = (n - m) + (m - m2) := by omega
  exact rch_ge ha h0 r2 (by rw [e]; exact Int.dvd_add dm d2) (by omega)
/-! ### gaps -/
noncomputable def gapsL (cs : List Int) (m : Nat) : List Int := (List.range m).filterMap fun i : Nat => if mb cs ((i : Nat) : Int) = true then none else some ((i : Nat) : Int)
theorem gapsL_succ (cs : List Int) (m : Nat) : gapsL cs (m + 1) = gapsL cs m ++ (if mb cs ((m : Nat) : Int) = true then [] else [((m : Nat) : Int)]) := by
  unfold gapsL
  rw [List.range_succ, List.filterMap_append]
  cases e : mb cs ((m : Nat) : Int) <;> simp [e]
theorem mem_gapsL {cs : List Int} {m : Nat} {x : Int} : x ∈ gapsL cs m ↔ 0 ≤ x ∧ x < m ∧ mb cs x = false := by
  unfold gapsL
  rw [List.mem_filterMap]
  constructor
  · rintro ⟨i, hi, e⟩
    have := List.mem_range.mp hi
    split at e
    · cases e
    · rename_i h
      have e' := Option.some.inj e
      subst e'
      exact ⟨by omega, by omega, Bool.eq_false_iff.mpr h⟩
  · rintro ⟨h0, h1, h2⟩
    refine ⟨x.toNat, List.mem_range.mpr (by omega), ?_⟩
    rw [show ((x.toNat : Nat) : Int) = x by omega, h2]; rfl
theorem gapsL_len (cs : List Int) : ∀ m, (gapsL cs m).length ≤ m
  | 0 => Nat.le_refl _
  | m + 1 => by
    rw [gapsL_succ, List.length_append]
    have := gapsL_len cs m
    split <;> simp <;> omega
theorem gapsL_srt (cs : List Int) : ∀ m, (gapsL cs m).Pairwise (· < ·)
  | 0 => List.Pairwise.nil
  | m + 1 => by
    rw [gapsL_succ]
    refine List.pairwise_append.mpr ⟨gapsL_srt cs m, by split <;> simp, fun x hx y hy => ?_⟩
    have := (mem_gapsL.mp hx).2.1
    split at hy
    · simp at hy
    · rw [List.mem_singleton.mp hy]
      exact this
/-- the gaps -/
structure GapOf (cs R : List Int) : Prop where
  srt : R.Pairwise (· < ·)
  mem : ∀ x, x ∈ R ↔ 0 ≤ x ∧ mb cs x = false
theorem GapOf.uniq {cs R S : List Int} (a : GapOf cs R) (b : GapOf cs S) : R = S := sorted_ext a.srt b.srt fun x => (a.mem x).trans (b.mem x).symm
theorem gapOf_L {cs : List Int} {m : Nat} (h : ∀ n : Int, (m : Int) ≤ n → mb cs n = true) : GapOf cs (gapsL cs m) := by
  refine ⟨gapsL_srt cs m, fun x => mem_gapsL.trans ⟨fun q => ⟨q.1, q.2.2⟩, fun q => ⟨q.1, ?_, q.2⟩⟩⟩
  rcases Int.lt_or_le x (m : Int) with h1 | h1
  · exact h1
  · have := h x h1
    rw [q.2] at this
    cases this
theorem GapOf.congr {cs ds R : List Int} (a : GapOf cs R) (h : ∀ n, mb cs n = mb ds n) : GapOf ds R := ⟨a.srt, fun x => by rw [a.mem x, h]⟩
/-- as many met ones in a row as the least count: all that come are met -/
theorem row_all {cs : List Int} {a : Int} {n : Nat} (ha : a ∈ cs) (h0 : 0 < a) (h : ∀ i : Int, (n : Int) - a ≤ i → i < n → mb cs i = true) : ∀ i : Int, (n : Int) - a ≤ i → mb cs i = true := by
  have gen : ∀ (k : Nat) (i : Int), (n : Int) - a ≤ i → i < n + (k : Int) → mb cs i = true := by
    intro k
    induction k with
    | zero => intro i h1 h2; exact h i h1 (by omega)
    | succ k ih =>
      intro i h1 h2
      rcases Int.lt_or_le i (n + (k : Int)) with h3 | h3
      · exact ih i h1 h3
      · have q := mb_iff.mp (ih (i - a) (by omega) (by omega))
        have q2 := Rch.step ha q
        rw [Int.sub_add_cancel] at q2
        exact mb_iff.mpr q2
  intro i h1
  exact gen (i - n + 1).toNat i h1 (by omega)
end K21

namespace K21
/-! ### ways of a number by counts -/
def dot : List Int → List Int → Int
  | x :: w, c :: cs => x * c + dot w cs
  | _, _ => 0
def IsWay (cs : List Int) (n : Int) (w : List Int) : Prop := w.length = cs.length ∧ (∀ x ∈ w, 0 ≤ x) ∧ dot w cs = n
def waysL : List Int → Int → List (List Int)
  | [], n => if n = 0 then [[]] else []
  | c :: cs, n => (List.range (n / c + 1).toNat).flatMap fun k : Nat => (waysL cs (n - (k : Int) * c)).map fun r => (k : Int) :: r
theorem waysL_cons (c : Int) (cs : List Int) (n : Int) : waysL (c :: cs) n = (List.range (n / c + 1).toNat).flatMap fun k : Nat => (waysL cs (n - (k : Int) * c)).map fun r => (k : Int) :: r := by rw [waysL]
theorem dot_nonneg : ∀ {cs w : List Int}, Pos cs → (∀ x ∈ w, 0 ≤ x) → 0 ≤ dot w cs
  | [], [], _, _ => Int.le_refl 0
  | [], _ :: _, _, _ => Int.le_refl 0
  | _ :: _, [], _, _ => Int.le_refl 0
  | c :: cs, x :: w, hp, hw => by
    have h1 := dot_nonneg (cs := cs) (w := w) (fun d hd => hp d (List.mem_cons_of_mem _ hd)) fun y hy => hw y (List.mem_cons_of_mem _ hy)
    have h2 := Int.mul_nonneg (hw x List.mem_cons_self) (Int.le_of_lt (hp c List.mem_cons_self))
    show 0 ≤ x * c + dot w cs
    omega
theorem mem_waysL : ∀ {cs : List Int} {n : Int} {w : List Int}, Pos cs → (w ∈ waysL cs n ↔ IsWay cs n w)
  | [], n, w, _ => by
    unfold waysL IsWay
    constructor
    · intro h
      by_cases e : n = 0
      · rw [if_pos e, List.mem_singleton] at h
        subst h
        exact ⟨rfl, by simp, e.symm⟩
      · rw [if_neg e] at h; cases h
    · rintro ⟨h1, _, h3⟩
      obtain rfl := List.length_eq_zero_iff.mp h1
      rw [show n = 0 from h3.symm, if_pos rfl]; simp
  | c :: cs, n, w, hp => by
    have hp2 : Pos cs := fun d hd => hp d (List.mem_cons_of_mem _ hd)
    have hc := hp c List.mem_cons_self
    unfold waysL
    rw [List.mem_flatMap]
    constructor
    · rintro ⟨k, hk, h⟩
      obtain ⟨r, hr, rfl⟩ := List.mem_map.mp h
      obtain ⟨h1, h2, h3⟩ := (mem_waysL hp2).mp hr
      refine ⟨by rw [List.length_cons, List.length_cons, h1], fun x hx => ?_, ?_⟩
      · rcases List.mem_cons.mp hx with e | e
        · rw [e]; omega
        · exact h2 x e
      · show (k : Int) * c + dot r cs = n
        omega
    · rintro ⟨h1, h2, h3⟩
      match w, h1 with
      | x :: r, h1 =>
        have hx := h2 x List.mem_cons_self
        have hr := dot_nonneg hp2 fun y hy => h2 y (List.mem_cons_of_mem _ hy)
        have h3' : x * c + dot r cs = n := h3
        have hle : x ≤ n / c := (Int.le_ediv_iff_mul_le hc).mpr (by omega)
        refine ⟨x.toNat, List.mem_range.mpr (by omega), List.mem_map.mpr ⟨r, (mem_waysL hp2).mpr ⟨by simpa using h1, fun y hy => h2 y (List.mem_cons_of_mem _ hy), ?_⟩, ?_⟩⟩
        · rw [Int.toNat_of_nonneg hx]; omega
        · rw [Int.toNat_of_nonneg hx]
theorem rch_of_way : ∀ {cs : List Int} {n : Int} {w : List Int}, IsWay cs n w → Rch (· ∈ cs) n
  | [], n, w, ⟨h1, _, h3⟩ => by
    obtain rfl := List.length_eq_zero_iff.mp h1
    rw [← h3]; exact .zero
  | c :: cs, n, [], ⟨h1, _, _⟩ => by cases h1
  | c :: cs, n, x :: w, ⟨h1, h2, h3⟩ => by
    have r := rch_of_way (cs := cs) (n := dot w cs) ⟨by simpa using h1, fun y hy => h2 y (List.mem_cons_of_mem _ hy), rfl⟩
    have hx := h2 x List.mem_cons_self
    have m : ∀ k : Nat, Rch (· ∈ c :: cs) ((k : Int) * c) := by
      intro k
      induction k with
      | zero => simp; exact .zero
      | succ k ih =>
        have := Rch.step (P := (· ∈ c :: cs)) (c := c) List.mem_cons_self ih
        rw [show ((k + 1 : Nat) : Int) * c = (k : Int) * c + c by rw [Int.natCast_add, Int.add_mul]; simp]
        exact this
    have q := m x.toNat
    rw [Int.toNat_of_nonneg hx] at q
    rw [← h3]
    exact q.add (r.mono fun d hd => List.mem_cons_of_mem _ hd)
theorem way_of_rch {cs : List Int} (hp : Pos cs) {n : Int} (r : Rch (· ∈ cs) n) : ∃ w, IsWay cs n w := by
  have put : ∀ (cs w : List Int) (c : Int), c ∈ cs → w.length = cs.length → (∀ x ∈ w, 0 ≤ x) → ∃ v, IsWay cs (dot w cs + c) v := by
    intro cs
    induction cs with
    | nil => intro w c hc; cases hc
    | cons d cs ih =>
      intro w c hc hl hw
      match w, hl with
      | x :: w, hl =>
        have hw2 : ∀ y ∈ w, 0 ≤ y := fun y hy => hw y (List.mem_cons_of_mem _ hy)
        by_cases e : c = d
        · subst e
          refine ⟨(x + 1) :: w, by simpa using hl, fun y hy => ?_, ?_⟩
          · rcases List.mem_cons.mp hy with e | e
            · have := hw x List.mem_cons_self; omega
            · exact hw2 y e
          · show (x + 1) * c + dot w cs = x * c + dot w cs + c
            rw [Int.add_mul]; omega
        · obtain ⟨v, v1, v2, v3⟩ := ih w c ((List.mem_cons.mp hc).resolve_left e) (by simpa using hl) hw2
          refine ⟨x :: v, by simpa using v1, fun y hy => ?_, ?_⟩
          · rcases List.mem_cons.mp hy with e | e
            · rw [e]; exact hw x List.mem_cons_self
            · exact v2 y e
          · show x * d + dot v cs = x * d + dot w cs + c
            omega
  induction r with
  | zero =>
    refine ⟨cs.map fun _ => 0, by simp, by simp, ?_⟩
    clear hp put
    induction cs with
    | nil => rfl
    | cons c cs ih => show 0 * c + dot (cs.map fun _ => 0) cs = 0; rw [ih]; omega
  | step hc _ ih =>
    obtain ⟨w, w1, w2, w3⟩ := ih
    rw [← w3]
    exact put cs w _ hc w1 w2
theorem waysL_nil_iff {cs : List Int} (hp : Pos cs) {n : Int} : waysL cs n = [] ↔ mb cs n = false := by
  rw [mb_false]
  constructor
  · intro h r
    obtain ⟨w, hw⟩ := way_of_rch hp r
    have := (mem_waysL hp).mpr hw
    rw [h] at this; cases this
  · intro h
    cases e : waysL cs n with
    | nil => rfl
    | cons w r => exact absurd (rch_of_way ((mem_waysL hp).mp (by rw [e]; exact List.mem_cons_self))) h
theorem waysL_none {cs : List Int} (hp : Pos cs) {n : Int} (h : mb cs n = false) : waysL cs n = [] := (waysL_nil_iff hp).mpr h
theorem waysL_some {cs : List Int} (hp : Pos cs) {n : Int} (h : mb cs n = true) : waysL cs n ≠ [] := fun z => by rw [(waysL_nil_iff hp).mp z] at h; cases h
theorem mb_nil {n : Int} : mb [] n = decide (n = 0) := by
  by_cases e : n = 0
  · subst e; rw [mb_zero]; rfl
  · rw [decide_eq_false e, mb_false]
    intro r
    cases r with
    | zero => exact e rfl
    | step h _ => cases h
/-! ### they stand sorted -/
theorem waysL_sorted : ∀ {cs : List Int} {n : Int}, (waysL cs n).Pairwise (· < ·)
  | [], n => by
    unfold waysL
    split
    · exact List.pairwise_singleton _ _
    · exact List.Pairwise.nil
  | c :: cs, n => by
    unfold waysL
    rw [List.pairwise_flatMap]
    constructor
    · intro k _
      rw [List.pairwise_map]
      exact (waysL_sorted (cs := cs)).imp fun {a b} h => List.Lex.cons h
    · refine List.pairwise_lt_range.imp fun {i j} hij => ?_
      intro x hx y hy
      obtain ⟨a, _, rfl⟩ := List.mem_map.mp hx
      obtain ⟨b, _, rfl⟩ := List.mem_map.mp hy
      exact List.Lex.rel (by omega)
/-! ### the program's own list: begun ones and what is left -/
noncomputable def fits (c : Int) (rest : List Int) (l : Int) : List Int := ((List.range (l / c + 1).toNat).filter fun k : Nat => mb rest (l - (k : Int) * c)).map fun k : Nat => (k : Int)
noncomputable def bstep (c : Int) (rest : List Int) (B : List (List Int × Int)) : List (List Int × Int) := B.flatMap fun p => (fits c rest p.2).map fun k => (p.1 ++ [k], p.2 - k * c)
noncomputable def bfold : List Int → List (List Int × Int) → List (List Int × Int)
  | [], B => B
  | c :: cs, B => bfold cs (bstep c cs B)
theorem flatMap_filter {α β : Type} (p : α → Bool) (f : α → List β) : ∀ l : List α, (∀ x ∈ l, p x = false → f x = []) → (l.filter p).flatMap f = l.flatMap f
  | [], _ => rfl
  | x :: l, h => by
    have ih := flatMap_filter p f l fun y hy => h y (List.mem_cons_of_mem _ hy)
    rw [List.flatMap_cons]
    cases e : p x with
    | true => rw [List.filter_cons_of_pos e, List.flatMap_cons, ih]
    | false => rw [List.filter_cons_of_neg (by rw [e]; exact Bool.false_ne_true), ih, h x List.mem_cons_self e]; rfl
theorem bstep_ways {c : Int} {cs : List Int} (hp : Pos (c :: cs)) (B : List (List Int × Int)) :
    (bstep c cs B).flatMap (fun p => (waysL cs p.2).map fun v => (p.1 ++ v, (0 : Int))) = B.flatMap fun p => (waysL (c :: cs) p.2).map fun v => (p.1 ++ v, (0 : Int)) := by
  have hp2 : Pos cs := fun d hd => hp d (List.mem_cons_of_mem _ hd)
  unfold bstep fits
  rw [List.flatMap_assoc]
  congr 1
  funext p
  rw [List.map_map, List.flatMap_map, flatMap_filter]
  · rw [waysL_cons, List.map_flatMap]
    congr 1
    funext k
    rw [List.map_map]
    refine List.map_congr_left fun v _ => ?_
    show (p.1 ++ [(k : Int)] ++ v, (0 : Int)) = (p.1 ++ (k : Int) :: v, 0)
    rw [List.append_assoc]; rfl
  · intro k _ h
    show (waysL cs (p.2 - (k : Int) * c)).map _ = []
    rw [waysL_none hp2 h]; rfl
theorem bstep_met {c : Int} {cs : List Int} {B : List (List Int × Int)} : ∀ p ∈ bstep c cs B, mb cs p.2 = true := by
  intro p h
  unfold bstep fits at h
  obtain ⟨q, _, h⟩ := List.mem_flatMap.mp h
  obtain ⟨k, hk, rfl⟩ := List.mem_map.mp h
  obtain ⟨j, hj, rfl⟩ := List.mem_map.mp hk
  exact (List.mem_filter.mp hj).2
theorem bfold_met : ∀ {cs : List Int} {B : List (List Int × Int)}, Pos cs → (∀ p ∈ B, mb cs p.2 = true) → bfold cs B = B.flatMap fun p => (waysL cs p.2).map fun v => (p.1 ++ v, (0 : Int))
  | [], B, _, h => by
    unfold bfold
    have e : ∀ L : List (List Int × Int), (∀ p ∈ L, mb [] p.2 = true) → L = L.flatMap fun p => (waysL [] p.2).map fun v => (p.1 ++ v, (0 : Int)) := by
      intro L
      induction L with
      | nil => intro _; rfl
      | cons p L ih =>
        intro h
        have q := h p List.mem_cons_self
        rw [mb_nil, decide_eq_true_eq] at q
        rw [List.flatMap_cons, ← ih fun r hr => h r (List.mem_cons_of_mem _ hr)]
        unfold waysL
        rw [if_pos q]
        show p :: L = [(p.1 ++ [], (0 : Int))] ++ L
        rw [List.append_nil, ← q]; rfl
    exact e B h
  | c :: cs, B, hp, _ => by
    unfold bfold
    rw [bfold_met (fun d hd => hp d (List.mem_cons_of_mem _ hd)) bstep_met, bstep_ways hp]
theorem bfold_all {c : Int} {cs : List Int} (hp : Pos (c :: cs)) (B : List (List Int × Int)) : bfold (c :: cs) B = B.flatMap fun p => (waysL (c :: cs) p.2).map fun v => (p.1 ++ v, (0 : Int)) := by
  unfold bfold
  rw [bfold_met (fun d hd => hp d (List.mem_cons_of_mem _ hd)) bstep_met, bstep_ways hp]
theorem bfold_start {cs : List Int} (hp : Pos cs) (h1 : 1 ≤ cs.length) (n : Int) : (bfold cs [([], n)]).map Prod.fst = waysL cs n := by
  match cs, h1 with
  | c :: cs, _ =>
    rw [bfold_all hp]
    simp [List.map_map, Function.comp_def]
theorem bfold_len : ∀ {cs : List Int} {B : List (List Int × Int)}, Pos cs → (∀ p ∈ B, mb cs p.2 = true) → B.length ≤ (bfold cs B).length := by
  intro cs B hp h
  rw [bfold_met hp h]
  induction B with
  | nil => simp
  | cons p B ih =>
    rw [List.flatMap_cons, List.length_append, List.length_cons]
    have h1 := ih fun q hq => h q (List.mem_cons_of_mem _ hq)
    have h2 : 1 ≤ ((waysL cs p.2).map fun v => (p.1 ++ v, (0 : Int))).length := by
      rw [List.length_map]
      exact List.length_pos_iff.mpr (waysL_some hp (h p List.mem_cons_self))
    omega
/-! ### the last way -/
theorem last_flat {α β : Type} (f : Nat → List β) : ∀ n : Nat, ((List.range n).flatMap f).getLast? = (((List.range n).filter fun k => !(f k).isEmpty).getLast?).bind fun k => (f k).getLast?
  | 0 => rfl
  | n + 1 => by
    rw [List.range_succ, List.flatMap_append, List.filter_append, List.flatMap_cons, List.flatMap_nil, List.append_nil, List.getLast?_append, List.getLast?_append]
    cases e : f n with
    | nil =>
      have e3 : List.filter (fun k => !(f k).isEmpty) [n] = [] := by simp [e]
      rw [e3]
      simpa using last_flat (α := α) f n
    | cons x r =>
      have e3 : List.filter (fun k => !(f k).isEmpty) [n] = [n] := by simp [e]
      rw [e3]
      simp only [List.getLast?_singleton, Option.some_or, Option.bind_some, e]
      cases z : (x :: r).getLast? with
      | none => rw [List.getLast?_eq_none_iff] at z; cases z
      | some y => rfl
theorem fits_last {c : Int} {cs : List Int} (hp : Pos (c :: cs)) (n : Int) : (waysL (c :: cs) n).getLast? = ((fits c cs n).getLast?).bind fun k => ((waysL cs (n - k * c)).getLast?).map fun r => k :: r := by
  have hp2 : Pos cs := fun d hd => hp d (List.mem_cons_of_mem _ hd)
  rw [waysL_cons, last_flat (α := Nat)]
  unfold fits
  have e : (fun k : Nat => !((waysL cs (n - (k : Int) * c)).map fun r => (k : Int) :: r).isEmpty) = fun k : Nat => mb cs (n - (k : Int) * c) := by
    funext k
    cases q : mb cs (n - (k : Int) * c) with
    | false => rw [waysL_none hp2 q]; rfl
    | true =>
      have := waysL_some hp2 q
      cases z : waysL cs (n - (k : Int) * c) with
      | nil => exact absurd z this
      | cons _ _ => rfl
  rw [e, List.getLast?_map]
  cases ((List.range (n / c + 1).toNat).filter fun k : Nat => mb cs (n - (k : Int) * c)).getLast? with
  | none => rfl
  | some k => simp [List.getLast?_map]
theorem fits_nil {c : Int} {cs : List Int} (hp : Pos (c :: cs)) {n : Int} (h : fits c cs n = []) : (waysL (c :: cs) n).getLast? = none := by
  rw [fits_last hp, h]; rfl
theorem fits_mem {c : Int} {cs : List Int} {n k : Int} (hc : 0 < c) (h : k ∈ fits c cs n) : 0 ≤ k ∧ 0 ≤ n - k * c ∧ mb cs (n - k * c) = true := by
  obtain ⟨j, hj, rfl⟩ := List.mem_map.mp h
  obtain ⟨h1, h2⟩ := List.mem_filter.mp hj
  have h3 := List.mem_range.mp h1
  have h4 : (j : Int) ≤ n / c := by omega
  have h5 := (Int.le_ediv_iff_mul_le hc).mp h4
  exact ⟨by omega, by omega, h2⟩
theorem fits_len (c : Int) (cs : List Int) (n : Int) : (fits c cs n).length ≤ (n / c + 1).toNat := by
  unfold fits
  rw [List.length_map]
  have := List.length_filter_le (fun k : Nat => mb cs (n - (k : Int) * c)) (List.range (n / c + 1).toNat)
  rwa [List.length_range] at this
/-! ### how many -/
def wl (cs : List Int) (n : Int) : Nat := (waysL cs n).length
theorem wl_nil (n : Int) : wl [] n = if n = 0 then 1 else 0 := by
  unfold wl waysL
  split <;> rfl
theorem wl_cons {c : Int} (hc : 0 < c) (cs : List Int) {n : Int} (hn : 0 ≤ n) : wl (c :: cs) n = wl cs n + if c ≤ n then wl (c :: cs) (n - c) else 0 := by
  unfold wl
  rw [waysL_cons, show (n / c + 1).toNat = (n / c).toNat + 1 by have := Int.ediv_nonneg hn (Int.le_of_lt hc); omega, List.range_succ_eq_map, List.flatMap_cons, List.length_append, List.length_map]
  congr 1
  · simp
  · rw [List.flatMap_map]
    by_cases e : c ≤ n
    · rw [if_pos e, waysL_cons, List.length_flatMap, List.length_flatMap]
      have d : (n - c) / c + 1 = n / c := by
        have q : n = (n - c) + 1 * c := by omega
        have z : n / c = (n - c) / c + 1 := by
          conv => lhs; rw [q]
          rw [Int.add_mul_ediv_right _ _ (by omega)]
        omega
      rw [d]
      congr 1
      refine List.map_congr_left fun k _ => ?_
      rw [List.length_map, List.length_map]
      congr 2
      show n - ((Nat.succ k : Nat) : Int) * c = n - c - (k : Int) * c
      rw [show ((Nat.succ k : Nat) : Int) = (k : Int) + 1 by omega, Int.add_mul]; omega
    · rw [if_neg e, Int.ediv_eq_zero_of_lt hn (by omega)]; rfl
theorem wl_snoc : ∀ (cs : List Int) {c : Int}, Pos cs → 0 < c → ∀ (m : Nat) (n : Int), n.toNat ≤ m → 0 ≤ n → wl (cs ++ [c]) n = wl cs n + if c ≤ n then wl (cs ++ [c]) (n - c) else 0
  | [], c, _, hc, m, n, _, hn => by
    rw [List.nil_append, wl_cons hc [] hn]
  | d :: cs, c, hp, hc, 0, n, hm, hn => by
    have hd := hp d List.mem_cons_self
    have ih := wl_snoc cs (fun d hd => hp d (List.mem_cons_of_mem _ hd)) hc 0 n hm hn
    rw [List.cons_append, wl_cons hd _ hn, wl_cons hd _ hn, ih, if_neg (show ¬ c ≤ n by omega), if_neg (show ¬ c ≤ n by omega), if_neg (show ¬ d ≤ n by omega)]
    rw [if_neg (show ¬ d ≤ n by omega)]
  | d :: cs, c, hp, hc, m + 1, n, hm, hn => by
    have hd := hp d List.mem_cons_self
    have hp2 : Pos cs := fun d hd => hp d (List.mem_cons_of_mem _ hd)
    have ih := wl_snoc cs hp2 hc (m + 1) n hm hn
    rw [List.cons_append, wl_cons hd _ hn, wl_cons hd _ hn, ih]
    by_cases h1 : d ≤ n
    · have ih1 := wl_snoc (d :: cs) hp hc m (n - d) (by omega) (by omega)
      rw [List.cons_append] at ih1
      rw [if_pos h1, if_pos h1, ih1]
      by_cases h2 : c ≤ n
      · rw [if_pos h2, if_pos h2, wl_cons hd (cs ++ [c]) (n := n - c) (by omega)]
        by_cases h3 : c ≤ n - d
        · rw [if_pos h3, if_pos (show d ≤ n - c by omega), show n - d - c = n - c - d by omega]; omega
        · rw [if_neg h3, if_neg (show ¬ d ≤ n - c by omega)]; omega
      · rw [if_neg h2, if_neg h2, if_neg (by omega)]; omega
    · rw [if_neg h1, if_neg h1]
      by_cases h2 : c ≤ n
      · rw [if_pos h2, if_pos h2, wl_cons hd (cs ++ [c]) (n := n - c) (by omega), if_neg (show ¬ d ≤ n - c by omega)]; omega
      · rw [if_neg h2, if_neg h2]
/-- a bound by how many counts and how often the least one fits -/
def wT : Nat → Nat → Nat
  | 0 => fun _ => 1
  | k + 1 => fun q => Nat.rec (wT k 0) (fun r z => wT k (r + 1) + z) q
theorem wT_mono : ∀ (k q r : Nat), q ≤ r → wT k q ≤ wT k r
  | 0, _, _, _ => Nat.le_refl 1
  | k + 1, q, 0, h => by obtain rfl : q = 0 := by omega
                         exact Nat.le_refl _
  | k + 1, q, r + 1, h => by
    rcases Nat.lt_or_ge q (r + 1) with z | z
    · have := wT_mono (k + 1) q r (by omega)
      show wT (k + 1) q ≤ wT k (r + 1) + wT (k + 1) r
      omega
    · obtain rfl : q = r + 1 := by omega
      exact Nat.le_refl _
theorem wl_one {c : Int} (hc : 0 < c) : ∀ (m : Nat) (n : Int), n.toNat ≤ m → 0 ≤ n → wl [c] n ≤ 1
  | 0, n, hm, hn => by rw [wl_cons hc _ hn, wl_nil, if_neg (show ¬ c ≤ n by omega)]; split <;> omega
  | m + 1, n, hm, hn => by
    rw [wl_cons hc _ hn, wl_nil]
    by_cases h : c ≤ n
    · rw [if_pos h, if_neg (by omega)]
      have := wl_one hc m (n - c) (by omega) (by omega)
      omega
    · rw [if_neg h]; split <;> omega
theorem wl_le {a : Int} (ha : 0 < a) : ∀ (cs : List Int), (∀ c ∈ cs, a ≤ c) → ∀ (d : Int), a ≤ d → ∀ (q : Nat) (n : Int), 0 ≤ n → n < a * ((q : Int) + 1) → wl (d :: cs) n ≤ wT cs.length q
  | [], _, d, hd, q, n, hn, _ => wl_one (by omega) n.toNat n (Nat.le_refl _) hn
  | c :: cs, hc, d, hd, q, n, hn, hq => by
    have ih := wl_le ha cs (fun x hx => hc x (List.mem_cons_of_mem _ hx)) c (hc c List.mem_cons_self)
    rw [wl_cons (by omega) _ hn]
    have h1 := ih q n hn hq
    by_cases h : d ≤ n
    · rw [if_pos h]
      match q, hq, h1 with
      | 0, hq, h1 => simp at hq; omega
      | q + 1, hq, h1 =>
        have e : a * (((q + 1 : Nat) : Int) + 1) = a * ((q : Int) + 1) + a := by rw [show ((q + 1 : Nat) : Int) + 1 = ((q : Int) + 1) + 1 by omega, Int.mul_add]; omega
        have h2 := wl_le ha (c :: cs) hc d hd q (n - d) (by omega) (by omega)
        show _ ≤ wT (cs.length) (q + 1) + wT (cs.length + 1) q
        have h2' : wl (d :: c :: cs) (n - d) ≤ wT (cs.length + 1) q := h2
        omega
    · rw [if_neg h]
      match q, h1 with
      | 0, h1 => exact h1
      | q + 1, h1 =>
        rw [Nat.add_zero]
        show _ ≤ wT (cs.length) (q + 1) + wT (cs.length + 1) q
        omega
termination_by cs _ _ _ q => (cs.length, q)
end K21

namespace K21
open Fp PySem PySem.W
theorem leH_rows : (leH : List Int → List Int → Bool) = fun p q => decide (p ≤ q) := dataLe_rows (fun b : List Int => b)
theorem dot_app : ∀ {w cs : List Int} (v ds : List Int), w.length = cs.length → dot (w ++ v) (cs ++ ds) = dot w cs + dot v ds
  | [], [], v, ds, _ => by show dot v ds = 0 + dot v ds; omega
  | [], _ :: _, _, _, h => by cases h
  | _ :: _, [], _, _, h => by cases h
  | x :: w, c :: cs, v, ds, h => by
    have ih := dot_app (w := w) (cs := cs) v ds (by simpa using h)
    show x * c + dot (w ++ v) (cs ++ ds) = x * c + dot w cs + dot v ds
    omega
theorem dot_rev : ∀ {w cs : List Int}, w.length = cs.length → dot w.reverse cs.reverse = dot w cs
  | [], [], _ => rfl
  | [], _ :: _, h => by cases h
  | _ :: _, [], h => by cases h
  | x :: w, c :: cs, h => by
    have ih := dot_rev (w := w) (cs := cs) (by simpa using h)
    rw [List.reverse_cons, List.reverse_cons, dot_app _ _ (by simpa using h), ih]
    show dot w cs + (x * c + 0) = x * c + dot w cs
    omega
theorem isWay_rev {cs w : List Int} {n : Int} : IsWay cs.reverse n w.reverse ↔ IsWay cs n w := by
  unfold IsWay
  rw [List.length_reverse, List.length_reverse]
  constructor
  · rintro ⟨a, b, c⟩
    exact ⟨a, fun x hx => b x (List.mem_reverse.mpr hx), by rw [dot_rev a] at c; exact c⟩
  · rintro ⟨a, b, c⟩
    exact ⟨a, fun x hx => b x (List.mem_reverse.mp hx), by rw [dot_rev a]; exact c⟩
theorem nodup_lt {L : List (List Int)} (hL : L.Pairwise (· < ·)) : L.Nodup := List.Pairwise.imp (S := fun a b => a ≠ b) (fun {a b} q e => by rw [e] at q; exact List.lt_irrefl b q) hL
/-- two lists of lists without doubles, sorted, with the same members -/
theorem sort_eq {L M : List (List Int)} (hL : L.Pairwise (· < ·)) (hM : M.Nodup) (h : ∀ w, w ∈ M ↔ w ∈ L) : M.mergeSort leH = L := by
  rw [leH_rows]
  have nd : L.Nodup := nodup_lt hL
  have pm : (M.mergeSort fun p q => decide (p ≤ q)).Perm L := (List.mergeSort_perm M _).trans ((List.perm_ext_iff_of_nodup hM nd).mpr h)
  refine List.Perm.eq_of_pairwise (le := fun p q : List Int => p ≤ q) (fun a b _ _ h1 h2 => List.le_antisymm h1 h2) ?_ (hL.imp fun {a b} q => List.le_of_lt q) pm
  have := List.pairwise_mergeSort (le := fun p q : List Int => decide (p ≤ q)) (fun a b c h1 h2 => ?_) (fun a b => ?_) M
  · exact this.imp fun {a b} q => of_decide_eq_true q
  · exact decide_eq_true (List.le_trans (of_decide_eq_true h1) (of_decide_eq_true h2))
  · rcases List.le_total a b with z | z
    · rw [decide_eq_true z]; rfl
    · rw [decide_eq_true z, Bool.or_true]
theorem nodup_map {α β : Type} {f : α → β} (hf : ∀ a b, f a = f b → a = b) {l : List α} (h : l.Nodup) : (l.map f).Nodup := List.pairwise_map.mpr (h.imp fun {a b} n e => n (hf a b e))
theorem ways_rev {cs : List Int} (hp : Pos cs) (n : Int) : ((waysL cs n).map List.reverse).mergeSort leH = waysL cs.reverse n := by
  refine sort_eq waysL_sorted (nodup_map (fun a b e => List.reverse_inj.mp e) (nodup_lt waysL_sorted)) fun w => ?_
  rw [mem_waysL (fun c hc => hp c (List.mem_reverse.mp hc)), List.mem_map]
  constructor
  · rintro ⟨v, hv, rfl⟩
    exact isWay_rev.mpr ((mem_waysL hp).mp hv)
  · intro h
    refine ⟨w.reverse, (mem_waysL hp).mpr (isWay_rev.mp (by rw [List.reverse_reverse]; exact h)), List.reverse_reverse w⟩
theorem wl_small {cs : List Int} {a n : Int} (ha : 0 < a) (hm : ∀ c ∈ cs, a ≤ c) (h1 : 1 ≤ cs.length) (h2 : cs.length ≤ 4) (h0 : 0 ≤ n) (hn : n ≤ 10 * a) : (waysL cs n).length ≤ 400 := by
  match cs, h1 with
  | d :: cs, _ =>
    have := wl_le ha cs (fun x hx => hm x (List.mem_cons_of_mem _ hx)) d (hm d List.mem_cons_self) 10 n h0 (by omega)
    have t : wT cs.length 10 ≤ 286 := by
      have hl : cs.length ≤ 3 := by simpa using h2
      generalize cs.length = l at hl
      have : l = 0 ∨ l = 1 ∨ l = 2 ∨ l = 3 := by omega
      rcases this with e | e | e | e <;> rw [e] <;> decide
    unfold wl at this
    omega
end K21

namespace K21
/-! ### what hangs together -/
section
variable {α : Type}
inductive Hang (E : α → α → Prop) : α → α → Prop
  | refl (x : α) : Hang E x x
  | step {x y z : α} (h : Hang E x y) (e : E y z) : Hang E x z
variable {E : α → α → Prop}
theorem Hang.trans {x y z : α} (h : Hang E x y) (g : Hang E y z) : Hang E x z := by
  induction g with
  | refl => exact h
  | step _ e ih => exact .step ih e
theorem Hang.one {x y : α} (e : E x y) : Hang E x y := .step (.refl x) e
theorem Hang.symm (hs : ∀ x y, E x y → E y x) {x y : α} (h : Hang E x y) : Hang E y x := by
  induction h with
  | refl => exact .refl _
  | step _ e ih => exact (Hang.one (hs _ _ e)).trans ih
/-- some pair of those that P tells does not hang together -/
def Apart (E : α → α → Prop) (P : α → Prop) : Prop := ∃ x y, P x ∧ P y ∧ ¬ Hang E x y
theorem pw_two {β : Type} {R : β → β → Prop} {A C : β} : ∀ {L : List β}, L.Pairwise R → A ∈ L → C ∈ L → A ≠ C → R A C ∨ R C A
  | [], _, h, _, _ => by cases h
  | X :: L, hp, hA, hC, ne => by
    obtain ⟨p1, p2⟩ := List.pairwise_cons.mp hp
    rcases List.mem_cons.mp hA with q | q
    · rcases List.mem_cons.mp hC with r | r
      · exact absurd (q.trans r.symm) ne
      · rw [q]; exact .inl (p1 C r)
    · rcases List.mem_cons.mp hC with r | r
      · rw [r]; exact .inr (p1 A q)
      · exact pw_two p2 q r ne
/-- L: the lots of those that P tells -/
structure Lots (E : α → α → Prop) (P : α → Prop) (L : List (List α)) : Prop where
  ne : ∀ A ∈ L, A ≠ []
  mem : ∀ x, (∃ A ∈ L, x ∈ A) ↔ P x
  hang : ∀ A ∈ L, ∀ x ∈ A, ∀ y ∈ A, Hang E x y
  far : L.Pairwise fun A B => ∀ a ∈ A, ∀ b ∈ B, a ≠ b ∧ ¬ E a b
theorem Lots.nil {P : α → Prop} (h : ∀ x, ¬ P x) : Lots E P [] := ⟨fun A h => by (cases h), fun x => ⟨fun ⟨A, h, _⟩ => by (cases h), fun z => absurd z (h x)⟩, fun A h => by (cases h), List.Pairwise.nil⟩
/-- one more: near ones are joined with it -/
theorem Lots.turn (hs : ∀ x y, E x y → E y x) {P Q : α → Prop} {L : List (List α)} {near : List α → Bool} {x : α} {M : List α} (h : Lots E P L) (hx : ¬ P x) (hQ : ∀ y, Q y ↔ P y ∨ y = x) (hn : ∀ A ∈ L, near A = true ↔ ∃ a ∈ A, E x a)
    (hM : ∀ y, y ∈ M ↔ y = x ∨ ∃ A ∈ L, near A = true ∧ y ∈ A) : Lots E Q (L.filter (fun A => !near A) ++ [M]) := by
  have hl : ∀ A, A ∈ L.filter (fun A => !near A) ↔ A ∈ L ∧ near A = false := fun A => by rw [List.mem_filter]; simp
  refine ⟨fun A hA => ?_, fun y => ?_, fun A hA a ha b hb => ?_, ?_⟩
  · rcases List.mem_append.mp hA with z | z
    · exact h.ne A ((hl A).mp z).1
    · rw [List.mem_singleton.mp z]
      intro q
      have := (hM x).mpr (.inl rfl)
      rw [q] at this; cases this
  · rw [hQ, ← h.mem y]
    constructor
    · rintro ⟨A, hA, hy⟩
      rcases List.mem_append.mp hA with z | z
      · exact .inl ⟨A, ((hl A).mp z).1, hy⟩
      · rw [List.mem_singleton.mp z] at hy
        rcases (hM y).mp hy with e | ⟨B, hB, _, hyB⟩
        · exact .inr e
        · exact .inl ⟨B, hB, hyB⟩
    · rintro (⟨A, hA, hy⟩ | e)
      · cases z : near A with
        | false => exact ⟨A, List.mem_append_left _ ((hl A).mpr ⟨hA, z⟩), hy⟩
        | true => exact ⟨M, by simp, (hM y).mpr (.inr ⟨A, hA, z, hy⟩)⟩
      · exact ⟨M, by simp, (hM y).mpr (.inl e)⟩
  · rcases List.mem_append.mp hA with z | z
    · exact h.hang A ((hl A).mp z).1 a ha b hb
    · rw [List.mem_singleton.mp z] at ha hb
      have tox : ∀ y ∈ M, Hang E x y := by
        intro y hy
        rcases (hM y).mp hy with e | ⟨B, hB, nB, hyB⟩
        · rw [e]; exact .refl x
        · obtain ⟨c, hc, ec⟩ := (hn B hB).mp nB
          exact (Hang.one ec).trans (h.hang B hB c hc y hyB)
      exact ((tox a ha).symm hs).trans (tox b hb)
  · refine List.pairwise_append.mpr ⟨h.far.filter _, List.pairwise_singleton _ _, fun A hA B hB a ha b hb => ?_⟩
    obtain ⟨hA1, hA2⟩ := (hl A).mp hA
    rw [List.mem_singleton.mp hB] at hb
    have nx : ∀ c ∈ A, ¬ E x c := fun c hc ec => by
      have := (hn A hA1).mpr ⟨c, hc, ec⟩
      rw [hA2] at this; cases this
    rcases (hM b).mp hb with e | ⟨C, hC, nC, hbC⟩
    · subst e
      exact ⟨fun z => hx (by rw [← z]; exact (h.mem a).mp ⟨A, hA1, ha⟩), fun z => nx a ha (hs _ _ z)⟩
    · have ne : A ≠ C := fun z => by rw [z, nC] at hA2; cases hA2
      have key := pw_two h.far hA1 hC ne
      rcases key with k | k
      · exact k a ha b hbC
      · exact ⟨fun z => (k b hbC a ha).1 z.symm, fun z => (k b hbC a ha).2 (hs _ _ z)⟩
theorem Lots.many (hs : ∀ x y, E x y → E y x) {P : α → Prop} (hE : ∀ x y, E x y → P y) {L : List (List α)} (h : Lots E P L) : 1 < L.length ↔ Apart E P := by
  constructor
  · intro hl
    match L, h, hl with
    | A :: B :: R, h, _ =>
      obtain ⟨a, ha⟩ := List.exists_mem_of_ne_nil A (h.ne A (by simp))
      obtain ⟨b, hb⟩ := List.exists_mem_of_ne_nil B (h.ne B (by simp))
      refine ⟨a, b, (h.mem a).mp ⟨A, by simp, ha⟩, (h.mem b).mp ⟨B, by simp, hb⟩, fun g => ?_⟩
      have fa := (List.pairwise_cons.mp h.far).1
      have stay : ∀ y, Hang E a y → y ∈ A := by
        intro y g
        induction g with
        | refl => exact ha
        | @step y z _ e ih =>
          obtain ⟨C, hC, hz⟩ := (h.mem z).mpr (hE _ _ e)
          rcases List.mem_cons.mp hC with q | q
          · rw [← q]; exact hz
          · exact absurd e (fa C q y ih z hz).2
      exact (fa B (by simp) b (stay b g) b hb).1 rfl
  · rintro ⟨x, y, hx, hy, hn⟩
    obtain ⟨A, hA, xa⟩ := (h.mem x).mpr hx
    obtain ⟨B, hB, yb⟩ := (h.mem y).mpr hy
    match L, h, hA, hB with
    | [C], h, hA, hB =>
      rw [List.mem_singleton.mp hA] at xa
      rw [List.mem_singleton.mp hB] at yb
      exact absurd (h.hang C (by simp) x xa y yb) hn
    | _ :: _ :: _, _, _, _ => simp
/-! ### the same by a search: what is done, what is left -/
/-- k pieces are done, those in D; those in T are left -/
structure Pcs (E : α → α → Prop) (P : α → Prop) (k : Nat) (T : List α) : Prop where
  sub : ∀ x ∈ T, P x
  far : ∀ x, P x → x ∉ T → ∀ y ∈ T, ¬ E x y
  zero : k = 0 → ∀ x, P x → x ∈ T
  one : k = 1 → ∀ x y, P x → P y → x ∉ T → y ∉ T → Hang E x y
  pos : k ≠ 0 → ∃ x, P x ∧ x ∉ T
  two : 2 ≤ k → Apart E P
theorem Pcs.start {P : α → Prop} {T : List α} (h : ∀ x, x ∈ T ↔ P x) : Pcs E P 0 T :=
  ⟨fun x hx => (h x).mp hx, fun x hx n => absurd ((h x).mpr hx) n, fun _ x hx => (h x).mpr hx, fun z => by omega, fun z => by omega, fun z => by omega⟩
theorem Pcs.end_ (hs : ∀ x y, E x y → E y x) {P : α → Prop} {k : Nat} (h : Pcs E P k []) : 1 < k ↔ Apart E P := by
  constructor
  · exact fun z => h.two z
  · rintro ⟨x, y, hx, hy, hn⟩
    have : k ≠ 0 := fun z => by have := h.zero z x hx; cases this
    have : k ≠ 1 := fun z => hn (h.one z x y hx hy (by simp) (by simp))
    omega
/-- within a piece that begins at e: W waits, T is left -/
structure Inn (E : α → α → Prop) (P : α → Prop) (k : Nat) (T0 : List α) (e : α) (W T : List α) : Prop where
  old : Pcs E P k T0
  first : e ∈ T0
  notin : e ∉ T
  sub : ∀ x ∈ T, x ∈ T0
  w : ∀ x ∈ W, x ∈ T0 ∧ x ∉ T
  hang : ∀ x ∈ T0, x ∉ T → Hang E e x
  far : ∀ x ∈ T0, x ∉ T → x ∉ W → ∀ y ∈ T, ¬ E x y
theorem Inn.start {P : α → Prop} {k : Nat} {e : α} {T : List α} (h : Pcs E P k (e :: T)) (nd : e ∉ T) : Inn E P k (e :: T) e [e] T :=
  ⟨h, List.mem_cons_self, nd, fun x hx => List.mem_cons_of_mem _ hx, fun x hx => by rw [List.mem_singleton.mp hx]; exact ⟨List.mem_cons_self, nd⟩,
    fun x hx n => by rcases List.mem_cons.mp hx with z | z; · rw [z]; exact .refl e
                     · exact absurd z n,
    fun x hx n1 n2 => by rcases List.mem_cons.mp hx with z | z; · exact absurd (List.mem_singleton.mpr z) n2
                         · exact absurd z n1⟩
theorem Inn.turn {P : α → Prop} {k : Nat} {T0 : List α} {e x : α} {W T N T' : List α} (h : Inn E P k T0 e (x :: W) T) (hN : ∀ y, y ∈ N ↔ y ∈ T ∧ E x y) (hT : ∀ y, y ∈ T' ↔ y ∈ T ∧ y ∉ N) : Inn E P k T0 e (W ++ N) T' := by
  have hx := h.w x List.mem_cons_self
  refine ⟨h.old, h.first, fun z => h.notin ((hT e).mp z).1, fun y hy => h.sub y ((hT y).mp hy).1, fun y hy => ?_, fun y hy n => ?_, fun y hy n1 n2 z hz => ?_⟩
  · rcases List.mem_append.mp hy with q | q
    · have := h.w y (List.mem_cons_of_mem _ q)
      exact ⟨this.1, fun z => this.2 ((hT y).mp z).1⟩
    · exact ⟨h.sub y ((hN y).mp q).1, fun z => ((hT y).mp z).2 q⟩
  · by_cases q : y ∈ T
    · have hy2 : y ∈ N := Classical.byContradiction fun z => n ((hT y).mpr ⟨q, z⟩)
      exact .step (h.hang x hx.1 hx.2) ((hN y).mp hy2).2
    · exact h.hang y hy q
  · obtain ⟨z1, z2⟩ := (hT z).mp hz
    by_cases q : y ∈ T
    · exact absurd (List.mem_append_right _ (Classical.byContradiction fun w => n1 ((hT y).mpr ⟨q, w⟩))) n2
    · by_cases r : y = x
      · subst r
        exact fun w => z2 ((hN z).mpr ⟨z1, w⟩)
      · exact h.far y hy q (fun w => by
          rcases List.mem_cons.mp w with w | w
          · exact r w
          · exact n2 (List.mem_append_left _ w)) z z1
theorem Inn.done (hs : ∀ x y, E x y → E y x) {P : α → Prop} (hE : ∀ x y, E x y → P y) {k : Nat} {T0 : List α} {e : α} {T : List α} (h : Inn E P k T0 e [] T) : Pcs E P (k + 1) T := by
  have o := h.old
  have pe := o.sub e h.first
  have ap : k ≠ 0 → Apart E P := fun z => by
    obtain ⟨x, hx, nx⟩ := o.pos z
    refine ⟨x, e, hx, pe, fun g => ?_⟩
    have stay : ∀ y, Hang E x y → P y ∧ y ∉ T0 := by
      intro y g
      induction g with
      | refl => exact ⟨hx, nx⟩
      | step _ e' ih => exact ⟨hE _ _ e', fun w => o.far _ ih.1 ih.2 _ w e'⟩
    exact (stay e g).2 h.first
  refine ⟨fun x hx => o.sub x (h.sub x hx), fun x hx n y hy => ?_, fun z => by omega, fun z x y hx hy nx ny => ?_, fun _ => ⟨e, pe, h.notin⟩, fun z => ap (by omega)⟩
  · by_cases q : x ∈ T0
    · exact h.far x q n (by simp) y hy
    · exact o.far x hx q y (h.sub y hy)
  · have k0 : k = 0 := by omega
    have h1 := h.hang x (o.zero k0 x hx) nx
    have h2 := h.hang y (o.zero k0 y hy) ny
    exact (h1.symm hs).trans h2
end
end K21

namespace K21
/-! ### turning counts -/
def Vx (cs : List Int) (n : Int) (i : Nat) : Prop := ∃ c, cs[i]? = some c ∧ mb cs (n - c) = true
def Ad (cs : List Int) (n : Int) (i j : Nat) : Prop := ∃ c d, cs[i]? = some c ∧ cs[j]? = some d ∧ mb cs (n - c - d) = true
theorem Ad.symm {cs : List Int} {n : Int} : ∀ i j, Ad cs n i j → Ad cs n j i := fun i j ⟨c, d, hc, hd, h⟩ => ⟨d, c, hd, hc, by rw [show n - d - c = n - c - d by omega]; exact h⟩
theorem Ad.vx {cs : List Int} {n : Int} : ∀ i j, Ad cs n i j → Vx cs n j := fun i j ⟨c, d, hc, hd, h⟩ => ⟨d, hd, by
  have q := Rch.step (P := (· ∈ cs)) (List.mem_of_getElem? hc) (mb_iff.mp h)
  rw [show n - c - d + c = n - d by omega] at q
  exact mb_iff.mpr q⟩
/-- n is a turning count -/
def Tn (cs : List Int) (n : Int) : Prop := Apart (Ad cs n) (Vx cs n)
structure TurnOf (cs R : List Int) : Prop where
  srt : R.Pairwise (· < ·)
  mem : ∀ n, n ∈ R ↔ 1 ≤ n ∧ Tn cs n
theorem TurnOf.uniq {cs R S : List Int} (a : TurnOf cs R) (b : TurnOf cs S) : R = S := sorted_ext a.srt b.srt fun x => (a.mem x).trans (b.mem x).symm
theorem mb_neg {cs : List Int} (hp : Pos cs) {n : Int} (h : n < 0) : mb cs n = false := mb_false.mpr fun r => by have := Rch.nonneg hp r; omega
theorem Vx.pos {cs : List Int} (hp : Pos cs) {n : Int} {i : Nat} (h : Vx cs n i) : 1 ≤ n := by
  obtain ⟨c, hc, hm⟩ := h
  have c0 := hp c (List.mem_of_getElem? hc)
  rcases Int.lt_or_le (n - c) 0 with z | z
  · rw [mb_neg hp z] at hm; cases hm
  · omega
theorem Tn.pos {cs : List Int} (hp : Pos cs) {n : Int} (h : Tn cs n) : 1 ≤ n := let ⟨_, _, hx, _, _⟩ := h; hx.pos hp
/-- two positions far apart from one another -/
theorem Tn.pair {cs : List Int} {n : Int} (h : Tn cs n) : ∃ (i j : Nat) (c d : Int), i ≠ j ∧ cs[i]? = some c ∧ cs[j]? = some d ∧ mb cs (n - c) = true ∧ mb cs (n - d) = true ∧ mb cs (n - c - d) = false := by
  obtain ⟨i, j, ⟨c, hc, mc⟩, ⟨d, hd, md⟩, hn⟩ := h
  refine ⟨i, j, c, d, fun z => hn (by rw [z]; exact .refl j), hc, hd, mc, md, ?_⟩
  cases e : mb cs (n - c - d) with
  | false => rfl
  | true => exact absurd (Hang.one ⟨c, d, hc, hd, e⟩) hn
/-- no turning count above the sum of the greatest two and a number from which on all multiples are met -/
theorem Tn.le {cs : List Int} {n s L : Int} (hs : ∀ (i j : Nat) (c d : Int), i ≠ j → cs[i]? = some c → cs[j]? = some d → c + d ≤ s) (hL : ∀ m : Int, L < m → (gl cs) ∣ m → mb cs m = true) (h : Tn cs n) : n ≤ s + L := by
  obtain ⟨i, j, c, d, ne, hc, hd, mc, md, mn⟩ := h.pair
  rcases Int.lt_or_le (s + L) n with z | z
  · have h1 := hs i j c d ne hc hd
    have dv : gl cs ∣ n - c - d := by
      have g1 : gl cs ∣ n - c := Int.natAbs_dvd_natAbs.mp (rch_dvd (fun x hx => (gl_dvd cs _).mp (Nat.dvd_refl _) x hx) (mb_iff.mp mc))
      have g2 : gl cs ∣ d := Int.natAbs_dvd_natAbs.mp ((gl_dvd cs _).mp (Nat.dvd_refl _) d (List.mem_of_getElem? hd))
      exact Int.dvd_sub g1 g2
    rw [hL _ (by omega) dv] at mn
    cases mn
  · exact z
/-! ### a bound for what is met -/
theorem pig : ∀ (a : Nat) (l : List Nat), (∀ x ∈ l, x < a) → l.Nodup → l.length ≤ a
  | 0, [], _, _ => Nat.le_refl 0
  | 0, x :: _, h, _ => absurd (h x List.mem_cons_self) (Nat.not_lt_zero x)
  | a + 1, l, h, nd => by
    have h1 : (l.erase a).length ≤ a := pig a (l.erase a) (fun x hx => by
      have := (nd.mem_erase_iff).mp hx
      have := h x this.2
      omega) (nd.erase a)
    by_cases e : a ∈ l
    · have := List.length_erase_of_mem e
      have : 0 < l.length := List.length_pos_of_mem e
      omega
    · rw [List.erase_of_not_mem e] at h1
      omega
/-- sums of counts, told by the list of the counts taken -/
theorem rch_sum {cs : List Int} {n : Int} : Rch (· ∈ cs) n ↔ ∃ l : List Int, (∀ x ∈ l, x ∈ cs) ∧ l.sum = n := by
  constructor
  · intro r
    induction r with
    | zero => exact ⟨[], by simp, rfl⟩
    | @step n c hc _ ih =>
      obtain ⟨l, h1, h2⟩ := ih
      exact ⟨c :: l, fun x hx => by rcases List.mem_cons.mp hx with e | e; · rw [e]; exact hc
                                    · exact h1 x e, by rw [List.sum_cons, h2]; omega⟩
  · rintro ⟨l, h1, rfl⟩
    induction l with
    | nil => exact .zero
    | cons c l ih =>
      have := (ih fun x hx => h1 x (List.mem_cons_of_mem _ hx)).step (h1 c List.mem_cons_self)
      rw [List.sum_cons, Int.add_comm]; exact this
theorem few_max {cs : List Int} {a : Nat} {M : Int} (ha : 0 < a) (hM : ∀ c ∈ cs, c ≤ M) (hM0 : 0 ≤ M) : ∀ (k : Nat) (l : List Int), l.length ≤ k → (∀ x ∈ l, x ∈ cs) → ∃ m, Rch (· ∈ cs) m ∧ (a : Int) ∣ l.sum - m ∧ m ≤ ((a : Int) - 1) * M
  | k, l, hk, hl => by
    by_cases hs : l.length < a
    · refine ⟨l.sum, rch_sum.mpr ⟨l, hl, rfl⟩, by simp, ?_⟩
      have b : ∀ l : List Int, (∀ x ∈ l, x ∈ cs) → l.sum ≤ (l.length : Int) * M := by
        intro l
        induction l with
        | nil => intro _; simp
        | cons x l ih =>
          intro h
          have := ih fun y hy => h y (List.mem_cons_of_mem _ hy)
          have := hM x (h x List.mem_cons_self)
          rw [List.sum_cons, List.length_cons, Int.natCast_add, Int.add_mul]
          omega
      exact Int.le_trans (b l hl) (Int.mul_le_mul_of_nonneg_right (by omega) hM0)
    · -- two beginnings have one rest
      have nn : ¬ ((List.range (a + 1)).map fun i => ((l.take i).sum % (a : Int)).toNat).Nodup := fun nd => by
        have := pig a _ (fun x hx => by
          obtain ⟨i, _, rfl⟩ := List.mem_map.mp hx
          have := Int.emod_lt_of_pos (l.take i).sum (show (0 : Int) < a by omega)
          have := Int.emod_nonneg (l.take i).sum (show (a : Int) ≠ 0 by omega)
          omega) nd
        rw [List.length_map, List.length_range] at this
        omega
      obtain ⟨i, j, hij, hj, e⟩ : ∃ i j, i < j ∧ j ≤ a ∧ (l.take i).sum % (a : Int) = (l.take j).sum % (a : Int) := by
        refine Classical.byContradiction fun no => nn ?_
        refine List.pairwise_map.mpr ((List.pairwise_lt_range (n := a + 1)).imp_of_mem fun {i j} hi hj hij z => no ⟨i, j, hij, ?_, ?_⟩)
        · have := List.mem_range.mp hj; omega
        · have h1 := Int.emod_nonneg (l.take i).sum (show (a : Int) ≠ 0 by omega)
          have h2 := Int.emod_nonneg (l.take j).sum (show (a : Int) ≠ 0 by omega)
          omega
      match k, hk with
      | 0, hk => omega
      | k + 1, hk =>
        have l1 : (l.take i ++ l.drop j).length ≤ k := by
          rw [List.length_append, List.length_take, List.length_drop]
          omega
        obtain ⟨m, h1, h2, h3⟩ := few_max ha hM hM0 k (l.take i ++ l.drop j) l1 (fun x hx => by
          rcases List.mem_append.mp hx with z | z
          · exact hl x (List.mem_of_mem_take z)
          · exact hl x (List.mem_of_mem_drop z))
        refine ⟨m, h1, ?_, h3⟩
        have d1 : (a : Int) ∣ (l.take j).sum - (l.take i).sum := Int.dvd_of_emod_eq_zero (Int.emod_eq_emod_iff_emod_sub_eq_zero.mp e.symm)
        have es : l.sum = (l.take j).sum + (l.drop j).sum := by rw [← List.sum_append, List.take_append_drop]
        rw [List.sum_append] at h2
        rw [show l.sum - m = ((l.take i).sum + (l.drop j).sum - m) + ((l.take j).sum - (l.take i).sum) by omega]
        exact Int.dvd_add h2 d1
/-- all multiples of the common count from this on are met, where it is 1 -/
theorem met_max {cs : List Int} {a M n : Int} (hp : Pos cs) (ha : a ∈ cs) (hM : ∀ c ∈ cs, c ≤ M) (h1 : gl cs = 1) (hn : (a - 1) * M ≤ n) : mb cs n = true := by
  have a0 := hp a ha
  have aM := hM a ha
  obtain ⟨m, hm, hd⟩ := cover a0 hp h1 n
  obtain ⟨l, hl, rfl⟩ := rch_sum.mp hm
  obtain ⟨m2, h2, h3, h4⟩ := few_max (a := a.toNat) (M := M) (by omega) hM (by omega) l.length l (Nat.le_refl _) hl
  rw [Int.toNat_of_nonneg (by omega)] at h3 h4
  refine mb_iff.mpr (rch_ge ha a0 h2 ?_ (by omega))
  rw [show n - m2 = (n - l.sum) + (l.sum - m2) by omega]
  exact Int.dvd_add hd h3
/-! ### all counts times a factor -/
theorem rch_mul {cs : List Int} {f n : Int} : Rch (· ∈ cs.map (· * f)) n ↔ ∃ m, n = m * f ∧ Rch (· ∈ cs) m := by
  constructor
  · intro r
    induction r with
    | zero => exact ⟨0, by simp, .zero⟩
    | step hc _ ih =>
      obtain ⟨m, rfl, hm⟩ := ih
      obtain ⟨c, hc', rfl⟩ := List.mem_map.mp hc
      exact ⟨m + c, by rw [Int.add_mul], .step hc' hm⟩
  · rintro ⟨m, rfl, r⟩
    induction r with
    | zero => rw [Int.zero_mul]; exact .zero
    | step hc _ ih => rw [Int.add_mul]; exact .step (List.mem_map.mpr ⟨_, hc, rfl⟩) ih
theorem mb_mul {cs : List Int} {f m : Int} (hf : f ≠ 0) : mb (cs.map (· * f)) (m * f) = mb cs m := by
  cases e : mb cs m with
  | true => exact mb_iff.mpr (rch_mul.mpr ⟨m, rfl, mb_iff.mp e⟩)
  | false =>
    refine mb_false.mpr fun r => ?_
    obtain ⟨m', e2, r'⟩ := rch_mul.mp r
    rw [Int.eq_of_mul_eq_mul_right hf e2] at e
    exact mb_false.mp e r'
theorem vx_mul {cs : List Int} {f m : Int} (hf : f ≠ 0) (i : Nat) : Vx (cs.map (· * f)) (m * f) i ↔ Vx cs m i := by
  unfold Vx
  rw [List.getElem?_map]
  constructor
  · rintro ⟨c, hc, h⟩
    cases e : cs[i]? with
    | none => rw [e] at hc; cases hc
    | some d =>
      rw [e] at hc
      obtain rfl : d * f = c := Option.some.inj hc
      rw [← Int.sub_mul, mb_mul hf] at h
      exact ⟨d, rfl, h⟩
  · rintro ⟨d, hd, h⟩
    exact ⟨d * f, by rw [hd]; rfl, by rw [← Int.sub_mul, mb_mul hf]; exact h⟩
theorem ad_mul {cs : List Int} {f m : Int} (hf : f ≠ 0) (i j : Nat) : Ad (cs.map (· * f)) (m * f) i j ↔ Ad cs m i j := by
  unfold Ad
  rw [List.getElem?_map, List.getElem?_map]
  constructor
  · rintro ⟨c, d, hc, hd, h⟩
    cases e : cs[i]? with
    | none => rw [e] at hc; cases hc
    | some c' =>
      cases e2 : cs[j]? with
      | none => rw [e2] at hd; cases hd
      | some d' =>
        rw [e] at hc; rw [e2] at hd
        obtain rfl : c' * f = c := Option.some.inj hc
        obtain rfl : d' * f = d := Option.some.inj hd
        rw [← Int.sub_mul, ← Int.sub_mul, mb_mul hf] at h
        exact ⟨c', d', rfl, rfl, h⟩
  · rintro ⟨c, d, hc, hd, h⟩
    exact ⟨c * f, d * f, by rw [hc]; rfl, by rw [hd]; rfl, by rw [← Int.sub_mul, ← Int.sub_mul, mb_mul hf]; exact h⟩
theorem apart_congr {α : Type} {E F : α → α → Prop} {P Q : α → Prop} (he : ∀ x y, E x y ↔ F x y) (hp : ∀ x, P x ↔ Q x) : Apart E P ↔ Apart F Q := by
  rw [show E = F from funext fun x => funext fun y => propext (he x y), show P = Q from funext fun x => propext (hp x)]
theorem tn_mul {cs : List Int} {f m : Int} (hf : f ≠ 0) : Tn (cs.map (· * f)) (m * f) ↔ Tn cs m := apart_congr (fun i j => ad_mul hf i j) (fun i => vx_mul hf i)
theorem turn_mul {cs R : List Int} {f : Int} (hf : 0 < f) (h : TurnOf cs R) : TurnOf (cs.map (· * f)) (R.map (· * f)) := by
  refine ⟨List.pairwise_map.mpr (h.srt.imp fun {a b} q => Int.mul_lt_mul_of_pos_right q hf), fun n => ?_⟩
  rw [List.mem_map]
  constructor
  · rintro ⟨m, hm, rfl⟩
    obtain ⟨h1, h2⟩ := (h.mem m).mp hm
    refine ⟨?_, (tn_mul (by omega)).mpr h2⟩
    have := Int.mul_le_mul_of_nonneg_right h1 (show 0 ≤ f by omega)
    omega
  · rintro ⟨h1, h2⟩
    obtain ⟨i, j, ⟨c, hc, mc⟩, _⟩ := id h2
    obtain ⟨m', e, _⟩ := rch_mul.mp (mb_iff.mp mc)
    rw [List.getElem?_map] at hc
    cases q : cs[i]? with
    | none => rw [q] at hc; cases hc
    | some d =>
      rw [q] at hc
      obtain rfl : d * f = c := Option.some.inj hc
      have en : n = (m' + d) * f := by rw [Int.add_mul]; omega
      rw [en, tn_mul (by omega)] at h2
      refine ⟨m' + d, (h.mem _).mpr ⟨?_, h2⟩, en.symm⟩
      rcases Int.lt_or_le (m' + d) 1 with z | z
      · have := Int.mul_le_mul_of_nonneg_right (show m' + d ≤ 0 by omega) (show 0 ≤ f by omega)
        omega
      · exact z
/-! ### the list turned about -/
theorem hang_map {α β : Type} {E : α → α → Prop} {F : β → β → Prop} (g : α → β) (h : ∀ x y, E x y → F (g x) (g y)) {x y : α} (r : Hang E x y) : Hang F (g x) (g y) := by
  induction r with
  | refl => exact .refl _
  | step _ e ih => exact .step ih (h _ _ e)
theorem mb_rev (cs : List Int) (n : Int) : mb cs.reverse n = mb cs n := mb_congr (rch_congr (fun x => List.mem_reverse) n)
theorem rev_at {cs : List Int} {i : Nat} {c : Int} (h : cs[i]? = some c) : cs.reverse[cs.length - 1 - i]? = some c := by
  have hi := (List.getElem?_eq_some_iff.mp h).1
  rw [List.getElem?_reverse (by omega), show cs.length - 1 - (cs.length - 1 - i) = i by omega]; exact h
theorem tn_rev_of {cs : List Int} {n : Int} (h : Tn cs n) : Tn cs.reverse n := by
  obtain ⟨i, j, ⟨c, hc, mc⟩, ⟨d, hd, md⟩, hn⟩ := h
  refine ⟨cs.length - 1 - i, cs.length - 1 - j, ⟨c, rev_at hc, by rw [mb_rev]; exact mc⟩, ⟨d, rev_at hd, by rw [mb_rev]; exact md⟩, fun g => hn ?_⟩
  have hi := (List.getElem?_eq_some_iff.mp hc).1
  have hj := (List.getElem?_eq_some_iff.mp hd).1
  have q := hang_map (F := Ad cs n) (fun k => cs.length - 1 - k) (fun x y ⟨c, d, h1, h2, h3⟩ => by
    have a1 := rev_at h1
    have a2 := rev_at h2
    rw [List.reverse_reverse, List.length_reverse] at a1 a2
    exact ⟨c, d, a1, a2, by rw [← mb_rev]; exact h3⟩) g
  rw [show cs.length - 1 - (cs.length - 1 - i) = i by omega, show cs.length - 1 - (cs.length - 1 - j) = j by omega] at q
  exact q
theorem tn_rev {cs : List Int} {n : Int} : Tn cs.reverse n ↔ Tn cs n := ⟨fun h => by have := tn_rev_of h; rwa [List.reverse_reverse] at this, tn_rev_of⟩
theorem turn_rev {cs R : List Int} (h : TurnOf cs R) : TurnOf cs.reverse R := ⟨h.srt, fun n => by rw [h.mem, tn_rev]⟩
end K21

namespace K21
/-! ### ways and positions -/
theorem dot_set : ∀ {w cs : List Int} {i : Nat} {x c : Int} (y : Int), w[i]? = some x → cs[i]? = some c → dot (w.set i y) cs = dot w cs + (y - x) * c
  | [], _, _, _, _, _, h, _ => by cases h
  | _ :: _, [], _, _, _, _, _, h => by cases h
  | x0 :: w, c0 :: cs, 0, x, c, y, h, g => by
    obtain rfl : x0 = x := Option.some.inj h
    obtain rfl : c0 = c := Option.some.inj g
    show y * c0 + dot w cs = x0 * c0 + dot w cs + (y - x0) * c0
    rw [Int.sub_mul]; omega
  | x0 :: w, c0 :: cs, i + 1, x, c, y, h, g => by
    have ih := dot_set (w := w) (cs := cs) (i := i) y h g
    show x0 * c0 + dot (w.set i y) cs = x0 * c0 + dot w cs + (y - x) * c
    omega
theorem IsWay.set {cs w : List Int} {n : Int} {i : Nat} {x c y : Int} (h : IsWay cs n w) (hx : w[i]? = some x) (hc : cs[i]? = some c) (hy : 0 ≤ y) : IsWay cs (n + (y - x) * c) (w.set i y) := by
  refine ⟨by rw [List.length_set]; exact h.1, fun z hz => ?_, by rw [dot_set y hx hc, h.2.2]⟩
  rcases List.mem_or_eq_of_mem_set hz with q | q
  · exact h.2.1 z q
  · rw [q]; exact hy
theorem IsWay.at {cs w : List Int} {n : Int} (h : IsWay cs n w) {i : Nat} {c : Int} (hc : cs[i]? = some c) : ∃ x, w[i]? = some x ∧ 0 ≤ x := by
  have l := (List.getElem?_eq_some_iff.mp hc).1
  have hx : w[i]? = some (w[i]'(by rw [h.1]; exact l)) := List.getElem?_eq_getElem _
  exact ⟨_, hx, h.2.1 _ (List.mem_of_getElem? hx)⟩
/-- two ways with a position in common -/
def Mt (w v : List Int) : Prop := ∃ (i : Nat) (p q : Int), w[i]? = some p ∧ v[i]? = some q ∧ 0 < p ∧ 0 < q
theorem Mt.symm : ∀ w v, Mt w v → Mt v w := fun _ _ ⟨i, p, q, a, b, c, d⟩ => ⟨i, q, p, b, a, d, c⟩
theorem way_vx {cs w : List Int} {n : Int} (h : IsWay cs n w) {i : Nat} {x : Int} (hx : w[i]? = some x) (h0 : 0 < x) : Vx cs n i := by
  have l := (List.getElem?_eq_some_iff.mp hx).1
  have hc : cs[i]? = some (cs[i]'(by rw [← h.1]; exact l)) := List.getElem?_eq_getElem _
  refine ⟨_, hc, mb_iff.mpr (rch_of_way (w := w.set i (x - 1)) ?_)⟩
  have := h.set hx hc (y := x - 1) (by omega)
  rw [show n + (x - 1 - x) * cs[i]'(by rw [← h.1]; exact l) = n - cs[i]'(by rw [← h.1]; exact l) by rw [show x - 1 - x = -1 by omega, Int.neg_mul, Int.one_mul]; omega] at this
  exact this
theorem way_ad {cs w : List Int} {n : Int} (h : IsWay cs n w) {i j : Nat} {x y : Int} (hx : w[i]? = some x) (hy : w[j]? = some y) (h0 : 0 < x) (h1 : 0 < y) : Hang (Ad cs n) i j := by
  by_cases e : i = j
  · rw [e]; exact .refl j
  have l := (List.getElem?_eq_some_iff.mp hx).1
  have l2 := (List.getElem?_eq_some_iff.mp hy).1
  obtain ⟨c, hc⟩ : ∃ c, cs[i]? = some c := ⟨_, List.getElem?_eq_getElem (by rw [← h.1]; exact l)⟩
  obtain ⟨d, hd⟩ : ∃ d, cs[j]? = some d := ⟨_, List.getElem?_eq_getElem (by rw [← h.1]; exact l2)⟩
  refine .one ⟨c, d, hc, hd, mb_iff.mpr (rch_of_way (w := (w.set i (x - 1)).set j (y - 1)) ?_)⟩
  have q := (h.set hx hc (y := x - 1) (by omega)).set (i := j) (x := y) (y := y - 1) (by rw [List.getElem?_set_ne e]; exact hy) hd (by omega)
  rw [show n + (x - 1 - x) * c + (y - 1 - y) * d = n - c - d by rw [show x - 1 - x = -1 by omega, show y - 1 - y = -1 by omega, Int.neg_mul, Int.one_mul, Int.neg_mul, Int.one_mul]; omega] at q
  exact q
theorem ad_way {cs : List Int} (hp : Pos cs) {n : Int} {i j : Nat} (h : Ad cs n i j) : ∃ (w : List Int) (x y : Int), IsWay cs n w ∧ w[i]? = some x ∧ w[j]? = some y ∧ 0 < x ∧ 0 < y := by
  obtain ⟨c, d, hc, hd, hm⟩ := h
  obtain ⟨w, hw⟩ := way_of_rch hp (mb_iff.mp hm)
  obtain ⟨x, hx, x0⟩ := hw.at hc
  have w2 := hw.set hx hc (y := x + 1) (by omega)
  rw [show n - c - d + (x + 1 - x) * c = n - d by rw [show x + 1 - x = 1 by omega, Int.one_mul]; omega] at w2
  obtain ⟨y, hy, y0⟩ := w2.at hd
  have w3 := w2.set hy hd (y := y + 1) (by omega)
  rw [show n - d + (y + 1 - y) * d = n by rw [show y + 1 - y = 1 by omega, Int.one_mul]; omega] at w3
  have li := (List.getElem?_eq_some_iff.mp hx).1
  have lj := (List.getElem?_eq_some_iff.mp hy).1
  have hj2 : ((w.set i (x + 1)).set j (y + 1))[j]? = some (y + 1) := by rw [List.getElem?_set_self lj]
  by_cases e : i = j
  · subst e
    exact ⟨_, _, _, w3, hj2, hj2, by omega, by omega⟩
  · refine ⟨_, x + 1, y + 1, w3, ?_, hj2, by omega, by omega⟩
    rw [List.getElem?_set_ne (Ne.symm e), List.getElem?_set_self li]
theorem vx_way {cs : List Int} (hp : Pos cs) {n : Int} {i : Nat} (h : Vx cs n i) : ∃ (w : List Int) (x : Int), IsWay cs n w ∧ w[i]? = some x ∧ 0 < x := by
  obtain ⟨c, hc, hm⟩ := h
  obtain ⟨w, hw⟩ := way_of_rch hp (mb_iff.mp hm)
  obtain ⟨x, hx, x0⟩ := hw.at hc
  have w2 := hw.set hx hc (y := x + 1) (by omega)
  rw [show n - c + (x + 1 - x) * c = n by rw [show x + 1 - x = 1 by omega, Int.one_mul]; omega] at w2
  exact ⟨_, x + 1, w2, by rw [List.getElem?_set_self (List.getElem?_eq_some_iff.mp hx).1], by omega⟩
theorem dot_zero : ∀ {w cs : List Int}, (∀ x ∈ w, x = 0) → dot w cs = 0
  | [], _, _ => rfl
  | _ :: _, [], _ => rfl
  | x :: w, c :: cs, h => by
    show x * c + dot w cs = 0
    rw [h x List.mem_cons_self, dot_zero fun y hy => h y (List.mem_cons_of_mem _ hy), Int.zero_mul, Int.add_zero]
theorem way_supp {cs w : List Int} {n : Int} (h : IsWay cs n w) (hn : 1 ≤ n) : ∃ (i : Nat) (x : Int), w[i]? = some x ∧ 0 < x := by
  refine Classical.byContradiction fun no => ?_
  have z : dot w cs = 0 := dot_zero fun x hx => by
    obtain ⟨i, hi⟩ := List.getElem?_of_mem hx
    have := h.2.1 x hx
    refine Classical.byContradiction fun ne => no ⟨i, x, hi, by omega⟩
  rw [h.2.2] at z; omega
theorem hang_ways {cs : List Int} {n : Int} {w v : List Int} (h : Hang Mt w v) (hP : ∀ u, Hang Mt w u → IsWay cs n u) : ∀ {i j : Nat} {x y : Int}, w[i]? = some x → 0 < x → v[j]? = some y → 0 < y → Hang (Ad cs n) i j := by
  induction h with
  | refl => intro i j x y hx h0 hy h1; exact way_ad (hP w (.refl w)) hx hy h0 h1
  | @step u v g e ih =>
    intro i j x y hx h0 hy h1
    obtain ⟨k, p, q, hp, hq, p0, q0⟩ := e
    exact (ih hx h0 hp p0).trans (way_ad (hP v (.step g ⟨k, p, q, hp, hq, p0, q0⟩)) hq hy q0 h1)
/-- ways and meeting ones among them -/
def MtW (cs : List Int) (n : Int) (w v : List Int) : Prop := Mt w v ∧ IsWay cs n w ∧ IsWay cs n v
theorem MtW.symm {cs : List Int} {n : Int} : ∀ w v, MtW cs n w v → MtW cs n v w := fun w v h => ⟨Mt.symm w v h.1, h.2.2, h.2.1⟩
theorem MtW.vx {cs : List Int} {n : Int} : ∀ w v, MtW cs n w v → IsWay cs n v := fun _ _ h => h.2.2
theorem hang_mt {cs : List Int} {n : Int} {w v : List Int} (h : Hang (MtW cs n) w v) (hw : IsWay cs n w) : ∀ {i j : Nat} {x y : Int}, w[i]? = some x → 0 < x → v[j]? = some y → 0 < y → Hang (Ad cs n) i j := by
  induction h with
  | refl => intro i j x y hx h0 hy h1; exact way_ad hw hx hy h0 h1
  | @step u v g e ih =>
    intro i j x y hx h0 hy h1
    obtain ⟨⟨k, p, q, hp, hq, p0, q0⟩, _, hv⟩ := e
    exact (ih hx h0 hp p0).trans (way_ad hv hq hy q0 h1)
theorem ways_turn {cs : List Int} (hp : Pos cs) {n : Int} : Apart (MtW cs n) (IsWay cs n) ↔ Tn cs n := by
  constructor
  · rintro ⟨w, v, hw, hv, hn⟩
    have n1 : 1 ≤ n := by
      rcases Int.lt_or_le n 1 with z | z
      · exfalso
        have zero : ∀ u, IsWay cs n u → u = cs.map fun _ => 0 := by
          intro u hu
          have : ∀ (cs u : List Int), Pos cs → u.length = cs.length → (∀ x ∈ u, 0 ≤ x) → dot u cs ≤ 0 → u = cs.map fun _ => 0 := by
            intro cs
            induction cs with
            | nil => intro u _ hl _ _; exact List.length_eq_zero_iff.mp hl
            | cons c cs ih =>
              intro u hp hl h0 hd
              match u, hl with
              | x :: u, hl =>
                have hx := h0 x List.mem_cons_self
                have hc := hp c List.mem_cons_self
                have hu := dot_nonneg (cs := cs) (w := u) (fun d hd => hp d (List.mem_cons_of_mem _ hd)) fun y hy => h0 y (List.mem_cons_of_mem _ hy)
                have hd' : x * c + dot u cs ≤ 0 := hd
                have hxc : 0 ≤ x * c := Int.mul_nonneg hx (by omega)
                have x0 : x = 0 := by
                  rcases Int.lt_or_le 0 x with q | q
                  · have : 0 < x * c := Int.mul_pos q hc
                    omega
                  · omega
                rw [x0, ih u (fun d hd => hp d (List.mem_cons_of_mem _ hd)) (by simpa using hl) (fun y hy => h0 y (List.mem_cons_of_mem _ hy)) (by omega)]
                rfl
          exact this cs u hp hu.1 hu.2.1 (by rw [hu.2.2]; omega)
        exact hn (by rw [zero w hw, zero v hv]; exact .refl _)
      · exact z
    obtain ⟨i, x, hx, x0⟩ := way_supp hw n1
    obtain ⟨j, y, hy, y0⟩ := way_supp hv n1
    refine ⟨i, j, way_vx hw hx x0, way_vx hv hy y0, fun g => hn ?_⟩
    -- from way to way along the positions
    have along : ∀ k, Hang (Ad cs n) i k → ∀ v z, IsWay cs n v → v[k]? = some z → 0 < z → Hang (MtW cs n) w v := by
      intro k g
      induction g with
      | refl => intro v z hv hz z0; exact .one ⟨⟨i, x, z, hx, hz, x0, z0⟩, hw, hv⟩
      | @step k l _ e ih =>
        intro v z hv hz z0
        obtain ⟨u, p, q, hu, hp', hq', p0, q0⟩ := ad_way hp e
        exact .step (ih u p hu hp' p0) ⟨⟨l, q, z, hq', hz, q0, z0⟩, hu, hv⟩
    exact along j g v y hv hy y0
  · rintro ⟨i, j, hi, hj, hn⟩
    obtain ⟨w, x, hw, hx, x0⟩ := vx_way hp hi
    obtain ⟨v, y, hv, hy, y0⟩ := vx_way hp hj
    exact ⟨w, v, hw, hv, fun g => hn (hang_mt g hw hx x0 hy y0)⟩
/-! ### one count, two counts -/
theorem turn_one {a : Int} : TurnOf [a] [] := by
  refine ⟨List.Pairwise.nil, fun n => ⟨(fun h => by cases h), (fun ⟨_, h⟩ => ?_)⟩⟩
  obtain ⟨i, j, c, d, ne, hc, hd, _⟩ := h.pair
  have := (List.getElem?_eq_some_iff.mp hc).1
  have := (List.getElem?_eq_some_iff.mp hd).1
  simp only [List.length_cons, List.length_nil] at *
  omega
theorem rch_two {a b n : Int} : Rch (· ∈ [a, b]) n ↔ ∃ x y : Int, 0 ≤ x ∧ 0 ≤ y ∧ n = x * a + y * b := by
  constructor
  · intro r
    induction r with
    | zero => exact ⟨0, 0, Int.le_refl 0, Int.le_refl 0, by simp⟩
    | @step m c hc _ ih =>
      obtain ⟨x, y, hx, hy, rfl⟩ := ih
      rcases List.mem_cons.mp hc with e | e
      · subst e
        exact ⟨x + 1, y, by omega, hy, by rw [Int.add_mul]; omega⟩
      · obtain rfl := List.mem_singleton.mp e
        exact ⟨x, y + 1, hx, by omega, by rw [Int.add_mul]; omega⟩
  · rintro ⟨x, y, hx, hy, rfl⟩
    have m : ∀ (c : Int), c ∈ [a, b] → ∀ k : Nat, Rch (· ∈ [a, b]) ((k : Int) * c) := by
      intro c hc k
      induction k with
      | zero => simp; exact .zero
      | succ k ih =>
        rw [show ((k + 1 : Nat) : Int) * c = (k : Int) * c + c by rw [Int.natCast_add, Int.add_mul]; simp]
        exact .step hc ih
    have h1 := m a (by simp) x.toNat
    have h2 := m b (by simp) y.toNat
    rw [Int.toNat_of_nonneg hx] at h1
    rw [Int.toNat_of_nonneg hy] at h2
    exact h1.add h2
theorem tn_two {a b n : Int} : Tn [a, b] n ↔ mb [a, b] (n - a) = true ∧ mb [a, b] (n - b) = true ∧ mb [a, b] (n - a - b) = false := by
  constructor
  · intro h
    obtain ⟨i, j, c, d, ne, hc, hd, mc, md, mn⟩ := h.pair
    have l1 := (List.getElem?_eq_some_iff.mp hc).1
    have l2 := (List.getElem?_eq_some_iff.mp hd).1
    simp only [List.length_cons, List.length_nil] at l1 l2
    have q : (i = 0 ∧ j = 1) ∨ (i = 1 ∧ j = 0) := by omega
    rcases q with ⟨rfl, rfl⟩ | ⟨rfl, rfl⟩
    · obtain rfl : a = c := Option.some.inj hc
      obtain rfl : b = d := Option.some.inj hd
      exact ⟨mc, md, mn⟩
    · obtain rfl : b = c := Option.some.inj hc
      obtain rfl : a = d := Option.some.inj hd
      exact ⟨md, mc, by rw [show n - a - b = n - b - a by omega]; exact mn⟩
  · rintro ⟨ma, mb', mn⟩
    refine ⟨0, 1, ⟨a, rfl, ma⟩, ⟨b, rfl, mb'⟩, fun g => ?_⟩
    have stay : ∀ k, Hang (Ad [a, b] n) 0 k → k = 0 := by
      intro k g
      induction g with
      | refl => rfl
      | @step k l _ e ih =>
        subst ih
        obtain ⟨c, d, hc, hd, hm⟩ := e
        obtain rfl : a = c := Option.some.inj hc
        match l, hd with
        | 0, _ => rfl
        | 1, hd =>
          obtain rfl : b = d := Option.some.inj hd
          rw [mn] at hm; cases hm
        | l + 2, hd => cases hd
    have := stay 1 g
    omega
theorem turn_two {a b : Nat} (ha : 0 < a) (hb : 0 < b) : TurnOf [(a : Int), (b : Int)] [((Nat.lcm a b : Nat) : Int)] := by
  have hl : 0 < Nat.lcm a b := Nat.lcm_pos ha hb
  obtain ⟨u, hu⟩ := Nat.dvd_lcm_left a b
  obtain ⟨v, hv⟩ := Nat.dvd_lcm_right a b
  have u0 : 0 < u := by rcases Nat.eq_zero_or_pos u with z | z; · rw [z] at hu; omega
                        · exact z
  have v0 : 0 < v := by rcases Nat.eq_zero_or_pos v with z | z; · rw [z] at hv; omega
                        · exact z
  have hu' : ((Nat.lcm a b : Nat) : Int) = (u : Int) * a := by rw [hu, Int.natCast_mul, Int.mul_comm]
  have hv' : ((Nat.lcm a b : Nat) : Int) = (v : Int) * b := by rw [hv, Int.natCast_mul, Int.mul_comm]
  refine ⟨List.pairwise_singleton _ _, fun n => ?_⟩
  rw [List.mem_singleton, tn_two]
  constructor
  · rintro rfl
    refine ⟨by omega, mb_iff.mpr (rch_two.mpr ⟨(u : Int) - 1, 0, by omega, Int.le_refl 0, ?_⟩), mb_iff.mpr (rch_two.mpr ⟨0, (v : Int) - 1, Int.le_refl 0, by omega, ?_⟩), mb_false.mpr fun r => ?_⟩
    · rw [hu', Int.sub_mul]; omega
    · rw [hv', Int.sub_mul]; omega
    · obtain ⟨x, y, hx, hy, e⟩ := rch_two.mp r
      have e2 : ((Nat.lcm a b : Nat) : Int) = (x + 1) * a + (y + 1) * b := by rw [Int.add_mul, Int.add_mul]; omega
      have d : b ∣ (x + 1).toNat * a := by
        have : (b : Int) ∣ (x + 1) * a := by
          have h1 : (b : Int) ∣ ((Nat.lcm a b : Nat) : Int) := ⟨v, by rw [hv', Int.mul_comm]⟩
          have h2 : (b : Int) ∣ (y + 1) * b := ⟨y + 1, by rw [Int.mul_comm]⟩
          rw [show (x + 1) * (a : Int) = ((Nat.lcm a b : Nat) : Int) - (y + 1) * b by omega]
          exact Int.dvd_sub h1 h2
        rw [← Int.natCast_dvd_natCast, Int.natCast_mul, Int.toNat_of_nonneg (by omega)]
        exact this
      have d2 := Nat.lcm_dvd (Nat.dvd_mul_left a (x + 1).toNat) d
      have le := Nat.le_of_dvd (Nat.mul_pos (by omega) ha) d2
      have le2 : ((Nat.lcm a b : Nat) : Int) ≤ (x + 1) * a := by
        have := Int.ofNat_le.mpr le
        rw [Int.natCast_mul, Int.toNat_of_nonneg (by omega)] at this
        exact this
      have : 0 < (y + 1) * (b : Int) := Int.mul_pos (by omega) (by omega)
      omega
  · rintro ⟨n1, h1, h2, h3⟩
    have no : ∀ x y : Int, 1 ≤ x → 1 ≤ y → n ≠ x * a + y * b := by
      intro x y hx hy e
      refine mb_false.mp h3 (rch_two.mpr ⟨x - 1, y - 1, by omega, by omega, ?_⟩)
      rw [Int.sub_mul, Int.sub_mul]; omega
    obtain ⟨x, y, hx, hy, e⟩ := rch_two.mp (mb_iff.mp h1)
    obtain ⟨x2, y2, hx2, hy2, e2⟩ := rch_two.mp (mb_iff.mp h2)
    have y0 : y = 0 := by
      rcases Int.lt_or_le 0 y with z | z
      · exact absurd (by rw [Int.add_mul]; omega) (no (x + 1) y (by omega) (by omega))
      · omega
    have x0 : x2 = 0 := by
      rcases Int.lt_or_le 0 x2 with z | z
      · exact absurd (by rw [Int.add_mul]; omega) (no x2 (y2 + 1) (by omega) (by omega))
      · omega
    subst y0 x0
    have da : (a : Int) ∣ n := ⟨x + 1, by rw [Int.mul_comm, Int.add_mul]; omega⟩
    have db : (b : Int) ∣ n := ⟨y2 + 1, by rw [Int.mul_comm, Int.add_mul]; omega⟩
    obtain ⟨m, rfl⟩ : ∃ m : Nat, n = m := ⟨n.toNat, by omega⟩
    obtain ⟨k, hk⟩ := Nat.lcm_dvd (Int.natCast_dvd_natCast.mp da) (Int.natCast_dvd_natCast.mp db)
    have hk' : (m : Int) = (k : Int) * ((Nat.lcm a b : Nat) : Int) := by rw [hk, Int.natCast_mul, Int.mul_comm]
    have k1 : k = 1 := by
      rcases Nat.lt_or_ge 1 k with z | z
      · exfalso
        refine no u (((k : Int) - 1) * v) (by omega) ?_ ?_
        · have : 1 * 1 ≤ ((k : Int) - 1) * (v : Int) := Int.mul_le_mul (by omega) (by omega) (by omega) (by omega)
          omega
        · rw [hk', Int.mul_assoc, ← hv', ← hu', Int.sub_mul, Int.one_mul]; omega
      · rcases Nat.eq_zero_or_pos k with w | w
        · rw [w] at hk; simp at hk; omega
        · omega
    rw [hk', k1]; simp
end K21

namespace K21
theorem last_top {R : List Int} {g : Int} (hs : R.Pairwise (· < ·)) (h : R.getLast? = some g) : g ∈ R ∧ ∀ x ∈ R, x ≤ g := by
  rcases List.eq_nil_or_concat R with e | ⟨A, z, e⟩
  · subst e; cases h
  · rw [List.concat_eq_append] at e
    subst e
    rw [List.getLast?_append] at h
    obtain rfl : z = g := Option.some.inj h
    refine ⟨by simp, fun x hx => ?_⟩
    rcases List.mem_append.mp hx with q | q
    · have := (List.pairwise_append.mp hs).2.2 x q z (by simp)
      omega
    · rw [List.mem_singleton.mp q]; omega
/-- the counts divided by their common count -/
def dv (cs : List Int) : List Int := cs.map fun c => c / gl cs
theorem gl_dvdI {cs : List Int} {c : Int} (h : c ∈ cs) : gl cs ∣ c := Int.natAbs_dvd_natAbs.mp ((gl_dvd cs _).mp (Nat.dvd_refl _) c h)
theorem glpos {cs : List Int} (h : 1 ≤ cs.length) (hp : Pos cs) : 1 ≤ gl cs := by
  have h0 := gl_nonneg cs
  obtain ⟨c, hc⟩ := List.exists_mem_of_ne_nil cs (fun z => by rw [z] at h; simp at h)
  have := hp c hc
  rcases Int.lt_or_le 0 (gl cs) with z | z
  · omega
  · have e : gl cs = 0 := by omega
    have d := gl_dvdI hc
    rw [e] at d
    have := Int.zero_dvd.mp d
    omega
theorem dv_back {cs : List Int} (h : 1 ≤ cs.length) (hp : Pos cs) : (dv cs).map (· * gl cs) = cs := by
  unfold dv
  rw [List.map_map]
  have g0 := glpos h hp
  refine (List.map_congr_left fun c hc => ?_).trans (List.map_id' _)
  exact Int.ediv_mul_cancel (gl_dvdI hc)
theorem dv_pos {cs : List Int} (h : 1 ≤ cs.length) (hp : Pos cs) : Pos (dv cs) := by
  intro x hx
  obtain ⟨c, hc, rfl⟩ := List.mem_map.mp hx
  have g0 := glpos h hp
  exact Int.ediv_pos_of_pos_of_dvd (hp c hc) (by omega) (gl_dvdI hc)
theorem dv_gl {cs : List Int} (h : 1 ≤ cs.length) (hp : Pos cs) : gl (dv cs) = 1 := by
  have g0 := glpos h hp
  have hd := (gl_dvd (dv cs) (gl (dv cs)).natAbs).mp (Nat.dvd_refl _)
  have h1 : ((gl (dv cs)).natAbs * (gl cs).natAbs) ∣ (gl cs).natAbs := (gl_dvd cs _).mpr fun c hc => by
    have d := hd (c / gl cs) (List.mem_map.mpr ⟨c, hc, rfl⟩)
    have := Nat.mul_dvd_mul_right d (gl cs).natAbs
    have e2 : (c / gl cs).natAbs * (gl cs).natAbs = c.natAbs := by rw [← Int.natAbs_mul, Int.ediv_mul_cancel (gl_dvdI hc)]
    rw [e2] at this
    exact this
  have h2 : (gl (dv cs)).natAbs * (gl cs).natAbs ∣ 1 * (gl cs).natAbs := by rw [Nat.one_mul]; exact h1
  have h3 := Nat.dvd_of_mul_dvd_mul_right (by omega) h2
  have h4 := Nat.dvd_one.mp h3
  have := gl_nonneg (dv cs)
  omega
/-- the greatest unmet number, -1 if there is none -/
def lastU (R : List Int) : Int := R.getLast?.getD (-1)
theorem lastU_met {cs R : List Int} (h : GapOf cs R) {k : Int} (hk : lastU R < k) : mb cs k = true := by
  cases e : mb cs k with
  | true => rfl
  | false =>
    exfalso
    unfold lastU at hk
    cases q : R.getLast? with
    | none =>
      rw [List.getLast?_eq_none_iff] at q
      subst q
      have hk' : -1 < k := hk
      have := (h.mem k).mpr ⟨by omega, e⟩
      cases this
    | some g =>
      rw [q] at hk
      have hk' : g < k := hk
      obtain ⟨h1, h2⟩ := last_top h.srt q
      have g0 := ((h.mem g).mp h1).1
      have := h2 k ((h.mem k).mpr ⟨by omega, e⟩)
      omega
theorem lastU_ge {cs R : List Int} (h : GapOf cs R) : -1 ≤ lastU R := by
  unfold lastU
  cases q : R.getLast? with
  | none => exact Int.le_refl _
  | some g =>
    have g0 := ((h.mem g).mp (last_top h.srt q).1).1
    show -1 ≤ g
    omega
theorem lastU_lt {cs R : List Int} (h : GapOf cs R) {B : Int} (hB : ∀ n : Int, B ≤ n → mb cs n = true) (h0 : 0 ≤ B) : lastU R < B := by
  unfold lastU
  cases q : R.getLast? with
  | none => show (-1 : Int) < B; omega
  | some g =>
    show g < B
    have g1 := ((h.mem g).mp (last_top h.srt q).1).2
    rcases Int.lt_or_le g B with z | z
    · exact z
    · rw [hB g z] at g1; cases g1
theorem met_dv {cs : List Int} (h : 1 ≤ cs.length) (hp : Pos cs) (k : Int) : mb cs (k * gl cs) = mb (dv cs) k := by
  have g0 := glpos h hp
  have := mb_mul (cs := dv cs) (f := gl cs) (m := k) (by omega)
  rw [dv_back h hp] at this
  exact this
/-- from the greatest unmet multiple on all multiples are met -/
theorem above_last {cs R : List Int} (h : 1 ≤ cs.length) (hp : Pos cs) (hR : GapOf (dv cs) R) {m : Int} (hm : lastU R * gl cs < m) (hd : gl cs ∣ m) : mb cs m = true := by
  have g0 := glpos h hp
  obtain ⟨k, rfl⟩ := hd
  rw [Int.mul_comm, met_dv h hp]
  refine lastU_met hR ?_
  rw [Int.mul_comm (gl cs) k] at hm
  exact Int.lt_of_mul_lt_mul_right hm (by omega)
/-- from the product of the least and the greatest count on all multiples are met -/
theorem above_prod {cs : List Int} (h : 1 ≤ cs.length) (hp : Pos cs) {a M m : Int} (ha : a ∈ cs) (hMm : M ∈ cs) (hM : ∀ c ∈ cs, c ≤ M) (hm : M * a < m) (hd : gl cs ∣ m) : mb cs m = true := by
  have g0 := glpos h hp
  obtain ⟨k, rfl⟩ := hd
  rw [Int.mul_comm, met_dv h hp]
  have ea := Int.ediv_mul_cancel (gl_dvdI ha)
  have eM := Int.ediv_mul_cancel (gl_dvdI hMm)
  have pa := dv_pos h hp (a / gl cs) (List.mem_map.mpr ⟨a, ha, rfl⟩)
  have pM := dv_pos h hp (M / gl cs) (List.mem_map.mpr ⟨M, hMm, rfl⟩)
  refine met_max (a := a / gl cs) (M := M / gl cs) (dv_pos h hp) (List.mem_map.mpr ⟨a, ha, rfl⟩) (fun x hx => ?_) (dv_gl h hp) ?_
  · obtain ⟨c, hc, rfl⟩ := List.mem_map.mp hx
    exact Int.ediv_le_ediv (by omega) (hM c hc)
  · generalize a / gl cs = a' at ea pa ⊢
    generalize M / gl cs = M' at eM pM ⊢
    rw [← ea, ← eM] at hm
    generalize gl cs = g at hm g0
    have h1 : (M' * a') * g ≤ M' * g * (a' * g) := by
      have : M' * g * (a' * g) = (M' * a') * g * g := by
        rw [Int.mul_assoc, Int.mul_comm g (a' * g), ← Int.mul_assoc, ← Int.mul_assoc]
      rw [this]
      have p : 0 ≤ M' * a' * g := Int.mul_nonneg (Int.mul_nonneg (by omega) (by omega)) (by omega)
      have := Int.mul_le_mul_of_nonneg_left g0 p
      omega
    have h2 : (M' * a') * g < k * g := by rw [Int.mul_comm k g]; omega
    have h3 := Int.lt_of_mul_lt_mul_right h2 (by omega)
    have h4 : (a' - 1) * M' ≤ M' * a' := by
      rw [Int.sub_mul, Int.one_mul, Int.mul_comm a' M']
      omega
    omega
theorem cons_eraseIdx : ∀ {cs : List Int} {i : Nat} {c : Int}, cs[i]? = some c → (c :: cs.eraseIdx i).Perm cs
  | [], i, c, h => by simp at h
  | x :: cs, 0, c, h => by
    obtain rfl : x = c := by simpa using h
    exact List.Perm.refl _
  | x :: cs, i + 1, c, h => by
    have h' : cs[i]? = some c := by simpa using h
    exact (List.Perm.swap x c _).trans ((cons_eraseIdx h').cons x)
/-- two positions together are at most the last two of the sorted list -/
theorem top_two {cs S : List Int} (hp : S.Perm cs) (hs : S.Pairwise (· ≤ ·)) {i j : Nat} {c d : Int} (ne : i ≠ j) (hc : cs[i]? = some c) (hd : cs[j]? = some d) (pos : Pos cs) : c + d ≤ (S.drop (S.length - 2)).sum := by
  have hi := (List.getElem?_eq_some_iff.mp hc).1
  have hj := (List.getElem?_eq_some_iff.mp hd).1
  have hl := hp.length_eq
  have h2 : 2 ≤ S.length := by omega
  obtain ⟨x, y, e⟩ : ∃ x y, S.drop (S.length - 2) = [x, y] := by
    have l : (S.drop (S.length - 2)).length = 2 := by rw [List.length_drop]; omega
    match S.drop (S.length - 2), l with
    | [x, y], _ => exact ⟨x, y, rfl⟩
  have eS : S = S.take (S.length - 2) ++ [x, y] := by rw [← e, List.take_append_drop]
  generalize S.take (S.length - 2) = A at eS
  rw [e]
  subst eS
  have hA := (List.pairwise_append.mp hs).2.2
  have hxy : x ≤ y := (List.pairwise_cons.mp (List.pairwise_append.mp hs).2.1).1 y (by simp)
  have below : ∀ z ∈ A ++ [x], z ≤ x := fun z hz => by
    rcases List.mem_append.mp hz with q | q
    · exact hA z q x (by simp)
    · rw [List.mem_singleton.mp q]; omega
  have pe : (c :: cs.eraseIdx i).Perm cs := cons_eraseIdx hc
  have md : d ∈ cs.eraseIdx i := List.mem_eraseIdx_iff_getElem?.mpr ⟨j, Ne.symm ne, hd⟩
  have all : ∀ z ∈ cs, z ≤ y := fun z hz => by
    have := hp.mem_iff.mpr hz
    rw [show A ++ [x, y] = (A ++ [x]) ++ [y] by simp] at this
    rcases List.mem_append.mp this with q | q
    · have := below z q; omega
    · rw [List.mem_singleton.mp q]; omega
  show c + d ≤ x + (y + 0)
  have hdm : d ≤ y := all d (List.mem_of_getElem? hd)
  by_cases q : c = y
  · subst q
    have p2 : (c :: (A ++ [x])).Perm (c :: cs.eraseIdx i) := by
      refine List.Perm.trans ?_ (hp.trans pe.symm)
      rw [show A ++ [x, c] = (A ++ [x]) ++ [c] by simp]
      exact (List.perm_append_singleton c (A ++ [x])).symm
    have := below d (p2.cons_inv.mem_iff.mpr md)
    omega
  · have mc := hp.mem_iff.mpr (List.mem_of_getElem? hc)
    rw [show A ++ [x, y] = (A ++ [x]) ++ [y] by simp] at mc
    rcases List.mem_append.mp mc with r | r
    · have := below c r; omega
    · exact absurd (List.mem_singleton.mp r) q
end K21

namespace K21
open Fp PySem PySem.W PyProof.Rows
theorem al_ints : ∀ x y : List Int, alike (Datum.toD x) (Datum.toD y) = true := fun x y => Srt1.like x y
theorem dataLt_rows2 : ∀ xs ys : List (List Int), rowLt (xs.map Datum.toD) (ys.map Datum.toD) = decide (xs < ys)
  | [], [] => by
    have e : rowLt [] [] = false := lex_irrefl _
    simp [e]
  | [], y :: ys => by
    have e : rowLt [] (Datum.toD y :: ys.map Datum.toD) = true := by
      unfold rowLt
      rw [toks_all_cons]
      simp only [keyToksAll]
      rw [lex_diff (O := itemOrd) (by simp)]
      rfl
    simpa using e
  | x :: xs, [] => by
    have e : rowLt (Datum.toD x :: xs.map Datum.toD) [] = false := by
      unfold rowLt
      rw [toks_all_cons]
      simp only [keyToksAll]
      rw [lex_diff (O := itemOrd) (by simp)]
      rfl
    simpa using e
  | x :: xs, y :: ys => by
    have lt : dataLt (Datum.toD x) (Datum.toD y) = decide (x < y) := by
      show dataLt (.list (x.map Datum.toD)) (.list (y.map Datum.toD)) = _
      rw [dataLt_list]
      exact dataLt_ints x y
    have e : rowLt (Datum.toD x :: xs.map Datum.toD) (Datum.toD y :: ys.map Datum.toD) = if x = y then rowLt (xs.map Datum.toD) (ys.map Datum.toD) else decide (x < y) := by
      unfold rowLt
      rw [dataLt_cons (al_ints x y), lt]
      have q : PyData.eqv (Datum.toD x) (Datum.toD y) = decide (x = y) := by
        exact Datum.eqv x y
      rw [q]
      by_cases z : x = y
      · rw [if_pos z, if_pos (decide_eq_true z)]
      · rw [if_neg z, if_neg (by rw [decide_eq_false z]; decide)]
    show rowLt (Datum.toD x :: xs.map Datum.toD) (Datum.toD y :: ys.map Datum.toD) = _
    rw [e]
    by_cases h : x = y
    · rw [if_pos h, dataLt_rows2 xs ys]
      simp [h, List.cons_lt_cons_iff]
    · rw [if_neg h]
      simp [h, List.cons_lt_cons_iff]
theorem leH_rows2 : (leH : List (List Int) → List (List Int) → Bool) = fun p q => decide (p ≤ q) := by
  funext p q
  show (!dataLt (.list (q.map Datum.toD)) (.list (p.map Datum.toD))) = _
  rw [dataLt_list]
  show (!rowLt (q.map Datum.toD) (p.map Datum.toD)) = _
  rw [dataLt_rows2]
  by_cases h : q < p
  · have h' : ¬ p ≤ q := fun r => List.not_lt.mpr r h
    simp [h, h']
  · have h' : p ≤ q := List.not_lt.mp h
    simp [h, h']

/-- two lists of lots without doubles, with the same members: sorted they are the same -/
theorem sort_eq2 {L M : List (List (List Int))} (hL : L.Nodup) (hM : M.Nodup) (h : ∀ w, w ∈ M ↔ w ∈ L) : M.mergeSort leH = L.mergeSort leH := by
  rw [leH_rows2]
  have pm : (M.mergeSort fun p q => decide (p ≤ q)).Perm (L.mergeSort fun p q => decide (p ≤ q)) := (List.mergeSort_perm M _).trans (((List.perm_ext_iff_of_nodup hM hL).mpr h).trans (List.mergeSort_perm L _).symm)
  have srt : ∀ N : List (List (List Int)), (N.mergeSort fun p q => decide (p ≤ q)).Pairwise (fun p q => p ≤ q) := fun N => by
    have := List.pairwise_mergeSort (le := fun p q : List (List Int) => decide (p ≤ q)) (fun a b c h1 h2 => ?_) (fun a b => ?_) N
    · exact this.imp fun {a b} q => of_decide_eq_true q
    · exact decide_eq_true (List.le_trans (of_decide_eq_true h1) (of_decide_eq_true h2))
    · rcases List.le_total a b with z | z
      · rw [decide_eq_true z]; rfl
      · rw [decide_eq_true z, Bool.or_true]
  exact List.Perm.eq_of_pairwise (le := fun p q : List (List Int) => p ≤ q) (fun a b _ _ h1 h2 => List.le_antisymm h1 h2) (srt M) (srt L) pm
/-- the lots, each sorted -/
structure SLots (E : List Int → List Int → Prop) (P : List Int → Prop) (L : List (List (List Int))) : Prop where
  lots : Lots E P L
  srt : ∀ A ∈ L, A.Pairwise (· < ·)
theorem srt_ext {A B : List (List Int)} (hA : A.Pairwise (· < ·)) (hB : B.Pairwise (· < ·)) (h : ∀ x, x ∈ A ↔ x ∈ B) : A = B := by
  have pm := (List.perm_ext_iff_of_nodup (nodup_lt hA) (nodup_lt hB)).mpr h
  exact List.Perm.eq_of_pairwise (le := fun p q : List Int => p ≤ q) (fun a b _ _ h1 h2 => List.le_antisymm h1 h2) (hA.imp fun {a b} q => List.le_of_lt q) (hB.imp fun {a b} q => List.le_of_lt q) pm
theorem Lots.stay {α : Type} {E : α → α → Prop} {P : α → Prop} (hE : ∀ x y, E x y → P y) {L : List (List α)} (hs : ∀ x y, E x y → E y x) (h : Lots E P L) {A : List α} (hA : A ∈ L) {a y : α} (ha : a ∈ A) (g : Hang E a y) : y ∈ A := by
  induction g with
  | refl => exact ha
  | @step y z _ e ih =>
    obtain ⟨C, hC, hz⟩ := (h.mem z).mpr (hE _ _ e)
    by_cases q : C = A
    · rw [← q]; exact hz
    · rcases pw_two h.far hA hC (Ne.symm q) with k | k
      · exact absurd e (k y ih z hz).2
      · exact absurd (hs _ _ e) (k z hz y ih).2
theorem SLots.sub {E : List Int → List Int → Prop} {P : List Int → Prop} (hs : ∀ x y, E x y → E y x) (hE : ∀ x y, E x y → P y) {L M : List (List (List Int))} (h : SLots E P L) (g : SLots E P M) {A : List (List Int)} (hA : A ∈ L) : A ∈ M := by
  obtain ⟨a, ha⟩ := List.exists_mem_of_ne_nil A (h.lots.ne A hA)
  obtain ⟨B, hB, hb⟩ := (g.lots.mem a).mpr ((h.lots.mem a).mp ⟨A, hA, ha⟩)
  have e : A = B := srt_ext (h.srt A hA) (g.srt B hB) fun x => ⟨fun hx => g.lots.stay hE hs hB hb (h.lots.hang A hA a ha x hx), fun hx => h.lots.stay hE hs hA ha (g.lots.hang B hB a hb x hx)⟩
  rw [e]; exact hB
theorem Lots.nodup {α : Type} {E : α → α → Prop} {P : α → Prop} {L : List (List α)} (h : Lots E P L) : L.Nodup := by
  refine (List.pairwise_iff_getElem.mpr fun i j hi hj lt e => ?_)
  have f := List.pairwise_iff_getElem.mp h.far i j hi hj lt
  obtain ⟨a, ha⟩ := List.exists_mem_of_ne_nil _ (h.ne _ (List.getElem_mem hi))
  exact (f a ha a (by rw [← e]; exact ha)).1 rfl
/-- whatever lots there are: sorted they are the same -/
theorem SLots.same {E : List Int → List Int → Prop} {P : List Int → Prop} (hs : ∀ x y, E x y → E y x) (hE : ∀ x y, E x y → P y) {L M : List (List (List Int))} (h : SLots E P L) (g : SLots E P M) : L.mergeSort leH = M.mergeSort leH :=
  sort_eq2 g.lots.nodup h.lots.nodup fun _ => ⟨fun q => h.sub hs hE g q, fun q => g.sub hs hE h q⟩
theorem sort_lt {A : List (List Int)} (nd : A.Nodup) : (A.mergeSort leH).Pairwise (· < ·) := by
  rw [leH_rows]
  have s := List.pairwise_mergeSort (le := fun p q : List Int => decide (p ≤ q)) (fun a b c h1 h2 => decide_eq_true (List.le_trans (of_decide_eq_true h1) (of_decide_eq_true h2))) (fun a b => by
    rcases List.le_total a b with z | z
    · rw [decide_eq_true z]; rfl
    · rw [decide_eq_true z, Bool.or_true]) A
  have nd2 : (A.mergeSort fun p q => decide (p ≤ q)).Nodup := (List.mergeSort_perm A _).nodup_iff.mpr nd
  refine (s.and nd2).imp fun {a b} q => ?_
  have le := of_decide_eq_true q.1
  rcases Classical.em (a < b) with z | z
  · exact z
  · exact absurd (List.le_antisymm le (List.not_lt.mp z)) q.2
/-- each lot sorted -/
theorem Lots.sorted {E : List Int → List Int → Prop} {P : List Int → Prop} {L : List (List (List Int))} (h : Lots E P L) (nd : ∀ A ∈ L, A.Nodup) : SLots E P (L.map fun A => A.mergeSort leH) := by
  have mm : ∀ (A : List (List Int)) (x : List Int), x ∈ A.mergeSort leH ↔ x ∈ A := fun A x => (List.mergeSort_perm A leH).mem_iff
  refine ⟨⟨fun B hB => ?_, fun x => ?_, fun B hB x hx y hy => ?_, ?_⟩, fun B hB => ?_⟩
  · obtain ⟨A, hA, rfl⟩ := List.mem_map.mp hB
    intro q
    obtain ⟨a, ha⟩ := List.exists_mem_of_ne_nil _ (h.ne A hA)
    have := (mm A a).mpr ha
    rw [q] at this; cases this
  · rw [← h.mem x]
    constructor
    · rintro ⟨B, hB, hx⟩
      obtain ⟨A, hA, rfl⟩ := List.mem_map.mp hB
      exact ⟨A, hA, (mm A x).mp hx⟩
    · rintro ⟨A, hA, hx⟩
      exact ⟨_, List.mem_map.mpr ⟨A, hA, rfl⟩, (mm A x).mpr hx⟩
  · obtain ⟨A, hA, rfl⟩ := List.mem_map.mp hB
    exact h.hang A hA x ((mm A x).mp hx) y ((mm A y).mp hy)
  · refine List.pairwise_map.mpr (h.far.imp fun {A B} q a ha b hb => q a ((mm A a).mp ha) b ((mm B b).mp hb))
  · obtain ⟨A, hA, rfl⟩ := List.mem_map.mp hB
    exact sort_lt (nd A hA)
theorem Lots.perm {α : Type} {E : α → α → Prop} {P : α → Prop} (hs : ∀ x y, E x y → E y x) {L M : List (List α)} (p : L.Perm M) (h : Lots E P L) : Lots E P M := by
  refine ⟨fun A hA => h.ne A (p.mem_iff.mpr hA), fun x => ?_, fun A hA => h.hang A (p.mem_iff.mpr hA), ?_⟩
  · rw [← h.mem x]
    exact ⟨fun ⟨A, a, b⟩ => ⟨A, p.mem_iff.mpr a, b⟩, fun ⟨A, a, b⟩ => ⟨A, p.mem_iff.mp a, b⟩⟩
  · exact (p.pairwise_iff (fun {A B} q b hb a ha => ⟨fun z => (q a ha b hb).1 z.symm, fun z => (q a ha b hb).2 (hs _ _ z)⟩)).mp h.far
/-- the lots of what is moved one to one -/
theorem Lots.moved {α β : Type} {E : α → α → Prop} {F : β → β → Prop} {P : α → Prop} {Q : β → Prop} (f : α → β) (inj : ∀ x y, f x = f y → x = y) (he : ∀ x y, F (f x) (f y) ↔ E x y) (hq : ∀ y, Q y ↔ ∃ x, P x ∧ f x = y) {L : List (List α)} (h : Lots E P L) : Lots F Q (L.map (List.map f)) := by
  refine ⟨fun B hB => ?_, fun y => ?_, fun B hB x hx y hy => ?_, ?_⟩
  · obtain ⟨A, hA, rfl⟩ := List.mem_map.mp hB
    intro q
    exact h.ne A hA (List.map_eq_nil_iff.mp q)
  · rw [hq]
    constructor
    · rintro ⟨B, hB, hy⟩
      obtain ⟨A, hA, rfl⟩ := List.mem_map.mp hB
      obtain ⟨x, hx, rfl⟩ := List.mem_map.mp hy
      exact ⟨x, (h.mem x).mp ⟨A, hA, hx⟩, rfl⟩
    · rintro ⟨x, hx, rfl⟩
      obtain ⟨A, hA, ha⟩ := (h.mem x).mpr hx
      exact ⟨_, List.mem_map.mpr ⟨A, hA, rfl⟩, List.mem_map.mpr ⟨x, ha, rfl⟩⟩
  · obtain ⟨A, hA, rfl⟩ := List.mem_map.mp hB
    obtain ⟨a, ha, rfl⟩ := List.mem_map.mp hx
    obtain ⟨b, hb, rfl⟩ := List.mem_map.mp hy
    exact hang_map f (fun x y e => (he x y).mpr e) (h.hang A hA a ha b hb)
  · refine List.pairwise_map.mpr (h.far.imp fun {A B} q a' ha b' hb => ?_)
    obtain ⟨a, ha2, rfl⟩ := List.mem_map.mp ha
    obtain ⟨b, hb2, rfl⟩ := List.mem_map.mp hb
    exact ⟨fun z => (q a ha2 b hb2).1 (inj _ _ z), fun z => (q a ha2 b hb2).2 ((he _ _).mp z)⟩

theorem flat_perm {α : Type} (p : List α → Bool) : ∀ L : List (List α), ((L.filter fun A => !p A).flatten ++ (L.filter p).flatten).Perm L.flatten
  | [] => List.Perm.refl _
  | A :: L => by
    have ih := flat_perm p L
    cases e : p A with
    | true =>
      rw [List.filter_cons_of_neg (by rw [e]; decide), List.filter_cons_of_pos e, List.flatten_cons, List.flatten_cons]
      refine List.Perm.trans ?_ (ih.append_left A)
      rw [← List.append_assoc, ← List.append_assoc]
      exact (List.perm_append_comm).append_right _
    | false =>
      rw [List.filter_cons_of_pos (by rw [e]; rfl), List.filter_cons_of_neg (by rw [e]; decide), List.flatten_cons, List.flatten_cons, List.append_assoc]
      exact ih.append_left A
theorem flat_turn {α : Type} (p : List α → Bool) {L : List (List α)} {W : List α} {x : α} {M : List α} (h : L.flatten.Perm W) (hM : M.Perm (x :: (L.filter p).flatten)) : ((L.filter fun A => !p A) ++ [M]).flatten.Perm (W ++ [x]) := by
  rw [List.flatten_append, List.flatten_singleton]
  refine (hM.append_left _).trans ?_
  refine (List.perm_middle).trans ?_
  refine List.Perm.trans ?_ (List.perm_append_comm)
  exact List.Perm.cons x ((flat_perm p L).trans h)
theorem nodup_of_flat {α : Type} {L : List (List α)} (h : L.flatten.Nodup) {A : List α} (hA : A ∈ L) : A.Nodup := (List.sublist_flatten_of_mem hA).nodup h
theorem len_flat {α : Type} : ∀ {L : List (List α)}, (∀ A ∈ L, A ≠ []) → L.length ≤ L.flatten.length
  | [], _ => Nat.le_refl _
  | A :: L, h => by
    have ih := len_flat (L := L) fun B hB => h B (List.mem_cons_of_mem _ hB)
    have := List.length_pos_iff.mpr (h A List.mem_cons_self)
    rw [List.flatten_cons, List.length_cons, List.length_append]
    omega
/-- reversed ways -/
theorem mt_rev {w v : List Int} (h : w.length = v.length) : Mt w.reverse v.reverse ↔ Mt w v := by
  have one : ∀ {w v : List Int}, w.length = v.length → Mt w v → Mt w.reverse v.reverse := fun {w v} h ⟨i, p, q, a, b, c, d⟩ => ⟨w.length - 1 - i, p, q, rev_at a, by rw [h]; exact rev_at b, c, d⟩
  refine ⟨fun z => ?_, one h⟩
  have := one (by rw [List.length_reverse, List.length_reverse]; exact h) z
  rwa [List.reverse_reverse, List.reverse_reverse] at this
theorem mtw_rev {cs : List Int} {n : Int} (w v : List Int) : MtW cs.reverse n w.reverse v.reverse ↔ MtW cs n w v := by
  unfold MtW
  rw [isWay_rev, isWay_rev]
  constructor
  · rintro ⟨a, b, c⟩
    exact ⟨(mt_rev (by rw [b.1, c.1])).mp a, b, c⟩
  · rintro ⟨a, b, c⟩
    exact ⟨(mt_rev (by rw [b.1, c.1])).mpr a, b, c⟩

theorem sort_flat (L : List (List (List Int))) : (L.map fun A => A.mergeSort leH).flatten.Perm L.flatten := by
  induction L with
  | nil => exact List.Perm.refl _
  | cons A L ih =>
    rw [List.map_cons, List.flatten_cons, List.flatten_cons]
    exact (List.mergeSort_perm A leH).append ih

/-- every lot sorted -/
abbrev sortL (L : List (List (List Int))) : List (List (List Int)) := L.map fun A => A.mergeSort leH
end K21

namespace K21
open Fp
theorem gl_mul {cs : List Int} {f : Int} (hf : 0 ≤ f) : gl (cs.map (· * f)) = gl cs * f := by
  have key : ∀ (cs : List Int) (g : Int), (cs.map (· * f)).foldl gstep (g * f) = cs.foldl gstep g * f := fun cs => by
    induction cs with
    | nil => intro g; rfl
    | cons c cs ih =>
      intro g
      rw [List.map_cons, List.foldl_cons, List.foldl_cons, ← ih]
      congr 1
      unfold gstep
      rw [Int.natAbs_mul, Int.natAbs_mul, Nat.gcd_mul_right, Int.natCast_mul, Int.natAbs_of_nonneg hf]
  have := key cs 0
  rw [Int.zero_mul] at this
  exact this
theorem srt_mul {R : List Int} {f : Int} (hf : 0 < f) (h : R.Pairwise (· < ·)) : (R.map (· * f)).Pairwise (· < ·) := List.pairwise_map.mpr (h.imp fun {a b} q => Int.mul_lt_mul_of_pos_right q hf)
theorem mul_inj {a b f : Int} (hf : 0 < f) (e : a * f = b * f) : a = b := Int.eq_of_mul_eq_mul_right (by omega) e
theorem isL_mul {cs R : List Int} {f : Int} (hf : 0 < f) (h : IsL cs R) : IsL (cs.map (· * f)) (R.map (· * f)) := by
  refine ⟨srt_mul hf h.srt, fun x => ?_⟩
  have key : ∀ y : Int, Rch (fun c => c ∈ cs.map (· * f) ∧ c < y * f) (y * f) ↔ Rch (fun c => c ∈ cs ∧ c < y) y := fun y => by
    have e1 : (fun c => c ∈ cs.map (· * f) ∧ c < y * f) = (· ∈ (cs.filter fun c => decide (c < y)).map (· * f)) := by
      funext c
      refine propext ⟨fun ⟨h1, h2⟩ => ?_, fun h1 => ?_⟩
      · obtain ⟨d, hd, rfl⟩ := List.mem_map.mp h1
        exact List.mem_map.mpr ⟨d, List.mem_filter.mpr ⟨hd, decide_eq_true (Int.lt_of_mul_lt_mul_right h2 (by omega))⟩, rfl⟩
      · obtain ⟨d, hd, rfl⟩ := List.mem_map.mp h1
        obtain ⟨a, b⟩ := List.mem_filter.mp hd
        exact ⟨List.mem_map.mpr ⟨d, a, rfl⟩, Int.mul_lt_mul_of_pos_right (of_decide_eq_true b) hf⟩
    have e2 : (fun c => c ∈ cs ∧ c < y) = (· ∈ cs.filter fun c => decide (c < y)) := by
      funext c
      refine propext ⟨fun ⟨h1, h2⟩ => List.mem_filter.mpr ⟨h1, decide_eq_true h2⟩, fun h1 => ?_⟩
      obtain ⟨a, b⟩ := List.mem_filter.mp h1
      exact ⟨a, of_decide_eq_true b⟩
    rw [e1, e2, rch_mul]
    exact ⟨fun ⟨m, a, b⟩ => by have e := mul_inj hf a; subst e; exact b, fun z => ⟨y, rfl, z⟩⟩
  constructor
  · intro hx
    obtain ⟨y, hy, rfl⟩ := List.mem_map.mp hx
    obtain ⟨a, b⟩ := (h.mem y).mp hy
    exact ⟨List.mem_map.mpr ⟨y, a, rfl⟩, fun z => b ((key y).mp z)⟩
  · rintro ⟨hx, hn⟩
    obtain ⟨y, hy, rfl⟩ := List.mem_map.mp hx
    exact List.mem_map.mpr ⟨y, (h.mem y).mpr ⟨hy, fun z => hn ((key y).mpr z)⟩, rfl⟩
theorem mb_not_mul {cs : List Int} {m f : Int} (hf : 2 ≤ f) : mb (cs.map (· * f)) (m * f + 1) = false := by
  refine mb_false.mpr fun r => ?_
  obtain ⟨k, e, _⟩ := rch_mul.mp r
  have e2 : (k - m) * f = 1 := by rw [Int.sub_mul]; omega
  have d : f ∣ 1 := ⟨k - m, by rw [Int.mul_comm]; exact e2.symm⟩
  have := Int.le_of_dvd (by decide) d
  omega
theorem dot_mul {f : Int} : ∀ (w cs : List Int), dot w (cs.map (· * f)) = dot w cs * f
  | [], cs => by simp [dot]
  | x :: w, [] => by simp [dot]
  | x :: w, c :: cs => by
    have ih := dot_mul (f := f) w cs
    show x * (c * f) + dot w (cs.map (· * f)) = (x * c + dot w cs) * f
    rw [ih, Int.add_mul, Int.mul_assoc]
theorem isWay_mul {cs : List Int} {m f : Int} (hf : 0 < f) (w : List Int) : IsWay (cs.map (· * f)) (m * f) w ↔ IsWay cs m w := by
  unfold IsWay
  rw [dot_mul, List.length_map]
  exact ⟨fun ⟨a, b, c⟩ => ⟨a, b, mul_inj hf c⟩, fun ⟨a, b, c⟩ => ⟨a, b, by rw [c]⟩⟩
theorem pos_mul {cs : List Int} {f : Int} (hf : 0 < f) (hp : Pos cs) : Pos (cs.map (· * f)) := fun c hc => by
  obtain ⟨d, hd, rfl⟩ := List.mem_map.mp hc
  exact Int.mul_pos (hp d hd) hf
theorem ways_mul {cs : List Int} {m f : Int} (hf : 0 < f) (hp : Pos cs) : waysL (cs.map (· * f)) (m * f) = waysL cs m :=
  srt_ext waysL_sorted waysL_sorted fun w => by rw [mem_waysL (pos_mul hf hp), mem_waysL hp, isWay_mul hf]
theorem slots_mul {cs : List Int} {m f : Int} (hf : 0 < f) {L : List (List (List Int))} (h : SLots (MtW (cs.map (· * f)) (m * f)) (IsWay (cs.map (· * f)) (m * f)) L) : SLots (MtW cs m) (IsWay cs m) L := by
  have e1 : IsWay (cs.map (· * f)) (m * f) = IsWay cs m := by funext w; exact propext (isWay_mul hf w)
  have e2 : MtW (cs.map (· * f)) (m * f) = MtW cs m := by
    funext w v
    unfold MtW
    rw [e1]
  rw [e1, e2] at h
  exact h
/-! ### one more count, that is met -/
theorem mb_more {cs ds : List Int} {b : Int} (hb : Rch (· ∈ cs) b) (hm : ∀ x, x ∈ ds ↔ x ∈ cs ∨ x = b) (n : Int) : mb ds n = mb cs n := mb_congr (rch_more hb hm n)
theorem gl_plus {cs : List Int} {b : Int} (h : gl cs ∣ b) : gl (cs ++ [b]) = gl cs := by
  have h0 := gl_nonneg cs
  have e : gl (cs ++ [b]) = gstep (gl cs) b := by unfold gl; rw [List.foldl_append]; rfl
  rw [e]
  unfold gstep
  rw [Nat.gcd_eq_left (Int.natAbs_dvd_natAbs.mpr h)]
  omega
theorem dot_more : ∀ {w cs : List Int} (x c : Int), w.length = cs.length → dot (w ++ [x]) (cs ++ [c]) = dot w cs + x * c := fun x c h => by
  rw [dot_app [x] [c] h]
  show _ + (x * c + 0) = _
  omega
theorem isWay_more {cs w : List Int} {n x b : Int} : IsWay (cs ++ [b]) n (w ++ [x]) ↔ 0 ≤ x ∧ IsWay cs (n - x * b) w := by
  unfold IsWay
  constructor
  · rintro ⟨a, c, d⟩
    have l : w.length = cs.length := by simpa using a
    rw [dot_more x b l] at d
    exact ⟨c x (by simp), l, fun y hy => c y (by simp [hy]), by omega⟩
  · rintro ⟨x0, a, c, d⟩
    refine ⟨by simp [a], fun y hy => ?_, by rw [dot_more x b a]; omega⟩
    rcases List.mem_append.mp hy with z | z
    · exact c y z
    · rw [List.mem_singleton.mp z]; exact x0
end K21

namespace K21
open Fp
theorem lex_app : ∀ {u v : List Int} {x y : Int}, u.length = v.length → (u ++ [x] < v ++ [y] ↔ u < v ∨ (u = v ∧ x < y))
  | [], [], x, y, _ => by simp [List.cons_lt_cons_iff]
  | [], _ :: _, _, _, h => by cases h
  | _ :: _, [], _, _, h => by cases h
  | a :: u, b :: v, x, y, h => by
    have ih := lex_app (u := u) (v := v) (x := x) (y := y) (by simpa using h)
    rw [List.cons_append, List.cons_append, List.cons_lt_cons_iff, List.cons_lt_cons_iff, ih]
    constructor
    · rintro (z | ⟨rfl, z | ⟨rfl, z⟩⟩)
      · exact .inl (.inl z)
      · exact .inl (.inr ⟨rfl, z⟩)
      · exact .inr ⟨rfl, z⟩
    · rintro ((z | ⟨rfl, z⟩) | ⟨e, z⟩)
      · exact .inl z
      · exact .inr ⟨rfl, .inl z⟩
      · obtain ⟨rfl, rfl⟩ := List.cons.inj e
        exact .inr ⟨rfl, .inr ⟨rfl, z⟩⟩
def la (w : List Int) : Int := w.getLastD 0
theorem la_app (u : List Int) (x : Int) : la (u ++ [x]) = x := by
  unfold la
  rw [List.getLastD_eq_getLast?, List.getLast?_append]; rfl
theorem shape {cs : List Int} {b n : Int} {w : List Int} (h : IsWay (cs ++ [b]) n w) : ∃ u x, w = u ++ [x] ∧ u.length = cs.length ∧ 0 ≤ x := by
  rcases List.eq_nil_or_concat w with e | ⟨u, x, e⟩
  · have := h.1
    rw [e] at this; simp at this
  · rw [List.concat_eq_append] at e
    subst e
    have l := h.1
    exact ⟨u, x, rfl, by simpa using l, h.2.1 x (by simp)⟩
theorem pos_more {cs : List Int} {b : Int} (hp : Pos cs) (hb : 0 < b) : Pos (cs ++ [b]) := fun c hc => by
  rcases List.mem_append.mp hc with z | z
  · exact hp c z
  · rw [List.mem_singleton.mp z]; exact hb
/-- the ways without the last count -/
theorem keep0 {cs : List Int} {b m : Int} (hp : Pos cs) (hb : 0 < b) : ((waysL (cs ++ [b]) m).filter fun w => decide (la w = 0)).map List.dropLast = waysL cs m := by
  have hq := pos_more hp hb
  refine srt_ext (List.pairwise_map.mpr ((waysL_sorted.filter _).imp_of_mem fun {a c} ha hc q => ?_)) waysL_sorted fun u => ?_
  · obtain ⟨ha1, ha2⟩ := List.mem_filter.mp ha
    obtain ⟨hc1, hc2⟩ := List.mem_filter.mp hc
    obtain ⟨u, x, rfl, lu, _⟩ := shape ((mem_waysL hq).mp ha1)
    obtain ⟨v, y, rfl, lv, _⟩ := shape ((mem_waysL hq).mp hc1)
    have ha2 := of_decide_eq_true ha2
    have hc2 := of_decide_eq_true hc2
    rw [la_app] at ha2 hc2
    rw [List.dropLast_concat, List.dropLast_concat]
    rcases (lex_app (by omega)).mp q with z | ⟨_, z⟩
    · exact z
    · omega
  · rw [List.mem_map, mem_waysL hp]
    constructor
    · rintro ⟨w, hw, rfl⟩
      obtain ⟨h1, h2⟩ := List.mem_filter.mp hw
      have h1 := (mem_waysL hq).mp h1
      obtain ⟨u, x, rfl, lu, _⟩ := shape h1
      have h2 := of_decide_eq_true h2
      rw [la_app] at h2
      subst h2
      rw [List.dropLast_concat]
      have := (isWay_more.mp h1).2
      rwa [Int.zero_mul, Int.sub_zero] at this
    · intro h
      refine ⟨u ++ [0], List.mem_filter.mpr ⟨(mem_waysL hq).mpr (isWay_more.mpr ⟨Int.le_refl _, by rw [Int.zero_mul, Int.sub_zero]; exact h⟩), decide_eq_true (la_app _ _)⟩, List.dropLast_concat⟩
/-- the ways with one of the last count less -/
theorem keep1 {cs : List Int} {b m : Int} (hp : Pos cs) (hb : 0 < b) : ((waysL (cs ++ [b]) m).filter fun w => decide (0 < la w)).map (fun w => w.dropLast ++ [la w - 1]) = waysL (cs ++ [b]) (m - b) := by
  have hq := pos_more hp hb
  refine srt_ext (List.pairwise_map.mpr ((waysL_sorted.filter _).imp_of_mem fun {a c} ha hc q => ?_)) waysL_sorted fun u => ?_
  · obtain ⟨ha1, ha2⟩ := List.mem_filter.mp ha
    obtain ⟨hc1, hc2⟩ := List.mem_filter.mp hc
    obtain ⟨u, x, rfl, lu, _⟩ := shape ((mem_waysL hq).mp ha1)
    obtain ⟨v, y, rfl, lv, _⟩ := shape ((mem_waysL hq).mp hc1)
    rw [List.dropLast_concat, List.dropLast_concat, la_app, la_app]
    refine (lex_app (by omega)).mpr ?_
    rcases (lex_app (by omega)).mp q with z | ⟨z1, z⟩
    · exact .inl z
    · exact .inr ⟨z1, by omega⟩
  · rw [List.mem_map, mem_waysL hq]
    constructor
    · rintro ⟨w, hw, rfl⟩
      obtain ⟨h1, h2⟩ := List.mem_filter.mp hw
      have h1 := (mem_waysL hq).mp h1
      obtain ⟨u, x, rfl, lu, _⟩ := shape h1
      have h2 := of_decide_eq_true h2
      rw [la_app] at h2 ⊢
      rw [List.dropLast_concat]
      refine isWay_more.mpr ⟨by omega, ?_⟩
      have := (isWay_more.mp h1).2
      rwa [show m - b - (x - 1) * b = m - x * b by rw [Int.sub_mul, Int.one_mul]; omega]
    · intro h
      obtain ⟨v, x, rfl, lv, x0⟩ := shape h
      refine ⟨v ++ [x + 1], List.mem_filter.mpr ⟨(mem_waysL hq).mpr (isWay_more.mpr ⟨by omega, ?_⟩), decide_eq_true (by rw [la_app]; omega)⟩, ?_⟩
      · have := (isWay_more.mp h).2
        rwa [show m - (x + 1) * b = m - b - x * b by rw [Int.add_mul, Int.one_mul]; omega]
      · rw [List.dropLast_concat, la_app, Int.add_sub_cancel]
end K21

namespace K21
open Fp
/-- the entries at told places -/
def pm (pl : List Nat) (l : List Int) : List Int := pl.map fun i => l.getD i 0
theorem pm_len (pl : List Nat) (l : List Int) : (pm pl l).length = pl.length := List.length_map _
theorem pm_at {pl : List Nat} {l : List Int} {k i : Nat} (h : pl[k]? = some i) (hi : i < l.length) : (pm pl l)[k]? = l[i]? := by
  unfold pm
  rw [List.getElem?_map, h]
  show some (l.getD i 0) = l[i]?
  rw [List.getD_eq_getElem?_getD, List.getElem?_eq_getElem hi]; rfl
theorem sum_perm {l m : List Int} (h : l.Perm m) : l.sum = m.sum := by
  induction h with
  | nil => rfl
  | cons x _ ih => rw [List.sum_cons, List.sum_cons, ih]
  | swap x y l => simp only [List.sum_cons]; omega
  | trans _ _ a b => exact a.trans b
theorem dot_pm (w cs : List Int) : ∀ pl : List Nat, dot (pm pl w) (pm pl cs) = (pl.map fun i => w.getD i 0 * cs.getD i 0).sum
  | [] => by simp [dot, pm]
  | i :: pl => by
    have ih := dot_pm w cs pl
    show w.getD i 0 * cs.getD i 0 + dot (pm pl w) (pm pl cs) = _
    rw [ih, List.map_cons, List.sum_cons]
theorem dot_range : ∀ {w cs : List Int}, w.length = cs.length → ((List.range cs.length).map fun i => w.getD i 0 * cs.getD i 0).sum = dot w cs
  | [], [], _ => by simp [dot]
  | [], _ :: _, h => by cases h
  | _ :: _, [], h => by cases h
  | x :: w, c :: cs, h => by
    have ih := dot_range (w := w) (cs := cs) (by simpa using h)
    rw [List.length_cons, List.range_succ_eq_map, List.map_cons, List.sum_cons, List.map_map]
    show x * c + _ = x * c + dot w cs
    rw [← ih]
    congr 1
structure Places (pl : List Nat) (n : Nat) : Prop where
  perm : pl.Perm (List.range n)
theorem Places.len {pl : List Nat} {n : Nat} (h : Places pl n) : pl.length = n := by rw [h.perm.length_eq, List.length_range]
theorem Places.mem {pl : List Nat} {n : Nat} (h : Places pl n) {i : Nat} : i ∈ pl ↔ i < n := by rw [h.perm.mem_iff, List.mem_range]
theorem Places.nodup {pl : List Nat} {n : Nat} (h : Places pl n) : pl.Nodup := h.perm.nodup_iff.mpr List.nodup_range
theorem dot_places {w cs : List Int} {pl : List Nat} (h : Places pl cs.length) (l : w.length = cs.length) : dot (pm pl w) (pm pl cs) = dot w cs := by
  rw [dot_pm, ← dot_range l]
  exact sum_perm (h.perm.map _)
theorem pm_mem {pl : List Nat} {l : List Int} (h : Places pl l.length) (x : Int) : x ∈ pm pl l ↔ x ∈ l := by
  unfold pm
  rw [List.mem_map]
  constructor
  · rintro ⟨i, hi, rfl⟩
    have := h.mem.mp hi
    rw [List.getD_eq_getElem?_getD, List.getElem?_eq_getElem this]
    exact List.getElem_mem this
  · intro hx
    obtain ⟨i, hi⟩ := List.getElem?_of_mem hx
    refine ⟨i, h.mem.mpr (List.getElem?_eq_some_iff.mp hi).1, ?_⟩
    rw [List.getD_eq_getElem?_getD, hi]; rfl
theorem isWay_pm {cs w : List Int} {m : Int} {pl : List Nat} (h : Places pl cs.length) (l : w.length = cs.length) : IsWay (pm pl cs) m (pm pl w) ↔ IsWay cs m w := by
  unfold IsWay
  rw [dot_places h l, pm_len, pm_len]
  constructor
  · rintro ⟨_, b, c⟩
    exact ⟨l, fun x hx => b x ((pm_mem (by rw [l]; exact h) x).mpr hx), c⟩
  · rintro ⟨_, b, c⟩
    exact ⟨rfl, fun x hx => b x ((pm_mem (by rw [l]; exact h) x).mp hx), c⟩
theorem pm_inj {pl : List Nat} {n : Nat} (h : Places pl n) {w v : List Int} (lw : w.length = n) (lv : v.length = n) (e : pm pl w = pm pl v) : w = v := by
  refine List.ext_getElem? fun i => ?_
  by_cases hi : i < n
  · obtain ⟨k, hk⟩ := List.getElem?_of_mem (h.mem.mpr hi)
    rw [← pm_at hk (by omega), ← pm_at hk (by omega), e]
  · rw [List.getElem?_eq_none (by omega), List.getElem?_eq_none (by omega)]
theorem pm_onto {pl : List Nat} {n : Nat} (h : Places pl n) {v : List Int} (lv : v.length = n) : ∃ w : List Int, w.length = n ∧ pm pl w = v := by
  refine ⟨(List.range n).map fun i => v.getD (pl.idxOf i) 0, by rw [List.length_map, List.length_range], ?_⟩
  refine List.ext_getElem? fun k => ?_
  by_cases hk : k < n
  · have hkp : k < pl.length := by rw [h.len]; exact hk
    have e := List.getElem?_eq_getElem hkp
    have hi := h.mem.mp (List.mem_of_getElem? e)
    rw [pm_at e (by rw [List.length_map, List.length_range]; exact hi), List.getElem?_map, List.getElem?_range hi]
    show some (v.getD (pl.idxOf (pl[k])) 0) = v[k]?
    rw [h.nodup.idxOf_getElem, List.getD_eq_getElem?_getD, List.getElem?_eq_getElem (show k < v.length by omega)]; rfl
  · rw [List.getElem?_eq_none (by rw [pm_len, h.len]; omega), List.getElem?_eq_none (by omega)]
theorem pos_pm {cs : List Int} {pl : List Nat} (h : Places pl cs.length) (hp : Pos cs) : Pos (pm pl cs) := fun c hc => hp c ((pm_mem h c).mp hc)
/-- the ways of the counts in another sequence -/
theorem ways_pm {cs : List Int} {m : Int} {pl : List Nat} (h : Places pl cs.length) (hp : Pos cs) : ((waysL cs m).map (pm pl)).mergeSort leH = waysL (pm pl cs) m := by
  refine sort_eq waysL_sorted (List.pairwise_map.mpr ((nodup_lt waysL_sorted).imp_of_mem fun {a b} ha hb q e => q (pm_inj h ((mem_waysL hp).mp ha).1 ((mem_waysL hp).mp hb).1 e))) fun w => ?_
  rw [List.mem_map, mem_waysL (pos_pm h hp)]
  constructor
  · rintro ⟨v, hv, rfl⟩
    have hv := (mem_waysL hp).mp hv
    exact (isWay_pm h hv.1).mpr hv
  · intro hw
    obtain ⟨v, lv, e⟩ := pm_onto h (v := w) (by rw [hw.1, pm_len, h.len])
    refine ⟨v, (mem_waysL hp).mpr ((isWay_pm h lv).mp ?_), e⟩
    rw [e]; exact hw
theorem tn_pm {cs : List Int} {n : Int} {pl : List Nat} (h : Places pl cs.length) : Tn (pm pl cs) n ↔ Tn cs n := by
  have at1 : ∀ {k : Nat} {c : Int}, (pm pl cs)[k]? = some c → ∃ i, pl[k]? = some i ∧ cs[i]? = some c := fun {k c} e => by
    have hk : k < pl.length := by
      have := (List.getElem?_eq_some_iff.mp e).1
      rwa [pm_len] at this
    have e2 := List.getElem?_eq_getElem hk
    have hi := h.mem.mp (List.mem_of_getElem? e2)
    exact ⟨_, e2, by rw [← pm_at e2 hi]; exact e⟩
  have at2 : ∀ {i : Nat} {c : Int}, cs[i]? = some c → (pm pl cs)[pl.idxOf i]? = some c := fun {i c} e => by
    have hi := (List.getElem?_eq_some_iff.mp e).1
    have mi := h.mem.mpr hi
    have hk := List.idxOf_lt_length_of_mem mi
    have e2 : pl[pl.idxOf i]? = some i := by rw [List.getElem?_eq_getElem hk, List.getElem_idxOf]
    rw [pm_at e2 hi]; exact e
  have a1 : ∀ k l, Ad (pm pl cs) n k l → Ad cs n (pl.getD k 0) (pl.getD l 0) := fun k l ⟨c, d, hc, hd, hm⟩ => by
    obtain ⟨i, ei, hi⟩ := at1 hc
    obtain ⟨j, ej, hj⟩ := at1 hd
    rw [List.getD_eq_getElem?_getD, List.getD_eq_getElem?_getD, ei, ej]
    refine ⟨c, d, hi, hj, ?_⟩
    rwa [mb_congr (rch_congr (pm_mem h) _)] at hm
  have a2 : ∀ i j, Ad cs n i j → Ad (pm pl cs) n (pl.idxOf i) (pl.idxOf j) := fun i j ⟨c, d, hc, hd, hm⟩ => by
    refine ⟨c, d, at2 hc, at2 hd, ?_⟩
    rwa [mb_congr (rch_congr (pm_mem h) _)]
  constructor
  · rintro ⟨x, y, ⟨c, hc, mc⟩, ⟨d, hd, md⟩, hn⟩
    obtain ⟨i, ei, hi⟩ := at1 hc
    obtain ⟨j, ej, hj⟩ := at1 hd
    rw [mb_congr (rch_congr (pm_mem h) _)] at mc md
    refine ⟨i, j, ⟨c, hi, mc⟩, ⟨d, hj, md⟩, fun g => hn ?_⟩
    have g2 := hang_map (F := Ad (pm pl cs) n) pl.idxOf a2 g
    have b1 : pl.idxOf i = x := by
      obtain ⟨hx, rfl⟩ := List.getElem?_eq_some_iff.mp ei
      exact h.nodup.idxOf_getElem _ _
    have b2 : pl.idxOf j = y := by
      obtain ⟨hy, rfl⟩ := List.getElem?_eq_some_iff.mp ej
      exact h.nodup.idxOf_getElem _ _
    rw [b1, b2] at g2
    exact g2
  · rintro ⟨i, j, ⟨c, hc, mc⟩, ⟨d, hd, md⟩, hn⟩
    refine ⟨pl.idxOf i, pl.idxOf j, ⟨c, at2 hc, by rwa [mb_congr (rch_congr (pm_mem h) _)]⟩, ⟨d, at2 hd, by rwa [mb_congr (rch_congr (pm_mem h) _)]⟩, fun g => hn ?_⟩
    have g2 := hang_map (F := Ad cs n) (fun k => pl.getD k 0) a1 g
    have bk : ∀ i, i < cs.length → pl.getD (pl.idxOf i) 0 = i := fun i hi => by
      have hk := List.idxOf_lt_length_of_mem (h.mem.mpr hi)
      rw [List.getD_eq_getElem?_getD, List.getElem?_eq_getElem hk, List.getElem_idxOf]; rfl
    have g3 : Hang (Ad cs n) (pl.getD (pl.idxOf i) 0) (pl.getD (pl.idxOf j) 0) := g2
    rw [bk i (List.getElem?_eq_some_iff.mp hc).1, bk j (List.getElem?_eq_some_iff.mp hd).1] at g3
    exact g3
theorem turn_pm {cs R : List Int} {pl : List Nat} (h : Places pl cs.length) (t : TurnOf cs R) : TurnOf (pm pl cs) R := ⟨t.srt, fun n => by rw [t.mem, tn_pm h]⟩
theorem cons_erase {α : Type} : ∀ {l : List α} {i : Nat} {c : α}, l[i]? = some c → (c :: l.eraseIdx i).Perm l
  | [], i, c, h => by simp at h
  | x :: l, 0, c, h => by
    obtain rfl : x = c := by simpa using h
    exact List.Perm.refl _
  | x :: l, i + 1, c, h => by
    have h' : l[i]? = some c := by simpa using h
    exact (List.Perm.swap x c _).trans ((cons_erase h').cons x)
theorem er_map {α β : Type} (f : α → β) : ∀ (l : List α) (k : Nat), (l.map f).eraseIdx k = (l.eraseIdx k).map f
  | [], k => by simp
  | x :: l, 0 => by simp
  | x :: l, k + 1 => by
    have := er_map f l k
    simpa using this
theorem pm_take {A : List Nat} {j i : Nat} (l : List Int) (h : A[j]? = some i) (hi : i < l.length) : pm (A.take (j + 1)) l = pm (A.take j) l ++ [l[i]] := by
  unfold pm
  rw [take_one h, List.map_append]
  show _ ++ [l.getD i 0] = _
  rw [List.getD_eq_getElem?_getD, List.getElem?_eq_getElem hi]; rfl
end K21

namespace K21
open Fp
/-- a way with the count at s told twice: k of the first, the rest of the second -/
def twk (s : Nat) (w : List Int) (k : Nat) : List Int := w.set s (k : Int) ++ [w.getD s 0 - (k : Int)]
def tws (s : Nat) (w : List Int) : List (List Int) := (List.range (w.getD s 0 + 1).toNat).map (twk s w)
theorem getD_at {w : List Int} {s : Nat} (h : s < w.length) : w[s]? = some (w.getD s 0) := by
  rw [List.getD_eq_getElem?_getD, List.getElem?_eq_getElem h]; rfl
theorem twk_inj {s : Nat} {w v : List Int} {k l : Nat} (lw : s < w.length) (lv : s < v.length) (e : twk s w k = twk s v l) : w = v ∧ k = l := by
  unfold twk at e
  have h := List.append_inj' e rfl
  have e1 := h.1
  have e2 : w.getD s 0 - (k : Int) = v.getD s 0 - (l : Int) := by simpa using h.2
  have a1 : (w.set s (k : Int))[s]? = some (k : Int) := by rw [List.getElem?_set_self lw]
  have a2 : (v.set s (l : Int))[s]? = some (l : Int) := by rw [List.getElem?_set_self lv]
  rw [e1, a2] at a1
  have kl : l = k := by have := Option.some.inj a1; omega
  subst kl
  refine ⟨?_, rfl⟩
  have e3 : w.getD s 0 = v.getD s 0 := by omega
  have r : ∀ u : List Int, s < u.length → (u.set s (l : Int)).set s (u.getD s 0) = u := fun u hu => by
    rw [List.set_set]
    refine List.ext_getElem? fun i => ?_
    by_cases z : i = s
    · subst z
      rw [List.getElem?_set_self hu, getD_at hu]
    · rw [List.getElem?_set_ne (Ne.symm z)]
  rw [← r w lw, ← r v lv, e1, e3]
theorem twice {cs : List Int} {m c : Int} {s : Nat} (hp : Pos cs) (hs : cs[s]? = some c) : ((waysL cs m).flatMap (tws s)).mergeSort leH = waysL (cs ++ [c]) m := by
  have ls := (List.getElem?_eq_some_iff.mp hs).1
  have c0 := hp c (List.mem_of_getElem? hs)
  have hq := pos_more hp c0
  have lenw : ∀ w ∈ waysL cs m, s < w.length := fun w hw => by rw [((mem_waysL hp).mp hw).1]; exact ls
  refine sort_eq waysL_sorted ?_ fun v => ?_
  · refine List.pairwise_flatMap.mpr ⟨fun w hw => ?_, (nodup_lt waysL_sorted).imp_of_mem fun {w v} hw hv ne x hx y hy e => ?_⟩
    · unfold tws
      refine List.pairwise_map.mpr (List.nodup_range.imp fun {k l} ne e => ne (twk_inj (lenw w hw) (lenw w hw) e).2)
    · unfold tws at hx hy
      obtain ⟨k, _, rfl⟩ := List.mem_map.mp hx
      obtain ⟨l, _, rfl⟩ := List.mem_map.mp hy
      exact ne (twk_inj (lenw w hw) (lenw v hv) e).1
  · rw [List.mem_flatMap, mem_waysL hq]
    constructor
    · rintro ⟨w, hw, hv⟩
      unfold tws at hv
      obtain ⟨k, hk, rfl⟩ := List.mem_map.mp hv
      have hk := List.mem_range.mp hk
      have hw' := (mem_waysL hp).mp hw
      have ew := getD_at (lenw w hw)
      refine isWay_more.mpr ⟨by omega, ?_⟩
      have := hw'.set (y := (k : Int)) ew hs (by omega)
      rwa [show m + ((k : Int) - w.getD s 0) * c = m - (w.getD s 0 - (k : Int)) * c by rw [Int.sub_mul, Int.sub_mul]; omega] at this
    · intro h
      obtain ⟨u, x, rfl, lu, x0⟩ := shape h
      have hu := (isWay_more.mp h).2
      have lsu : s < u.length := by omega
      have eu := getD_at lsu
      have u0 := hu.2.1 _ (List.mem_of_getElem? eu)
      have hw := hu.set (y := u.getD s 0 + x) eu hs (by omega)
      rw [show m - x * c + (u.getD s 0 + x - u.getD s 0) * c = m by rw [show u.getD s 0 + x - u.getD s 0 = x by omega]; omega] at hw
      refine ⟨u.set s (u.getD s 0 + x), (mem_waysL hp).mpr hw, ?_⟩
      have g : (u.set s (u.getD s 0 + x)).getD s 0 = u.getD s 0 + x := by rw [List.getD_eq_getElem?_getD, List.getElem?_set_self lsu]; rfl
      unfold tws
      refine List.mem_map.mpr ⟨(u.getD s 0).toNat, List.mem_range.mpr (by rw [g]; omega), ?_⟩
      unfold twk
      rw [g, List.set_set, show (((u.getD s 0).toNat : Nat) : Int) = u.getD s 0 by omega, show u.getD s 0 + x - u.getD s 0 = x by omega]
      congr 1
      refine List.ext_getElem? fun i => ?_
      by_cases z : i = s
      · subst z
        rw [List.getElem?_set_self lsu, eu]
      · rw [List.getElem?_set_ne (Ne.symm z)]
/-- a count that is told twice is a turning count -/
theorem tn_twice {cs : List Int} {c : Int} {s : Nat} (hp : Pos cs) (hs : cs[s]? = some c) : Tn (cs ++ [c]) c := by
  have ls := (List.getElem?_eq_some_iff.mp hs).1
  have c0 := hp c (List.mem_of_getElem? hs)
  have hq := pos_more hp c0
  have e1 : (cs ++ [c])[s]? = some c := by rw [List.getElem?_append_left ls]; exact hs
  have e2 : (cs ++ [c])[cs.length]? = some c := by rw [List.getElem?_append_right (Nat.le_refl _), Nat.sub_self]; rfl
  have z : mb (cs ++ [c]) (c - c) = true := by rw [Int.sub_self]; exact mb_zero
  refine ⟨s, cs.length, ⟨c, e1, z⟩, ⟨c, e2, z⟩, fun g => ?_⟩
  have stay : ∀ y, Hang (Ad (cs ++ [c]) c) s y → y = s := fun y g => by
    induction g with
    | refl => rfl
    | @step y z _ e ih =>
      subst ih
      obtain ⟨c', d, h1, h2, h3⟩ := e
      rw [e1] at h1
      obtain rfl := Option.some.inj h1
      have d0 := hq d (List.mem_of_getElem? h2)
      rw [mb_neg hq (by omega)] at h3
      cases h3
  have := stay _ g
  omega
end K21

namespace K21
open PySem PySem.Spec PyProof.Rows L2 Fp
def top (i : Nat) : Stmt := PySem.Challenge.pw_fromplaces_k28_whole_lists_of_counts_cha.main.body.getD i (.Pass ⟨0, 0, 0, 0⟩)
abbrev sInteger : Stmt := top 8
abbrev sCount : Stmt := top 9
abbrev sList : Stmt := top 10
abbrev sMany : Stmt := top 11
abbrev sCommon : Stmt := top 16
abbrev sIsMet : Stmt := top 17
abbrev sMet : Stmt := top 18
abbrev sLeast : Stmt := top 19
abbrev sLeastOf : Stmt := top 25
abbrev sIsCounts : Stmt := top 20
abbrev sCheck : Stmt := top 21
abbrev sTable : Stmt := top 22
abbrev sNext : Stmt := top 24
/-- what the module's names hold -/
structure Mg (mg : Str → Option Value) : Prop where
  isi : mg "isinstance" = none
  int : mg "int" = none
  bool : mg "bool" = none
  list : mg "list" = none
  tuple : mg "tuple" = none
  len : mg "len" = none
  all : mg "all" = none
  any : mg "any" = none
  range : mg "range" = none
  enum : mg "enumerate" = none
  sorted : mg "sorted" = none
  set : mg "set" = none
  repr : mg "repr" = none
  abs : mg "abs" = none
  max : mg "max" = none
  divmod : mg "divmod" = none
  gcd : mg "gcd" = some (.builtin "math.gcd")
  told : ∃ t, mg "MOST_TOLD" = some (.int 8 t)
  great : ∃ t, mg "GREATEST_TOLD" = some (.int 48 t)
  many : ∃ t, mg "MOST_MANY_counts" = some (.int 400 t)
/-- a value is handed back, what is tracked is as it was -/
abbrev Ret (H : Hp) (Q : VK) (v : V) : Prop := ∀ H', Same H H' → Q v H'
theorem ifF {c A B : Prop} [Decidable c] (h : ¬ c) (b : B) : if decide c = true then A else B := by rw [decide_eq_false h]; exact iteF b
theorem ifT {c A B : Prop} [Decidable c] (h : c) (a : A) : if decide c = true then A else B := by rw [decide_eq_true h]; exact iteT a
abbrev VI (ns : List Int) : List V := ns.map V.int
theorem vi_at {ns : List Int} {i : Nat} {x : V} (h : (VI ns)[i]? = some x) : ∃ n, ns[i]? = some n ∧ x = .int n := by
  rw [List.getElem?_map] at h
  cases e : ns[i]? with
  | none => rw [e] at h; cases h
  | some n => rw [e] at h; exact ⟨n, rfl, (Option.some.inj h).symm⟩
section
variable {P : Program} {w : World} {K : PySem.W.Frag} {mg : Str → Option Value} {base : Heap} {k : Nat}
/-! ### whole numbers and lists -/
def spInteger : Sp := fun vs H Q _ => ∃ i : Int, vs = [.int i] ∧ Ret H Q (.bl true)
theorem sc6 : FnScope ["value"] ["value"] (defScope sInteger) := ⟨rfl, rfl, rfl, by decide +kernel, rfl, by decide +kernel, by decide +kernel⟩
theorem d_integer (B : Bnd K mg "is_integer" sInteger) (M : Mg mg) : Def P w K mg base (k + 1) "is_integer" sInteger ["value"] spInteger := by
  refine def_of B sc6 (by rintro _ _ _ _ ⟨i, rfl, _⟩; rfl) (fun _ _ _ _ _ _ us hl => match us, hl with | [_], _ => rfl) fun f cdv A outer s H vs Q E hr h => ?_
  obtain ⟨i, rfl, q⟩ := h
  refine ⟨_, pss_one (ps_ret (pe_and (pe_callB call_isi (by rfl) M.isi (by decide +kernel) (pa_cons (pv 0) (pa_cons (pe_bltn (v := .ty "int") (by rfl) M.int (by decide +kernel) rfl) pa_nil)))
    (pe_one (pe_not (pe_callB call_isi (by rfl) M.isi (by decide +kernel) (pa_cons (pv 0) (pa_cons (pe_bltn (v := .ty "bool") (by rfl) M.bool (by decide +kernel) rfl) pa_nil))))))), ?_⟩
  refine ⟨_, rfl, _, _, _, _, true, rfl, .ty _, .base (.int i), kit_int, true, rfl, iteT ?_⟩
  exact ⟨_, rfl, _, _, _, _, false, rfl, .ty _, .base (.int i), kit_int_bool, false, rfl, q H (Same.refl H)⟩
def spCount : Sp := fun vs H Q _ => ∃ i : Int, vs = [.int i] ∧ Ret H Q (.bl (decide (0 ≤ i)))
theorem sc7 : FnScope ["value"] ["value"] (defScope sCount) := ⟨rfl, rfl, rfl, by decide +kernel, rfl, by decide +kernel, by decide +kernel⟩
theorem d_count (B : Bnd K mg "is_count" sCount) (D : Def P w K mg base k "is_integer" sInteger ["value"] spInteger) : Def P w K mg base (k + 1) "is_count" sCount ["value"] spCount := by
  refine def_of B sc7 (by rintro _ _ _ _ ⟨i, rfl, _⟩; rfl) (fun _ _ _ _ _ _ us hl => match us, hl with | [_], _ => rfl) fun f cdv A outer s H vs Q E hr h => ?_
  obtain ⟨i, rfl, q⟩ := h
  refine ⟨_, pss_one (ps_ret (pe_and (pe_d D hr (by rfl) (pa_cons (pv 0) pa_nil)) (pe_one (pe_cmpR op_ge (pv 0) pe_int (nomark _))))), ?_⟩
  exact ⟨_, rfl, i, rfl, fun H1 s1 => ⟨true, rfl, iteT ⟨_, rfl, i, 0, rfl, rfl, q H1 s1⟩⟩⟩
def spList (K : PySem.W.Frag) : Sp := fun vs H Q _ => ∃ (a : Addr) (xs : List V), vs = [.ref a] ∧ Sq K H a xs ∧ Ret H Q (.bl true)
theorem sc8 : FnScope ["value"] ["value"] (defScope sList) := ⟨rfl, rfl, rfl, by decide +kernel, rfl, by decide +kernel, by decide +kernel⟩
theorem d_list (B : Bnd K mg "is_list" sList) (M : Mg mg) : Def P w K mg base (k + 1) "is_list" sList ["value"] (spList K) := by
  refine def_of B sc8 (by rintro _ _ _ _ ⟨a, xs, rfl, _⟩; rfl) (fun _ _ _ _ _ _ us hl => match us, hl with | [_], _ => rfl) fun f cdv A outer s H vs Q E hr h => ?_
  obtain ⟨a, xs, rfl, hS, q⟩ := h
  refine ⟨_, pss_one (ps_ret (pe_callB call_isiT (by rfl) M.isi (by decide +kernel) (pa_cons (pv 0) (pa_cons (pe_tup (pa_cons (pe_bltn (v := .ty "list") (by rfl) M.list (by decide +kernel) rfl) (pa_cons (pe_bltn (v := .ty "tuple") (by rfl) M.tuple (by decide +kernel) rfl) pa_nil))) pa_nil)))), ?_⟩
  exact ⟨_, rfl, (by show 2 ≤ sizeLine; decide), fun p hp => isi_lt (hS.same (same_new hp)) upd_same (q _ (same_new hp))⟩
def spMany : Sp := fun vs H Q _ => ∃ m lo hi : Int, vs = [.int m, .int lo, .int hi] ∧ 0 ≤ m ∧ lo ≤ m ∧ m ≤ hi ∧ Ret H Q .non
theorem sc9 : FnScope ["many", "least", "most"] ["many", "least", "most"] (defScope sMany) := ⟨rfl, rfl, rfl, by decide +kernel, rfl, by decide +kernel, by decide +kernel⟩
theorem d_many (B : Bnd K mg "check_many" sMany) (D : Def P w K mg base k "is_count" sCount ["value"] spCount) : Def P w K mg base (k + 1) "check_many" sMany ["many", "least", "most"] spMany := by
  refine def_of B sc9 (by rintro _ _ _ _ ⟨m, lo, hi, rfl, _⟩; rfl) (fun _ _ _ _ _ _ us hl => match us, hl with | [_, _, _], _ => rfl) fun f cdv A outer s H vs Q E hr h => ?_
  obtain ⟨m, lo, hi, rfl, h0, h1, h2, q⟩ := h
  refine ⟨_, pss_one (ps_if (PW.pt (pw_or (pt_not (pt_val (pe_d D hr (by rfl) (pa_cons (pv 0) pa_nil)))) (pw_or (pt_cmpR op_lt (pv 0) (pv 1) (nomark _)) (pw_or1 (pt_cmpR op_gt (pv 0) (pv 2) (nomark _)))))) pss_never pss_nil), ?_⟩
  refine ⟨_, rfl, m, rfl, fun H1 s1 => ⟨_, rfl, iteNS h0 ?_⟩⟩
  refine ⟨_, rfl, _, rfl, m, lo, rfl, rfl, _, rfl, ifF (by omega) ?_⟩
  exact ⟨_, rfl, _, rfl, m, hi, rfl, rfl, _, rfl, ifF (by omega) (q H1 s1)⟩
/-! ### told counts -/
/-- told counts: 1 to 8 of them, each from 1 to 48 -/
structure Told (cs : List Int) : Prop where
  lo : 1 ≤ cs.length
  hi : cs.length ≤ 8
  each : ∀ c ∈ cs, 1 ≤ c ∧ c ≤ 48
theorem Told.pos {cs : List Int} (h : Told cs) : Pos cs := fun c hc => by have := (h.each c hc).1; omega
def spIsCounts (K : PySem.W.Frag) : Sp := fun vs H Q _ => ∃ (a : Addr) (cs : List Int), vs = [.ref a] ∧ Sq K H a (VI cs) ∧ Told cs ∧ Ret H Q (.bl true)
theorem sc18 : FnScope ["value", "one"] ["value"] (defScope sIsCounts) := ⟨rfl, rfl, rfl, by decide +kernel, rfl, by decide +kernel, by decide +kernel⟩
theorem all_true {n : Nat} : ((List.range n).filterMap fun _ => some (V.bl true)) = (List.replicate n true).map V.bl := by
  induction n with
  | zero => rfl
  | succ n ih => rw [fm_succ, ih, List.replicate_succ', List.map_append]; rfl
theorem all_rep : ∀ n : Nat, (List.replicate n true).all id = true
  | 0 => rfl
  | n + 1 => by rw [List.replicate_succ, List.all_cons, all_rep n]; rfl
theorem d_isCounts (B : Bnd K mg "is_counts" sIsCounts) (M : Mg mg) (DL : Def P w K mg base k "is_list" sList ["value"] (spList K)) (DC : Def P w K mg base k "is_count" sCount ["value"] spCount) :
    Def P w K mg base (k + 1) "is_counts" sIsCounts ["value"] (spIsCounts K) := by
  refine def_of B sc18 (by rintro _ _ _ _ ⟨a, xs, rfl, _⟩; rfl) (fun _ _ _ _ _ _ us hl => match us, hl with | [_], _ => rfl) fun f cdv A outer s H vs Q E hr h => ?_
  obtain ⟨a, cs, rfl, hS, T, q⟩ := h
  obtain ⟨t8, m8⟩ := M.told
  obtain ⟨t48, m48⟩ := M.great
  refine ⟨_, pss_cons (ps_if (PW.pt (pw_or (pt_not (pt_val (pe_d DL hr (by rfl) (pa_cons (pv 0) pa_nil)))) (pw_or (pt_cmpR op_lt (pe_callB call_len_seq (by rfl) M.len boot_len (pa_cons (pv 0) pa_nil)) pe_int (nomark _))
      (pw_or1 (pt_cmpR op_gt (pe_callB call_len_seq (by rfl) M.len boot_len (pa_cons (pv 0) pa_nil)) (pe_glob (v := .int 8) (by rfl) m8 ⟨_, rfl⟩) (nomark _)))))) pss_never pss_nil)
    (pss_one (ps_ret (pe_callB (cr_all rfl) (by rfl) M.all (by decide +kernel) (pa_cons (pe_lc (own := [("one", 1)]) (g := gName 1) (tt := tYes) rfl sc18.nd (pi_sq (pv 0)) (blkOk_by (own := [("one", 1)]) (N := ["value", "one"]) (sc := defScope sIsCounts) (by decide +kernel))
      (fun _ _ _ _ _ => pg_name (i := 1) sc18.nd rfl (Or.inl rfl)) (fun _ _ _ _ _ => pts_nil)
      (fun _ _ _ _ _ => pe_and (pe_d DC hr (by rfl) (pa_cons (pv 1) pa_nil)) (pe_one (pe_chain op_le op_le pe_int (pv 1) (pe_glob (v := .int 48) (by rfl) m48 ⟨_, rfl⟩))))) pa_nil)))), ?_⟩
  have hl : (VI cs).length = cs.length := List.length_map _
  have t1 := T.lo
  have t2 := T.hi
  refine ⟨_, rfl, a, _, rfl, hS, fun H1 s1 => ⟨true, rfl, ?_⟩⟩
  refine iteF ⟨_, rfl, a, _, rfl, hS.same s1, _, _, rfl, rfl, _, rfl, ifF (by rw [hl]; omega) ?_⟩
  refine ⟨_, rfl, a, _, rfl, hS.same s1, _, _, rfl, rfl, _, rfl, ifF (by rw [hl]; omega) ?_⟩
  dsimp only [tNext, tRet, tCB, tCons, tNil]
  refine lc_sq (xs := VI cs) (fun _ => some (.bl true)) (fun R r => ⟨_, rfl, r⟩) (hS.same s1) (by rw [hl, sizeLine_eq]; omega) (fun i x H2 hx s2 Y N y n => ?_) (fun D H2 s2 hD hD2 => ?_)
  · obtain ⟨c, hc, rfl⟩ := vi_at hx
    have hc2 := T.each c (List.mem_of_getElem? hc)
    refine ⟨rfl, _, rfl, c, rfl, fun H3 s3 => ⟨_, rfl, ifT (by omega) ?_⟩⟩
    refine ⟨_, rfl, _, _, rfl, rfl, _, rfl, ifT (by omega) ⟨_, _, rfl, rfl, ?_⟩⟩
    refine y _ _ s3 ?_
    show some (V.bl true) = some (V.bl (decide (c ≤ 48)))
    rw [decide_eq_true (show c ≤ 48 by omega)]
  · refine ⟨D, List.replicate cs.length true, rfl, SqL.of ?_, ?_⟩
    · rw [hD2, hl, all_true]
    · rw [all_rep]
      exact q H2 (s1.trans s2)
def spCheck (K : PySem.W.Frag) : Sp := fun vs H Q _ => ∃ (a : Addr) (cs : List Int), vs = [.ref a] ∧ Sq K H a (VI cs) ∧ Told cs ∧ Ret H Q .non
theorem sc19 : FnScope ["counts"] ["counts"] (defScope sCheck) := ⟨rfl, rfl, rfl, by decide +kernel, rfl, by decide +kernel, by decide +kernel⟩
theorem d_check (B : Bnd K mg "check_counts" sCheck) (D : Def P w K mg base k "is_counts" sIsCounts ["value"] (spIsCounts K)) : Def P w K mg base (k + 1) "check_counts" sCheck ["counts"] (spCheck K) := by
  refine def_of B sc19 (by rintro _ _ _ _ ⟨a, xs, rfl, _⟩; rfl) (fun _ _ _ _ _ _ us hl => match us, hl with | [_], _ => rfl) fun f cdv A outer s H vs Q E hr h => ?_
  obtain ⟨a, cs, rfl, hS, T, q⟩ := h
  refine ⟨_, pss_one (ps_if (pt_not (pt_val (pe_d D hr (by rfl) (pa_cons (pv 0) pa_nil)))) pss_never pss_nil), ?_⟩
  exact ⟨_, rfl, a, cs, rfl, hS, T, fun H1 s1 => ⟨true, rfl, iteF (q H1 s1)⟩⟩
end
section
variable {P : Program} {w : World} {K : PySem.W.Frag} {mg : Str → Option Value} {base : Heap} {k : Nat}
theorem vi_len (ns : List Int) : (VI ns).length = ns.length := List.length_map _
theorem small {n : Nat} (h : n ≤ 1000) : n < sizeLine := small1000 h
/-! ### common_count -/
def spCommon (K : PySem.W.Frag) : Sp := fun vs H Q _ => ∃ (a : Addr) (cs : List Int), vs = [.ref a] ∧ Sq K H a (VI cs) ∧ Told cs ∧ Ret H Q (.int (gl cs))
theorem sc14 : FnScope ["counts", "found", "one"] ["counts"] (defScope sCommon) := ⟨rfl, rfl, rfl, by decide +kernel, rfl, by decide +kernel, by decide +kernel⟩
theorem d_common (B : Bnd K mg "common_count" sCommon) (M : Mg mg) (D : Def P w K mg base k "check_counts" sCheck ["counts"] (spCheck K)) : Def P w K mg base (k + 1) "common_count" sCommon ["counts"] (spCommon K) := by
  refine def_of B sc14 (by rintro _ _ _ _ ⟨a, xs, rfl, _⟩; rfl) (fun _ _ _ _ _ _ us hl => match us, hl with | [_], _ => rfl) fun f cdv A outer s H vs Q E hr h => ?_
  obtain ⟨a, cs, rfl, hS, T, q⟩ := h
  refine ⟨_, pss_cons (ps_expr (pe_d D hr (by rfl) (pa_cons (pv 0) pa_nil))) (pss_cons (ps_set (i := 1) sc14.nd rfl (.inl rfl) pe_int)
    (pss_cons (ps_for PassesOwn.never rfl (pi_sq (pv 0)) (pg_name (i := 2) sc14.nd rfl (.inl rfl)) (pss_one (ps_set (i := 1) sc14.nd rfl (.inl rfl) (pe_callBfun cr_gcd (by rfl) M.gcd (pa_cons (pv 1) (pa_cons (pv 2) pa_nil))))))
    (pss_one (ps_ret (pv 1))))), ?_⟩
  refine ⟨_, rfl, a, cs, rfl, hS, T, fun H1 s1 => ?_⟩
  dsimp only [tSeq, tAsg, tC, gName]
  refine for_sq (a := a) (xs := VI cs) (fun i σ H' => ∃ y, σ = [some (.ref a), some (.int (gl (cs.take i))), y] ∧ Same H1 H') (fun R r => ⟨_, rfl, r⟩) hS s1 ⟨none, rfl, Same.refl _⟩
    (fun i σ' H' ⟨y, e, s2⟩ => s1.trans s2) (fun i x σ' H' hx ⟨y, e, s2⟩ => ?_) (fun σ' H' ⟨y, e, s2⟩ => ?_)
  · obtain ⟨c, hc, rfl⟩ := vi_at hx
    subst e
    refine ⟨_, rfl, _, rfl, gl (cs.take i), c, rfl, some (.int c), ?_, s2⟩
    rw [gl_take hc]; rfl
  · subst e
    rw [vi_len, List.take_length]
    exact ⟨_, rfl, q _ (s1.trans s2)⟩
/-! ### is_next_met, met_table -/
def spNext (K : PySem.W.Frag) : Sp := fun vs H Q _ => ∃ (a t : Addr) (cs : List Int) (n : Int), vs = [.ref a, .ref t, .int n] ∧ Sq K H a (VI cs) ∧ Pos cs ∧ cs.length ≤ 1000 ∧ SqL K H t ((tb cs n.toNat).map V.bl) ∧ 1 ≤ n ∧ Ret H Q (.bl (mb cs n))
theorem sc21 : FnScope ["counts", "table", "count", "one"] ["counts", "table", "count"] (defScope sNext) := ⟨rfl, rfl, rfl, by decide +kernel, rfl, by decide +kernel, by decide +kernel⟩
theorem bls {cs : List Int} (g : Int → Bool) : (List.range (VI cs).length).filterMap (fun i => (cs[i]?).bind fun c => some (V.bl (g c))) = (cs.map g).map V.bl := by
  rw [vi_len, fm_all, List.map_map]
  induction cs with
  | nil => rfl
  | cons c r ih => rw [List.filterMap_cons, List.map_cons, ih]; rfl
theorem d_next (B : Bnd K mg "is_next_met" sNext) (M : Mg mg) : Def P w K mg base (k + 1) "is_next_met" sNext ["counts", "table", "count"] (spNext K) := by
  refine def_of B sc21 (by rintro _ _ _ _ ⟨a, t, cs, n, rfl, _⟩; rfl) (fun _ _ _ _ _ _ us hl => match us, hl with | [_, _, _], _ => rfl) fun f cdv A outer s H vs Q E hr h => ?_
  obtain ⟨a, t, cs, n, rfl, hS, hp, hz, hT, hn, q⟩ := h
  refine ⟨_, pss_one (ps_ret (pe_callB (cr_any rfl) (by rfl) M.any (by decide +kernel) (pa_cons (pe_lc (own := [("one", 3)]) (g := gName 3) (tt := tYes) rfl sc21.nd (pi_sq (pv 0)) (blkOk_by (own := [("one", 3)]) (N := ["counts", "table", "count", "one"]) (sc := defScope sNext) (by decide +kernel))
      (fun _ _ _ _ _ => pg_name (i := 3) sc21.nd rfl (Or.inl rfl)) (fun _ _ _ _ _ => pts_nil)
      (fun _ _ _ _ _ => pe_and (pe_cmpR op_le (pv 3) (pv 2) (nomark _)) (pe_one (pe_ix (r := rIxL K) ix_list (pv 1) (pe_op op_sub (pv 2) (pv 3)) (fun _ _ => rfl))))) pa_nil))), ?_⟩
  dsimp only [tNext, tRet, tCB, tCons, tNil]
  refine lc_sq (xs := VI cs) (fun i => (cs[i]?).bind fun c => some (.bl (decide (c ≤ n) && mb cs (n - c)))) (fun R r => ⟨_, rfl, r⟩) hS (by rw [vi_len]; exact Nat.le_of_lt (small hz)) (fun i x H2 hx s2 Y N y nn => ?_) (fun D H2 s2 hD hD2 => ?_)
  · obtain ⟨c, hc, rfl⟩ := vi_at hx
    have hc0 := hp c (List.mem_of_getElem? hc)
    refine ⟨rfl, _, rfl, _, rfl, c, n, rfl, rfl, decide (c ≤ n), rfl, ite2 (fun h => ?_) (fun h => ?_)⟩
    · have hle : c ≤ n := of_decide_eq_true h
      have hg : ((tb cs n.toNat).map V.bl)[(n - c).toNat]? = some (.bl (mb cs (n - c))) := by
        rw [List.getElem?_map, tb_at (by omega), show (((n - c).toNat : Nat) : Int) = n - c by omega]; rfl
      refine ⟨_, rfl, _, rfl, _, rfl, n, c, rfl, rfl, t, _, n - c, .bl (mb cs (n - c)), rfl, rfl, s2.seq hT, at_of (by omega) hg, y _ _ (Same.refl _) ?_⟩
      dsimp only
      rw [hc]
      show some (V.bl (decide (c ≤ n) && mb cs (n - c))) = _
      rw [h, Bool.true_and]
    · refine y _ _ (Same.refl _) ?_
      dsimp only
      rw [hc]
      show some (V.bl (decide (c ≤ n) && mb cs (n - c))) = _
      rw [Bool.eq_false_iff.mpr h, Bool.false_and]
  · rw [bls fun c => decide (c ≤ n) && mb cs (n - c)] at hD2
    refine ⟨D, _, rfl, SqL.of hD2, ?_⟩
    rw [List.any_map]
    have e := mb_next hp (show 0 < n by omega)
    show Q (.bl (cs.any fun c => decide (c ≤ n) && mb cs (n - c))) H2
    rw [← e]
    exact q _ s2
def spTable (K : PySem.W.Frag) : Sp := fun vs H Q _ => ∃ (a : Addr) (cs : List Int) (m : Int), vs = [.ref a, .int m] ∧ Sq K H a (VI cs) ∧ Pos cs ∧ cs.length ≤ 1000 ∧ 0 ≤ m ∧ m ≤ 900 ∧
  ∀ p H', Same H H' → H p = none → H' p = some (.lst ((tb cs (m.toNat + 1)).map V.bl)) → Q (.ref p) H'
theorem sc20 : FnScope ["counts", "many", "table", "count"] ["counts", "many"] (defScope sTable) := ⟨rfl, rfl, rfl, by decide +kernel, rfl, by decide +kernel, by decide +kernel⟩
theorem d_table (B : Bnd K mg "met_table" sTable) (M : Mg mg) (D : Def P w K mg base k "is_next_met" sNext ["counts", "table", "count"] (spNext K)) : Def P w K mg base (k + 1) "met_table" sTable ["counts", "many"] (spTable K) := by
  refine def_of B sc20 (by rintro _ _ _ _ ⟨a, cs, n, rfl, _⟩; rfl) (fun _ _ _ _ _ _ us hl => match us, hl with | [_, _], _ => rfl) fun f cdv A outer s H vs Q E hr h => ?_
  obtain ⟨a, cs, m, rfl, hS, hp, hz, h0, h1, q⟩ := h
  refine ⟨_, pss_cons (ps_set (i := 2) sc20.nd rfl (.inl rfl) (pe_lst (pa_cons pe_bl pa_nil)))
    (pss_cons (ps_for PassesOwn.never rfl (pi_range2 (by rfl) M.range (pa_cons pe_int (pa_cons (pe_op op_add (pv 1) pe_int) pa_nil))) (pg_name (i := 3) sc20.nd rfl (.inl rfl))
      (pss_one (ps_expr (pe_bm PySem.F.plainAttrs_list PySem.F.slot_list_append PySem.F.type_list_append mt_append (pv 2) (pa_cons (pe_d D hr (by rfl) (pa_cons (pv 0) (pa_cons (pv 2) (pa_cons (pv 3) pa_nil)))) pa_nil)))))
    (pss_one (ps_ret (pv 2)))), ?_⟩
  refine ⟨(by show 1 ≤ sizeLine; decide), fun p np => ?_⟩
  refine ⟨_, rfl, m, 1, rfl, rfl, 1, m + 1, rfl, ⟨by omega, by omega, by omega, by omega⟩, ?_⟩
  refine for_range (lo := 1) (n := (m + 1 - 1).toNat) (fun i σ H' => ∃ y, σ = [some (.ref a), some (.int m), some (.ref p), y] ∧ Same H H' ∧ H' p = some (.lst ((tb cs (i + 1)).map V.bl)))
    ⟨none, rfl, same_new np, by rw [upd_same, tb_one]; rfl⟩ (fun i σ' H' hi ⟨y, e, s1, hp1⟩ => ?_) (fun σ' H' ⟨y, e, s1, hp1⟩ => ?_)
  · subst e
    refine ⟨_, rfl, Or.inl ⟨rfl, _, SqL.of hp1⟩, _, rfl, _, rfl, _, rfl, a, p, cs, 1 + i, rfl, hS.same s1, hp, hz, ?_, by omega, fun H2 s2 => ?_⟩
    · rw [show (1 + (i : Int)).toNat = i + 1 by omega]
      exact SqL.of hp1
    · refine ⟨p, _, _, rfl, rfl, s2 _ _ hp1, ?_, some (.int (1 + i)), rfl, fun b o hb => ?_, ?_⟩
      · rw [List.length_map, tb_len]
        exact small (by omega)
      · rw [upd_ne (ne_of_none hb np)]
        exact s2 _ _ (s1 _ _ hb)
      · rw [upd_same, tb_succ cs (i + 1), List.map_append, show (1 + (i : Int)) = ((i + 1 : Nat) : Int) by omega]; rfl
  · subst e
    rw [show (m + 1 - 1).toNat = m.toNat by omega] at hp1
    exact ⟨_, rfl, q p H' s1 np hp1⟩
end
section
variable {P : Program} {w : World} {K : PySem.W.Frag} {mg : Str → Option Value} {base : Heap} {k : Nat}
/-! ### is_met, met -/
def spIsMet (K : PySem.W.Frag) : Sp := fun vs H Q _ => ∃ (a : Addr) (cs : List Int) (m : Int), vs = [.ref a, .int m] ∧ Sq K H a (VI cs) ∧ Told cs ∧ 0 ≤ m ∧ m ≤ 400 ∧ Ret H Q (.bl (mb cs m))
theorem sc15 : FnScope ["counts", "many"] ["counts", "many"] (defScope sIsMet) := ⟨rfl, rfl, rfl, by decide +kernel, rfl, by decide +kernel, by decide +kernel⟩
theorem d_isMet (B : Bnd K mg "is_met" sIsMet) (M : Mg mg) (DC : Def P w K mg base k "check_counts" sCheck ["counts"] (spCheck K)) (DM : Def P w K mg base k "check_many" sMany ["many", "least", "most"] spMany)
    (DT : Def P w K mg base k "met_table" sTable ["counts", "many"] (spTable K)) : Def P w K mg base (k + 1) "is_met" sIsMet ["counts", "many"] (spIsMet K) := by
  refine def_of B sc15 (by rintro _ _ _ _ ⟨a, cs, n, rfl, _⟩; rfl) (fun _ _ _ _ _ _ us hl => match us, hl with | [_, _], _ => rfl) fun f cdv A outer s H vs Q E hr h => ?_
  obtain ⟨a, cs, m, rfl, hS, T, h0, h1, q⟩ := h
  obtain ⟨t4, m4⟩ := M.many
  refine ⟨_, pss_cons (ps_expr (pe_d DC hr (by rfl) (pa_cons (pv 0) pa_nil)))
    (pss_cons (ps_expr (pe_d DM hr (by rfl) (pa_cons (pv 1) (pa_cons pe_int (pa_cons (pe_glob (v := .int 400) (by rfl) m4 ⟨_, rfl⟩) pa_nil)))))
    (pss_one (ps_ret (pe_ix ix_list (pe_d DT hr (by rfl) (pa_cons (pv 0) (pa_cons (pv 1) pa_nil))) (pv 1) (fun _ _ => rfl))))), ?_⟩
  have t2 := T.hi
  refine ⟨_, rfl, a, cs, rfl, hS, T, fun H1 s1 => ?_⟩
  refine ⟨_, rfl, m, 0, 400, rfl, h0, h0, h1, fun H2 s2 => ?_⟩
  have s3 := s1.trans s2
  refine ⟨_, rfl, _, rfl, a, cs, m, rfl, hS.same s3, T.pos, by omega, h0, by omega, fun p H4 s4 np hp => ?_⟩
  refine ⟨_, rfl, p, _, m, _, rfl, rfl, SqL.of hp, at_of (j := m.toNat) (by omega) ?_, q _ (s3.trans s4)⟩
  rw [List.getElem?_map, tb_at (by omega), show ((m.toNat : Nat) : Int) = m by omega]; rfl
/-- the met ones up to m -/
noncomputable def metL (cs : List Int) (m : Nat) : List Int := (List.range (m + 1)).filterMap fun i : Nat => if mb cs ((i : Nat) : Int) = true then some ((i : Nat) : Int) else none
theorem metL_congr {cs ds : List Int} (h : ∀ n, mb cs n = mb ds n) (m : Nat) : metL cs m = metL ds m := by
  unfold metL
  congr 1
  funext i
  rw [h]
theorem metL_len (cs : List Int) (m : Nat) : (metL cs m).length ≤ m + 1 := fm_len _ _
theorem mem_metL {cs : List Int} {m : Nat} {x : Int} (h : x ∈ metL cs m) : mb cs x = true ∧ 0 ≤ x ∧ x ≤ m := by
  obtain ⟨i, hi, e⟩ := List.mem_filterMap.mp h
  split at e
  · rename_i hm
    have e' := Option.some.inj e
    have := List.mem_range.mp hi
    rw [← e']
    exact ⟨hm, by omega, by omega⟩
  · cases e
theorem fm_vi (f : Nat → Option Int) (n : Nat) : (List.range n).filterMap (fun i => (f i).map V.int) = VI ((List.range n).filterMap f) := by
  induction n with
  | zero => rfl
  | succ n ih =>
    rw [fm_succ, fm_succ, ih]
    cases f n <;> simp
def spMet (K : PySem.W.Frag) : Sp := fun vs H Q _ => ∃ (a : Addr) (cs : List Int) (m : Int), vs = [.ref a, .int m] ∧ Sq K H a (VI cs) ∧ Told cs ∧ 0 ≤ m ∧ m ≤ 400 ∧
  ∀ p H', Same H H' → H p = none → H' p = some (.lst (VI (metL cs m.toNat))) → Q (.ref p) H'
theorem sc16 : FnScope ["counts", "many", "count", "is_one"] ["counts", "many"] (defScope sMet) := ⟨rfl, rfl, rfl, by decide +kernel, rfl, by decide +kernel, by decide +kernel⟩
theorem d_met (B : Bnd K mg "met" sMet) (M : Mg mg) (DC : Def P w K mg base k "check_counts" sCheck ["counts"] (spCheck K)) (DM : Def P w K mg base k "check_many" sMany ["many", "least", "most"] spMany)
    (DT : Def P w K mg base k "met_table" sTable ["counts", "many"] (spTable K)) : Def P w K mg base (k + 1) "met" sMet ["counts", "many"] (spMet K) := by
  refine def_of B sc16 (by rintro _ _ _ _ ⟨a, cs, n, rfl, _⟩; rfl) (fun _ _ _ _ _ _ us hl => match us, hl with | [_, _], _ => rfl) fun f cdv A outer s H vs Q E hr h => ?_
  obtain ⟨a, cs, m, rfl, hS, T, h0, h1, q⟩ := h
  obtain ⟨t4, m4⟩ := M.many
  refine ⟨_, pss_cons (ps_expr (pe_d DC hr (by rfl) (pa_cons (pv 0) pa_nil)))
    (pss_cons (ps_expr (pe_d DM hr (by rfl) (pa_cons (pv 1) (pa_cons pe_int (pa_cons (pe_glob (v := .int 400) (by rfl) m4 ⟨_, rfl⟩) pa_nil)))))
    (pss_one (ps_ret (pe_lc (own := [("count", 2), ("is_one", 3)]) (g := gTup K 2 (gCons (gName 2) (gCons (gName 3) gNil))) (tt := tB (tVar 3)) (te := tVar 2) rfl sc16.nd
      (pi_enum (by rfl) M.enum (pa_cons (pe_d DT hr (by rfl) (pa_cons (pv 0) (pa_cons (pv 1) pa_nil))) pa_nil)) (blkOk_by (own := [("count", 2), ("is_one", 3)]) (N := ["counts", "many", "count", "is_one"]) (sc := defScope sMet) (by decide +kernel))
      (fun _ _ _ _ _ => pg_tup rfl (pgs_cons (pg_name (i := 2) sc16.nd rfl (Or.inl rfl)) (pgs_cons (pg_name (i := 3) sc16.nd rfl (Or.inl rfl)) pgs_nil))) (fun _ _ _ _ _ => pts_one (pt_val (pv 3)))
      (fun _ _ _ _ _ => pv 2))))), ?_⟩
  have t2 := T.hi
  refine ⟨_, rfl, a, cs, rfl, hS, T, fun H1 s1 => ?_⟩
  refine ⟨_, rfl, m, 0, 400, rfl, h0, h0, h1, fun H2 s2 => ?_⟩
  have s3 := s1.trans s2
  refine ⟨_, rfl, _, rfl, a, cs, m, rfl, hS.same s3, T.pos, by omega, h0, by omega, fun p H4 s4 np hp => ?_⟩
  have ln : ((tb cs (m.toNat + 1)).map V.bl).length = m.toNat + 1 := by rw [List.length_map, tb_len]
  refine ⟨p, _, rfl, SqL.of hp, fun D hD => ?_⟩
  refine lc_en (xs := (tb cs (m.toNat + 1)).map V.bl) (fun i => (if mb cs ((i : Nat) : Int) = true then some ((i : Nat) : Int) else none).map V.int) (SqL.of hp) hD (by rw [ln]; exact Nat.le_of_lt (small (by omega))) (fun i x H5 Tt hx s5 hT Y N y nn => ?_) (fun H5 s5 hD5 => ?_)
  · have hi : i < m.toNat + 1 := by rw [← ln]; exact (List.getElem?_eq_some_iff.mp hx).1
    rw [List.getElem?_map, tb_at hi] at hx
    obtain rfl : V.bl (mb cs (i : Int)) = x := Option.some.inj hx
    refine ⟨Tt, _, rfl, SqT.of upd_same, rfl, _, _, rfl, _, _, rfl, rfl, rfl, _, rfl, mb cs (i : Int), rfl, ?_⟩
    dsimp only at y nn
    cases e : mb cs (i : Int) with
    | true =>
      rw [if_pos e] at y
      exact iteT ⟨_, rfl, y _ _ (same_new hT) rfl⟩
    | false =>
      rw [if_neg (by rw [e]; exact Bool.false_ne_true)] at nn
      exact iteF (nn _ (same_new hT) rfl)
  · rw [ln, fm_vi] at hD5
    exact q D H5 ((s3.trans s4).trans s5) ((s3.trans s4).free hD) hD5
/-! ### least_counts -/
def spLeast (K : PySem.W.Frag) : Sp := fun vs H Q _ => ∃ (a : Addr) (cs : List Int), vs = [.ref a] ∧ Sq K H a (VI cs) ∧ Told cs ∧
  ∀ p H' R, IsLst cs R → (∀ x ∈ R, x ∈ cs) → R.length ≤ 8 → Same H H' → H p = none → H' p = some (.lst (VI R)) → Q (.ref p) H'
theorem sc17 : FnScope ["counts", "found", "one"] ["counts"] (defScope sLeastOf) := ⟨rfl, rfl, rfl, by decide +kernel, rfl, by decide +kernel, by decide +kernel⟩
theorem d_leastOf (B : Bnd K mg "least_of" sLeastOf) (M : Mg mg) (DT : Def P w K mg base k "met_table" sTable ["counts", "many"] (spTable K)) :
    Def P w K mg base (k + 1) "least_of" sLeastOf ["counts"] (spLeast K) := by
  refine def_of B sc17 (by rintro _ _ _ _ ⟨a, cs, rfl, _⟩; rfl) (fun _ _ _ _ _ _ us hl => match us, hl with | [_], _ => rfl) fun f cdv A outer s H vs Q E hr h => ?_
  obtain ⟨a, cs, rfl, hS, T, q⟩ := h
  refine ⟨_, pss_cons (ps_set (i := 1) sc17.nd rfl (.inl rfl) (pe_lst pa_nil))
    (pss_cons (ps_for PassesOwn.never rfl (pi_list (pe_callB (cr_sortedSet rfl) (by rfl) M.sorted (by decide +kernel) (pa_cons (pe_callTy (cr_setI rfl) (by rfl) M.set (by decide +kernel) (pa_cons (pv 0) pa_nil)) pa_nil))) (pg_name (i := 2) sc17.nd rfl (.inl rfl))
      (pss_one (ps_if (pt_not (pt_val (pe_ix ix_list (pe_d DT hr (by rfl) (pa_cons (pv 1) (pa_cons (pv 2) pa_nil))) (pv 2) (fun _ _ => rfl)))) (pss_one (ps_expr (pe_bm PySem.F.plainAttrs_list PySem.F.slot_list_append PySem.F.type_list_append mt_append (pv 1) (pa_cons (pv 2) pa_nil)))) pss_nil)))
    (pss_one (ps_ret (pv 1)))), ?_⟩
  have t2 := T.hi
  have s1 := Same.refl H
  refine ⟨Nat.zero_le _, fun p np => ?_⟩
  have s2 : Same H (upd H p (.lst [])) := same_new np
  refine ⟨_, rfl, a, cs, rfl, hS.same (s1.trans s2), by omega, fun d n hn nd => ?_⟩
  have s3 : Same (upd H p (.lst [])) (upd (upd H p (.lst [])) d (SetO w d (fun j => decide (j ∈ cs)) n)) := same_new nd
  refine ⟨d, _, n, rfl, upd_same, by omega, fun ns r srt mem ln nr => ?_⟩
  have s4 := s3.trans (same_new (o := .lst (VI ns)) nr)
  have hm : ∀ c, c ∈ cs ↔ c ∈ ns := fun c => by rw [mem c, decide_eq_true_eq]
  have ne : p ≠ r := ne_of_none (s3 _ _ upd_same) nr
  refine ⟨r, rfl, ⟨_, SqL.of upd_same⟩, ?_⟩
  refine for_list (xs := VI ns) (fun i σ H' => ∃ y, σ = [some (.ref a), some (.ref p), y] ∧ Same H H' ∧ H' p = some (.lst (VI (lst (ns.take i)))) ∧ H' r = some (.lst (VI ns)))
    ⟨none, rfl, s2.trans s4, by rw [upd_ne ne]; exact s3 _ _ upd_same, upd_same⟩ (fun i σ' H' _ ⟨_, _, _, _, e⟩ => SqL.of e) (fun i x σ' H' hx ⟨y, e, s5, hp, hr2⟩ => ?_) (fun σ' H' ⟨y, e, s5, hp, hr2⟩ => ?_)
  · obtain ⟨c, hc, rfl⟩ := vi_at hx
    subst e
    have hcn : c ∈ cs := (hm c).mpr (List.mem_of_getElem? hc)
    have hc2 := T.each c hcn
    have hi : i < ns.length := (List.getElem?_eq_some_iff.mp hc).1
    have hl := lst_len_le ns i
    refine ⟨_, rfl, _, rfl, p, lst (ns.take i), c, rfl, sq_lst hp, fun z hz => ?_, by omega, by omega, by omega, fun t H6 s6 nt ht => ?_⟩
    · have := (T.each z ((hm z).mpr (lst_mem i z hz))).1
      omega
    refine ⟨_, rfl, t, _, c, .bl (mb (lst (ns.take i)) c), rfl, rfl, SqL.of ht, at_of (j := c.toNat) (by omega) ?_, mb (lst (ns.take i)) c, rfl, ?_⟩
    · rw [List.getElem?_map, tb_at (by omega), show ((c.toNat : Nat) : Int) = c by omega]; rfl
    · have e2 := lst_take hc
      unfold stepL at e2
      cases em : mb (lst (ns.take i)) c with
      | true =>
        rw [em, if_pos rfl] at e2
        refine iteF ⟨some (.int c), rfl, s5.trans s6, ?_, s6 _ _ hr2⟩
        rw [e2]
        exact s6 _ _ hp
      | false =>
        rw [em, if_neg Bool.false_ne_true] at e2
        refine iteT ⟨_, rfl, Or.inl ⟨rfl, _, SqL.of (s6 _ _ hp)⟩, _, rfl, p, _, _, rfl, rfl, s6 _ _ hp, ?_, some (.int c), rfl, fun b o hb => ?_, ?_, ?_⟩
        · rw [vi_len]
          exact small (by omega)
        · rw [upd_ne (ne_of_none hb np)]
          exact s6 _ _ (s5 _ _ hb)
        · rw [upd_same, e2]
          show some (HO.lst (VI (lst (ns.take i)) ++ [V.int c])) = some (HO.lst (VI (lst (ns.take i) ++ [c])))
          unfold VI
          rw [List.map_append]; rfl
        · rw [upd_ne ne.symm]
          exact s6 _ _ hr2
  · subst e
    rw [vi_len, List.take_length] at hp
    have srt' : ns.Pairwise (· ≤ ·) := srt.imp fun h => Int.le_of_lt h
    have ll := lst_len_le ns ns.length
    rw [List.take_length] at ll
    refine ⟨_, rfl, q p H' (lst ns) (lst_is srt' hm) (fun x hx => (hm x).mpr ?_) (by omega) (s1.trans s5) (s1.free np) hp⟩
    have z := lst_mem (s := ns) ns.length x
    rw [List.take_length] at z
    exact z hx
theorem sc17b : FnScope ["counts"] ["counts"] (defScope sLeast) := ⟨rfl, rfl, rfl, by decide +kernel, rfl, by decide +kernel, by decide +kernel⟩
theorem d_least (B : Bnd K mg "least_counts" sLeast) (DC : Def P w K mg base k "check_counts" sCheck ["counts"] (spCheck K)) (DO : Def P w K mg base k "least_of" sLeastOf ["counts"] (spLeast K)) :
    Def P w K mg base (k + 1) "least_counts" sLeast ["counts"] (spLeast K) := by
  refine def_of B sc17b (by rintro _ _ _ _ ⟨a, cs, rfl, _⟩; rfl) (fun _ _ _ _ _ _ us hl => match us, hl with | [_], _ => rfl) fun f cdv A outer s H vs Q E hr h => ?_
  obtain ⟨a, cs, rfl, hS, T, q⟩ := h
  refine ⟨_, pss_cons (ps_expr (pe_d DC hr (by rfl) (pa_cons (pv 0) pa_nil))) (pss_one (ps_ret (pe_d DO hr (by rfl) (pa_cons (pv 0) pa_nil)))), ?_⟩
  exact ⟨_, rfl, a, cs, rfl, hS, T, fun H1 s1 => ⟨_, rfl, a, cs, rfl, hS.same s1, T, fun p H' R r1 r2 r3 s2 np hp => q p H' R r1 r2 r3 (s1.trans s2) (s1.free np) hp⟩⟩
end
abbrev sPot : Stmt := top 41
abbrev sDraw : Stmt := top 42
abbrev sPick : Stmt := top 43
abbrev sCounts : Stmt := top 44
/-- a pot: two numbers, none below 0, the second one small -/
def PotOk (H : Hp) (p : Addr) : Prop := ∃ u v : Int, H p = some (.lst [.int u, .int v]) ∧ 0 ≤ u ∧ 0 ≤ v ∧ v ≤ 2147483563
theorem PotOk.same {H H' : Hp} {p : Addr} (h : PotOk H p) (e : Same H H') : PotOk H' p := let ⟨u, v, a, b⟩ := h; ⟨u, v, e _ _ a, b⟩
section
variable {P : Program} {w : World} {K : PySem.W.Frag} {mg : Str → Option Value} {base : Heap} {k : Nat}
def spPot (K : PySem.W.Frag) : Sp := fun vs H Q _ => ∃ (a : Addr) (ns : List Int) (k : Int), vs = [.ref a, .int k] ∧ SqL K H a (VI ns) ∧ 0 ≤ k ∧ k ≤ 100 ∧ ∀ p H', Same H H' → H p = none → PotOk H' p → Q (.ref p) H'
theorem sc23 : FnScope ["_law_script", "_law_k", "_law_cell"] ["_law_script", "_law_k"] (defScope sPot) := ⟨rfl, rfl, rfl, by decide +kernel, rfl, by decide +kernel, by decide +kernel⟩
theorem d_pot (B : Bnd K mg "_law_pot" sPot) (M : Mg mg) : Def P w K mg base (k + 1) "_law_pot" sPot ["_law_script", "_law_k"] (spPot K) := by
  refine def_of B sc23 (by rintro _ _ _ _ ⟨a, ns, n, rfl, _⟩; rfl) (fun _ _ _ _ _ _ us hl => match us, hl with | [_, _], _ => rfl) fun f cdv A outer s H vs Q E hr h => ?_
  obtain ⟨a, ns, n, rfl, hS, h0, h1, q⟩ := h
  refine ⟨_, pss_cons (ps_set (i := 2) sc23.nd rfl (.inl rfl) (pe_ifExp (pt_cmpR op_lt (pv 1) (pe_callB call_len_seq (by rfl) M.len boot_len (pa_cons (pv 0) pa_nil)) (nomark _)) (pe_callB call_abs (by rfl) M.abs (by decide +kernel) (pa_cons (pe_ix ix_list (pv 0) (pv 1) (fun _ _ => rfl)) pa_nil))
      (pe_op op_add (pe_op op_mul pe_int (pv 1)) pe_int)))
    (pss_one (ps_ret (pe_lst (pa_cons (pe_callB (call_max2 rfl) (by rfl) M.max (by decide +kernel) (pa_cons pe_int (pa_cons (pe_op op_sub (pv 2) (pe_op op_pow pe_int pe_int)) pa_nil)))
      (pa_cons (pe_op op_add (pe_op op_mod (pe_callTy call_int1 (by rfl) M.int (by decide +kernel) (pa_cons (pe_op op_add (pe_op op_add (pe_op op_mul (pe_op op_mod (pe_callTy call_int1 (by rfl) M.int (by decide +kernel) (pa_cons (pv 2) pa_nil)) pe_int) pe_int) (pe_op op_mul pe_int (pv 1))) pe_int) pa_nil)) pe_int) pe_int) pa_nil))))), ?_⟩
  have l0 := vi_len ns
  refine ⟨_, rfl, _, rfl, a, _, rfl, .inl hS, _, _, rfl, rfl, _, rfl, ite2 (fun c => ?_) (fun c => ?_)⟩
  · have c' := of_decide_eq_true c
    rw [l0] at c'
    have hz : ns[n.toNat]? = some ns[n.toNat] := List.getElem?_eq_getElem (by omega)
    refine ⟨_, rfl, _, rfl, a, _, n, .int ns[n.toNat], rfl, rfl, hS, at_of (j := n.toNat) (by omega) (by rw [List.getElem?_map, hz]; rfl), _, rfl, ?_⟩
    refine ⟨_, rfl, 10, 18, rfl, rfl, ⟨by omega, by omega, by decide⟩, _, _, rfl, rfl, _, _, rfl, ?_⟩
    refine ⟨_, rfl, Or.inl ⟨_, rfl, ?_⟩⟩
    refine ⟨_, _, rfl, rfl, (by omega), _, _, rfl, rfl, .inl ⟨by omega, by omega⟩, _, rfl, _, _, rfl, rfl, .inl ⟨by omega, by omega⟩, _, _, rfl, rfl, _, _, rfl, rfl, ?_⟩
    refine Or.inl ⟨_, rfl, ?_⟩
    refine ⟨_, _, rfl, rfl, (by omega), _, _, rfl, rfl, (by show 2 ≤ sizeLine; decide), fun p hp => ?_⟩
    refine q p _ (same_new hp) hp ⟨_, _, upd_same, ?_, ?_, ?_⟩
    · split <;> omega
    · omega
    · omega
  · refine ⟨_, rfl, _, _, rfl, rfl, .inl ⟨by omega, by omega⟩, _, _, rfl, rfl, ?_⟩
    refine ⟨_, rfl, 10, 18, rfl, rfl, ⟨by omega, by omega, by decide⟩, _, _, rfl, rfl, _, _, rfl, ?_⟩
    refine ⟨_, rfl, Or.inl ⟨_, rfl, ?_⟩⟩
    refine ⟨_, _, rfl, rfl, (by omega), _, _, rfl, rfl, .inl ⟨by omega, by omega⟩, _, rfl, _, _, rfl, rfl, .inl ⟨by omega, by omega⟩, _, _, rfl, rfl, _, _, rfl, rfl, ?_⟩
    refine Or.inl ⟨_, rfl, ?_⟩
    refine ⟨_, _, rfl, rfl, (by omega), _, _, rfl, rfl, (by show 2 ≤ sizeLine; decide), fun p hp => ?_⟩
    refine q p _ (same_new hp) hp ⟨_, _, upd_same, ?_, ?_, ?_⟩
    · split <;> omega
    · omega
    · omega
/-! ### draws -/
def spDraw : Sp := fun vs H Q _ => ∃ (p : Addr) (m : Int), vs = [.ref p, .int m] ∧ PotOk H p ∧ 1 ≤ m ∧ m ≤ 1000000 ∧ ∀ d H', 0 ≤ d → d < m → PotOk H' p → Keep p H H' → Q (.int d) H'
theorem sc24 : FnScope ["_law_pot_here", "_law_many", "_law_digit"] ["_law_pot_here", "_law_many"] (defScope sDraw) := ⟨rfl, rfl, rfl, by decide +kernel, rfl, by decide +kernel, by decide +kernel⟩
theorem d_draw (B : Bnd K mg "_law_draw" sDraw) (M : Mg mg) : Def P w K mg base (k + 1) "_law_draw" sDraw ["_law_pot_here", "_law_many"] spDraw := by
  refine def_of B sc24 (by rintro _ _ _ _ ⟨a, n, rfl, _⟩; rfl) (fun _ _ _ _ _ _ us hl => match us, hl with | [_, _], _ => rfl) fun f cdv A outer s H vs Q E hr h => ?_
  obtain ⟨p, m, rfl, ⟨u, v, hp, hu, hv, hv2⟩, h1, h2, q⟩ := h
  refine ⟨_, pss_cons (ps_if (pt_cmpR op_gt (pe_ix ix_list (pv 0) pe_int (fun _ _ => rfl)) pe_int (nomark _))
      (pss_cons (ps_asg (pe_callB call_divmod (by rfl) M.divmod (by decide +kernel) (pa_cons (pe_ix ix_list (pv 0) pe_int (fun _ _ => rfl)) (pa_cons (pv 1) pa_nil))) (pg_tup rfl (pgs_cons (pg_sub (pv 0) pe_int set_list) (pgs_cons (pg_name (i := 2) sc24.nd rfl (.inl rfl)) pgs_nil))))
        (pss_one (ps_ret (pv 2)))) pss_nil)
    (pss_cons (ps_asg (pe_op op_mod (pe_callTy call_int1 (by rfl) M.int (by decide +kernel) (pa_cons (pe_op op_add (pe_op op_mul (pe_ix ix_list (pv 0) pe_int (fun _ _ => rfl)) pe_int) pe_int) pa_nil)) pe_int) (pg_sub (pv 0) pe_int set_list))
    (pss_one (ps_ret (pe_op op_mod (pe_callTy call_int1 (by rfl) M.int (by decide +kernel) (pa_cons (pe_op op_fdiv (pe_op op_mod (pe_callTy call_int1 (by rfl) M.int (by decide +kernel) (pa_cons (pe_op op_mul (pe_ix ix_list (pv 0) pe_int (fun _ _ => rfl)) (pe_ix ix_list (pv 0) pe_int (fun _ _ => rfl))) pa_nil)) pe_int) pe_int) pa_nil)) (pv 1))))), ?_⟩
  refine ⟨_, rfl, p, _, 0, .int u, rfl, rfl, SqL.of hp, rfl, u, 0, rfl, rfl, _, rfl, ite2 (fun c => ?_) (fun c => ?_)⟩
  · have c' := of_decide_eq_true c
    refine ⟨_, rfl, p, _, 0, .int u, rfl, rfl, SqL.of hp, rfl, _, rfl, u, m, rfl, ⟨by omega, by omega⟩, fun t nt => ?_⟩
    have ne : p ≠ t := ne_of_none hp nt
    refine ⟨t, _, rfl, SqT.of upd_same, rfl, _, _, rfl, _, rfl, p, _, 0, 0, rfl, rfl, by rw [upd_ne ne]; exact hp, rfl, _, _, rfl, rfl, _, rfl, ?_⟩
    refine q _ _ (Int.emod_nonneg _ (by omega)) (Int.emod_lt_of_pos _ (by omega)) ⟨u / m, v, upd_same, Int.ediv_nonneg hu (by omega), hv, hv2⟩ ?_
    exact (Keep.of (same_new nt)).trans keep_upd
  · refine ⟨_, rfl, p, _, 1, .int v, rfl, rfl, SqL.of hp, rfl, v, _, rfl, rfl, .inl ⟨by omega, by omega⟩, _, _, rfl, rfl, Or.inl ⟨_, rfl, _, _, rfl, rfl, by omega, ?_⟩⟩
    refine ⟨_, rfl, p, _, 1, 1, rfl, rfl, hp, rfl, ?_⟩
    have b0 : 0 ≤ (v * 40014 + 1109) % 2147483563 := Int.emod_nonneg _ (by omega)
    have b1 : (v * 40014 + 1109) % 2147483563 < 2147483563 := Int.emod_lt_of_pos _ (by omega)
    have hp' : (upd H p (.lst ([V.int u, V.int v].set 1 (.int ((v * 40014 + 1109) % 2147483563))))) p = some (.lst [.int u, .int ((v * 40014 + 1109) % 2147483563)]) := upd_same
    refine ⟨_, rfl, p, _, 1, _, rfl, rfl, SqL.of hp', rfl, _, rfl, p, _, 1, _, rfl, rfl, SqL.of hp', rfl, _, _, rfl, rfl, .inl ⟨by omega, by omega⟩, Or.inl ⟨_, rfl, _, _, rfl, rfl, by omega, _, _, rfl, rfl, ⟨by omega, by omega⟩, Or.inl ⟨_, rfl, ?_⟩⟩⟩
    refine ⟨_, rfl, _, m, rfl, rfl, by omega, ?_⟩
    exact q _ _ (Int.emod_nonneg _ (by omega)) (Int.emod_lt_of_pos _ (by omega)) ⟨u, _, hp', hu, b0, by omega⟩ keep_upd
def spPick : Sp := fun vs H Q _ => ∃ (p b : Addr) (xs : List V), vs = [.ref p, .ref b] ∧ PotOk H p ∧ H b = some (.lst xs) ∧ b ≠ p ∧ 1 ≤ xs.length ∧ xs.length ≤ 1000 ∧ ∀ x H', x ∈ xs → PotOk H' p → Keep p H H' → Q x H'
theorem sc25 : FnScope ["_law_pot_here", "_law_some"] ["_law_pot_here", "_law_some"] (defScope sPick) := ⟨rfl, rfl, rfl, by decide +kernel, rfl, by decide +kernel, by decide +kernel⟩
theorem d_pick (B : Bnd K mg "_law_pick" sPick) (M : Mg mg) (D : Def P w K mg base k "_law_draw" sDraw ["_law_pot_here", "_law_many"] spDraw) : Def P w K mg base (k + 1) "_law_pick" sPick ["_law_pot_here", "_law_some"] spPick := by
  refine def_of B sc25 (by rintro _ _ _ _ ⟨a, n, x, rfl, _⟩; rfl) (fun _ _ _ _ _ _ us hl => match us, hl with | [_, _], _ => rfl) fun f cdv A outer s H vs Q E hr h => ?_
  obtain ⟨p, b, xs, rfl, hp, hb, ne, l1, l2, q⟩ := h
  refine ⟨_, pss_one (ps_ret (pe_ix ix_list (pv 1) (pe_d D hr (by rfl) (pa_cons (pv 0) (pa_cons (pe_callB call_len_seq (by rfl) M.len boot_len (pa_cons (pv 1) pa_nil)) pa_nil))) (fun _ _ => rfl))), ?_⟩
  refine ⟨_, rfl, _, rfl, _, rfl, b, xs, rfl, .inl (SqL.of hb), p, _, rfl, hp, by omega, by omega, fun d H' d0 d1 hp' kp => ?_⟩
  have hd : d.toNat < xs.length := by omega
  exact ⟨b, xs, d, xs[d.toNat], rfl, rfl, SqL.of (kp _ _ ne hb), at_of (j := d.toNat) (by omega) (List.getElem?_eq_getElem hd), q _ _ (List.getElem_mem hd) hp' kp⟩
def spCounts : Sp := fun vs H Q _ => ∃ (p : Addr) (mm mo : Int), vs = [.ref p, .int mm, .int mo] ∧ PotOk H p ∧ 1 ≤ mm ∧ mm ≤ 500 ∧ 1 ≤ mo ∧ mo ≤ 1000 ∧
  ∀ r H' (cs : List Int), 1 ≤ cs.length → (cs.length : Int) ≤ mm → (∀ c ∈ cs, 1 ≤ c ∧ c ≤ mo) → PotOk H' p → Keep p H H' → H r = none → H' r = some (.lst (VI cs)) → Q (.ref r) H'
theorem sc29 : FnScope ["_law_pot_here", "_law_most_many", "_law_most", "_law_found", "_law_turn"] ["_law_pot_here", "_law_most_many", "_law_most"] (defScope sCounts) := ⟨rfl, rfl, rfl, by decide +kernel, rfl, by decide +kernel, by decide +kernel⟩
theorem d_counts (B : Bnd K mg "_law_counts" sCounts) (M : Mg mg) (D : Def P w K mg base k "_law_draw" sDraw ["_law_pot_here", "_law_many"] spDraw) : Def P w K mg base (k + 1) "_law_counts" sCounts ["_law_pot_here", "_law_most_many", "_law_most"] spCounts := by
  refine def_of B sc29 (by rintro _ _ _ _ ⟨a, n, x, rfl, _⟩; rfl) (fun _ _ _ _ _ _ us hl => match us, hl with | [_, _, _], _ => rfl) fun f cdv A outer s H vs Q E hr h => ?_
  obtain ⟨p, mm, mo, rfl, hp, l1, l2, l3, l4, q⟩ := h
  refine ⟨_, pss_cons (ps_set (i := 3) sc29.nd rfl (.inl rfl) (pe_lst pa_nil))
    (pss_cons (ps_for PassesOwn.never rfl (pi_range1 (by rfl) M.range (pa_cons (pe_op op_add pe_int (pe_d D hr (by rfl) (pa_cons (pv 0) (pa_cons (pv 1) pa_nil)))) pa_nil)) (pg_name (i := 4) sc29.nd rfl (.inl rfl))
      (pss_one (ps_expr (pe_bm PySem.F.plainAttrs_list PySem.F.slot_list_append PySem.F.type_list_append mt_append (pv 3) (pa_cons (pe_op op_add pe_int (pe_d D hr (by rfl) (pa_cons (pv 0) (pa_cons (pv 2) pa_nil)))) pa_nil)))))
    (pss_one (ps_ret (pv 3)))), ?_⟩
  refine ⟨Nat.zero_le _, fun r nr => ?_⟩
  have ne : r ≠ p := fun z => by
    obtain ⟨u, v, e, _⟩ := hp
    rw [z, e] at nr
    cases nr
  have s1 : Same H (upd H r (.lst [])) := same_new nr
  refine ⟨_, rfl, _, rfl, p, mm, rfl, hp.same s1, l1, by omega, fun d H1 d0 d1 hp1 k1 => ?_⟩
  refine ⟨1, d, rfl, rfl, 1 + d, rfl, by omega, by omega, ?_⟩
  refine for_range (lo := 0) (n := (1 + d).toNat) (fun i σ H' => ∃ (y : Option V) (cs : List Int), σ = [some (.ref p), some (.int mm), some (.int mo), some (.ref r), y] ∧ cs.length = i ∧ (∀ c ∈ cs, 1 ≤ c ∧ c ≤ mo) ∧ PotOk H' p ∧ Keep p H H' ∧ H' r = some (.lst (VI cs)))
    ⟨none, [], rfl, rfl, fun c hc => absurd hc (by simp), hp1, (Keep.of s1).trans k1, k1 _ _ ne upd_same⟩ (fun i σ' H' hi ⟨y, cs, e, el, ec, pk, kk, hr'⟩ => ?_) (fun σ' H' ⟨y, cs, e, el, ec, pk, kk, hr'⟩ => ?_)
  · subst e
    refine ⟨_, rfl, Or.inl ⟨rfl, _, SqL.of hr'⟩, _, rfl, _, rfl, p, mo, rfl, pk, l3, by omega, fun z H2 z0 z1 pk2 k2 => ?_⟩
    have hr2 := k2 _ _ ne hr'
    refine ⟨1, z, rfl, rfl, r, _, _, rfl, rfl, hr2, by rw [vi_len]; exact small (by omega), some (.int (0 + (i : Int))), cs ++ [1 + z], rfl, by rw [List.length_append, el]; rfl, fun c hc => ?_, ?_, fun b o hb ho => ?_, ?_⟩
    · rcases List.mem_append.mp hc with h | h
      · exact ec c h
      · rw [List.mem_singleton.mp h]; omega
    · obtain ⟨u, v, e, x⟩ := pk2
      exact ⟨u, v, by rw [upd_ne ne.symm]; exact e, x⟩
    · rw [upd_ne (ne_of_none ho nr)]
      exact k2 _ _ hb (kk _ _ hb ho)
    · rw [upd_same]
      unfold VI
      rw [List.map_append]; rfl
  · subst e
    exact ⟨_, rfl, q r H' cs (by omega) (by omega) ec pk kk nr hr'⟩
end
/-! ### lists of marks -/
theorem set_mid {α : Type} : ∀ (A : List α) (b x : α) (R : List α), (A ++ b :: R).set A.length x = A ++ x :: R
  | [], _, _, _ => rfl
  | a :: A, b, x, R => by
    show a :: ((A ++ b :: R).set A.length x) = a :: (A ++ x :: R)
    rw [set_mid A b x R]
/-- the marks while the number i + 1 is asked -/
noncomputable def mid (cs : List Int) (i m : Nat) (b : Bool) : List Bool := tb cs (i + 1) ++ b :: List.replicate (m - i - 1) false
theorem mid_len {cs : List Int} {i m : Nat} {b : Bool} (h : i < m) : (mid cs i m b).length = m + 1 := by
  unfold mid
  rw [List.length_append, tb_len, List.length_cons, List.length_replicate]
  omega
theorem mid_at {cs : List Int} {i m j : Nat} {b : Bool} (h : j ≤ i) : (mid cs i m b)[j]? = some (mb cs (j : Int)) := by
  unfold mid
  rw [List.getElem?_append_left (by rw [tb_len]; omega), tb_at (by omega)]
theorem mid_set {cs : List Int} {i m : Nat} {b x : Bool} : ((mid cs i m b).map V.bl).set (i + 1) (.bl x) = (mid cs i m x).map V.bl := by
  unfold mid
  have e := set_mid ((tb cs (i + 1)).map V.bl) (V.bl b) (V.bl x) ((List.replicate (m - i - 1) false).map V.bl)
  rw [List.length_map, tb_len] at e
  rw [List.map_append, List.map_append, List.map_cons, List.map_cons]
  exact e
theorem mid_start {cs : List Int} {i m : Nat} (h : i < m) : mid cs i m false = tb cs (i + 1) ++ List.replicate (m - i) false := by
  unfold mid
  rw [show m - i = (m - i - 1) + 1 by omega, List.replicate_succ]
  rw [show m - i - 1 + 1 - 1 = m - i - 1 by omega]
theorem mid_end {cs : List Int} {i m : Nat} : mid cs i m (mb cs ((i + 1 : Nat) : Int)) = tb cs (i + 1 + 1) ++ List.replicate (m - (i + 1)) false := by
  unfold mid
  rw [tb_succ cs (i + 1), List.append_assoc, show m - (i + 1) = m - i - 1 by omega]; rfl
section
variable {P : Program} {w : World} {K : PySem.W.Frag} {mg : Str → Option Value} {base : Heap} {k : Nat}
end
theorem euclid {x y : Int} (hx : 0 ≤ x) (hy : 0 < y) : Nat.gcd y.natAbs (x - x / y * y).natAbs = Nat.gcd x.natAbs y.natAbs := by
  have e : x - x / y * y = x % y := by
    have := Int.emod_add_mul_ediv x y
    rw [Int.mul_comm (x / y) y]
    omega
  rw [e]
  obtain ⟨a, rfl⟩ : ∃ n : Nat, x = n := ⟨x.toNat, by omega⟩
  obtain ⟨b, rfl⟩ : ∃ n : Nat, y = n := ⟨y.toNat, by omega⟩
  rw [← Int.natCast_emod, Int.natAbs_natCast, Int.natAbs_natCast, Int.natAbs_natCast, Nat.gcd_comm b (a % b), ← Nat.gcd_rec, Nat.gcd_comm]
theorem gl_small {cs : List Int} (h : ∀ c ∈ cs, 1 ≤ c ∧ c ≤ 48) : gl cs ≤ 48 := by
  cases cs with
  | nil => decide
  | cons c r =>
    have h1 := (gl_dvd (c :: r) (gl (c :: r)).natAbs).mp (Nat.dvd_refl _) c List.mem_cons_self
    have h2 := h c List.mem_cons_self
    have h3 := Nat.le_of_dvd (by omega) h1
    have h4 := gl_nonneg (c :: r)
    omega
section
variable {P : Program} {w : World} {K : PySem.W.Frag} {mg : Str → Option Value} {base : Heap} {k : Nat}
def spDivisor : Sp := fun vs H Q _ => ∃ x y : Int, vs = [.int x, .int y] ∧ 0 ≤ x ∧ 0 ≤ y ∧ y ≤ 1000000 ∧ Ret H Q (.int ((Nat.gcd x.natAbs y.natAbs : Nat) : Int))
end
/-! ### lists of ints as data -/
abbrev DI (ns : List Int) : PyData := .list (ns.map PyData.int)
theorem dpAll_ints {K : PySem.W.Frag} {H : Hp} : ∀ ns : List Int, DpAll K H (VI ns) (ns.map PyData.int)
  | [] => .nil
  | n :: r => .cons (.int n) (dpAll_ints r)
theorem dp_ints {K : PySem.W.Frag} {H : Hp} {a : Addr} {ns : List Int} (h : SqL K H a (VI ns)) : Dp K H (.ref a) (DI ns) := .lst h (dpAll_ints ns)
theorem di_lay : ∀ ns : List Int, PyData.canLayAll0 (ns.map PyData.int) = true
  | [] => rfl
  | n :: r => by rw [List.map_cons, PyData.canLayAll0, di_lay r]; rfl
theorem di_depthAll : ∀ ns : List Int, PyData.depthAll (ns.map PyData.int) ≤ 1
  | [] => by simp [PyData.depthAll]
  | n :: r => by
    have := di_depthAll r
    rw [List.map_cons, PyData.depthAll]
    simp only [PyData.depth]
    omega
theorem di_depth (ns : List Int) : (DI ns).depth ≤ 8 := by
  have := di_depthAll ns
  simp only [PyData.depth]
  omega
theorem di_shaped (ns : List Int) : SeqAt.shaped (DI ns) = true := by
  unfold SeqAt.shaped
  have h1 : (DI ns).canLay0 = true := by rw [PyData.canLay0]; exact di_lay ns
  have h2 := di_depth ns
  rw [h1, decide_eq_true (by omega)]; rfl
theorem di_refl (ns : List Int) : PyData.eqv (DI ns) (DI ns) = true := SeqAt.eqv_refl _ (by rw [PyData.canLay0]; exact di_lay ns)
theorem di_nil : ∀ ns : List Int, PyData.eqv (DI ns) (DI []) = ns.isEmpty
  | [] => di_refl []
  | n :: r => by rw [PyData.eqv, List.map_cons, List.map_nil]; rfl
theorem int_short : ∀ n : Nat, n < 1000 → (PyData.shown (.int (n : Int))).length ≤ 8 := by decide +kernel
theorem int_log : ∀ n : Nat, n < 1000 → n.log2 < 1920 := fun n h => by
  have h1 : n < 2 ^ 10 := by omega
  by_cases h0 : n = 0
  · subst h0; decide
  · have := (Nat.log2_lt h0).mpr h1
    omega
abbrev Sm (ns : List Int) : Prop := ∀ n ∈ ns, 0 ≤ n ∧ n < 1000
theorem di_leaves : ∀ ns : List Int, Sm ns → PyData.leavesShortAll 8 (ns.map PyData.int) = true
  | [], _ => rfl
  | n :: r, h => by
    have h1 := h n List.mem_cons_self
    rw [List.map_cons, PyData.leavesShortAll, di_leaves r fun x hx => h x (List.mem_cons_of_mem _ hx), Bool.and_true, PyData.leavesShort]
    have h2 := int_short n.toNat (by omega)
    rw [show ((n.toNat : Nat) : Int) = n by omega] at h2
    exact decide_eq_true h2
theorem di_showAll : ∀ ns : List Int, Sm ns → PyData.showableAll (ns.map PyData.int) = true
  | [], _ => rfl
  | n :: r, h => by
    have h1 := h n List.mem_cons_self
    rw [List.map_cons, PyData.showableAll, di_showAll r fun x hx => h x (List.mem_cons_of_mem _ hx), Bool.and_true, PyData.showable]
    exact decide_eq_true (int_log n.natAbs (by omega))
theorem di_dictAll : ∀ ns : List Int, PyData.hasDictAll (ns.map PyData.int) = false
  | [] => rfl
  | n :: r => by rw [List.map_cons, PyData.hasDictAll, di_dictAll r]; rfl
theorem di_bulk : ∀ ns : List Int, PyData.bulkAll (ns.map PyData.int) = ns.length
  | [] => rfl
  | n :: r => by rw [List.map_cons, PyData.bulkAll, di_bulk r, PyData.bulk, List.length_cons]; omega
/-- what repr asks of a list of small ints -/
theorem di_repr {ns : List Int} (h : Sm ns) (hz : ns.length ≤ 1000) : (DI ns).showable = true ∧ (DI ns).hasDict = false ∧ (DI ns).depth ≤ 8 ∧ (DI ns).shown.length ≤ sizeLine := by
  refine ⟨by rw [PyData.showable]; exact di_showAll ns h, by rw [PyData.hasDict]; exact di_dictAll ns, di_depth ns, PyData.shown_fits_bulk (B := 8) (by omega) (by omega) (by rw [PyData.leavesShort]; exact di_leaves ns h) ?_⟩
  rw [PyData.bulk, di_bulk]
  omega
/-- a pair of bools -/
theorem db_repr (b c : Bool) : (PyData.list [.bool b, .bool c]).showable = true ∧ (PyData.list [.bool b, .bool c]).hasDict = false ∧ (PyData.list [.bool b, .bool c]).depth ≤ 8 ∧ (PyData.list [.bool b, .bool c]).shown.length ≤ sizeLine := by
  cases b <;> cases c <;> refine ⟨by decide +kernel, by decide +kernel, by decide +kernel, ?_⟩ <;> exact Nat.le_trans (show _ ≤ 100 by decide +kernel) (by decide)
/-! ### slices -/
theorem cut_last (L : List V) (x : V) : cutV (L ++ [x]) none (some (-1)) = L := by
  have e : HT.sIx (L ++ [x]).length (L ++ [x]).length (some (-1)) = L.length := by
    show (if (-1 : Int) < 0 then ((-1 : Int) + ((L ++ [x]).length : Int)).toNat else min (-1 : Int).toNat (L ++ [x]).length) = L.length
    rw [if_pos (by decide), List.length_append, List.length_singleton]
    omega
  unfold cutV
  rw [e, HT.sIx_none, List.drop_zero, Nat.sub_zero]
  simp
/-! ### comprehensions over a list -/
section
variable {K : PySem.W.Frag} {a : Addr} {xs : List V} {g : TG} {tt : TT} {te : TE} {vs : List Nat} {σ : L2.St} {H : Hp}
theorem lc_l {Dd : Addr} {Qd : Hp → Prop} (f : Nat → Option V) (hS : SqL K H a xs) (hD : H Dd = none) (hz : xs.length ≤ sizeLine)
    (hs : ∀ i x H1, xs[i]? = some x → Same H H1 → LcTurn f g tt te vs σ i x H1 H1)
    (hd : ∀ H1, Same H H1 → H1 Dd = some (.lst ((List.range xs.length).filterMap f)) → Qd H1) : ∃ W : Nat → Nat → Hp → Prop, (∃ m, W 0 m (upd H Dd (.lst []))) ∧ ∀ i m H, W i m H →
      ((Itl K a).stop i H ∧ Qd H) ∨ ((Itl K a).go i H ∧ ∃ Nx : Hp → Prop, (∀ H', Nx H' → ∃ m', m' < m ∧ W (i + 1) m' H') ∧ ∀ x H', (Itl K a).yld i H x H' → g x (wipe σ vs) H' fun σ2 H2 => wipe σ2 vs = wipe σ vs ∧ tt σ2 H2 fun b H3 =>
        if b = true then te σ2 H3 fun y H4 => ∃ acc, H4 Dd = some (.lst acc) ∧ acc.length < sizeLine ∧ Nx (upd H4 Dd (.lst (acc ++ [y]))) else Nx H3) :=
  lc_list (xs := xs) (LcInv f H Dd) (LcInv.start hD) (fun i H1 _ p => p.1.seq hS) (fun i x H1 hx p => p.turn hD (Nat.lt_of_lt_of_le (List.getElem?_eq_some_iff.mp hx).1 hz) (Same.refl _) (hs i x H1 hx p.1)) fun H1 p => hd H1 p.1 p.2
end
theorem ints_map (c0 : List Int) (h : Int → Int) : (List.range (VI c0).length).filterMap (fun i => (c0[i]?).bind fun c => some (V.int (h c))) = VI (c0.map h) := by
  rw [vi_len, fm_all]
  unfold VI
  rw [List.map_map]
  induction c0 with
  | nil => rfl
  | cons c r ih => rw [List.filterMap_cons, List.map_cons, ih]; rfl
theorem ints_filter (c0 : List Int) (p : Int → Bool) : (List.range (VI c0).length).filterMap (fun i => (c0[i]?).bind fun c => if p c = true then some (V.int c) else none) = VI (c0.filter p) := by
  rw [vi_len, fm_all]
  induction c0 with
  | nil => rfl
  | cons c r ih =>
    rw [List.filterMap_cons, List.filter_cons, ih]
    cases e : p c <;> simp
/-! ### facts of the search with one count more -/
theorem rch_nil {n : Int} (r : Rch (fun c => c ∈ ([] : List Int)) n) : n = 0 := by
  cases r with
  | zero => rfl
  | step h _ => simp at h
theorem told_of {cs R : List Int} (T : Told cs) (h : IsLst cs R) (hm : ∀ x ∈ R, x ∈ cs) (hl : R.length ≤ 8) : Told R := by
  refine ⟨?_, hl, fun c hc => T.each c (hm c hc)⟩
  cases R with
  | nil =>
    have t1 := T.lo
    obtain ⟨c, hc⟩ : ∃ c, c ∈ cs := ⟨cs[0], List.getElem_mem (by omega)⟩
    have z := rch_nil ((h.rch c).mpr (.one hc))
    have := (T.each c hc).1
    omega
  | cons c r => rw [List.length_cons]; omega
structure More (cs ms R : List Int) : Prop where
  told : Told ms
  gl : gl ms = gl cs
  mb : ∀ n, mb ms n = mb cs n
  isL : IsL ms R
theorem more_of {cs R ex : List Int} (T : Told cs) (hl : cs.length ≤ 5) (h : IsLst cs R) (hex : ex = [] ∨ ∃ b, ex = [b] ∧ 0 < b ∧ b ≤ 48 ∧ mb cs b = true) : More cs (cs.reverse ++ ex) R := by
  have t1 := T.lo
  rcases hex with rfl | ⟨b, rfl, h0, h1, hb⟩
  · rw [List.append_nil]
    have m : ∀ x, x ∈ cs.reverse ↔ x ∈ cs := fun x => List.mem_reverse
    exact ⟨⟨by rw [List.length_reverse]; omega, by rw [List.length_reverse]; omega, fun c hc => T.each c ((m c).mp hc)⟩, gl_congr m, fun n => mb_congr (rch_congr m n), h.isL.congr fun x => (m x).symm⟩
  · have m : ∀ x, x ∈ cs.reverse ++ [b] ↔ x ∈ cs ∨ x = b := fun x => by rw [List.mem_append, List.mem_reverse, List.mem_singleton]
    have hb' := mb_iff.mp hb
    refine ⟨⟨by rw [List.length_append, List.length_reverse]; omega, by rw [List.length_append, List.length_reverse, List.length_singleton]; omega, fun c hc => ?_⟩, gl_more hb' m, fun n => mb_congr (rch_more hb' m n), h.more T.pos hb' m⟩
    rcases (m c).mp hc with q | q
    · exact T.each c q
    · omega
end K21

namespace K21
open PySem PySem.Spec PyProof.Rows L2 Fp
structure Mg2 (mg : Str → Option Value) : Prop extends Mg mg where
  zip : mg "zip" = none
  min : mg "min" = none
  sum : mg "sum" = none
  MOST_TURNED : ∃ t, mg "MOST_TURNED" = some (.int 24 t)
  MOST_MANY_ways : ∃ t, mg "MOST_MANY_ways" = some (.int 200 t)
  MOST_WAYS : ∃ t, mg "MOST_WAYS" = some (.int 400 t)
theorem sum_le : ∀ cs : List Int, (∀ c ∈ cs, 1 ≤ c ∧ c ≤ 48) → cs.sum ≤ 48 * cs.length ∧ 0 ≤ cs.sum
  | [], _ => by simp
  | c :: r, h => by
    have := sum_le r fun x hx => h x (List.mem_cons_of_mem _ hx)
    have := h c List.mem_cons_self
    rw [List.sum_cons, List.length_cons]
    omega
theorem Told.met {cs : List Int} {a n : Int} (T : Told cs) (ha : a ∈ cs) (h1 : gl cs = 1) (hn : 18048 ≤ n) : mb cs n = true := by
  refine mb_iff.mpr (all_met T.pos ha h1 ?_)
  have q := sum_le cs T.each
  have t := T.hi
  have e := T.each a ha
  have b1 : (a - 1) * cs.sum ≤ (a - 1) * 384 := Int.mul_le_mul_of_nonneg_left (by omega) (by omega)
  omega
theorem big {n : Nat} (h : n ≤ 20000) : n < sizeLine := by rw [sizeLine_eq]; omega
abbrev sUnmet : Stmt := top 26
def spUnmet (K : PySem.W.Frag) : Sp := fun vs H Q _ => ∃ (a : Addr) (cs : List Int), vs = [.ref a] ∧ Sq K H a (VI cs) ∧ Told cs ∧ gl cs = 1 ∧
  ∀ p H' R, GapOf cs R → R.length ≤ 18200 → Same H H' → H p = none → H' p = some (.lst (VI R)) → Q (.ref p) H'
def sp_is_in_table (K : PySem.W.Frag) : Sp := fun vs H Q _ => ∃ (t : Addr) (cs : List Int) (m n : Int), vs = [.ref t, .int n] ∧ SqL K H t ((tb cs m.toNat).map V.bl) ∧ Pos cs ∧ n < m ∧ 0 ≤ m ∧ Ret H Q (.bl (mb cs n))
def sp_lot_number (K : PySem.W.Frag) : Sp := fun vs H Q _ => ∃ (a t : Addr) (cs : List Int) (m n : Int), vs = [.ref a, .int n, .ref t] ∧ Sq K H a (VI cs) ∧ Told cs ∧ SqL K H t ((tb cs m.toNat).map V.bl) ∧ 0 ≤ n ∧ n < m ∧
  ∀ H' r, (1 < r ↔ Tn cs n) → Same H H' → Q (.int r) H'
def sp_last_to_turn (K : PySem.W.Frag) : Sp := fun vs H Q _ => ∃ (a : Addr) (cs : List Int), vs = [.ref a] ∧ Sq K H a (VI cs) ∧ Told cs ∧ (∀ c ∈ cs, c ≤ 24) ∧
  ∀ H' s, 0 ≤ s → s ≤ 640 → (∀ n, Tn cs n → n ≤ s) → Same H H' → Q (.int s) H'
def sp_turning_counts (K : PySem.W.Frag) : Sp := fun vs H Q _ => ∃ (a : Addr) (cs : List Int), vs = [.ref a] ∧ Sq K H a (VI cs) ∧ Told cs ∧ (∀ c ∈ cs, c ≤ 24) ∧
  ∀ p H' R, TurnOf cs R → R.length ≤ 640 → Same H H' → H p = none → H' p = some (.lst (VI R)) → Q (.ref p) H'
theorem Told.dv {cs : List Int} (T : Told cs) : Told (dv cs) := by
  have p := dv_pos T.lo T.pos
  have g0 := glpos T.lo T.pos
  refine ⟨by unfold K21.dv; rw [List.length_map]; exact T.lo, by unfold K21.dv; rw [List.length_map]; exact T.hi, fun c hc => ⟨p c hc, ?_⟩⟩
  obtain ⟨d, hd, rfl⟩ := List.mem_map.mp hc
  have := T.each d hd
  exact Int.le_trans (Int.ediv_le_self _ (by omega)) this.2
theorem top_le {S : List Int} (h : ∀ x ∈ S, 1 ≤ x ∧ x ≤ 24) (h1 : 1 ≤ S.length) : (∃ x ∈ S, x ≤ (S.drop (S.length - 2)).sum) ∧ (S.drop (S.length - 2)).sum ≤ 48 := by
  have l : (S.drop (S.length - 2)).length = 1 ∨ (S.drop (S.length - 2)).length = 2 := by rw [List.length_drop]; omega
  have hd : ∀ x ∈ S.drop (S.length - 2), x ∈ S := fun x hx => List.mem_of_mem_drop hx
  generalize S.drop (S.length - 2) = D at l hd
  rcases l with l | l
  · match D, l with
    | [x], _ =>
      have hx := h x (hd x (by simp))
      exact ⟨⟨x, hd x (by simp), by show x ≤ x + 0; omega⟩, by show x + 0 ≤ 48; omega⟩
  · match D, l with
    | [x, y], _ =>
      have hx := h x (hd x (by simp))
      have hy := h y (hd y (by simp))
      exact ⟨⟨x, hd x (by simp), by show x ≤ x + (y + 0); omega⟩, by show x + (y + 0) ≤ 48; omega⟩
theorem last_ok {cs R S : List Int} (T : Told cs) (h24 : ∀ c ∈ cs, c ≤ 24) (hR : GapOf (dv cs) R) (hp : S.Perm cs) (hs : S.Pairwise (· ≤ ·)) : 0 ≤ (S.drop (S.length - 2)).sum + lastU R * gl cs ∧ (S.drop (S.length - 2)).sum + lastU R * gl cs ≤ 640 ∧ ∀ n, Tn cs n → n ≤ (S.drop (S.length - 2)).sum + lastU R * gl cs := by
  have t1 := T.lo
  have g0 := glpos T.lo T.pos
  have lS := hp.length_eq
  obtain ⟨⟨x, hx, xs⟩, top⟩ := top_le (S := S) (fun x hx => by
    have m := hp.mem_iff.mp hx
    exact ⟨(T.each x m).1, h24 x m⟩) (by omega)
  have mx := hp.mem_iff.mp hx
  have gx : gl cs ≤ x := Int.le_of_dvd (T.pos x mx) (gl_dvdI mx)
  have ge := lastU_ge hR
  have lo : -1 * gl cs ≤ lastU R * gl cs := Int.mul_le_mul_of_nonneg_right ge (by omega)
  obtain ⟨M, hM, hMx⟩ : ∃ M ∈ cs, ∀ c ∈ cs, c ≤ M := by
    rcases List.eq_nil_or_concat S with e | ⟨A, z, e⟩
    · rw [e] at lS; simp at lS; omega
    · rw [List.concat_eq_append] at e
      refine ⟨z, hp.mem_iff.mp (by rw [e]; simp), fun c hc => ?_⟩
      have := hp.mem_iff.mpr hc
      rw [e] at this hs
      rcases List.mem_append.mp this with q | q
      · exact (List.pairwise_append.mp hs).2.2 c q z (by simp)
      · rw [List.mem_singleton.mp q]; omega
  have hi : lastU R * gl cs ≤ 576 := by
    rcases Int.lt_or_le 576 (lastU R * gl cs) with z | z
    · exfalso
      have h0 : 0 ≤ lastU R := by
        rcases Int.lt_or_le (lastU R) 0 with q | q
        · have : lastU R = -1 := by omega
          rw [this] at z; omega
        · exact q
      have hm : mb (dv cs) (lastU R) = false := by
        unfold lastU at h0 ⊢
        cases q : R.getLast? with
        | none => rw [q] at h0; have h0' : (0 : Int) ≤ -1 := h0; omega
        | some g => exact ((hR.mem g).mp (last_top hR.srt q).1).2
      have m1 : 1 ≤ M ∧ M ≤ 24 := ⟨(T.each M hM).1, h24 M hM⟩
      have mm : M * M ≤ 24 * 24 := Int.mul_le_mul m1.2 m1.2 (by omega) (by omega)
      have := above_prod T.lo T.pos hM hM hMx (m := lastU R * gl cs) (by omega) ⟨lastU R, Int.mul_comm _ _⟩
      rw [met_dv T.lo T.pos, hm] at this
      cases this
    · exact z
  refine ⟨by omega, by omega, fun n hn => ?_⟩
  exact Tn.le (fun i j c d ne h1 h2 => top_two hp hs ne h1 h2 T.pos) (fun m h1 h2 => above_last T.lo T.pos hR h1 h2) hn
/-- the turning counts up to i -/
structure TurnTo (cs : List Int) (i : Nat) (R : List Int) : Prop where
  srt : R.Pairwise (· < ·)
  mem : ∀ n, n ∈ R ↔ 1 ≤ n ∧ n ≤ i ∧ Tn cs n
  len : R.length ≤ i
theorem TurnTo.nil {cs : List Int} : TurnTo cs 0 [] := ⟨List.Pairwise.nil, fun n => ⟨fun h => (by cases h), fun h => by omega⟩, Nat.le_refl _⟩
theorem TurnTo.yes {cs R : List Int} {i : Nat} (h : TurnTo cs i R) (t : Tn cs (1 + (i : Int))) : TurnTo cs (i + 1) (R ++ [1 + (i : Int)]) := by
  refine ⟨List.pairwise_append.mpr ⟨h.srt, List.pairwise_singleton _ _, fun a ha b hb => ?_⟩, fun n => ?_, by rw [List.length_append, List.length_singleton]; have := h.len; omega⟩
  · have := ((h.mem a).mp ha).2.1
    rw [List.mem_singleton.mp hb]; omega
  · rw [List.mem_append, h.mem, List.mem_singleton]
    constructor
    · rintro (⟨a, b, c⟩ | rfl)
      · exact ⟨a, by omega, c⟩
      · exact ⟨by omega, by omega, t⟩
    · rintro ⟨a, b, c⟩
      rcases Int.lt_or_le (i : Int) n with z | z
      · exact .inr (by omega)
      · exact .inl ⟨a, z, c⟩
theorem TurnTo.no {cs R : List Int} {i : Nat} (h : TurnTo cs i R) (t : ¬ Tn cs (1 + (i : Int))) : TurnTo cs (i + 1) R := by
  refine ⟨h.srt, fun n => ?_, by have := h.len; omega⟩
  rw [h.mem]
  constructor
  · rintro ⟨a, b, c⟩
    exact ⟨a, by omega, c⟩
  · rintro ⟨a, b, c⟩
    refine ⟨a, ?_, c⟩
    rcases Int.lt_or_le (i : Int) n with z | z
    · exfalso
      rw [show n = 1 + (i : Int) by omega] at c
      exact t c
    · exact z
theorem TurnTo.all {cs R : List Int} {i : Nat} (h : TurnTo cs i R) (hl : ∀ n, Tn cs n → n ≤ i) : TurnOf cs R := ⟨h.srt, fun n => by
  rw [h.mem]
  exact ⟨fun ⟨a, _, c⟩ => ⟨a, c⟩, fun ⟨a, c⟩ => ⟨a, hl n c, c⟩⟩⟩
/-- positions as ints -/
abbrev toI (l : List Nat) : List Int := l.map Int.ofNat
theorem ofNat_inj {a b : Nat} (e : Int.ofNat a = Int.ofNat b) : a = b := Int.ofNat.inj e
theorem toI_inj {l m : List Nat} (h : toI l = toI m) : l = m := (List.map_inj_right fun a b => ofNat_inj).mp h
theorem toI_mem {L : List (List Nat)} {l : List Nat} : toI l ∈ L.map toI ↔ l ∈ L := by
  constructor
  · intro h
    obtain ⟨m, hm, e⟩ := List.mem_map.mp h
    rw [← toI_inj e]
    exact hm
  · exact fun h => List.mem_map.mpr ⟨l, h, rfl⟩
/-- near: a position of the lot stands with i -/
noncomputable def nr (cs : List Int) (left : Int) (A : List Nat) : Bool := A.any fun j => mb cs (left - cs.getD j 0)
theorem nr_iff {cs : List Int} {n c : Int} {i : Nat} (hc : cs[i]? = some c) {A : List Nat} (hA : ∀ a ∈ A, a < cs.length) : nr cs (n - c) A = true ↔ ∃ a ∈ A, Ad cs n i a := by
  unfold nr
  rw [List.any_eq_true]
  constructor
  · rintro ⟨a, ha, h⟩
    have e := List.getElem?_eq_getElem (hA a ha)
    refine ⟨a, ha, c, cs[a]'(hA a ha), hc, e, ?_⟩
    rw [List.getD_eq_getElem?_getD, e] at h
    exact h
  · rintro ⟨a, ha, c', d, e1, e2, h⟩
    rw [hc] at e1
    obtain rfl := Option.some.inj e1
    refine ⟨a, ha, ?_⟩
    rw [List.getD_eq_getElem?_getD, e2]
    exact h
theorem of_dec {p : Prop} {i : Decidable p} (h : @decide p i = true) : p := @of_decide_eq_true p i h
theorem to_dec {p : Prop} {i : Decidable p} (h : p) : @decide p i = true := @decide_eq_true p i h
theorem nr_old {cs : List Int} {left : Int} {L : List (List Nat)} {l : List Nat} (h : l ∈ L) : toI l ∈ (L.filter (nr cs left)).map toI ↔ nr cs left l = true :=
  ⟨fun z => (List.mem_filter.mp (toI_mem.mp z)).2, fun z => toI_mem.mpr (List.mem_filter.mpr ⟨h, z⟩)⟩
theorem filter_take {α : Type} {L : List α} {p : α → Bool} {i : Nat} {x : α} (h : L[i]? = some x) : (L.take (i + 1)).filter p = (L.take i).filter p ++ (if p x = true then [x] else []) := by
  rw [take_one h, List.filter_append]
  congr 1
  cases e : p x with
  | true => rw [List.filter_cons_of_pos e]; rfl
  | false => rw [List.filter_cons_of_neg (by rw [e]; exact Bool.false_ne_true)]; rfl
theorem mem_flat_len {L : List (List Nat)} {A : List Nat} (h : A ∈ L) : A.length ≤ L.flatten.length := by
  induction L with
  | nil => cases h
  | cons B L ih =>
    rw [List.flatten_cons, List.length_append]
    rcases List.mem_cons.mp h with e | e
    · rw [e]; omega
    · have := ih e; omega
theorem flat_split {L : List (List Nat)} (p : List Nat → Bool) : (L.filter fun A => !p A).flatten.length + (L.filter p).flatten.length = L.flatten.length := by
  induction L with
  | nil => rfl
  | cons A L ih =>
    cases e : p A with
    | true => rw [List.filter_cons_of_neg (by rw [e]; exact Bool.false_ne_true), List.filter_cons_of_pos e, List.flatten_cons, List.flatten_cons, List.length_append, List.length_append]; omega
    | false => rw [List.filter_cons_of_pos (by rw [e]; rfl), List.filter_cons_of_neg (by rw [e]; exact Bool.false_ne_true), List.flatten_cons, List.flatten_cons, List.length_append, List.length_append]; omega
section
variable {P : Program} {w : World} {K : PySem.W.Frag} {mg : Str → Option Value} {base : Heap} {k : Nat}
-- slots: counts 0, wanted 1, table 2, found 3, in_a_row 4, count 5; cells: 
abbrev N_unmet : List Str := ["counts", "wanted", "table", "found", "in_a_row", "count"]
theorem sc_unmet : FnScope N_unmet ["counts"] (defScope sUnmet) := ⟨rfl, rfl, rfl, by decide +kernel, rfl, by decide +kernel, by decide +kernel⟩
theorem d_unmet (B : Bnd K mg "unmet" sUnmet) (M : Mg2 mg)  (D_is_next_met : Def P w K mg base k "is_next_met" sNext ["counts", "table", "count"] (spNext K)) : Def P w K mg base (k + 1) "unmet" sUnmet ["counts"] (spUnmet K) := by
  refine def_of B sc_unmet (by rintro _ _ _ _ ⟨a, cs, rfl, _⟩; rfl) (fun _ _ _ _ _ _ us hl => match us, hl with | [_], _ => rfl) fun f cdv A outer s H vs Q E hr h => ?_
  obtain ⟨a, cs, rfl, hS, T, hg, q⟩ := h
  have hu := hr.units
  refine ⟨_, pss_cons (ps_set (i := 1) sc_unmet.nd rfl (.inl rfl) (pe_callB (cr_minS rfl) (by rfl) M.min (by decide +kernel) (pa_cons (pv 0) pa_nil)))
    (pss_cons (ps_par3 (i := 2) (j := 3) (l := 4) rfl sc_unmet.nd rfl rfl rfl (by decide) (by decide) (by decide) rfl rfl rfl (pa_cons (pe_lst (pa_cons pe_bl pa_nil)) (pa_cons (pe_lst pa_nil) (pa_cons pe_int pa_nil))) (by rfl))
    (pss_cons (ps_while PassesOwn.never (pt_cmpR op_lt (pv 4) (pv 1) (nomark _))
      (pss_cons (ps_set (i := 5) sc_unmet.nd rfl (.inl rfl) (pe_callB call_len_seq (by rfl) M.len boot_len (pa_cons (pv 2) pa_nil)))
      (pss_cons (ps_expr (pe_bm PySem.F.plainAttrs_list PySem.F.slot_list_append PySem.F.type_list_append mt_append (pv 2) (pa_cons (pe_d D_is_next_met hr (by rfl) (pa_cons (pv 0) (pa_cons (pv 2) (pa_cons (pv 5) pa_nil)))) pa_nil)))
      (pss_one (ps_if (pt_val (pe_ix (r := rIxL K) ix_list (pv 2) (pv 5) (fun _ _ => rfl)))
        (pss_one (ps_aug (i := 4) sc_unmet.nd rfl (.inl rfl) pe_int ip_add))
        (pss_cons (ps_set (i := 4) sc_unmet.nd rfl (.inl rfl) pe_int)
        (pss_one (ps_expr (pe_bm PySem.F.plainAttrs_list PySem.F.slot_list_append PySem.F.type_list_append mt_append (pv 3) (pa_cons (pv 5) pa_nil))))))))))
    (pss_one (ps_ret (pv 3))))), ?_⟩
  have t1 := T.lo
  have t2 := T.hi
  refine ⟨_, rfl, a, cs, rfl, hS, by omega, fun m hm hmin => ?_⟩
  have hm2 := T.each m hm
  refine ⟨(by show 1 ≤ sizeLine; decide), fun p np => ⟨Nat.zero_le _, fun r nr => ⟨_, _, _, rfl, ?_⟩⟩⟩
  have s1 : Same H (upd H p (.lst [.bl true])) := same_new np
  have s2 := s1.trans (same_new (o := .lst []) nr)
  have ne : p ≠ r := ne_of_none upd_same nr
  have nrH : H r = none := s1.free nr
  refine ⟨fun mm σ H' => ∃ (n : Nat) (j : Int) (y : Option V), σ = [some (.ref a), some (.int m), some (.ref p), some (.ref r), some (.int j), y] ∧ mm = 40000 - n ∧ 1 ≤ n ∧ 0 ≤ j ∧ j ≤ n ∧ (n : Int) ≤ 18049 + j ∧ j ≤ m ∧ (∀ i : Int, (n : Int) - j ≤ i → i < n → mb cs i = true) ∧
      Same H H' ∧ H' p = some (.lst ((tb cs n).map V.bl)) ∧ H' r = some (.lst (VI (gapsL cs n))), ⟨_, 1, 1, none, rfl, rfl, by omega, by omega, by omega, by omega, by omega, fun i h1 h2 => ?_, s2, ?_, ?_⟩, ?_⟩
  · rw [show i = 0 by omega]; exact mb_zero
  · rw [upd_ne ne, upd_same, tb_one]; rfl
  · rw [upd_same, gapsL_succ, show ((0 : Nat) : Int) = 0 from rfl, mb_zero]; rfl
  rintro mm σ H' ⟨n, j, y, rfl, rfl, n1, j0, jn, nb, jm, row, sm, hp, hr2⟩
  refine ⟨_, rfl, _, rfl, j, m, rfl, rfl, _, rfl, ite2 (fun c => ?_) (fun c => ?_)⟩
  · have c' : j < m := of_decide_eq_true c
    refine ⟨fun σ' H1 => ∃ (j' : Int) (y : Option V), σ' = [some (.ref a), some (.int m), some (.ref p), some (.ref r), some (.int j'), y] ∧ 0 ≤ j' ∧ j' ≤ (n + 1 : Nat) ∧ ((n + 1 : Nat) : Int) ≤ 18049 + j' ∧ j' ≤ m ∧ (∀ i : Int, ((n + 1 : Nat) : Int) - j' ≤ i → i < (n + 1 : Nat) → mb cs i = true) ∧
      Same H H1 ∧ H1 p = some (.lst ((tb cs (n + 1)).map V.bl)) ∧ H1 r = some (.lst (VI (gapsL cs (n + 1)))), fun σ' H1 ⟨j', y', a1, a2, a3, a4, a5, a6, a7, a8, a9⟩ => ⟨40000 - (n + 1), by omega, n + 1, j', y', a1, rfl, by omega, a2, a3, a4, a5, a6, a7, a8, a9⟩, ?_⟩
    have ln : ((tb cs n).map V.bl).length = n := by rw [List.length_map, tb_len]
    refine ⟨_, rfl, p, _, rfl, .inl (SqL.of hp), ?_⟩
    rw [ln]
    refine ⟨_, rfl, Or.inl ⟨rfl, _, SqL.of hp⟩, _, rfl, _, rfl, _, rfl, a, p, cs, n, rfl, hS.same sm, T.pos, by omega, (by rw [Int.toNat_natCast]; exact SqL.of hp), by omega, fun H2 s3 => ?_⟩
    refine ⟨p, _, _, rfl, rfl, s3 _ _ hp, (by rw [ln]; exact big (by omega)), ?_⟩
    have hp3 : (upd H2 p (.lst ((tb cs n).map V.bl ++ [.bl (mb cs n)]))) p = some (.lst ((tb cs (n + 1)).map V.bl)) := by
      rw [upd_same, tb_succ, List.map_append]; rfl
    have hr3 : (upd H2 p (.lst ((tb cs n).map V.bl ++ [.bl (mb cs n)]))) r = some (.lst (VI (gapsL cs n))) := by
      rw [upd_ne ne.symm]
      exact s3 _ _ hr2
    have s4 : Same H (upd H2 p (.lst ((tb cs n).map V.bl ++ [.bl (mb cs n)]))) := fun b o hb => by
      rw [upd_ne (ne_of_none hb np)]
      exact s3 _ _ (sm _ _ hb)
    refine ⟨_, rfl, _, rfl, p, _, (n : Int), .bl (mb cs n), rfl, rfl, SqL.of hp3, atI_nat (by rw [List.getElem?_map, tb_at (Nat.lt_succ_self n)]; rfl), mb cs n, rfl, ?_⟩
    cases em : mb cs (n : Int) with
    | true =>
      refine iteT ⟨_, rfl, j, 1, rfl, rfl, j + 1, some (.int n), rfl, by omega, by omega, by omega, by omega, fun i h1 h2 => ?_, ?_, ?_, ?_⟩
      · rcases Int.lt_or_le i (n : Int) with h3 | h3
        · exact row i (by omega) h3
        · rw [show i = (n : Int) by omega]; exact em
      · rw [em] at s4; exact s4
      · rw [em] at hp3; exact hp3
      · rw [gapsL_succ, em, if_pos rfl, List.append_nil]
        rw [em] at hr3
        exact hr3
    | false =>
      have n2 : (n : Int) < 18048 := by
        rcases Int.lt_or_le (n : Int) 18048 with h3 | h3
        · exact h3
        · have := T.met hm hg h3
          rw [em] at this
          cases this
      rw [em] at s4 hp3 hr3
      refine iteF ⟨_, rfl, Or.inl ⟨rfl, _, SqL.of hr3⟩, _, rfl, r, _, _, rfl, rfl, hr3, ?_, 0, some (.int n), rfl, by omega, by omega, by omega, by omega, fun i h1 h2 => by omega, fun b o hb => ?_, ?_, ?_⟩
      · have := gapsL_len cs n
        rw [vi_len]
        exact big (by omega)
      · rw [upd_ne (ne_of_none hb nrH)]
        exact s4 _ _ hb
      · rw [upd_ne ne]
        exact hp3
      · rw [upd_same, gapsL_succ, em, if_neg Bool.false_ne_true]
        unfold VI
        rw [List.map_append]; rfl
  · have c' : ¬ j < m := of_decide_eq_false (Bool.eq_false_iff.mpr c)
    have ej : j = m := by omega
    subst ej
    have all := row_all hm (by omega) row
    refine ⟨_, rfl, q r H' (gapsL cs n) (gapOf_L fun i hi => all i (by omega)) ?_ sm nrH hr2⟩
    have := gapsL_len cs n
    omega
-- slots: table 0, count 1; cells: 
abbrev s_is_in_table : Stmt := top 23
abbrev N_is_in_table : List Str := ["table", "count"]
theorem sc_is_in_table : FnScope N_is_in_table ["table", "count"] (defScope s_is_in_table) := ⟨rfl, rfl, rfl, by decide +kernel, rfl, by decide +kernel, by decide +kernel⟩
theorem d_is_in_table (B : Bnd K mg "is_in_table" s_is_in_table) (M : Mg2 mg)   : Def P w K mg base (k + 1) "is_in_table" s_is_in_table ["table", "count"] (sp_is_in_table K) := by
  refine def_of B sc_is_in_table (by rintro _ _ _ _ ⟨t, cs, m, n, rfl, _⟩; rfl) (fun _ _ _ _ _ _ us hl => match us, hl with | [_, _], _ => rfl) fun f cdv A outer s H vs Q E hr h => ?_
  obtain ⟨t, cs, m, n, rfl, hT, hp, hn, h0, q⟩ := h
  have hu := hr.units
  refine ⟨_, pss_one (ps_ret (pe_and (pe_cmpR op_ge (pv 1) pe_int (nomark _)) (pe_one (pe_ix (r := rIxL K) ix_list (pv 0) (pv 1) (fun _ _ => rfl))))), ?_⟩
  refine ⟨_, rfl, n, 0, rfl, rfl, decide (0 ≤ n), rfl, ite2 (fun h => ?_) (fun h => ?_)⟩
  · have h' : 0 ≤ n := of_decide_eq_true h
    have hg : ((tb cs m.toNat).map V.bl)[n.toNat]? = some (.bl (mb cs n)) := by
      rw [List.getElem?_map, tb_at (by omega), show ((n.toNat : Nat) : Int) = n by omega]; rfl
    exact ⟨_, rfl, _, rfl, t, _, n, .bl (mb cs n), rfl, rfl, hT, at_of (by omega) hg, q _ (Same.refl _)⟩
  · have h' : ¬ 0 ≤ n := fun z => h (decide_eq_true z)
    have e : mb cs n = false := mb_neg hp (by omega)
    rw [e] at q
    exact q _ (Same.refl _)
-- slots: counts 0, count 1, table 2, lots 3, at 4, one 5, left 6, near 7, apart 8, lot 9, place 10; cells: counts left near table
abbrev s_lot_number : Stmt := top 39
abbrev N_lot_number : List Str := ["counts", "count", "table", "lots", "at", "one", "left", "near", "apart", "lot", "place"]
theorem sc_lot_number : FnScope N_lot_number ["counts", "count", "table"] (defScope s_lot_number) := ⟨rfl, rfl, rfl, by decide +kernel, rfl, by decide +kernel, by decide +kernel⟩
theorem d_lot_number (B : Bnd K mg "lot_number" s_lot_number) (M : Mg2 mg)  (D_is_in_table : Def P w K mg base k "is_in_table" s_is_in_table ["table", "count"] (sp_is_in_table K)) : Def P w K mg base (k + 1) "lot_number" s_lot_number ["counts", "count", "table"] (sp_lot_number K) := by
  refine def_of B sc_lot_number (by rintro _ _ _ _ ⟨a, t, cs, m, n, rfl, _⟩; rfl) (fun _ _ _ _ _ _ us hl => match us, hl with | [_, _, _], _ => rfl) fun f cdv A outer s H vs Q E hr h => ?_
  obtain ⟨a, t, cs, m, n, rfl, hS, T, hT, h0, h1, q⟩ := h
  have hu := hr.units
  refine ⟨_, pss_cons (ps_set (i := 3) sc_lot_number.nd rfl (.inl rfl) (pe_lst pa_nil))
    (pss_cons (ps_for PassesOwn.never rfl (pi_enumS (by rfl) M.enum (pa_cons (pv 0) pa_nil)) (pg_tup rfl (pgs_cons (pg_name (i := 4) sc_lot_number.nd rfl (.inl rfl)) (pgs_cons (pg_name (i := 5) sc_lot_number.nd rfl (.inl rfl)) pgs_nil)))
      (pss_cons (ps_set (i := 6) sc_lot_number.nd rfl (.inr rfl) (pe_op op_sub (pv 1) (pv 5)))
      (pss_one (ps_if (PW.pt (pw_and (pt_cmpR op_ge (pv 6) pe_int (nomark _)) (pw_and1 (pt_val (pe_ix (r := rIxL K) ix_list (pv 2) (pv 6) (fun _ _ => rfl))))))
        (pss_cons (ps_set (i := 7) sc_lot_number.nd rfl (.inr rfl) (pe_lc (own := [("lot", 9)]) (g := (gName 9)) (tt := (tB (tCB _ (tCons (tLc (iList K (tVar 9)) (gName 10) tYes (tD _ (tCons (tVar 2) (tCons (tOp _ (tVar 6) (tOp (rIxQ K) (tVar 0) (tVar 10))) tNil))) (List.map (·.2) [("place", 10)])) tNil)))) (te := (tVar 9)) rfl sc_lot_number.nd (pi_list (pv 3)) (blkOk_by (own := [("lot", 9)]) (N := N_lot_number) (sc := defScope s_lot_number) (by decide +kernel)) (fun _ _ _ _ _ => pg_name (i := 9) sc_lot_number.nd rfl (.inl rfl)) (fun _ _ _ _ _ => pts_one (pt_val (pe_callB (show CallR _ _ (rAny K) from (cr_any rfl)) (by rfl) M.any boot_any (pa_cons (pe_lc (own := [("place", 10)]) (g := (gName 10)) (tt := tYes) (te := (tD _ (tCons (tVar 2) (tCons (tOp _ (tVar 6) (tOp (rIxQ K) (tVar 0) (tVar 10))) tNil)))) rfl sc_lot_number.nd (pi_list (pv 9)) (blkOk_by (own := [("place", 10)]) (N := N_lot_number) (sc := { kind := ScopeKind.function, names := [(".0", .local), ("lot", .local), ("any", .globalImplicit), ("counts", .cell), ("left", .cell), ("table", .cell)], isGenerator := false, isCoroutine := false }) (by decide +kernel)) (fun _ _ _ _ _ => pg_name (i := 10) sc_lot_number.nd rfl (.inl rfl)) (fun _ _ _ _ _ => pts_nil) (fun _ _ _ _ _ => pe_d D_is_in_table hr (by rfl) (pa_cons (pv 2) (pa_cons (pe_op op_sub (pv 6) (pe_ix (r := rIxQ K) ix_sq (pv 0) (pv 10) (fun _ _ => rfl))) pa_nil)))) pa_nil)))) (fun _ _ _ _ _ => pv 9)))
        (pss_cons (ps_setLc (i := 8) (own := [("lot", 9)]) (g := (gName 9)) (tt := (tTest (tOp _ (tVar 9) (tVar 7)))) (te := (tVar 9)) rfl sc_lot_number.nd rfl rfl (sw_true rfl rfl rfl (by decide +kernel)) (pi_list (pv 3)) (blkOk_by (own := [("lot", 9)]) (N := N_lot_number) (sc := defScope s_lot_number) (by decide +kernel)) (fun _ _ _ _ _ => pg_name (i := 9) sc_lot_number.nd rfl (.inl rfl)) (fun _ _ _ _ _ => pts_one (pt_cmpR (show OpR _ _ (rNiH (List Int) K) from (op_niH (List Int) (dle1 hu (by decide)))) (pv 9) (pv 7) (by rfl))) (fun _ _ _ _ _ => pv 9))
        (pss_one (ps_set (i := 3) sc_lot_number.nd rfl (.inl rfl) (pe_lst (StX.pa_star (pv 8) (pa_cons (pe_lst (pa_cons (pv 4) (StX.pa_star (pe_lc2 (wi1 := (iList K (tVar 9))) (own := [("lot", 9), ("place", 10)]) (vs1 := [10]) (g := (gName 9)) (tt := tYes) (g1 := (gName 10)) (tt1 := tYes) (te := (tVar 10)) rfl sc_lot_number.nd (pi_list (pv 7)) (blkOk_by (own := [("lot", 9), ("place", 10)]) (N := N_lot_number) (sc := defScope s_lot_number) (by decide +kernel)) (by decide) (fun _ _ _ _ _ => pg_name (i := 9) sc_lot_number.nd rfl (.inl rfl)) (fun _ _ _ _ _ => pts_nil) (fun _ _ _ _ _ => pi_list (pv 9)) (fun _ _ _ _ _ => pg_name (i := 10) sc_lot_number.nd rfl (.inl rfl)) (fun _ _ _ _ _ => pts_nil) (fun _ _ _ _ _ => pv 10)) pa_nil))) pa_nil)))))))
        (pss_nil)))))
    (pss_one (ps_ret (pe_callB call_len_seq (by rfl) M.len boot_len (pa_cons (pv 3) pa_nil))))), ?_⟩
  have t1 := T.lo
  have t2 := T.hi
  have ln := vi_len cs
  refine ⟨Nat.zero_le _, fun p np => ?_⟩
  obtain ⟨κ, hκ⟩ := sqk_of hS
  have s0 : Same H (upd H p (.lst [])) := same_new np
  refine ⟨_, rfl, a, VI cs, κ, rfl, hκ.same s0, ?_⟩
  refine for_it (walk_enumS (n := cs.length) ln.symm) (fun i σ H' => ∃ (p : Addr) (ls : List V) (L : List (List Nat)) (y4 y5 y6 y7 y8 : Option V), σ = [some (.ref a), some (.int n), some (.ref t), some (.ref p), y4, y5, y6, y7, y8, none, none] ∧ Same H H' ∧ H' p = some (.lst ls) ∧ Hs K H' ls (L.map toI) ∧
      Lots (Ad cs n) (fun x => x < i ∧ Vx cs n x) L ∧ L.length ≤ i ∧ L.flatten.length ≤ i)
    ⟨p, [], [], none, none, none, none, none, rfl, s0, upd_same, .nil, Lots.nil (fun x h => by omega), Nat.le_refl _, Nat.le_refl _⟩ (fun i σ' H' hi ⟨_, _, _, _, _, _, _, _, _, s1, _⟩ => hκ.same s1) (fun i x σ' H1 H2 hi pv y => ?_) (fun σ' H1 pv => ?_)
  · obtain ⟨p, ls, L, y4, y5, y6, y7, y8, rfl, s1, hp, hls, hL, l1, l2⟩ := pv
    obtain ⟨Tt, x1, x2, rfl, nT, rfl, hx1, hx2⟩ := y
    obtain rfl := Option.some.inj hx1
    obtain ⟨c, hc, rfl⟩ := vi_at hx2
    have c0 := T.each c (List.mem_of_getElem? hc)
    have s2 : Same H1 (upd H1 Tt (.tup [.int (i : Nat), .int c])) := same_new nT
    have s12 := s1.trans s2
    refine ⟨Tt, _, rfl, SqT.of upd_same, rfl, _, _, rfl, _, _, rfl, rfl, ?_⟩
    refine ⟨_, rfl, _, rfl, n, c, rfl, rfl, ?_⟩
    have noV : mb cs (n - c) = false → Lots (Ad cs n) (fun x => x < i + 1 ∧ Vx cs n x) L := fun em => by
      have e : (fun x => x < i + 1 ∧ Vx cs n x) = fun x => x < i ∧ Vx cs n x := by
        funext x
        refine propext ⟨fun ⟨h1, h2⟩ => ⟨?_, h2⟩, fun ⟨h1, h2⟩ => ⟨by omega, h2⟩⟩
        rcases Nat.lt_or_ge x i with z | z
        · exact z
        · exfalso
          obtain rfl : x = i := by omega
          obtain ⟨c', e1, e2⟩ := h2
          rw [hc] at e1
          obtain rfl := Option.some.inj e1
          rw [em] at e2; cases e2
      rw [e]; exact hL
    refine ⟨_, rfl, n - c, 0, rfl, rfl, _, rfl, ite2 (fun e => ?_) (fun e => ?_)⟩
    · have e' : 0 ≤ n - c := of_decide_eq_true e
      have hg : ((tb cs m.toNat).map V.bl)[(n - c).toNat]? = some (.bl (mb cs (n - c))) := by
        rw [List.getElem?_map, tb_at (by omega), show (((n - c).toNat : Nat) : Int) = n - c by omega]; rfl
      refine ⟨_, rfl, _, rfl, t, _, n - c, .bl (mb cs (n - c)), rfl, rfl, s12.seq hT, at_of (by omega) hg, mb cs (n - c), rfl, ite2 (fun em => ?_) (fun em => ?_)⟩
      · have vx : Vx cs n i := ⟨c, hc, em⟩
        have lL := hls.len
        rw [List.length_map] at lL
        have hAlt : ∀ A ∈ L, ∀ x ∈ A, x < cs.length := fun A hA x hx => by
          have := ((hL.mem x).mp ⟨A, hA, hx⟩).1
          omega
        -- near
        refine ⟨_, rfl, p, rfl, ⟨ls, SqL.of (s2 _ _ hp)⟩, fun D hD => ?_⟩
        refine lc_rel (walk_list (K := K) (a := p) (xs := ls)) (fun j acc Hh => Hs K Hh acc (((L.take j).filter (nr cs (n - c))).map toI)) hD (by rw [sizeLine_eq]; omega) (fun Hh sh => SqL.of (sh _ _ (s2 _ _ hp))) .nil (fun j acc A B e r => r.same e)
          (fun j x acc Ha Hb hj sa ha hr hy Yc Nc yc nc => ?_) (fun acc Hn sn hn hr => ?_)
        · obtain ⟨rfl, hx⟩ := hy
          obtain ⟨lj, hlj, hd⟩ := hls.at hx
          rw [List.getElem?_map] at hlj
          obtain ⟨A, hA, rfl⟩ := Option.map_eq_some_iff.mp hlj
          have mA := List.mem_of_getElem? hA
          obtain ⟨g, rfl, hg2⟩ := ints_hd hd
          have sga := s2.trans sa
          refine ⟨rfl, _, rfl, g, rfl, ⟨_, sga.seq hg2⟩, fun D2 hD2 => ?_⟩
          have lA : A.length ≤ L.flatten.length := by
            exact mem_flat_len mA
          refine lc_rel (walk_list (K := K) (a := g) (xs := (toI A).map V.int)) (fun j acc Hh => acc = (((A.take j).map fun j => mb cs (n - c - cs.getD j 0)).map V.bl)) hD2 (by rw [sizeLine_eq, List.length_map, List.length_map]; omega) (fun Hh sh => (sga.trans sh).seq hg2) rfl (fun j acc A B e r => r)
            (fun j2 x2 acc2 Ha2 Hb2 hj2 sa2 ha2 hr2 hy2 Yc2 Nc2 yc2 nc2 => ?_) (fun acc2 Hn2 sn2 hn2 hr2 => ?_)
          · obtain ⟨rfl, hx2⟩ := hy2
            rw [List.getElem?_map, List.getElem?_map] at hx2
            obtain ⟨v2, hv2, rfl⟩ := Option.map_eq_some_iff.mp hx2
            obtain ⟨pl, hpl, rfl⟩ := Option.map_eq_some_iff.mp hv2
            have lpl := hAlt A mA pl (List.mem_of_getElem? hpl)
            have hd2 := List.getElem?_eq_getElem lpl
            have dpos := T.each _ (List.mem_of_getElem? hd2)
            have sx := (s12.trans sa).trans sa2
            refine ⟨rfl, _, rfl, _, rfl, _, rfl, _, rfl, ixq (hS.same sx) (atI_nat (j := pl) (by rw [List.getElem?_map, hd2]; rfl)) ⟨n - c, cs[pl], rfl, rfl, t, cs, m, n - c - cs[pl], rfl, sx.seq hT, T.pos, by omega, by omega, fun H5 s5 => yc2 _ _ s5 ?_⟩⟩
            rw [hr2, take_one hpl, List.map_append, List.map_append]
            congr 1
            show [V.bl (mb cs (n - c - cs[pl]))] = [V.bl (mb cs (n - c - cs.getD pl 0))]
            rw [List.getD_eq_getElem?_getD, hd2]; rfl
          · rw [show ((toI A).map V.int).length = A.length by rw [List.length_map, List.length_map], List.take_length] at hr2
            subst hr2
            refine ⟨D2, _, rfl, SqL.of hn2, _, rfl, ?_⟩
            rw [List.any_map]
            have sx := wo_same (D := D) sn2
            have sy := same_wo hD (sa.trans sn2)
            refine ite2 (fun ea => ?_) (fun ea => ?_)
            · refine ⟨_, rfl, yc _ _ sn2 ?_⟩
              rw [filter_take hA, show nr cs (n - c) A = true from ea, if_pos rfl, List.map_append]
              exact (hr.same sx).snoc (hd_ints ((s2.trans sy).seq hg2))
            · refine nc _ sn2 ?_
              rw [filter_take hA, show nr cs (n - c) A = false from Bool.eq_false_iff.mpr ea, if_neg Bool.false_ne_true, List.append_nil]
              exact hr.same sx
        rw [lL, List.take_length] at hr
        have hN := hr.same (wo_le (D := D))
        have s2n := s2.trans sn
        have s12n := s12.trans sn
        have lnr := hN.len
        rw [List.length_map] at lnr
        have lfl := flat_split (L := L) (nr cs (n - c))
        have lft := List.length_filter_le (nr cs (n - c)) L
        have lft2 := List.length_filter_le (fun A => !nr cs (n - c) A) L
        -- apart
        refine ⟨_, rfl, p, rfl, ⟨ls, SqL.of (s2n _ _ hp)⟩, fun D2 hD2 => ?_⟩
        refine lc_rel (walk_list (K := K) (a := p) (xs := ls)) (fun j acc Hh => Hs K Hh acc (((L.take j).filter (fun A => !nr cs (n - c) A)).map toI)) hD2 (by rw [sizeLine_eq]; omega) (fun Hh sh => SqL.of (sh _ _ (s2n _ _ hp))) .nil (fun j acc A B e r => r.same e)
          (fun j x acc2 Ha Hb hj sa ha hr2 hy Yc Nc yc nc => ?_) (fun acc2 Hn2 sn2 hn2 hr2 => ?_)
        · obtain ⟨rfl, hx⟩ := hy
          obtain ⟨lj, hlj, hd⟩ := hls.at hx
          rw [List.getElem?_map] at hlj
          obtain ⟨A, hA, rfl⟩ := Option.map_eq_some_iff.mp hlj
          have mA := List.mem_of_getElem? hA
          refine ⟨rfl, _, rfl, _, rfl, toI A, _, hd.same (s2n.trans sa), (hd_lst (SqL.of hn) hN).same sa, _, rfl, ?_⟩
          refine ite2 (fun ed => ?_) (fun ed => ?_)
          · have ea : nr cs (n - c) A = false := Bool.eq_false_iff.mpr fun z => (of_dec ed) ((nr_old mA).mpr z)
            refine ⟨_, rfl, yc _ _ (Same.refl _) ?_⟩
            rw [filter_take hA, ea, if_pos (by decide), List.map_append]
            exact hr2.snoc (hd.same (s2n.trans (same_wo hD2 sa)))
          · have ea : nr cs (n - c) A = true := (nr_old mA).mp (Decidable.not_not.mp fun z => ed (to_dec z))
            refine nc _ (Same.refl _) ?_
            rw [filter_take hA, ea, if_neg (by decide), List.append_nil]
            exact hr2
        rw [lL, List.take_length] at hr2
        have hF := hr2.same (wo_le (D := D2))
        have lfr := hF.len
        rw [List.length_map] at lfr
        have sn12 := sn.trans sn2
        -- the new lots
        refine ⟨_, rfl, D2, acc2, rfl, .inr (SqL.of hn2), _, rfl, ?_⟩
        refine ⟨_, rfl, D, rfl, ⟨acc, SqL.of (sn2 _ _ hn)⟩, fun D3 hD3 => ?_⟩
        refine lc2_rel (walk_list (K := K) (a := D) (xs := acc)) (fun j acc3 Hh => acc3 = VI (toI ((L.filter (nr cs (n - c))).take j).flatten)) hD3 (fun Hh sh => SqL.of (sh _ _ (sn2 _ _ hn))) rfl (fun j acc A B e r => r)
          (fun j x acc3 Ha Hb hj sa ha hr3 hy Nx nx => ?_) (fun acc3 Hn3 sn3 hn3 hr3 => ?_)
        · obtain ⟨rfl, hx⟩ := hy
          obtain ⟨lj, hlj, hd⟩ := hN.at hx
          rw [List.getElem?_map] at hlj
          obtain ⟨A, hA, rfl⟩ := Option.map_eq_some_iff.mp hlj
          obtain ⟨g, rfl, hg2⟩ := ints_hd hd
          have sga := sn2.trans sa
          have lfa : (((L.filter (nr cs (n - c))).take j).flatten).length + A.length ≤ (L.filter (nr cs (n - c))).flatten.length := by
            have e : (L.filter (nr cs (n - c))).flatten = ((L.filter (nr cs (n - c))).take j).flatten ++ ((L.filter (nr cs (n - c))).drop j).flatten := by rw [← List.flatten_append, List.take_append_drop]
            have e2 : (L.filter (nr cs (n - c))).drop j = A :: (L.filter (nr cs (n - c))).drop (j + 1) := by
              rw [List.drop_eq_getElem_cons (List.getElem?_eq_some_iff.mp hA).1, (List.getElem?_eq_some_iff.mp hA).2]
            rw [e, List.length_append, e2, List.flatten_cons, List.length_append]
            omega
          refine ⟨rfl, _, rfl, g, rfl, ⟨_, sga.seq hg2⟩, ?_⟩
          refine lc2_in (walk_list (K := K) (a := g) (xs := (toI A).map V.int)) (fun k acc4 Hh => acc4 = VI (toI (((L.filter (nr cs (n - c))).take j).flatten ++ A.take k))) ha
            (by rw [List.take_zero, List.append_nil]; exact hr3) (fun k acc4 Hh hk r => ?_) (fun Hh sh => ?_) (fun k x4 acc4 Hd2 Hc hk sc hac hr4 hy Yc Nc yc nc => ?_) (fun acc4 Hc sc hac hr4 => ?_)
          · rw [r, List.length_map, List.length_map, List.length_append, sizeLine_eq, List.length_take]
            omega
          · exact (((sn2.trans (same_wo hD3 sa)).trans sh).trans wo_le).seq hg2
          · obtain ⟨rfl, hx4⟩ := hy
            rw [List.getElem?_map, List.getElem?_map] at hx4
            obtain ⟨v4, hv4, rfl⟩ := Option.map_eq_some_iff.mp hx4
            obtain ⟨pl, hpl, rfl⟩ := Option.map_eq_some_iff.mp hv4
            refine ⟨rfl, _, rfl, yc _ _ (Same.refl _) ?_⟩
            rw [hr4, take_one hpl]
            unfold VI toI
            simp
          · refine nx acc4 _ ?_ hac ?_
            · exact ((same_wo hD3 sa).trans sc).trans wo_le
            · rw [hr4, show ((toI A).map V.int).length = A.length by rw [List.length_map, List.length_map], List.take_length, take_one hA, List.flatten_append]
              simp
        rw [lnr, List.take_length] at hr3
        subst hr3
        have lfl2 := vi_len (toI (L.filter (nr cs (n - c))).flatten)
        rw [List.length_map] at lfl2
        refine ⟨D3, _, rfl, .inr (SqL.of hn3), ?_⟩
        refine ⟨by rw [List.length_cons, List.length_append, vi_len, List.length_map, sizeLine_eq]; simp only [List.length_nil]; omega, fun b nb => ?_⟩
        have sb := same_new (o := .lst ([V.int (i : Nat)] ++ (VI (toI (L.filter (nr cs (n - c))).flatten) ++ []))) nb
        refine ⟨by rw [List.length_append, sizeLine_eq]; simp only [List.length_cons, List.length_nil]; omega, fun p' np' => ?_⟩
        have sp' := same_new (o := .lst (acc2 ++ [V.ref b])) np'
        have hb := sp' _ _ (upd_same (H := Hn3) (a := b) (o := .lst ([V.int (i : Nat)] ++ (VI (toI (L.filter (nr cs (n - c))).flatten) ++ []))))
        have sall := ((sn3.trans sb).trans sp')
        refine ⟨p', _, L.filter (fun A => !nr cs (n - c) A) ++ [i :: (L.filter (nr cs (n - c))).flatten], _, _, _, _, _, rfl, (s12n.trans sn2).trans sall, upd_same, ?_, ?_, ?_, ?_⟩
        · rw [List.map_append]
          refine (hF.same sall).snoc (hd_ints (SqL.of ?_))
          rw [hb]
          unfold VI toI
          simp
        · refine hL.turn (near := nr cs (n - c)) (x := i) Ad.symm (fun z => Nat.lt_irrefl _ z.1) (fun y => ⟨fun ⟨h1, h2⟩ => ?_, fun h => ?_⟩) (fun A hA => nr_iff hc (hAlt A hA)) (fun y => ?_)
          · rcases Nat.lt_or_ge y i with z | z
            · exact .inl ⟨z, h2⟩
            · exact .inr (by omega)
          · rcases h with ⟨h1, h2⟩ | rfl
            · exact ⟨by omega, h2⟩
            · exact ⟨by omega, vx⟩
          · rw [List.mem_cons, List.mem_flatten]
            constructor
            · rintro (e | ⟨A, hA, hy⟩)
              · exact .inl e
              · exact .inr ⟨A, (List.mem_filter.mp hA).1, (List.mem_filter.mp hA).2, hy⟩
            · rintro (e | ⟨A, h1, h2, h3⟩)
              · exact .inl e
              · exact .inr ⟨A, List.mem_filter.mpr ⟨h1, h2⟩, h3⟩
        · rw [List.length_append, List.length_singleton]
          have e1 : 0 ≤ (L.filter (nr cs (n - c))).length := Nat.zero_le _
          omega
        · rw [List.flatten_append, List.flatten_singleton, List.length_append, List.length_cons]
          omega
      · exact ⟨p, ls, L, _, _, _, _, _, rfl, s12, s2 _ _ hp, hls.same s2, noV (Bool.eq_false_iff.mpr em), by omega, by omega⟩
    · have e' : ¬ 0 ≤ n - c := fun z => e (decide_eq_true z)
      exact ⟨p, ls, L, _, _, _, _, _, rfl, s12, s2 _ _ hp, hls.same s2, noV (mb_neg T.pos (by omega)), by omega, by omega⟩
  · obtain ⟨p, ls, L, y4, y5, y6, y7, y8, rfl, s1, hp, hls, hL, l1, l2⟩ := pv
    have lL := hls.len
    rw [List.length_map] at lL
    refine ⟨_, rfl, p, _, rfl, .inl (SqL.of hp), q _ _ ?_ s1⟩
    have e : (fun x => x < cs.length ∧ Vx cs n x) = Vx cs n := by
      funext x
      exact propext ⟨fun h => h.2, fun ⟨c, h1, h2⟩ => ⟨(List.getElem?_eq_some_iff.mp h1).1, c, h1, h2⟩⟩
    rw [e] at hL
    rw [lL]
    exact ⟨fun h => (hL.many Ad.symm (fun x y h => Ad.vx _ _ h)).mp (by omega), fun h => by
      have := (hL.many Ad.symm (fun x y h => Ad.vx _ _ h)).mpr h
      omega⟩
-- slots: counts 0, shared 1, missing 2, last_unmet 3, one 4; cells: shared
abbrev s_last_to_turn : Stmt := top 38
abbrev N_last_to_turn : List Str := ["counts", "shared", "missing", "last_unmet", "one"]
theorem sc_last_to_turn : FnScope N_last_to_turn ["counts"] (defScope s_last_to_turn) := ⟨rfl, rfl, rfl, by decide +kernel, rfl, by decide +kernel, by decide +kernel⟩
theorem d_last_to_turn (B : Bnd K mg "last_to_turn" s_last_to_turn) (M : Mg2 mg)  (D_common_count : Def P w K mg base k "common_count" sCommon ["counts"] (spCommon K)) (D_unmet : Def P w K mg base k "unmet" sUnmet ["counts"] (spUnmet K)) : Def P w K mg base (k + 1) "last_to_turn" s_last_to_turn ["counts"] (sp_last_to_turn K) := by
  refine def_of B sc_last_to_turn (by rintro _ _ _ _ ⟨a, cs, rfl, _⟩; rfl) (fun _ _ _ _ _ _ us hl => match us, hl with | [_], _ => rfl) fun f cdv A outer s H vs Q E hr h => ?_
  obtain ⟨a, cs, rfl, hS, T, h24, q⟩ := h
  have hu := hr.units
  refine ⟨_, pss_cons (ps_set (i := 1) sc_last_to_turn.nd rfl (.inr rfl) (pe_d D_common_count hr (by rfl) (pa_cons (pv 0) pa_nil)))
    (pss_cons (ps_set (i := 2) sc_last_to_turn.nd rfl (.inl rfl) (pe_d D_unmet hr (by rfl) (pa_cons (pe_lc (own := [("one", 4)]) (g := (gName 4)) (tt := tYes) (te := (tOp _ (tVar 4) (tVar 1))) rfl sc_last_to_turn.nd (pi_sq (pv 0)) (blkOk_by (own := [("one", 4)]) (N := N_last_to_turn) (sc := defScope s_last_to_turn) (by decide +kernel)) (fun _ _ _ _ _ => pg_name (i := 4) sc_last_to_turn.nd rfl (.inl rfl)) (fun _ _ _ _ _ => pts_nil) (fun _ _ _ _ _ => pe_op op_fdivN (pv 4) (pv 1))) pa_nil)))
    (pss_cons (ps_set (i := 3) sc_last_to_turn.nd rfl (.inl rfl) (pe_ifExp (pt_truth (pv 2) (by intro _; rfl)) (pe_ix (r := rIxL K) ix_list (pv 2) (pe_un un_neg pe_int) (fun _ _ => rfl)) (pe_un un_neg pe_int)))
    (pss_one (ps_ret (pe_op op_add (pe_callB (cr_sum rfl) (by rfl) M.sum boot_sum (pa_cons (pe_slice (r := rSlL K) sl_list (pe_callB cr_sortIS (by rfl) M.sorted (by decide +kernel) (pa_cons (pv 0) pa_nil)) (po_some (pe_un un_neg pe_int)) po_none) pa_nil)) (pe_op op_mul (pv 3) (pv 1))))))), ?_⟩
  have t1 := T.lo
  have t2 := T.hi
  have g0 := glpos T.lo T.pos
  have g1 := gl_small T.each
  refine ⟨_, rfl, a, cs, rfl, hS, T, fun H1 s1 => ?_⟩
  dsimp only [tSeq, tAsg, tC, gName, tD, tCons, tNil]
  refine lc_sq (a := a) (xs := VI cs) (fun i => (cs[i]?).bind fun c => some (.int (c / gl cs))) (fun R r => ⟨_, rfl, r⟩) (hS.same s1) (by rw [vi_len, sizeLine_eq]; omega) (fun i x H2 hx s2 Y N y nn => ?_) (fun D H2 s2 hD hD2 => ?_)
  · obtain ⟨c, hc, rfl⟩ := vi_at hx
    have fd : c.fdiv (gl cs) = c / gl cs := Int.fdiv_eq_ediv_of_nonneg c (by omega)
    refine ⟨rfl, _, rfl, _, rfl, c, gl cs, rfl, rfl, ⟨by omega, by omega⟩, y _ _ (Same.refl _) ?_⟩
    dsimp only
    rw [hc, fd]; rfl
  rw [ints_map] at hD2
  have s12 := s1.trans s2
  refine ⟨D, dv cs, rfl, .inl (SqL.of hD2), T.dv, dv_gl T.lo T.pos, fun p H3 R hR lR s3 np hp => ?_⟩
  have s13 := s12.trans s3
  refine ⟨_, rfl, !(VI R).isEmpty, .inl ⟨_, SqL.of hp, rfl⟩, ?_⟩
  have fin : ∀ (σ : L2.St), σ[0]? = some (some (.ref a)) → σ[1]? = some (some (.int (gl cs))) → σ[3]? = some (some (.int (lastU R))) → tOp (rI0 fun i j => V.int (i + j)) (tCB (rSum K) (tCons (tSl (rSlL K) (tCB (rSortIS K) (tCons (tVar 0) tNil)) (tPart (tUn (rU fun i => V.int (-i)) (tC (V.int 2)))) tNoPart) tNil))
      (tOp (rI CMul fun i j => V.int (i * j)) (tVar 3) (tVar 1)) σ H3 Q := by
    intro σ e0 e1 e3
    refine ⟨_, e0, a, cs, rfl, hS.same s13, fun S q1 pS sS nq => ?_⟩
    obtain ⟨b0, b1, b2⟩ := last_ok T h24 hR pS sS
    have s4 := same_new (o := .lst (VI S)) nq
    refine ⟨2, rfl, _, rfl, q1, _, rfl, SqL.of upd_same, fun t nt => ?_⟩
    have s5 := same_new (o := .lst (cutV (VI S) (some (-2)) none)) nt
    have ec : cutV (VI S) (some (-2)) none = VI (S.drop (S.length - 2)) := by
      have := cut_neg (xs := VI S) 2 (by decide)
      rw [vi_len] at this
      show cutV (VI S) (some (-((2 : Nat) : Int))) none = _
      rw [this]
      unfold VI
      rw [List.map_drop]
    refine ⟨t, _, rfl, SqL.of (by rw [upd_same, ec]), _, e3, _, e1, _, _, rfl, rfl, .inr ⟨by omega, by omega⟩, _, _, rfl, rfl, q _ _ b0 b1 b2 ((s13.trans s4).trans s5)⟩
  rcases List.eq_nil_or_concat R with e | ⟨L, g, e⟩
  · subst e
    exact iteF ⟨1, rfl, fin _ rfl rfl rfl⟩
  · rw [List.concat_eq_append] at e
    subst e
    have e1 : VI (L ++ [g]) = VI L ++ [.int g] := by unfold VI; rw [List.map_append]; rfl
    have e2 : (!(VI (L ++ [g])).isEmpty) = true := by rw [e1]; cases VI L <;> rfl
    have e3 : lastU (L ++ [g]) = g := by unfold lastU; rw [List.getLast?_append]; rfl
    rw [e2]
    rw [e3] at fin
    exact iteT ⟨_, rfl, 1, rfl, p, _, -1, .int g, rfl, rfl, SqL.of hp, (by rw [e1]; exact atI_last _ _), fin _ rfl rfl rfl⟩
-- slots: counts 0, last 1, table 2, count 3; cells: counts table
abbrev s_turning_counts : Stmt := top 34
abbrev N_turning_counts : List Str := ["counts", "last", "table", "count"]
theorem sc_turning_counts : FnScope N_turning_counts ["counts"] (defScope s_turning_counts) := ⟨rfl, rfl, rfl, by decide +kernel, rfl, by decide +kernel, by decide +kernel⟩
theorem d_turning_counts (B : Bnd K mg "turning_counts" s_turning_counts) (M : Mg2 mg)  (D_check_counts : Def P w K mg base k "check_counts" sCheck ["counts"] (spCheck K)) (D_met_table : Def P w K mg base k "met_table" sTable ["counts", "many"] (spTable K)) (D_last_to_turn : Def P w K mg base k "last_to_turn" s_last_to_turn ["counts"] (sp_last_to_turn K)) (D_lot_number : Def P w K mg base k "lot_number" s_lot_number ["counts", "count", "table"] (sp_lot_number K)) : Def P w K mg base (k + 1) "turning_counts" s_turning_counts ["counts"] (sp_turning_counts K) := by
  refine def_of B sc_turning_counts (by rintro _ _ _ _ ⟨a, cs, rfl, _⟩; rfl) (fun _ _ _ _ _ _ us hl => match us, hl with | [_], _ => rfl) fun f cdv A outer s H vs Q E hr h => ?_
  obtain ⟨a, cs, rfl, hS, T, h24, q⟩ := h
  have hu := hr.units
  obtain ⟨t_MOST_TURNED, m_MOST_TURNED⟩ := M.MOST_TURNED
  refine ⟨_, pss_cons (ps_expr (pe_d D_check_counts hr (by rfl) (pa_cons (pv 0) pa_nil)))
    (pss_cons (ps_if (pt_cmpR op_gt (pe_callB (cr_maxS rfl) (by rfl) M.max (by decide +kernel) (pa_cons (pv 0) pa_nil)) (pe_glob (v := .int 24) (by rfl) m_MOST_TURNED ⟨_, rfl⟩) (nomark _)) pss_never pss_nil)
    (pss_cons (ps_set (i := 1) sc_turning_counts.nd rfl (.inl rfl) (pe_d D_last_to_turn hr (by rfl) (pa_cons (pv 0) pa_nil)))
    (pss_cons (ps_set (i := 2) sc_turning_counts.nd rfl (.inr rfl) (pe_d D_met_table hr (by rfl) (pa_cons (pv 0) (pa_cons (pv 1) pa_nil))))
    (pss_one (ps_ret (pe_lc (own := [("count", 3)]) (g := (gName 3)) (tt := (tTest (tOp _ (tD _ (tCons (tVar 0) (tCons (tVar 3) (tCons (tVar 2) tNil)))) (tC (.int 1))))) (te := (tVar 3)) rfl sc_turning_counts.nd (pi_range2 (by rfl) M.range (pa_cons pe_int (pa_cons (pe_op op_add (pv 1) pe_int) pa_nil))) (blkOk_by (own := [("count", 3)]) (N := N_turning_counts) (sc := defScope s_turning_counts) (by decide +kernel)) (fun _ _ _ _ _ => pg_name (i := 3) sc_turning_counts.nd rfl (.inl rfl)) (fun _ _ _ _ _ => pts_one (pt_cmpR op_gt (pe_d D_lot_number hr (by rfl) (pa_cons (pv 0) (pa_cons (pv 3) (pa_cons (pv 2) pa_nil)))) pe_int (nomark _))) (fun _ _ _ _ _ => pv 3))))))), ?_⟩
  have t1 := T.lo
  have t2 := T.hi
  refine ⟨_, rfl, a, cs, rfl, hS, T, fun H1 s1 => ?_⟩
  refine ⟨_, rfl, a, cs, rfl, hS.same s1, by omega, fun mx hmx hle => ⟨_, _, rfl, rfl, _, rfl, ifF (by have := h24 mx hmx; omega) ?_⟩⟩
  refine ⟨_, rfl, a, cs, rfl, hS.same s1, T, h24, fun H2 l l0 l1 hl s2 => ?_⟩
  have s12 := s1.trans s2
  refine ⟨_, rfl, _, rfl, a, cs, l, rfl, hS.same s12, T.pos, by omega, l0, by omega, fun p H3 s3 np hp => ?_⟩
  have s13 := s12.trans s3
  refine ⟨_, rfl, _, _, rfl, rfl, 1, l + 1, rfl, ⟨by omega, by omega, by omega, by omega⟩, fun D hD => ?_⟩
  refine lc_rel walk_range (fun i acc Hh => ∃ R, acc = VI R ∧ TurnTo cs i R) hD (by rw [sizeLine_eq]; omega) (fun _ _ => trivial) ⟨[], rfl, .nil⟩ (fun i acc A B e r => r) (fun i x acc Ha Hb hi sa ha hr hy Yc Nc yc nc => ?_) (fun acc Hh sh ha hr => ?_)
  · obtain ⟨rfl, rfl⟩ := hy
    obtain ⟨R, rfl, hR⟩ := hr
    have sx := s13.trans sa
    refine ⟨rfl, _, rfl, _, rfl, _, rfl, a, p, cs, l + 1, 1 + (i : Int), rfl, hS.same sx, T, SqL.of ?_, by omega, by omega, fun H5 r hr s5 => ⟨_, _, rfl, rfl, _, rfl, ite2 (fun e => ?_) (fun e => ?_)⟩⟩
    · rw [show (l + 1).toNat = l.toNat + 1 by omega]
      exact sa _ _ hp
    · have e' : 1 < r := of_decide_eq_true e
      refine ⟨_, rfl, yc _ _ s5 ⟨R ++ [1 + (i : Int)], ?_, hR.yes (hr.mp e')⟩⟩
      unfold VI
      rw [List.map_append]; rfl
    · have e' : ¬ 1 < r := fun z => e (decide_eq_true z)
      exact nc _ s5 ⟨R, rfl, hR.no fun z => e' (hr.mpr z)⟩
  · obtain ⟨R, rfl, hR⟩ := hr
    have e : (l + 1 - 1).toNat = l.toNat := by omega
    rw [e] at hR
    refine q D Hh R (hR.all fun n hn => ?_) (by have := hR.len; omega) (s13.trans sh) (s13.free hD) ha
    have := hl n hn
    omega
end
end K21

namespace K21
open PySem PySem.Spec PyProof.Rows L2 Fp
section
variable {P : Program} {w : World} {K : PySem.W.Frag} {mg : Str → Option Value} {base : Heap} {k : Nat}
theorem Pos.drop {cs : List Int} (h : Pos cs) (n : Nat) : Pos (cs.drop n) := fun c hc => h c (List.mem_of_mem_drop hc)
/-! ### following -/
noncomputable def follow (cs : List Int) (m : Int) : List (List Bool) := (List.range cs.length).map fun i => tb (cs.drop (i + 1)) (m.toNat + 1)
/-- a new table -/
def Rt (H0 H : Hp) (v : V) (t : List Bool) : Prop := ∃ b, v = .ref b ∧ H0 b = none ∧ H b = some (.lst (t.map V.bl))
theorem Rt.same {H0 H H' : Hp} {v : V} {t : List Bool} (e : Same H H') (h : Rt H0 H v t) : Rt H0 H' v t := let ⟨b, a, c, d⟩ := h; ⟨b, a, c, e _ _ d⟩
def sp_following (K : PySem.W.Frag) : Sp := fun vs H Q _ => ∃ (a : Addr) (cs : List Int) (m : Int), vs = [.ref a, .int m] ∧ Sq K H a (VI cs) ∧ Pos cs ∧ cs.length ≤ 8 ∧ 0 ≤ m ∧ m ≤ 900 ∧
  ∀ p H' xs, Same H H' → H p = none → H' p = some (.lst xs) → A2 (Rt H H') xs (follow cs m) → Q (.ref p) H'
theorem range_snoc {α : Type} (f : Nat → α) (i : Nat) : (List.range (i + 1)).map f = (List.range i).map f ++ [f i] := by rw [List.range_succ, List.map_append]; rfl
-- slots: counts 0, many 1, at 2; cells: counts many
abbrev s_following : Stmt := top 36
abbrev N_following : List Str := ["counts", "many", "at"]
theorem sc_following : FnScope N_following ["counts", "many"] (defScope s_following) := ⟨rfl, rfl, rfl, by decide +kernel, rfl, by decide +kernel, by decide +kernel⟩
theorem d_following (B : Bnd K mg "following" s_following) (M : Mg2 mg)  (D_met_table : Def P w K mg base k "met_table" sTable ["counts", "many"] (spTable K)) : Def P w K mg base (k + 1) "following" s_following ["counts", "many"] (sp_following K) := by
  refine def_of B sc_following (by rintro _ _ _ _ ⟨a, cs, m, rfl, _⟩; rfl) (fun _ _ _ _ _ _ us hl => match us, hl with | [_, _], _ => rfl) fun f cdv A outer s H vs Q E hr h => ?_
  obtain ⟨a, cs, m, rfl, hS, hp, hl, h0, h1, q⟩ := h
  have hu := hr.units
  refine ⟨_, pss_one (ps_ret (pe_lc (own := [("at", 2)]) (g := (gName 2)) (tt := tYes) (te := (tD _ (tCons (tSl (rSlS K) (tVar 0) _ _) (tCons (tVar 1) tNil)))) rfl sc_following.nd (pi_range1 (by rfl) M.range (pa_cons (pe_callB call_len_seq (by rfl) M.len boot_len (pa_cons (pv 0) pa_nil)) pa_nil)) (blkOk_by (own := [("at", 2)]) (N := N_following) (sc := defScope s_following) (by decide +kernel)) (fun _ _ _ _ _ => pg_name (i := 2) sc_following.nd rfl (.inl rfl)) (fun _ _ _ _ _ => pts_nil) (fun _ _ _ _ _ => pe_d D_met_table hr (by rfl) (pa_cons (pe_slice (r := rSlS K) sl_sq (pv 0) (po_some (pe_op op_add (pv 2) pe_int)) po_none) (pa_cons (pv 1) pa_nil))))), ?_⟩
  have ln := vi_len cs
  refine ⟨_, rfl, a, _, rfl, hS, _, rfl, by omega, by omega, fun D hD => ?_⟩
  refine lc_rel walk_range (fun i acc H' => A2 (Rt H H') acc ((List.range i).map fun i => tb (cs.drop (i + 1)) (m.toNat + 1))) hD (by rw [Int.toNat_natCast, ln]; exact Nat.le_of_lt (small (by omega))) (fun _ _ => trivial) A2.nil (fun i acc A B e r => r.mono fun v b => Rt.same e)
    (fun i x acc Ha Hb hi s1 ha hr y Yc Nc yc nc => ?_) (fun acc H' s1 ha hr => ?_)
  · obtain ⟨rfl, rfl⟩ := y
    refine ⟨rfl, _, rfl, _, rfl, _, _, rfl, rfl, _, rfl, slq (hS.same s1) fun p H2 s2 h2 => ?_⟩
    rw [show (0 : Int) + (i : Int) + 1 = ((i + 1 : Nat) : Int) by omega, cut_from, ← List.map_drop] at h2
    refine ⟨_, rfl, p, cs.drop (i + 1), m, rfl, h2, hp.drop _, by rw [List.length_drop]; omega, h0, h1, fun p2 H3 s3 np hp2 => ?_⟩
    have ne : p2 ≠ D := fun z => by rw [z, s2 _ _ ha] at np; cases np
    refine yc _ _ (s2.trans s3) ?_
    rw [range_snoc]
    exact (hr.mono fun v b => Rt.same (wo_same (s2.trans s3))).snoc ⟨p2, rfl, (s1.trans s2).free np, by rw [wo_ne ne]; exact hp2⟩
  · rw [Int.toNat_natCast, ln] at hr
    exact q D H' acc s1 hD ha (hr.mono fun v b => Rt.same wo_le)
/-! ### way_number -/
theorem ixn {n j : Nat} {z : Int} (e : z = (j : Int)) (h : j < n) : ixN n z = some j := by
  unfold ixN
  rw [if_pos (by omega), if_pos (by omega), e]; simp
noncomputable def nums (cs : List Int) (M i : Nat) : List Int := (List.range (M + 1)).map fun r : Nat => ((wl (cs.take i) (r : Int) : Nat) : Int)
noncomputable def numsX (cs : List Int) (M i r0 : Nat) : List Int := (List.range (M + 1)).map fun r : Nat => if r < r0 then ((wl (cs.take (i + 1)) (r : Int) : Nat) : Int) else ((wl (cs.take i) (r : Int) : Nat) : Int)
theorem nums_len (cs : List Int) (M i : Nat) : (nums cs M i).length = M + 1 := by unfold nums; rw [List.length_map, List.length_range]
theorem numsX_len (cs : List Int) (M i r0 : Nat) : (numsX cs M i r0).length = M + 1 := by unfold numsX; rw [List.length_map, List.length_range]
theorem numsX_at (cs : List Int) {M i r0 r : Nat} (h : r ≤ M) : (numsX cs M i r0)[r]? = some (if r < r0 then ((wl (cs.take (i + 1)) (r : Int) : Nat) : Int) else ((wl (cs.take i) (r : Int) : Nat) : Int)) := by
  unfold numsX
  rw [List.getElem?_map, List.getElem?_range (by omega)]; rfl
theorem wl_take {cs : List Int} {i : Nat} {c : Int} (hp : Pos cs) (hc : cs[i]? = some c) {n : Int} (hn : 0 ≤ n) : wl (cs.take (i + 1)) n = wl (cs.take i) n + if c ≤ n then wl (cs.take (i + 1)) (n - c) else 0 := by
  rw [take_one hc]
  exact wl_snoc _ (fun d hd => hp d (List.mem_of_mem_take hd)) (hp c (List.mem_of_getElem? hc)) n.toNat n (Nat.le_refl _) hn
theorem numsX_start {cs : List Int} {M i : Nat} {c : Int} (hp : Pos cs) (hc : cs[i]? = some c) : numsX cs M i c.toNat = nums cs M i := by
  refine List.map_congr_left fun r _ => ?_
  split
  · rw [wl_take hp hc (by omega), if_neg (by omega), Nat.add_zero]
  · rfl
theorem numsX_end {cs : List Int} {M i r0 : Nat} (h : M < r0) : numsX cs M i r0 = nums cs M (i + 1) := by
  refine List.map_congr_left fun r hr => ?_
  have := List.mem_range.mp hr
  rw [if_pos (by omega)]
theorem numsX_step {cs : List Int} {M i r : Nat} {x : Int} (h : r ≤ M) (e : x = ((wl (cs.take (i + 1)) (r : Int) : Nat) : Int)) : (VI (numsX cs M i r)).set r (.int x) = VI (numsX cs M i (r + 1)) := by
  refine List.ext_getElem? fun j => ?_
  rw [List.getElem?_set]
  have l1 : (VI (numsX cs M i r)).length = M + 1 := by rw [vi_len, numsX_len]
  by_cases hj : r = j
  · subst hj
    rw [if_pos rfl, if_pos (by rw [l1]; omega), List.getElem?_map, numsX_at cs h, if_pos (by omega), e]; rfl
  · rw [if_neg hj, List.getElem?_map, List.getElem?_map]
    by_cases hM : j ≤ M
    · rw [numsX_at cs hM, numsX_at cs hM]
      by_cases q : j < r
      · rw [if_pos q, if_pos (by omega)]
      · rw [if_neg q, if_neg (by omega)]
    · rw [List.getElem?_eq_none (by rw [numsX_len]; omega), List.getElem?_eq_none (by rw [numsX_len]; omega)]
def sp_way_number (K : PySem.W.Frag) : Sp := fun vs H Q _ => ∃ (a : Addr) (cs : List Int) (m : Int), vs = [.ref a, .int m] ∧ Sq K H a (VI cs) ∧ Pos cs ∧ (∀ c ∈ cs, c ≤ 1000) ∧ 0 ≤ m ∧ m ≤ 900 ∧ Ret H Q (.int ((wl cs m : Nat) : Int))
-- slots: counts 0, many 1, numbers 2, one 3, count 4; cells: 
abbrev s_way_number : Stmt := top 35
abbrev N_way_number : List Str := ["counts", "many", "numbers", "one", "count"]
theorem sc_way_number : FnScope N_way_number ["counts", "many"] (defScope s_way_number) := ⟨rfl, rfl, rfl, by decide +kernel, rfl, by decide +kernel, by decide +kernel⟩
theorem d_way_number (B : Bnd K mg "way_number" s_way_number) (M : Mg2 mg)   : Def P w K mg base (k + 1) "way_number" s_way_number ["counts", "many"] (sp_way_number K) := by
  refine def_of B sc_way_number (by rintro _ _ _ _ ⟨a, cs, m, rfl, _⟩; rfl) (fun _ _ _ _ _ _ us hl => match us, hl with | [_, _], _ => rfl) fun f cdv A outer s H vs Q E hr h => ?_
  obtain ⟨a, cs, m, rfl, hS, hp, hb, h0, h1, q⟩ := h
  have hu := hr.units
  refine ⟨_, pss_cons (ps_set (i := 2) sc_way_number.nd rfl (.inl rfl) (pe_op op_cat (pe_lst (pa_cons pe_int pa_nil)) (pe_op op_rep (pe_lst (pa_cons pe_int pa_nil)) (pv 1))))
    (pss_cons (ps_for PassesOwn.never rfl (pi_sq (pv 0)) (pg_name (i := 3) sc_way_number.nd rfl (.inl rfl))
      (pss_one (ps_for PassesOwn.never rfl (pi_range2 (by rfl) M.range (pa_cons (pv 3) (pa_cons (pe_op op_add (pv 1) pe_int) pa_nil))) (pg_name (i := 4) sc_way_number.nd rfl (.inl rfl))
        (pss_one (ps_augS (pv 2) (pv 4) pget_list (pe_ix (r := rIxL K) ix_list (pv 2) (pe_op op_sub (pv 4) (pv 3)) (fun _ _ => rfl)) ip_add set_list)))))
    (pss_one (ps_ret (pe_ix (r := rIxL K) ix_list (pv 2) (pv 1) (fun _ _ => rfl))))), ?_⟩
  obtain ⟨M0, rfl⟩ : ∃ n : Nat, m = n := ⟨m.toNat, by omega⟩
  refine ⟨(by show 1 ≤ sizeLine; decide), fun p1 np1 => ⟨(by show 1 ≤ sizeLine; decide), fun p2 np2 => ?_⟩⟩
  have s1 : Same H (upd H p1 (.lst [.int 1])) := same_new np1
  have s2 : Same (upd H p1 (.lst [.int 1])) (upd (upd H p1 (.lst [.int 1])) p2 (.lst [.int 0])) := same_new np2
  refine ⟨_, rfl, p2, M0, _, rfl, rfl, upd_same, by omega, by omega, by rw [List.length_singleton, Nat.one_mul]; exact Nat.le_of_lt (small (by omega)), fun p3 np3 => ?_⟩
  have s3 := same_new (o := .lst (List.replicate (M0 : Int).toNat [V.int 0]).flatten) np3
  refine ⟨p1, p3, _, _, rfl, rfl, s3 _ _ (s2 _ _ upd_same), upd_same, ?_, fun p np => ?_⟩
  · rw [show (List.replicate (M0 : Int).toNat [V.int 0]).flatten = List.replicate M0 (V.int 0) by simp, List.length_replicate, List.length_singleton]
    exact Nat.le_of_lt (small (by omega))
  have s4 := s1.trans (s2.trans (s3.trans (same_new (o := .lst ([V.int 1] ++ (List.replicate (M0 : Int).toNat [V.int 0]).flatten)) np)))
  have st : [V.int 1] ++ (List.replicate (M0 : Int).toNat [V.int 0]).flatten = VI (nums cs M0 0) := by
    unfold nums VI
    rw [List.range_succ_eq_map, List.map_cons, List.take_zero]
    show _ = V.int ((wl [] ((0 : Nat) : Int) : Nat) : Int) :: _
    rw [wl_nil, if_pos (show ((0 : Nat) : Int) = 0 from rfl), List.map_map, List.map_map]
    have e : ((V.int ∘ (fun r : Nat => ((wl [] (r : Int) : Nat) : Int))) ∘ Nat.succ) = fun _ => V.int 0 := by
      funext r
      show V.int ((wl [] ((Nat.succ r : Nat) : Int) : Nat) : Int) = V.int 0
      rw [wl_nil, if_neg (by omega)]; rfl
    rw [e, List.map_const', List.length_range]
    simp
  dsimp only [tSeq, tAsg, tCons, tNil]
  refine for_sq (a := a) (xs := VI cs) (fun i σ H' => ∃ y z, σ = [some (.ref a), some (.int M0), some (.ref p), y, z] ∧ Same H H' ∧ H' p = some (.lst (VI (nums cs M0 i)))) (fun R r => ⟨_, rfl, r⟩) hS s4 ⟨none, none, rfl, s4, ?_⟩
    (fun i σ' H' ⟨_, _, _, s5, _⟩ => s5) (fun i x σ' H' hx ⟨y, z, e, s5, hp1⟩ => ?_) (fun σ' H' ⟨y, z, e, s5, hp1⟩ => ?_)
  · rw [upd_same, st]
  · obtain ⟨c, hc, rfl⟩ := vi_at hx
    subst e
    have c0 := hp c (List.mem_of_getElem? hc)
    have c1 := hb c (List.mem_of_getElem? hc)
    refine ⟨_, rfl, _, rfl, M0, 1, rfl, rfl, c, (M0 : Int) + 1, rfl, ⟨by omega, by omega, by omega, by omega⟩, ?_⟩
    refine for_range (lo := c) (n := ((M0 : Int) + 1 - c).toNat) (fun j σ H2 => ∃ z, σ = [some (.ref a), some (.int M0), some (.ref p), some (.int c), z] ∧ Same H H2 ∧ H2 p = some (.lst (VI (numsX cs M0 i (c.toNat + j)))))
      ⟨z, rfl, s5, by rw [Nat.add_zero, numsX_start hp hc]; exact hp1⟩ (fun j σ2 H2 hj ⟨z2, e2, s6, hp2⟩ => ?_) (fun σ2 H2 ⟨z2, e2, s6, hp2⟩ => ?_)
    · subst e2
      have er : c + (j : Int) = ((c.toNat + j : Nat) : Int) := by omega
      have hM : c.toNat + j ≤ M0 := by omega
      refine ⟨_, rfl, _, rfl, p, _, _, .int ((wl (cs.take i) ((c.toNat + j : Nat) : Int) : Nat) : Int), rfl, rfl, SqL.of hp2, by omega, by rw [er, Int.toNat_natCast, List.getElem?_map, numsX_at cs hM, if_neg (by omega)]; rfl, ?_⟩
      refine ⟨_, rfl, _, rfl, _, rfl, _, _, rfl, rfl, p, _, _, .int ((wl (cs.take (i + 1)) (j : Int) : Nat) : Int), rfl, rfl, SqL.of hp2, at_of (j := j) (by omega) (by rw [List.getElem?_map, numsX_at cs (by omega), if_pos (by omega)]; rfl), _, _, rfl, rfl, p, _, _, c.toNat + j, rfl, rfl, hp2, ixn er (by rw [vi_len, numsX_len]; omega), some (.int (c + j)), rfl, ?_, ?_⟩
      · intro b o q2
        have nb : b ≠ p := fun z => by rw [z] at q2; rw [(s1.trans (s2.trans s3)).free np] at q2; cases q2
        rw [upd_ne nb]
        exact s6 _ _ q2
      · rw [upd_same, numsX_step hM]
        · rfl
        · have w1 := wl_take hp hc (n := ((c.toNat + j : Nat) : Int)) (by omega)
          show ((wl (cs.take i) ((c.toNat + j : Nat) : Int) : Nat) : Int) + ((wl (cs.take (i + 1)) (j : Int) : Nat) : Int) = _
          rw [if_pos (by omega), show ((c.toNat + j : Nat) : Int) - c = (j : Int) by omega] at w1
          rw [w1]
          exact (Int.natCast_add _ _).symm
    · subst e2
      exact ⟨some (.int c), z2, rfl, s6, by rw [numsX_end (by omega)] at hp2; exact hp2⟩
  · subst e
    rw [vi_len] at hp1
    refine ⟨_, rfl, _, rfl, p, _, _, _, rfl, rfl, SqL.of hp1, at_of (j := M0) rfl (by rw [List.getElem?_map]; unfold nums; rw [List.getElem?_map, List.getElem?_range (by omega), List.take_length]; rfl), q _ s5⟩
/-! ### ways -/
/-- a begun way and what is left, new since H0 -/
def Rg (H0 H : Hp) (v : V) (p : List Int × Int) : Prop := ∃ T b, v = .ref T ∧ H T = some (.tup [.ref b, .int p.2]) ∧ H0 b = none ∧ H b = some (.lst (VI p.1))
theorem Rg.same {H0 H H' : Hp} {v : V} {p : List Int × Int} (e : Same H H') (h : Rg H0 H v p) : Rg H0 H' v p := let ⟨T, b, a, c, d, f⟩ := h; ⟨T, b, a, e _ _ c, d, e _ _ f⟩
def sp_ways (K : PySem.W.Frag) : Sp := fun vs H Q _ => ∃ (a : Addr) (cs : List Int) (m : Int), vs = [.ref a, .int m] ∧ Sq K H a (VI cs) ∧ Told cs ∧ 0 ≤ m ∧ m ≤ 200 ∧ (waysL cs m).length ≤ 400 ∧
  ∀ p H' xs, Same H H' → H p = none → H' p = some (.lst xs) → A2 (Rw H H') xs (waysL cs m) → Q (.ref p) H'
noncomputable def step1 (c : Int) (rest : List Int) (p : List Int × Int) : List (List Int × Int) := (fits c rest p.2).map fun k => (p.1 ++ [k], p.2 - k * c)
theorem step1_len {c : Int} {rest : List Int} {p : List Int × Int} (hc : 1 ≤ c) (h0 : 0 ≤ p.2) (h1 : p.2 ≤ 200) : (step1 c rest p).length ≤ 201 := by
  unfold step1
  rw [List.length_map]
  have := fits_len c rest p.2
  have e : p.2 / c ≤ p.2 := Int.ediv_le_self c h0
  omega
theorem flat_len {α β : Type} {f : α → List β} {M : Nat} : ∀ {l : List α}, (∀ x ∈ l, (f x).length ≤ M) → (l.flatMap f).length ≤ l.length * M
  | [], _ => by simp
  | x :: l, h => by
    rw [List.flatMap_cons, List.length_append, List.length_cons, Nat.add_mul, Nat.one_mul]
    have := h x List.mem_cons_self
    have := flat_len (l := l) fun y hy => h y (List.mem_cons_of_mem _ hy)
    omega
theorem take_flat {α β : Type} {f : α → List β} {l : List α} {i : Nat} {x : α} (h : l[i]? = some x) : (l.take (i + 1)).flatMap f = (l.take i).flatMap f ++ f x := by
  rw [take_one h, List.flatMap_append]; simp
-- slots: counts 0, many 1, begun 2, one 3, can_follow 4, way 5, left 6, often 7, _ 8; cells: can_follow one
abbrev s_ways : Stmt := top 31
abbrev N_ways : List Str := ["counts", "many", "begun", "one", "can_follow", "way", "left", "often", "_"]
theorem sc_ways : FnScope N_ways ["counts", "many"] (defScope s_ways) := ⟨rfl, rfl, rfl, by decide +kernel, rfl, by decide +kernel, by decide +kernel⟩
theorem d_ways (B : Bnd K mg "ways" s_ways) (M : Mg2 mg)  (D_check_many : Def P w K mg base k "check_many" sMany ["many", "least", "most"] spMany) (D_check_counts : Def P w K mg base k "check_counts" sCheck ["counts"] (spCheck K)) (D_way_number : Def P w K mg base k "way_number" s_way_number ["counts", "many"] (sp_way_number K)) (D_following : Def P w K mg base k "following" s_following ["counts", "many"] (sp_following K)) : Def P w K mg base (k + 1) "ways" s_ways ["counts", "many"] (sp_ways K) := by
  refine def_of B sc_ways (by rintro _ _ _ _ ⟨a, cs, m, rfl, _⟩; rfl) (fun _ _ _ _ _ _ us hl => match us, hl with | [_, _], _ => rfl) fun f cdv A outer s H vs Q E hr h => ?_
  obtain ⟨a, cs, m, rfl, hS, T, h0, h1, hw, q⟩ := h
  have hu := hr.units
  obtain ⟨t_MOST_MANY_ways, m_MOST_MANY_ways⟩ := M.MOST_MANY_ways
  obtain ⟨t_MOST_WAYS, m_MOST_WAYS⟩ := M.MOST_WAYS
  refine ⟨_, pss_cons (ps_expr (pe_d D_check_counts hr (by rfl) (pa_cons (pv 0) pa_nil)))
    (pss_cons (ps_expr (pe_d D_check_many hr (by rfl) (pa_cons (pv 1) (pa_cons pe_int (pa_cons (pe_glob (v := .int 200) (by rfl) m_MOST_MANY_ways ⟨_, rfl⟩) pa_nil)))))
    (pss_cons (ps_if (pt_cmpR op_gt (pe_d D_way_number hr (by rfl) (pa_cons (pv 0) (pa_cons (pv 1) pa_nil))) (pe_glob (v := .int 400) (by rfl) m_MOST_WAYS ⟨_, rfl⟩) (nomark _)) pss_never pss_nil)
    (pss_cons (ps_set (i := 2) sc_ways.nd rfl (.inl rfl) (pe_lst (pa_cons (pe_tup (pa_cons (pe_lst pa_nil) (pa_cons (pv 1) pa_nil))) pa_nil)))
    (pss_cons (ps_for PassesOwn.never rfl (pi_zipS (by rfl) M.zip (pa_cons (pv 0) (pa_cons (pe_d D_following hr (by rfl) (pa_cons (pv 0) (pa_cons (pv 1) pa_nil))) pa_nil))) (pg_tup rfl (pgs_cons (pg_name (i := 3) sc_ways.nd rfl (.inr rfl)) (pgs_cons (pg_name (i := 4) sc_ways.nd rfl (.inr rfl)) pgs_nil)))
      (pss_one (ps_setLc2 (i := 2) (wi1 := (iRng1 (tCons (tOp _ (tOp _ (tVar 6) (tVar 3)) (tC (.int 1))) tNil))) (own := [("way", 5), ("left", 6), ("often", 7)]) (vs1 := [7]) (g := (gTup K 2 (gCons (gName 5) (gCons (gName 6) gNil)))) (tt := tYes) (g1 := (gName 7)) (tt1 := (tB (tOp (rIxL K) (tVar 4) (tOp _ (tVar 6) (tOp _ (tVar 7) (tVar 3)))))) (te := (tTup (tCons (tLst (StX.tStar K (tVar 5) (tCons (tVar 7) tNil))) (tCons (tOp _ (tVar 6) (tOp _ (tVar 7) (tVar 3))) tNil)))) rfl sc_ways.nd rfl rfl (sw_true rfl rfl rfl (by decide +kernel)) (pi_list (pv 2)) (blkOk_by (own := [("way", 5), ("left", 6), ("often", 7)]) (N := N_ways) (sc := defScope s_ways) (by decide +kernel)) (by decide) (fun _ _ _ _ _ => pg_tup rfl (pgs_cons (pg_name (i := 5) sc_ways.nd rfl (.inl rfl)) (pgs_cons (pg_name (i := 6) sc_ways.nd rfl (.inl rfl)) pgs_nil))) (fun _ _ _ _ _ => pts_nil) (fun _ _ _ _ _ => pi_range1 (by rfl) M.range (pa_cons (pe_op op_add (pe_op op_fdivN (pv 6) (pv 3)) pe_int) pa_nil)) (fun _ _ _ _ _ => pg_name (i := 7) sc_ways.nd rfl (.inl rfl)) (fun _ _ _ _ _ => pts_one (pt_val (pe_ix (r := rIxL K) ix_list (pv 4) (pe_op op_sub (pv 6) (pe_op op_mul (pv 7) (pv 3))) (fun _ _ => rfl)))) (fun _ _ _ _ _ => pe_tup (pa_cons (pe_lst (StX.pa_star (pv 5) (pa_cons (pv 7) pa_nil))) (pa_cons (pe_op op_sub (pv 6) (pe_op op_mul (pv 7) (pv 3))) pa_nil))))))
    (pss_one (ps_ret (pe_lc (own := [("way", 5), ("_", 8)]) (g := (gTup K 2 (gCons (gName 5) (gCons (gName 8) gNil)))) (tt := tYes) (te := (tVar 5)) rfl sc_ways.nd (pi_list (pv 2)) (blkOk_by (own := [("way", 5), ("_", 8)]) (N := N_ways) (sc := defScope s_ways) (by decide +kernel)) (fun _ _ _ _ _ => pg_tup rfl (pgs_cons (pg_name (i := 5) sc_ways.nd rfl (.inl rfl)) (pgs_cons (pg_name (i := 8) sc_ways.nd rfl (.inl rfl)) pgs_nil))) (fun _ _ _ _ _ => pts_nil) (fun _ _ _ _ _ => pv 5)))))))), ?_⟩
  have t1 := T.lo
  have t2 := T.hi
  refine ⟨_, rfl, a, cs, rfl, hS, T, fun H1 s1 => ?_⟩
  refine ⟨_, rfl, m, 0, 200, rfl, h0, h0, h1, fun H2 s2 => ?_⟩
  have s12 := s1.trans s2
  refine ⟨_, rfl, _, rfl, a, cs, m, rfl, hS.same s12, T.pos, fun c hc => by have := (T.each c hc).2; omega, h0, by omega, fun H3 s3 => ?_⟩
  have s13 := s12.trans s3
  refine ⟨_, _, rfl, rfl, _, rfl, ifF (by unfold wl; omega) ?_⟩
  refine ⟨by show 0 ≤ sizeLine; decide, fun b0 nb0 => ⟨_, rfl, by show 2 ≤ sizeLine; decide, fun t0 nt0 => ⟨by show 1 ≤ sizeLine; decide, fun g0 ng0 => ?_⟩⟩⟩
  have s4 := (same_new (o := .lst []) nb0).trans ((same_new (o := .tup [.ref b0, .int m]) nt0).trans (same_new (o := .lst [.ref t0]) ng0))
  have s14 := s13.trans s4
  refine ⟨_, rfl, _, rfl, _, rfl, a, cs, m, rfl, hS.same s14, T.pos, t2, h0, by omega, fun F H6 fs s6 nF hF hfs => ?_⟩
  have s16 := s14.trans s6
  have lf : fs.length = cs.length := by rw [hfs.len]; unfold follow; rw [List.length_map, List.length_range]
  obtain ⟨κ1, k0⟩ := sqk_of hS
  have k1 := k0.same s16
  have k2 : SqK false K H6 F fs := sqk_lst hF
  refine ⟨a, F, VI cs, fs, κ1, false, rfl, k1, k2, ?_⟩
  have hg0 : H6 g0 = some (.lst [.ref t0]) := s6 _ _ upd_same
  have lc := vi_len cs
  have hn : cs.length = min (VI cs).length fs.length := by rw [lc, lf]; omega
  have pos := T.pos
  refine for_it (walk_zipS hn) (fun i σ H' => ∃ (g : Addr) (bs : List V) (B : List (List Int × Int)) (y1 y2 : Option V), σ = [some (.ref a), some (.int m), some (.ref g), y1, y2, none, none, none, none] ∧ Same H6 H' ∧ H' g = some (.lst bs) ∧
      A2 (Rg H H') bs B ∧ bfold (cs.drop i) B = bfold cs [([], m)] ∧ (∀ p ∈ B, 0 ≤ p.2 ∧ p.2 ≤ m ∧ p.1.length = i) ∧ B.length ≤ 400) ?_ (fun i σ' H' _ ⟨g, bs, B, y1, y2, e, s7, _⟩ => ⟨k1.same s7, k2.same s7⟩)
    (fun i x σ' H' H'' hi ⟨g, bs, B, y1, y2, e, s7, hg, hB, fB, bB, lB⟩ hy => ?_) (fun σ' H' ⟨g, bs, B, y1, y2, e, s7, hg, hB, fB, bB, lB⟩ => ?_)
  · refine ⟨g0, [.ref t0], [([], m)], none, none, rfl, Same.refl _, hg0, A2.nil.snoc (bs := []) ?_, rfl, fun p hp => ?_, by simp⟩
    · have e1 : b0 ≠ g0 := ne_of_none (by rw [upd_ne (ne_of_none upd_same nt0)]; exact upd_same) ng0
      have e2 : t0 ≠ g0 := ne_of_none upd_same ng0
      refine ⟨t0, b0, rfl, s6 _ _ ?_, s13.free nb0, s6 _ _ ?_⟩
      · rw [upd_ne e2, upd_same]
      · rw [upd_ne e1, upd_ne (ne_of_none upd_same nt0), upd_same]; rfl
    · rw [List.mem_singleton.mp hp]
      exact ⟨h0, Int.le_refl m, rfl⟩
  · subst e
    obtain ⟨Tt, x1, x2, rfl, nT, rfl, hx1, hx2⟩ := hy
    obtain ⟨c, hc, rfl⟩ := vi_at hx1
    obtain ⟨tbl, ht, x2, rfl, _, hx3⟩ := hfs.at_ _ _ hx2
    have s8 : Same H' (upd H' Tt (.tup [.int c, .ref x2])) := same_new nT
    have c0 := T.each c (List.mem_of_getElem? hc)
    have ht2 : tbl = tb (cs.drop (i + 1)) (m.toNat + 1) := by
      unfold follow at ht
      rw [List.getElem?_map, List.getElem?_range hi] at ht
      exact (Option.some.inj ht).symm
    subst ht2
    have dr : cs.drop i = c :: cs.drop (i + 1) := by
      rw [← List.getElem_cons_drop (by rw [← lc]; exact (List.getElem?_eq_some_iff.mp hx1).1)]
      congr 1
      exact (List.getElem?_eq_some_iff.mp hc).2
    have hpd : Pos (c :: cs.drop (i + 1)) := by rw [← dr]; exact pos.drop _
    rw [dr] at fB
    have fB2 : bfold (cs.drop (i + 1)) (bstep c (cs.drop (i + 1)) B) = bfold cs [([], m)] := by rw [← fB]; rfl
    have l2 : (bstep c (cs.drop (i + 1)) B).length ≤ 400 := by
      refine Nat.le_trans (bfold_len (pos.drop _) bstep_met) ?_
      rw [fB2]
      have := congrArg List.length (bfold_start pos t1 m)
      rw [List.length_map] at this
      omega
    refine ⟨Tt, _, rfl, SqT.of upd_same, rfl, _, _, rfl, _, _, rfl, rfl, ?_⟩
    refine ⟨_, rfl, g, rfl, ⟨bs, SqL.of (s8 _ _ hg)⟩, fun D hD => ?_⟩
    refine lc2_rel (walk_list (K := K) (a := g) (xs := bs)) (fun j acc Hh => A2 (Rg H Hh) acc ((B.take j).flatMap (step1 c (cs.drop (i + 1))))) hD (fun Hh sh => SqL.of (sh _ _ (s8 _ _ hg))) A2.nil (fun j acc A B e r => r.mono fun v b => Rg.same e)
      (fun j x acc Ha Hb hj sa ha hr hy Nx nx => ?_) (fun acc Hh sh ha hr => ?_)
    · obtain ⟨rfl, hx⟩ := hy
      obtain ⟨⟨wy, l⟩, hwl, T1, b1, rfl, hT1, hb1, hb2⟩ := hB.at_ j x hx
      have bw := bB _ (List.mem_of_getElem? hwl)
      have sb := s8.trans sa
      dsimp only at bw hT1 hb2
      refine ⟨T1, _, rfl, SqT.of (sb _ _ hT1), rfl, _, _, rfl, _, _, rfl, rfl, rfl, ?_⟩
      have lm : l / c ≤ l := Int.ediv_le_self c bw.1
      have l0 : 0 ≤ l / c := Int.ediv_nonneg bw.1 (by omega)
      have fd : l.fdiv c = l / c := Int.fdiv_eq_ediv_of_nonneg l (by omega)
      refine ⟨_, rfl, _, rfl, l, c, rfl, rfl, ⟨by omega, by omega⟩, _, _, rfl, rfl, _, rfl, by rw [fd]; omega, by rw [fd]; omega, ?_⟩
      rw [fd]
      refine lc2_in walk_range (fun k acc Hh => A2 (Rg H Hh) acc ((B.take j).flatMap (step1 c (cs.drop (i + 1))) ++ ((((List.range k).filter fun z : Nat => mb (cs.drop (i + 1)) (l - (z : Int) * c)).map fun z : Nat => (z : Int)).map fun z => (wy ++ [z], l - z * c)))) ha
        (by rw [List.range_zero]; simpa using hr) (fun k acc Hh hk r => ?_) (fun _ _ => trivial) (fun k x acc2 Hd2 Hc hk sc hac hr2 hy Yc Nc yc nc => ?_) (fun acc2 Hc sc hac hr2 => ?_)
      · have b1 : ((B.take j).flatMap (step1 c (cs.drop (i + 1)))).length ≤ (B.take j).length * 201 := flat_len fun p hp => by
          have := bB p (List.mem_of_mem_take hp)
          exact step1_len c0.1 this.1 (by omega)
        have b2 := List.length_filter_le (fun z : Nat => mb (cs.drop (i + 1)) (l - (z : Int) * c)) (List.range k)
        rw [r.len, List.length_append, List.length_map, List.length_map, sizeLine_eq]
        rw [List.length_range] at b2
        rw [List.length_take] at b1
        have b3 : min j B.length * 201 ≤ 400 * 201 := Nat.mul_le_mul_right _ (by omega)
        omega
      · obtain ⟨rfl, rfl⟩ := hy
        have hk2 : (k : Int) ≤ l / c := by omega
        have kc := (Int.le_ediv_iff_mul_le (show 0 < c by omega)).mp hk2
        have k0 : 0 ≤ (k : Int) * c := Int.mul_nonneg (by omega) (by omega)
        have e0 : (0 : Int) + (k : Int) = (k : Int) := by omega
        have sw := s8.trans (same_wo hD sa)
        have sD : Same H6 Hc := (s7.trans sw).trans (sc.trans wo_le)
        have hx4 : SqL K Hc x2 ((tb (cs.drop (i + 1)) (m.toNat + 1)).map V.bl) := sD.seq (SqL.of hx3)
        have hat : atI ((tb (cs.drop (i + 1)) (m.toNat + 1)).map V.bl) (l - (k : Int) * c) = some (.bl (mb (cs.drop (i + 1)) (l - (k : Int) * c))) := by
          refine at_of (j := (l - (k : Int) * c).toNat) (by omega) ?_
          rw [List.getElem?_map, tb_at (by omega), Int.toNat_of_nonneg (by omega)]; rfl
        show gName 7 (.int (0 + (k : Int))) _ _ _
        rw [e0]
        refine ⟨rfl, _, rfl, _, rfl, _, rfl, _, rfl, _, _, rfl, rfl, .inl ⟨by omega, by omega⟩, _, _, rfl, rfl, x2, _, _, _, rfl, rfl, hx4, hat, _, rfl, ?_⟩
        have rs : (List.range (k + 1)).filter (fun z : Nat => mb (cs.drop (i + 1)) (l - (z : Int) * c)) = (List.range k).filter (fun z : Nat => mb (cs.drop (i + 1)) (l - (z : Int) * c)) ++ [k].filter (fun z : Nat => mb (cs.drop (i + 1)) (l - (z : Int) * c)) := by rw [List.range_succ, List.filter_append]
        cases em : mb (cs.drop (i + 1)) (l - (k : Int) * c) with
        | false =>
          refine iteF (nc Hc (Same.refl _) ?_)
          rw [rs, show [k].filter (fun z : Nat => mb (cs.drop (i + 1)) (l - (z : Int) * c)) = [] by simp [em], List.append_nil]
          exact hr2
        | true =>
          have hb3 : Hc b1 = some (.lst (VI wy)) := (sc.trans wo_le) _ _ (sw _ _ hb2)
          refine iteT ⟨_, rfl, b1, _, rfl, .inr (SqL.of hb3), _, rfl, ?_, fun nb hnb => ?_⟩
          · rw [List.length_append, vi_len]
            have := bw.2.2
            simp only [List.length_cons, List.length_nil]
            rw [sizeLine_eq]; omega
          refine ⟨_, rfl, _, rfl, _, rfl, _, _, rfl, rfl, .inl ⟨by omega, by omega⟩, _, _, rfl, rfl, by show 2 ≤ sizeLine; decide, fun nt hnt => ?_⟩
          have n1 : nb ≠ D := fun z => by rw [z, hac] at hnb; cases hnb
          have n2 : nt ≠ D := fun z => by rw [z, upd_ne n1.symm, hac] at hnt; cases hnt
          have n3 : nb ≠ nt := ne_of_none upd_same hnt
          have sS := (same_new (o := .lst (VI wy ++ [V.int (k : Int)])) hnb).trans (same_new (o := .tup [.ref nb, .int (l - (k : Int) * c)]) hnt)
          refine yc _ _ sS ?_
          rw [rs, show [k].filter (fun z : Nat => mb (cs.drop (i + 1)) (l - (z : Int) * c)) = [k] by simp [em], List.map_append, List.map_append, ← List.append_assoc]
          refine (hr2.mono fun v b => Rg.same (wo_same sS)).snoc ⟨nt, nb, rfl, ?_, ?_, ?_⟩
          · rw [wo_ne n2, upd_same]
          · exact (s16.trans sD).free hnb
          · rw [wo_ne n1, upd_ne n3, upd_same]
            unfold VI
            rw [List.map_append]; rfl
      · refine nx acc2 Hc ((same_wo hD sa).trans (sc.trans wo_le)) hac ?_
        rw [take_flat hwl]
        exact hr2
    · have hb : bs.length = B.length := hB.len
      rw [hb, List.take_length] at hr
      have sx : Same H6 Hh := (s7.trans s8).trans sh
      refine ⟨D, acc, bstep c (cs.drop (i + 1)) B, some (.int c), some (.ref x2), rfl, sx, ha, hr.mono fun v b => Rg.same wo_le, fB2, fun p hp => ?_, l2⟩
      unfold bstep at hp
      obtain ⟨p0, hp0, hp⟩ := List.mem_flatMap.mp hp
      obtain ⟨z, hz, rfl⟩ := List.mem_map.mp hp
      have b0 := bB p0 hp0
      have fz := fits_mem (by omega) hz
      have zc : 0 ≤ z * c := Int.mul_nonneg fz.1 (by omega)
      exact ⟨fz.2.1, by show p0.2 - z * c ≤ m; omega, by show (p0.1 ++ [z]).length = i + 1; rw [List.length_append, b0.2.2]; rfl⟩
  · subst e
    rw [List.drop_length] at fB
    have eB : B.map Prod.fst = waysL cs m := by rw [← bfold_start pos t1 m, ← fB]; rfl
    have hb : bs.length = B.length := hB.len
    refine ⟨_, rfl, g, rfl, ⟨bs, SqL.of hg⟩, fun D hD => ?_⟩
    refine lc_rel (walk_list (K := K) (a := g) (xs := bs)) (fun j acc Hh => A2 (Rw H Hh) acc ((B.take j).map Prod.fst)) hD (by rw [sizeLine_eq]; omega) (fun Hh sh => SqL.of (sh _ _ hg)) A2.nil (fun j acc A B e r => r.mono fun v b => Rw.same e)
      (fun j x acc Ha Hb hj sa ha hr hy Yc Nc yc nc => ?_) (fun acc Hh sh ha hr => ?_)
    · obtain ⟨rfl, hx⟩ := hy
      obtain ⟨⟨wy, l⟩, hwl, T1, b1, rfl, hT1, hb1, hb2⟩ := hB.at_ j x hx
      refine ⟨T1, _, rfl, SqT.of (sa _ _ hT1), rfl, _, _, rfl, _, _, rfl, rfl, rfl, _, rfl, yc _ _ (Same.refl _) ?_⟩
      rw [take_one hwl, List.map_append]
      exact hr.snoc ⟨b1, rfl, hb1, same_wo hD sa _ _ hb2⟩
    · rw [hb, List.take_length, eB] at hr
      exact q D Hh acc ((s16.trans s7).trans sh) ((s16.trans s7).free hD) ha (hr.mono fun v b => Rw.same wo_le)
/-! ### a_way -/
/-- None, or a list of ints -/
def Ow (K : PySem.W.Frag) (H : Hp) (v : V) (o : Option (List Int)) : Prop := (o = none ∧ v = .non) ∨ ∃ wy b, o = some wy ∧ v = .ref b ∧ SqL K H b (VI wy)
theorem Ow.same {K : PySem.W.Frag} {H H' : Hp} {v : V} {o : Option (List Int)} (h : Ow K H v o) (e : Same H H') : Ow K H' v o := h.imp id fun ⟨wy, b, a, c, d⟩ => ⟨wy, b, a, c, e.seq d⟩
def optD : Option (List Int) → PyData
  | none => .none
  | some wy => DI wy
theorem Ow.dp {K : PySem.W.Frag} {H : Hp} {v : V} {o : Option (List Int)} (h : Ow K H v o) : Dp K H v (optD o) := by
  rcases h with ⟨rfl, rfl⟩ | ⟨wy, b, rfl, rfl, hs⟩
  · exact .non
  · exact dp_ints hs
theorem optD_shaped : ∀ o : Option (List Int), SeqAt.shaped (optD o) = true
  | none => rfl
  | some wy => di_shaped wy
theorem optD_refl : ∀ o : Option (List Int), PyData.eqv (optD o) (optD o) = true
  | none => rfl
  | some wy => di_refl wy
def sp_a_way (K : PySem.W.Frag) : Sp := fun vs H Q _ => ∃ (a : Addr) (cs : List Int) (m : Int), vs = [.ref a, .int m] ∧ Sq K H a (VI cs) ∧ Told cs ∧ 0 ≤ m ∧ m ≤ 200 ∧
  ∀ v H', Same H H' → Ow K H' v (waysL cs m).getLast? → Q v H'
theorem fits_fm (c : Int) (rest : List Int) (l : Int) (n : Nat) : ((List.range n).filterMap fun k : Nat => if mb rest (l - (k : Int) * c) = true then some (V.int (k : Int)) else none) = VI (((List.range n).filter fun k : Nat => mb rest (l - (k : Int) * c)).map fun k : Nat => (k : Int)) := by
  induction n with
  | zero => rfl
  | succ n ih =>
    rw [fm_succ, ih, List.range_succ, List.filter_append, List.map_append]
    unfold VI
    rw [List.map_append]
    congr 1
    by_cases e : mb rest (l - (n : Int) * c) = true
    · simp [e]
    · simp [e]
theorem last_ne {α : Type} {l : List α} (h : l ≠ []) : ∃ A x, l = A ++ [x] := by
  rcases List.eq_nil_or_concat l with e | ⟨A, x, e⟩
  · exact absurd e h
  · exact ⟨A, x, by rw [e, List.concat_eq_append]⟩
-- slots: counts 0, many 1, way 2, left 3, one 4, can_follow 5, fitting 6, often 7; cells: can_follow left one
abbrev s_a_way : Stmt := top 32
abbrev N_a_way : List Str := ["counts", "many", "way", "left", "one", "can_follow", "fitting", "often"]
theorem sc_a_way : FnScope N_a_way ["counts", "many"] (defScope s_a_way) := ⟨rfl, rfl, rfl, by decide +kernel, rfl, by decide +kernel, by decide +kernel⟩
theorem d_a_way (B : Bnd K mg "a_way" s_a_way) (M : Mg2 mg)  (D_check_many : Def P w K mg base k "check_many" sMany ["many", "least", "most"] spMany) (D_check_counts : Def P w K mg base k "check_counts" sCheck ["counts"] (spCheck K)) (D_following : Def P w K mg base k "following" s_following ["counts", "many"] (sp_following K)) : Def P w K mg base (k + 1) "a_way" s_a_way ["counts", "many"] (sp_a_way K) := by
  refine def_of B sc_a_way (by rintro _ _ _ _ ⟨a, cs, m, rfl, _⟩; rfl) (fun _ _ _ _ _ _ us hl => match us, hl with | [_, _], _ => rfl) fun f cdv A outer s H vs Q E hr h => ?_
  obtain ⟨a, cs, m, rfl, hS, T, h0, h1, q⟩ := h
  have hu := hr.units
  obtain ⟨t_MOST_MANY_ways, m_MOST_MANY_ways⟩ := M.MOST_MANY_ways
  refine ⟨_, pss_cons (ps_expr (pe_d D_check_counts hr (by rfl) (pa_cons (pv 0) pa_nil)))
    (pss_cons (ps_expr (pe_d D_check_many hr (by rfl) (pa_cons (pv 1) (pa_cons pe_int (pa_cons (pe_glob (v := .int 200) (by rfl) m_MOST_MANY_ways ⟨_, rfl⟩) pa_nil)))))
    (pss_cons (ps_asg (pe_tup (pa_cons (pe_lst pa_nil) (pa_cons (pv 1) pa_nil))) (pg_tup rfl (pgs_cons (pg_name (i := 2) sc_a_way.nd rfl (.inl rfl)) (pgs_cons (pg_name (i := 3) sc_a_way.nd rfl (.inr rfl)) pgs_nil))))
    (pss_cons (ps_for PassesOwn.never rfl (pi_zipS (by rfl) M.zip (pa_cons (pv 0) (pa_cons (pe_d D_following hr (by rfl) (pa_cons (pv 0) (pa_cons (pv 1) pa_nil))) pa_nil))) (pg_tup rfl (pgs_cons (pg_name (i := 4) sc_a_way.nd rfl (.inr rfl)) (pgs_cons (pg_name (i := 5) sc_a_way.nd rfl (.inr rfl)) pgs_nil)))
      (pss_cons (ps_setLc (i := 6) (own := [("often", 7)]) (g := (gName 7)) (tt := (tB (tOp (rIxL K) (tVar 5) (tOp _ (tVar 3) (tOp _ (tVar 7) (tVar 4)))))) (te := (tVar 7)) rfl sc_a_way.nd rfl rfl (sw_true rfl rfl rfl (by decide +kernel)) (pi_range1 (by rfl) M.range (pa_cons (pe_op op_add (pe_op op_fdivN (pv 3) (pv 4)) pe_int) pa_nil)) (blkOk_by (own := [("often", 7)]) (N := N_a_way) (sc := defScope s_a_way) (by decide +kernel)) (fun _ _ _ _ _ => pg_name (i := 7) sc_a_way.nd rfl (.inl rfl)) (fun _ _ _ _ _ => pts_one (pt_val (pe_ix (r := rIxL K) ix_list (pv 5) (pe_op op_sub (pv 3) (pe_op op_mul (pv 7) (pv 4))) (fun _ _ => rfl)))) (fun _ _ _ _ _ => pv 7))
      (C8.pss_cut (ps_if (pt_not (pt_truth (pv 6) (by intro _; rfl)))
        (pss_one (ps_ret pe_non))
        (pss_nil))
      (pss_cons (ps_expr (pe_bm PySem.F.plainAttrs_list PySem.F.slot_list_append PySem.F.type_list_append mt_append (pv 2) (pa_cons (pe_ix (r := rIxL K) ix_list (pv 6) (pe_un un_neg pe_int) (fun _ _ => rfl)) pa_nil)))
      (pss_one (ps_set (i := 3) sc_a_way.nd rfl (.inr rfl) (pe_op op_sub (pv 3) (pe_op op_mul (pe_ix (r := rIxL K) ix_list (pv 6) (pe_un un_neg pe_int) (fun _ _ => rfl)) (pv 4)))))))))
    (pss_one (ps_ret (pv 2)))))), ?_⟩
  have t1 := T.lo
  have t2 := T.hi
  refine ⟨_, rfl, a, cs, rfl, hS, T, fun H1 s1 => ?_⟩
  refine ⟨_, rfl, m, 0, 200, rfl, h0, h0, h1, fun H2 s2 => ?_⟩
  have s12 := s1.trans s2
  refine ⟨by show 0 ≤ sizeLine; decide, fun b0 nb0 => ⟨_, rfl, by show 2 ≤ sizeLine; decide, fun t0 nt0 => ⟨t0, _, rfl, SqT.of upd_same, rfl, _, _, rfl, _, _, rfl, rfl, ?_⟩⟩⟩
  have s4 := (same_new (o := .lst []) nb0).trans (same_new (o := .tup [.ref b0, .int m]) nt0)
  have s14 := s12.trans s4
  refine ⟨_, rfl, _, rfl, _, rfl, a, cs, m, rfl, hS.same s14, T.pos, t2, h0, by omega, fun F H6 fs s6 nF hF hfs => ?_⟩
  have s16 := s14.trans s6
  have lf : fs.length = cs.length := by rw [hfs.len]; unfold follow; rw [List.length_map, List.length_range]
  have hW0 : (upd (upd H2 b0 (.lst [])) t0 (.tup [.ref b0, .int m])) b0 = some (.lst []) := by rw [upd_ne (ne_of_none upd_same nt0), upd_same]
  have nW : H b0 = none := s12.free nb0
  have neF : F ≠ b0 := fun z => by rw [z, hW0] at nF; cases nF
  have sW : Same H (wo b0 H6) := same_wo nW s16
  obtain ⟨κ1, k0⟩ := sqk_of hS
  have hF' : wo b0 H6 F = some (.lst fs) := by rw [wo_ne neF]; exact hF
  refine ⟨a, F, VI cs, fs, κ1, false, rfl, k0.same s16, sqk_lst hF, ?_⟩
  have lc := vi_len cs
  have hn : cs.length = min (VI cs).length fs.length := by rw [lc, lf]; omega
  have pos := T.pos
  refine for_it (walk_zipS hn) (fun i σ H' => ∃ (wy : List Int) (l : Int) (y1 y2 y3 : Option V), σ = [some (.ref a), some (.int m), some (.ref b0), some (.int l), y1, y2, y3, none] ∧ Same (wo b0 H6) H' ∧ H' b0 = some (.lst (VI wy)) ∧ wy.length = i ∧ 0 ≤ l ∧ l ≤ m ∧
      (1 ≤ i → mb (cs.drop i) l = true) ∧ (waysL cs m).getLast? = ((waysL (cs.drop i) l).getLast?).map (wy ++ ·)) ⟨[], m, none, none, none, rfl, wo_le, s6 _ _ hW0, rfl, h0, Int.le_refl m, fun z => absurd z (by decide), by simp⟩
    (fun i σ' H' _ ⟨wy, l, y1, y2, y3, e, s7, _⟩ => ⟨k0.same (sW.trans s7), sqk_lst (s7 _ _ hF')⟩)
    (fun i x σ' H' H'' hi ⟨wy, l, y1, y2, y3, e, s7, hw, lw, l0, l1, mt, gl⟩ hy => ?_) (fun σ' H' ⟨wy, l, y1, y2, y3, e, s7, hw, lw, l0, l1, mt, gl⟩ => ?_)
  · subst e
    obtain ⟨Tt, x1, x2, rfl, nT, rfl, hx1, hx2⟩ := hy
    obtain ⟨c, hc, rfl⟩ := vi_at hx1
    obtain ⟨tbl, ht, x2, rfl, nx2, hx3⟩ := hfs.at_ _ _ hx2
    have s8 : Same H' (upd H' Tt (.tup [.int c, .ref x2])) := same_new nT
    have c0 := T.each c (List.mem_of_getElem? hc)
    have ht2 : tbl = tb (cs.drop (i + 1)) (m.toNat + 1) := by
      unfold follow at ht
      rw [List.getElem?_map, List.getElem?_range hi] at ht
      exact (Option.some.inj ht).symm
    subst ht2
    have ne2 : x2 ≠ b0 := fun z => by rw [z, hW0] at nx2; cases nx2
    have hx4 := s8 _ _ (s7 _ _ (show wo b0 H6 x2 = _ by rw [wo_ne ne2]; exact hx3))
    have dr : cs.drop i = c :: cs.drop (i + 1) := by
      rw [← List.getElem_cons_drop (by rw [← lc]; exact (List.getElem?_eq_some_iff.mp hx1).1)]
      congr 1
      exact (List.getElem?_eq_some_iff.mp hc).2
    have hpd : Pos (c :: cs.drop (i + 1)) := by rw [← dr]; exact pos.drop _
    rw [dr] at gl
    have lm : l / c ≤ l := Int.ediv_le_self c l0
    have ld : 0 ≤ l / c := Int.ediv_nonneg l0 (by omega)
    have fd : l.fdiv c = l / c := Int.fdiv_eq_ediv_of_nonneg l (by omega)
    refine ⟨Tt, _, rfl, SqT.of upd_same, rfl, _, _, rfl, _, _, rfl, rfl, ?_⟩
    refine ⟨_, rfl, _, rfl, l, c, rfl, rfl, ⟨by omega, by omega⟩, _, _, rfl, rfl, _, rfl, by rw [fd]; omega, by rw [fd]; omega, fun D hD => ?_⟩
    rw [fd]
    refine lc_rg (fun k : Nat => if mb (cs.drop (i + 1)) (l - (k : Int) * c) = true then some (V.int (k : Int)) else none) hD (by rw [sizeLine_eq]; omega) (fun k Hc hk sc Yc Nc yc nc => ?_) (fun Hc sc hDl => ?_)
    · have hk2 : (k : Int) ≤ l / c := by omega
      have kc := (Int.le_ediv_iff_mul_le (show 0 < c by omega)).mp hk2
      have kz : 0 ≤ (k : Int) * c := Int.mul_nonneg (by omega) (by omega)
      have hat : atI ((tb (cs.drop (i + 1)) (m.toNat + 1)).map V.bl) (l - (k : Int) * c) = some (.bl (mb (cs.drop (i + 1)) (l - (k : Int) * c))) := by
        refine at_of (j := (l - (k : Int) * c).toNat) (by omega) ?_
        rw [List.getElem?_map, tb_at (by omega), Int.toNat_of_nonneg (by omega)]; rfl
      show gName 7 (.int (0 + (k : Int))) _ _ _
      rw [show (0 : Int) + (k : Int) = (k : Int) by omega]
      refine ⟨rfl, _, rfl, _, rfl, _, rfl, _, rfl, _, _, rfl, rfl, .inl ⟨by omega, by omega⟩, _, _, rfl, rfl, x2, _, _, _, rfl, rfl, SqL.of (sc _ _ hx4), hat, _, rfl, ?_⟩
      dsimp only at yc nc
      cases em : mb (cs.drop (i + 1)) (l - (k : Int) * c) with
      | false =>
        rw [if_neg (by rw [em]; exact Bool.false_ne_true)] at nc
        exact iteF (nc Hc (Same.refl _) rfl)
      | true =>
        rw [if_pos em] at yc
        exact iteT ⟨_, rfl, yc _ _ (Same.refl _) rfl⟩
    · have hfit : Hc D = some (.lst (VI (fits c (cs.drop (i + 1)) l))) := by rw [hDl, fits_fm]; rfl
      have s9 := s7.trans (s8.trans sc)
      have hw9 := (s8.trans sc) _ _ hw
      refine ⟨fun σ2 H2' => σ2 = [some (.ref a), some (.int m), some (.ref b0), some (.int l), some (.int c), some (.ref x2), some (.ref D), none] ∧ H2' = Hc ∧ fits c (cs.drop (i + 1)) l ≠ [], ?_, ?_⟩
      · refine ⟨_, rfl, _, .inl ⟨_, SqL.of hfit, rfl⟩, ?_⟩
        by_cases e : fits c (cs.drop (i + 1)) l = []
        · refine iteT2 (by rw [e]; rfl) (q _ _ (sW.trans s9) (.inl ⟨?_, rfl⟩))
          rw [gl, fits_nil hpd e]
          try rfl
        · refine iteF2 (by cases q : fits c (cs.drop (i + 1)) l with | nil => exact absurd q e | cons _ _ => rfl) ⟨rfl, rfl, e⟩
      · rintro σ2 H2' ⟨rfl, rfl, e⟩
        obtain ⟨A, z, ez⟩ := last_ne e
        have fz := fits_mem (show 0 < c by omega) (show z ∈ fits c (cs.drop (i + 1)) l by rw [ez]; simp)
        have hat : atI (VI (fits c (cs.drop (i + 1)) l)) (-1) = some (.int z) := by rw [ez]; unfold VI; rw [List.map_append]; exact atI_last _ _
        have zb : z ≤ 200 := by
          have z1 : z * 1 ≤ z * c := Int.mul_le_mul_of_nonneg_left c0.1 fz.1
          omega
        have zz : 0 ≤ z * c := Int.mul_nonneg fz.1 (by omega)
        have nD : D ≠ b0 := fun q => by rw [q, s8 _ _ hw] at hD; cases hD
        refine ⟨_, rfl, .inl ⟨rfl, _, SqL.of hw9⟩, _, rfl, _, rfl, D, _, _, _, rfl, rfl, SqL.of hfit, hat, b0, _, _, rfl, rfl, hw9, by rw [vi_len, lw, sizeLine_eq]; omega, ?_⟩
        refine ⟨_, rfl, _, rfl, _, rfl, D, _, _, _, rfl, rfl, SqL.of (by rw [upd_ne nD]; exact hfit), hat, _, rfl, z, c, rfl, rfl, .inl ⟨by omega, by omega⟩, _, _, rfl, rfl, ?_⟩
        refine ⟨wy ++ [z], l - z * c, some (.int c), some (.ref x2), some (.ref D), rfl, ?_, ?_, by rw [List.length_append, lw]; rfl, fz.2.1, by omega, fun _ => fz.2.2, ?_⟩
        · intro b o q
          have nb : b ≠ b0 := fun w => by rw [w] at q; unfold wo at q; rw [if_pos rfl] at q; cases q
          rw [upd_ne nb]
          exact s9 _ _ q
        · rw [upd_same]; unfold VI; rw [List.map_append]; rfl
        · rw [gl, fits_last hpd, ez, List.getLast?_append]
          simp only [List.getLast?_singleton, Option.some_or, Option.bind_some, Option.map_map]
          congr 1
          funext r
          simp
  · subst e
    have m1 := mt (by omega)
    rw [List.drop_length, mb_nil, decide_eq_true_eq] at m1
    refine ⟨_, rfl, q _ _ (sW.trans s7) (.inr ⟨wy, b0, ?_, rfl, SqL.of hw⟩)⟩
    rw [gl, List.drop_length]
    unfold waysL
    rw [if_pos m1]
    simp
end

end K21

namespace K21
open PySem PySem.Spec PyProof.Rows L2 Fp
def mtF (p q : Int) : Bool := decide (0 < p) && decide (0 < q)
def mtB (w v : List Int) : Bool := (List.zipWith mtF w v).any id
theorem mtB_iff {w v : List Int} : mtB w v = true ↔ Mt w v := by
  unfold mtB
  rw [List.any_eq_true]
  constructor
  · rintro ⟨b, hb, e⟩
    obtain ⟨i, hi⟩ := List.getElem?_of_mem hb
    rw [List.getElem?_zipWith] at hi
    cases e1 : w[i]? with
    | none => rw [e1] at hi; cases hi
    | some p =>
      cases e2 : v[i]? with
      | none => rw [e1, e2] at hi; cases hi
      | some q =>
        rw [e1, e2] at hi
        obtain rfl : mtF p q = b := Option.some.inj hi
        have e' : (decide (0 < p) && decide (0 < q)) = true := e
        rw [Bool.and_eq_true] at e'
        exact ⟨i, p, q, e1, e2, of_decide_eq_true e'.1, of_decide_eq_true e'.2⟩
  · rintro ⟨i, p, q, e1, e2, h1, h2⟩
    refine ⟨mtF p q, List.mem_of_getElem? (i := i) (by rw [List.getElem?_zipWith, e1, e2]), ?_⟩
    show (decide (0 < p) && decide (0 < q)) = true
    rw [decide_eq_true h1, decide_eq_true h2]; rfl
def nearB (w : List Int) (A : List (List Int)) : Bool := A.any (mtB w)
theorem flat_split2 {α : Type} {L : List (List α)} (p : List α → Bool) : (L.filter fun A => !p A).flatten.length + (L.filter p).flatten.length = L.flatten.length := by
  induction L with
  | nil => rfl
  | cons A L ih =>
    cases e : p A with
    | true => rw [List.filter_cons_of_neg (by rw [e]; exact Bool.false_ne_true), List.filter_cons_of_pos e, List.flatten_cons, List.flatten_cons, List.length_append, List.length_append]; omega
    | false => rw [List.filter_cons_of_pos (by rw [e]; rfl), List.filter_cons_of_neg (by rw [e]; exact Bool.false_ne_true), List.flatten_cons, List.flatten_cons, List.length_append, List.length_append]; omega
theorem mem_flat_len2 {α : Type} {L : List (List α)} {A : List α} (h : A ∈ L) : A.length ≤ L.flatten.length := by
  induction L with
  | nil => cases h
  | cons B L ih =>
    rw [List.flatten_cons, List.length_append]
    rcases List.mem_cons.mp h with e | e
    · rw [e]; omega
    · have := ih e; omega
theorem nodup_take {α : Type} : ∀ {l : List α} {i : Nat} {x : α}, l.Nodup → l[i]? = some x → x ∉ l.take i
  | [], _, _, _, h => by simp at h
  | y :: l, 0, x, _, _ => by simp
  | y :: l, i + 1, x, nd, h => by
    have h' : l[i]? = some x := by simpa using h
    obtain ⟨n1, n2⟩ := List.nodup_cons.mp nd
    rw [List.take_succ_cons, List.mem_cons]
    rintro (e | e)
    · rw [← e] at n1; exact n1 (List.mem_of_getElem? h')
    · exact nodup_take n2 h' e
/-- a lot: a list that stands written -/
def Rl (K : PySem.W.Frag) (H : Hp) (v : V) (A : List (List Int)) : Prop := ∃ g vs, v = .ref g ∧ H g = some (.lst vs) ∧ Hs K H vs A
theorem Rl.same {K : PySem.W.Frag} {H H' : Hp} {v : V} {A : List (List Int)} (h : Rl K H v A) (e : Same H H') : Rl K H' v A := let ⟨g, vs, a, b, c⟩ := h; ⟨g, vs, a, e _ _ b, c.same e⟩
theorem Rl.hd {K : PySem.W.Frag} {H : Hp} {v : V} {A : List (List Int)} (h : Rl K H v A) : Hd K H v A := by
  obtain ⟨g, vs, rfl, b, c⟩ := h
  exact hd_lst (SqL.of b) c
def sp_law_meet (K : PySem.W.Frag) : Sp := fun vs H Q _ => ∃ (a b : Addr) (w v : List Int), vs = [.ref a, .ref b] ∧ SqL K H a (VI w) ∧ SqL K H b (VI v) ∧ w.length ≤ 8 ∧ v.length ≤ 8 ∧ Ret H Q (.bl (mtB w v))
def sp_are_neighbours (K : PySem.W.Frag) : Sp := sp_law_meet K
/-- a list of lots that is new, lot by lot -/
def Rn0 (K : PySem.W.Frag) (H H' : Hp) (v : V) (A : List (List Int)) : Prop := ∃ g vs, v = .ref g ∧ H g = none ∧ H' g = some (.lst vs) ∧ Hs K H' vs A
def Rn (K : PySem.W.Frag) (H H' : Hp) (p : Addr) (v : V) (A : List (List Int)) : Prop := ∃ g vs, v = .ref g ∧ H g = none ∧ H' g = some (.lst vs) ∧ Hs K H' vs A ∧ g ≠ p
theorem Rn0.same {K : PySem.W.Frag} {H0 H H' : Hp} {v : V} {A : List (List Int)} (e : Same H H') (h : Rn0 K H0 H v A) : Rn0 K H0 H' v A := let ⟨g, vs, a, b, c, d⟩ := h; ⟨g, vs, a, b, e _ _ c, d.same e⟩
theorem Rn.hd {K : PySem.W.Frag} {H H' : Hp} {p : Addr} {v : V} {A : List (List Int)} (h : Rn K H H' p v A) : Hd K H' v A := by
  obtain ⟨g, vs, rfl, _, c, d, _⟩ := h
  exact hd_lst (SqL.of c) d
theorem Rn0.hd {K : PySem.W.Frag} {H H' : Hp} {v : V} {A : List (List Int)} (h : Rn0 K H H' v A) : Hd K H' v A := by
  obtain ⟨g, vs, rfl, _, c, d⟩ := h
  exact hd_lst (SqL.of c) d
def sp_lots_of_ways (K : PySem.W.Frag) : Sp := fun vs H Q _ => ∃ (a : Addr) (cs : List Int) (m : Int), vs = [.ref a, .int m] ∧ Sq K H a (VI cs) ∧ Told cs ∧ 0 ≤ m ∧ m ≤ 200 ∧ (waysL cs m).length ≤ 400 ∧
  ∀ p H' ls L, SLots (MtW cs m) (IsWay cs m) L → L.flatten.Perm (waysL cs m) → Same H H' → H p = none → H' p = some (.lst ls) → A2 (Rn K H H' p) ls (L.mergeSort leH) → Q (.ref p) H'
def sp_law_lots (K : PySem.W.Frag) : Sp := fun vs H Q _ => ∃ (a : Addr) (xs : List V) (cs : List Int) (m : Int), vs = [.ref a] ∧ H a = some (.lst xs) ∧ Hs K H xs (waysL cs m) ∧ Pos cs ∧ cs.length ≤ 8 ∧ 0 ≤ m ∧ (waysL cs m).length ≤ 400 ∧
  ∀ p H' ls L, SLots (MtW cs m) (IsWay cs m) L → L.flatten.Perm (waysL cs m) → Same H H' → H' p = some (.lst ls) → Hs K H' ls (L.mergeSort leH) → Q (.ref p) H'
def tot (w : List Int) (A : List (List Int)) : List Int := A.foldl (List.zipWith (· + ·)) w
theorem tot_len (w : List Int) (A : List (List Int)) : (tot w A).length ≤ w.length := by
  unfold tot
  induction A generalizing w with
  | nil => exact Nat.le_refl _
  | cons o A ih =>
    rw [List.foldl_cons]
    refine Nat.le_trans (ih _) ?_
    rw [List.length_zipWith]; omega
theorem tot_snoc {w : List Int} {A : List (List Int)} {i : Nat} {o : List Int} (h : A[i]? = some o) : tot w (A.take (i + 1)) = List.zipWith (· + ·) (tot w (A.take i)) o := by
  unfold tot
  rw [take_one h, List.foldl_append]; rfl
def sp_law_total (K : PySem.W.Frag) : Sp := fun vs H Q _ => ∃ (v : V) (w : List Int) (A : List (List Int)), vs = [v] ∧ Hd K H v (w :: A) ∧ A.length ≤ 400 ∧ w.length ≤ 8 ∧ ∀ p H', Same H H' → SqL K H' p (VI (tot w A)) → Q (.ref p) H'
section
variable {P : Program} {w : World} {K : PySem.W.Frag} {mg : Str → Option Value} {base : Heap} {k : Nat}
-- slots: way 0, other 1, one 2, two 3; cells: 
abbrev s_are_neighbours : Stmt := top 37
abbrev N_are_neighbours : List Str := ["way", "other", "one", "two"]
theorem sc_are_neighbours : FnScope N_are_neighbours ["way", "other"] (defScope s_are_neighbours) := ⟨rfl, rfl, rfl, by decide +kernel, rfl, by decide +kernel, by decide +kernel⟩
theorem d_are_neighbours (B : Bnd K mg "are_neighbours" s_are_neighbours) (M : Mg2 mg)   : Def P w K mg base (k + 1) "are_neighbours" s_are_neighbours ["way", "other"] (sp_are_neighbours K) := by
  refine def_of B sc_are_neighbours (by rintro _ _ _ _ ⟨a, b, w, v, rfl, _⟩; rfl) (fun _ _ _ _ _ _ us hl => match us, hl with | [_, _], _ => rfl) fun f cdv A outer s H vs Q E hr h => ?_
  obtain ⟨a, b, w1, w2, rfl, h1, h2, l1, l2, q⟩ := h
  have hu := hr.units
  refine ⟨_, pss_one (ps_ret (pe_callB (cr_any rfl) (by rfl) M.any boot_any (pa_cons (pe_lc (own := [("one", 2), ("two", 3)]) (g := (gTup K 2 (gCons (gName 2) (gCons (gName 3) gNil)))) (tt := tYes) (te := (tAndV (tOp _ (tVar 2) (tC (.int 0))) (tOp _ (tVar 3) (tC (.int 0))))) rfl sc_are_neighbours.nd (pi_zipS (by rfl) M.zip (pa_cons (pv 0) (pa_cons (pv 1) pa_nil))) (blkOk_by (own := [("one", 2), ("two", 3)]) (N := N_are_neighbours) (sc := defScope s_are_neighbours) (by decide +kernel)) (fun _ _ _ _ _ => pg_tup rfl (pgs_cons (pg_name (i := 2) sc_are_neighbours.nd rfl (.inl rfl)) (pgs_cons (pg_name (i := 3) sc_are_neighbours.nd rfl (.inl rfl)) pgs_nil))) (fun _ _ _ _ _ => pts_nil) (fun _ _ _ _ _ => pe_and (pe_cmpR op_gt (pv 2) pe_int (nomark _)) (pe_one (pe_cmpR op_gt (pv 3) pe_int (nomark _))))) pa_nil))), ?_⟩
  obtain ⟨κ1, k1⟩ := sqk_of (.inl h1)
  obtain ⟨κ2, k2⟩ := sqk_of (.inl h2)
  have v1 := vi_len w1
  have v2 := vi_len w2
  refine ⟨_, rfl, _, rfl, a, b, VI w1, VI w2, κ1, κ2, rfl, k1, k2, fun D hD => ?_⟩
  refine lc_rel (walk_zipS (n := min w1.length w2.length) (by rw [v1, v2])) (fun i acc Hh => acc = ((List.zipWith mtF w1 w2).take i).map V.bl) hD (by rw [sizeLine_eq]; omega) (fun Hh sh => ⟨k1.same sh, k2.same sh⟩) (by rfl) (fun i acc A B e r => r) (fun i x acc Ha Hb hi sa ha hr hy Yc Nc yc nc => ?_) (fun acc Hh sh ha hr => ?_)
  · obtain ⟨Tt, x1, x2, rfl, nT, rfl, hx1, hx2⟩ := hy
    obtain ⟨p, hp1, rfl⟩ := vi_at hx1
    obtain ⟨r, hp2, rfl⟩ := vi_at hx2
    have hz : (List.zipWith mtF w1 w2)[i]? = some (mtF p r) := by rw [List.getElem?_zipWith, hp1, hp2]
    refine ⟨Tt, _, rfl, SqT.of upd_same, rfl, _, _, rfl, _, _, rfl, rfl, rfl, _, rfl, p, 0, rfl, rfl, _, rfl, ite2 (fun e => ?_) (fun e => ?_)⟩
    · refine ⟨_, rfl, r, 0, rfl, rfl, yc _ _ (same_new nT) ?_⟩
      rw [hr, take_one hz, List.map_append]
      congr 1
      show [V.bl (decide (0 < r))] = [V.bl (decide (0 < p) && decide (0 < r))]
      rw [e, Bool.true_and]
    · refine yc _ _ (same_new nT) ?_
      rw [hr, take_one hz, List.map_append]
      congr 1
      show [V.bl false] = [V.bl (decide (0 < p) && decide (0 < r))]
      rw [Bool.eq_false_iff.mpr e, Bool.false_and]
  · have lz : (List.zipWith mtF w1 w2).length = min w1.length w2.length := by rw [List.length_zipWith]
    rw [← lz, List.take_length] at hr
    subst hr
    exact ⟨D, _, rfl, SqL.of ha, q Hh sh⟩
-- slots: counts 0, many 1, lots 2, way 3, near 4, apart 5, lot 6, one 7; cells: near way
abbrev s_lots_of_ways : Stmt := top 33
abbrev N_lots_of_ways : List Str := ["counts", "many", "lots", "way", "near", "apart", "lot", "one"]
theorem sc_lots_of_ways : FnScope N_lots_of_ways ["counts", "many"] (defScope s_lots_of_ways) := ⟨rfl, rfl, rfl, by decide +kernel, rfl, by decide +kernel, by decide +kernel⟩
theorem d_lots_of_ways (B : Bnd K mg "lots_of_ways" s_lots_of_ways) (M : Mg2 mg)  (D_ways : Def P w K mg base k "ways" s_ways ["counts", "many"] (sp_ways K)) (D_are_neighbours : Def P w K mg base k "are_neighbours" s_are_neighbours ["way", "other"] (sp_are_neighbours K)) : Def P w K mg base (k + 1) "lots_of_ways" s_lots_of_ways ["counts", "many"] (sp_lots_of_ways K) := by
  refine def_of B sc_lots_of_ways (by rintro _ _ _ _ ⟨a, cs, m, rfl, _⟩; rfl) (fun _ _ _ _ _ _ us hl => match us, hl with | [_, _], _ => rfl) fun f cdv A outer s H vs Q E hr h => ?_
  obtain ⟨a, cs, m, rfl, hS, T, h0, h1, hw, q⟩ := h
  have hu := hr.units
  refine ⟨_, pss_cons (ps_set (i := 2) sc_lots_of_ways.nd rfl (.inl rfl) (pe_lst pa_nil))
    (pss_cons (ps_for PassesOwn.never rfl (pi_list (pe_d D_ways hr (by rfl) (pa_cons (pv 0) (pa_cons (pv 1) pa_nil)))) (pg_name (i := 3) sc_lots_of_ways.nd rfl (.inr rfl))
      (pss_cons (ps_set (i := 4) sc_lots_of_ways.nd rfl (.inr rfl) (pe_lc (own := [("lot", 6)]) (g := (gName 6)) (tt := (tB (tCB _ (tCons (tLc (iList K (tVar 6)) (gName 7) tYes (tD _ (tCons (tVar 3) (tCons (tVar 7) tNil))) (List.map (·.2) [("one", 7)])) tNil)))) (te := (tVar 6)) rfl sc_lots_of_ways.nd (pi_list (pv 2)) (blkOk_by (own := [("lot", 6)]) (N := N_lots_of_ways) (sc := defScope s_lots_of_ways) (by decide +kernel)) (fun _ _ _ _ _ => pg_name (i := 6) sc_lots_of_ways.nd rfl (.inl rfl)) (fun _ _ _ _ _ => pts_one (pt_val (pe_callB (show CallR _ _ (rAny K) from (cr_any rfl)) (by rfl) M.any boot_any (pa_cons (pe_lc (own := [("one", 7)]) (g := (gName 7)) (tt := tYes) (te := (tD _ (tCons (tVar 3) (tCons (tVar 7) tNil)))) rfl sc_lots_of_ways.nd (pi_list (pv 6)) (blkOk_by (own := [("one", 7)]) (N := N_lots_of_ways) (sc := { kind := ScopeKind.function, names := [(".0", .local), ("lot", .local), ("any", .globalImplicit), ("way", .cell)], isGenerator := false, isCoroutine := false }) (by decide +kernel)) (fun _ _ _ _ _ => pg_name (i := 7) sc_lots_of_ways.nd rfl (.inl rfl)) (fun _ _ _ _ _ => pts_nil) (fun _ _ _ _ _ => pe_d D_are_neighbours hr (by rfl) (pa_cons (pv 3) (pa_cons (pv 7) pa_nil)))) pa_nil)))) (fun _ _ _ _ _ => pv 6)))
      (pss_cons (ps_setLc (i := 5) (own := [("lot", 6)]) (g := (gName 6)) (tt := (tTest (tOp _ (tVar 6) (tVar 4)))) (te := (tVar 6)) rfl sc_lots_of_ways.nd rfl rfl (sw_true rfl rfl rfl (by decide +kernel)) (pi_list (pv 2)) (blkOk_by (own := [("lot", 6)]) (N := N_lots_of_ways) (sc := defScope s_lots_of_ways) (by decide +kernel)) (fun _ _ _ _ _ => pg_name (i := 6) sc_lots_of_ways.nd rfl (.inl rfl)) (fun _ _ _ _ _ => pts_one (pt_cmpR (show OpR _ _ (rNiH (List (List Int)) K) from (op_niH (List (List Int)) (dle1 hu (by decide)))) (pv 6) (pv 4) (by rfl))) (fun _ _ _ _ _ => pv 6))
      (pss_one (ps_set (i := 2) sc_lots_of_ways.nd rfl (.inl rfl) (pe_lst (StX.pa_star (pv 5) (pa_cons (pe_lst (pa_cons (pv 3) (StX.pa_star (pe_lc2 (wi1 := (iList K (tVar 6))) (own := [("lot", 6), ("one", 7)]) (vs1 := [7]) (g := (gName 6)) (tt := tYes) (g1 := (gName 7)) (tt1 := tYes) (te := (tVar 7)) rfl sc_lots_of_ways.nd (pi_list (pv 4)) (blkOk_by (own := [("lot", 6), ("one", 7)]) (N := N_lots_of_ways) (sc := defScope s_lots_of_ways) (by decide +kernel)) (by decide) (fun _ _ _ _ _ => pg_name (i := 6) sc_lots_of_ways.nd rfl (.inl rfl)) (fun _ _ _ _ _ => pts_nil) (fun _ _ _ _ _ => pi_list (pv 6)) (fun _ _ _ _ _ => pg_name (i := 7) sc_lots_of_ways.nd rfl (.inl rfl)) (fun _ _ _ _ _ => pts_nil) (fun _ _ _ _ _ => pv 7)) pa_nil))) pa_nil))))))))
    (pss_one (ps_ret (pe_callB (cr_sortH2 (List (List Int)) (dle2 hu (by decide))) (by rfl) M.sorted (by decide +kernel) (pa_cons (pe_lc (own := [("lot", 6)]) (g := (gName 6)) (tt := tYes) (te := (tCB (rSortH2 (List Int) K) (tCons (tVar 6) tNil))) rfl sc_lots_of_ways.nd (pi_list (pv 2)) (blkOk_by (own := [("lot", 6)]) (N := N_lots_of_ways) (sc := defScope s_lots_of_ways) (by decide +kernel)) (fun _ _ _ _ _ => pg_name (i := 6) sc_lots_of_ways.nd rfl (.inl rfl)) (fun _ _ _ _ _ => pts_nil) (fun _ _ _ _ _ => pe_callB (show CallR _ _ (rSortH2 (List Int) K) from (cr_sortH2 (List Int) (dle2 hu (by decide)))) (by rfl) M.sorted boot_sorted (pa_cons (pv 6) pa_nil))) pa_nil))))), ?_⟩
  have pos := T.pos
  have t2 := T.hi
  have hw2 : ∀ w ∈ waysL cs m, IsWay cs m w := fun w hw => (mem_waysL pos).mp hw
  refine ⟨Nat.zero_le _, fun p0 np0 => ?_⟩
  have s00 := same_new (o := .lst []) np0
  refine ⟨_, rfl, _, rfl, a, cs, m, rfl, hS.same s00, T, h0, h1, hw, fun pw H0 xs sw npw hpw hxs => ⟨pw, rfl, ⟨xs, SqL.of hpw⟩, ?_⟩⟩
  have hx : Hs K H0 xs (waysL cs m) := rws_hs hxs
  have lx := hx.len
  refine for_it (walk_list (K := K) (a := pw) (xs := xs)) (fun i σ H' => ∃ (p : Addr) (ls : List V) (L : List (List (List Int))) (y3 y4 y5 : Option V), σ = [some (.ref a), some (.int m), some (.ref p), y3, y4, y5, none, none] ∧ Same H0 H' ∧ H' p = some (.lst ls) ∧ Hs K H' ls L ∧
      Lots (MtW cs m) (fun x => x ∈ (waysL cs m).take i) L ∧ L.flatten.Perm ((waysL cs m).take i))
    ⟨p0, [], [], none, none, none, rfl, Same.refl _, sw _ _ upd_same, .nil, Lots.nil (fun x h => by simp at h), by simp⟩ (fun i σ' H' hi ⟨_, _, _, _, _, _, _, s1, _⟩ => SqL.of (s1 _ _ hpw)) (fun i x σ' HH H1 hi pv y => ?_) (fun σ' H1 pv => ?_)
  · obtain ⟨p, ls, L, y3, y4, y5, rfl, s1, hpl, hls, hL, fp⟩ := pv
    obtain ⟨rfl, hxi⟩ := y
    have l2 : L.flatten.length ≤ i := by
      have := fp.length_eq
      rw [List.length_take] at this
      omega
    have l1 : L.length ≤ i := Nat.le_trans (len_flat hL.ne) l2
    obtain ⟨wy, hwy, hdw⟩ := hx.at hxi
    obtain ⟨gw, rfl, hgw⟩ := ints_hd hdw
    have mwy := List.mem_of_getElem? hwy
    have wwy := hw2 wy mwy
    have lwy : wy.length ≤ 8 := by rw [wwy.1]; exact t2
    have lL := hls.len
    have lfl := flat_split2 (L := L) (nearB wy)
    have lft := List.length_filter_le (nearB wy) L
    have lft2 := List.length_filter_le (fun A => !nearB wy A) L
    -- near
    refine ⟨_, rfl, p, rfl, ⟨ls, SqL.of hpl⟩, fun D hD => ?_⟩
    refine lc_rel (walk_list (K := K) (a := p) (xs := ls)) (fun j acc Hh => Hs K Hh acc ((L.take j).filter (nearB wy))) hD (by rw [sizeLine_eq]; omega) (fun Hh sh => SqL.of (sh _ _ hpl)) .nil (fun j acc A B e r => r.same e)
      (fun j x acc Ha Hb hj sa ha hr hy Yc Nc yc nc => ?_) (fun acc Hn sn hn hr => ?_)
    · obtain ⟨rfl, hxj⟩ := hy
      obtain ⟨A, hA, hdA⟩ := hls.at hxj
      obtain ⟨g, gvs, rfl, hg, hgs⟩ := lst_hd hdA
      have mA := List.mem_of_getElem? hA
      have lA : A.length ≤ L.flatten.length := mem_flat_len2 mA
      have lgs := hgs.len
      have hAw : ∀ v ∈ A, v ∈ waysL cs m := fun v hv => List.mem_of_mem_take ((hL.mem v).mp ⟨A, mA, hv⟩)
      refine ⟨rfl, _, rfl, g, rfl, ⟨_, sa.seq hg⟩, fun D2 hD2 => ?_⟩
      refine lc_rel (walk_list (K := K) (a := g) (xs := gvs)) (fun i2 acc Hh => acc = ((A.take i2).map (mtB wy)).map V.bl) hD2 (by rw [sizeLine_eq]; omega) (fun Hh sh => (sa.trans sh).seq hg) rfl (fun j acc A B e r => r)
        (fun i2 x acc2 Ha2 Hb2 hi2 sa2 ha2 hr2 hy2 Yc2 Nc2 yc2 nc2 => ?_) (fun acc2 Hn2 sn2 hn2 hr2 => ?_)
      · obtain ⟨rfl, hx2⟩ := hy2
        obtain ⟨o, ho, hdo⟩ := hgs.at hx2
        obtain ⟨go, rfl, hgo⟩ := ints_hd hdo
        have wo2 := hw2 o (hAw o (List.mem_of_getElem? ho))
        have lo : o.length ≤ 8 := by rw [wo2.1]; exact t2
        refine ⟨rfl, _, rfl, _, rfl, gw, go, wy, o, rfl, ((s1.trans sa).trans sa2).seq hgw, (sa.trans sa2).seq hgo, lwy, lo, fun H5 s5 => yc2 _ _ s5 ?_⟩
        rw [hr2, take_one ho, List.map_append, List.map_append]; rfl
      · rw [lgs, List.take_length] at hr2
        subst hr2
        refine ⟨D2, _, rfl, SqL.of hn2, _, rfl, ?_⟩
        rw [List.any_map]
        have sx := wo_same (D := D) sn2
        have sy := same_wo hD (sa.trans sn2)
        refine ite2 (fun ea => ?_) (fun ea => ?_)
        · refine ⟨_, rfl, yc _ _ sn2 ?_⟩
          rw [filter_take hA, show nearB wy A = true from ea, if_pos rfl]
          exact (hr.same sx).snoc (hdA.same sy)
        · refine nc _ sn2 ?_
          rw [filter_take hA, show nearB wy A = false from Bool.eq_false_iff.mpr ea, if_neg Bool.false_ne_true, List.append_nil]
          exact hr.same sx
    rw [lL, List.take_length] at hr
    have hN := hr.same (wo_le (D := D))
    have lnr := hN.len
    -- apart
    refine ⟨_, rfl, p, rfl, ⟨ls, SqL.of (sn _ _ hpl)⟩, fun D2 hD2 => ?_⟩
    refine lc_rel (walk_list (K := K) (a := p) (xs := ls)) (fun j acc Hh => Hs K Hh acc ((L.take j).filter (fun A => !nearB wy A))) hD2 (by rw [sizeLine_eq]; omega) (fun Hh sh => SqL.of (sh _ _ (sn _ _ hpl))) .nil (fun j acc A B e r => r.same e)
      (fun j x acc2 Ha Hb hj sa ha hr2 hy Yc Nc yc nc => ?_) (fun acc2 Hn2 sn2 hn2 hr2 => ?_)
    · obtain ⟨rfl, hxj⟩ := hy
      obtain ⟨A, hA, hdA⟩ := hls.at hxj
      have mA := List.mem_of_getElem? hA
      have key : A ∈ L.filter (nearB wy) ↔ nearB wy A = true := by
        rw [List.mem_filter]
        exact ⟨fun z => z.2, fun z => ⟨mA, z⟩⟩
      refine ⟨rfl, _, rfl, _, rfl, A, _, hdA.same (sn.trans sa), (hd_lst (SqL.of hn) hN).same sa, _, rfl, ?_⟩
      refine ite2 (fun ed => ?_) (fun ed => ?_)
      · have ea : nearB wy A = false := Bool.eq_false_iff.mpr fun z => (of_dec ed) (key.mpr z)
        refine ⟨_, rfl, yc _ _ (Same.refl _) ?_⟩
        rw [filter_take hA, ea, if_pos (by decide)]
        exact hr2.snoc (hdA.same (sn.trans (same_wo hD2 sa)))
      · have ea : nearB wy A = true := key.mp (Decidable.not_not.mp fun z => ed (to_dec z))
        refine nc _ (Same.refl _) ?_
        rw [filter_take hA, ea, if_neg (by decide), List.append_nil]
        exact hr2
    rw [lL, List.take_length] at hr2
    have hF := hr2.same (wo_le (D := D2))
    have lfr := hF.len
    have sn12 := sn.trans sn2
    -- the new lots
    refine ⟨_, rfl, D2, acc2, rfl, .inr (SqL.of hn2), _, rfl, ?_⟩
    refine ⟨_, rfl, D, rfl, ⟨acc, SqL.of (sn2 _ _ hn)⟩, fun D3 hD3 => ?_⟩
    refine lc2_rel (walk_list (K := K) (a := D) (xs := acc)) (fun j acc3 Hh => Hs K Hh acc3 ((L.filter (nearB wy)).take j).flatten) hD3 (fun Hh sh => SqL.of (sh _ _ (sn2 _ _ hn))) .nil (fun j acc A B e r => r.same e)
      (fun j x acc3 Ha Hb hj sa ha hr3 hy Nx nx => ?_) (fun acc3 Hn3 sn3 hn3 hr3 => ?_)
    · obtain ⟨rfl, hxj⟩ := hy
      obtain ⟨A, hA, hdA⟩ := hN.at hxj
      obtain ⟨g, gvs, rfl, hg, hgs⟩ := lst_hd hdA
      have lgs := hgs.len
      have sga := sn2.trans sa
      have lfa : (((L.filter (nearB wy)).take j).flatten).length + A.length ≤ (L.filter (nearB wy)).flatten.length := by
        have e : (L.filter (nearB wy)).flatten = ((L.filter (nearB wy)).take j).flatten ++ ((L.filter (nearB wy)).drop j).flatten := by rw [← List.flatten_append, List.take_append_drop]
        have e2 : (L.filter (nearB wy)).drop j = A :: (L.filter (nearB wy)).drop (j + 1) := by
          rw [List.drop_eq_getElem_cons (List.getElem?_eq_some_iff.mp hA).1, (List.getElem?_eq_some_iff.mp hA).2]
        rw [e, List.length_append, e2, List.flatten_cons, List.length_append]
        omega
      refine ⟨rfl, _, rfl, g, rfl, ⟨_, sga.seq hg⟩, ?_⟩
      refine lc2_in (walk_list (K := K) (a := g) (xs := gvs)) (fun k acc4 Hh => Hs K Hh acc4 (((L.filter (nearB wy)).take j).flatten ++ A.take k)) ha
        (by rw [List.take_zero, List.append_nil]; exact hr3) (fun k acc4 Hh hk r => ?_) (fun Hh sh => ?_) (fun k x4 acc4 Hd2 Hc hk sc hac hr4 hy Yc Nc yc nc => ?_) (fun acc4 Hc sc hac hr4 => ?_)
      · have := r.len
        rw [this, List.length_append, sizeLine_eq, List.length_take]
        omega
      · exact (((sn2.trans (same_wo hD3 sa)).trans sh).trans wo_le).seq hg
      · obtain ⟨rfl, hx4⟩ := hy
        obtain ⟨o, ho, hdo⟩ := hgs.at hx4
        refine ⟨rfl, _, rfl, yc _ _ (Same.refl _) ?_⟩
        rw [take_one ho, ← List.append_assoc]
        exact hr4.snoc (hdo.same ((sn2.trans (same_wo hD3 sa)).trans sc))
      · refine nx acc4 _ ?_ hac ?_
        · exact ((same_wo hD3 sa).trans sc).trans wo_le
        · rw [take_one hA, List.flatten_append, List.flatten_singleton]
          rw [lgs, List.take_length] at hr4
          exact hr4
    rw [lnr, List.take_length] at hr3
    have hM := hr3.same (wo_le (D := D3))
    have lM := hM.len
    refine ⟨D3, _, rfl, .inr (SqL.of hn3), ?_⟩
    refine ⟨by rw [List.length_cons, List.length_append, sizeLine_eq]; simp only [List.length_nil]; omega, fun b nb => ?_⟩
    have sb := same_new (o := .lst ([V.ref gw] ++ (acc3 ++ []))) nb
    refine ⟨by rw [List.length_append, sizeLine_eq]; simp only [List.length_cons, List.length_nil]; omega, fun p' np' => ?_⟩
    have sp' := same_new (o := .lst (acc2 ++ [V.ref b])) np'
    have hb := sp' _ _ (upd_same (H := Hn3) (a := b) (o := .lst ([V.ref gw] ++ (acc3 ++ []))))
    have sall := ((sn3.trans sb).trans sp')
    refine ⟨p', _, L.filter (fun A => !nearB wy A) ++ [wy :: (L.filter (nearB wy)).flatten], _, _, _, rfl, s1.trans (sn12.trans sall), upd_same, ?_, ?_, ?_⟩
    · refine (hF.same sall).snoc (hd_lst (SqL.of hb) ?_)
      have hl9 : ∀ G, Same Hn3 G → Hs K G ([V.ref gw] ++ (acc3 ++ [])) (wy :: (L.filter (nearB wy)).flatten) := fun G sg => by
        rw [List.append_nil]
        exact .cons (hdw.same (s1.trans (sn12.trans (sn3.trans sg)))) (hM.same sg)
      exact hl9 _ (sb.trans sp')
    · refine hL.turn (near := nearB wy) (x := wy) MtW.symm (nodup_take (nodup_lt waysL_sorted) hwy) (fun y => ?_) (fun A hA => ?_) (fun y => ?_)
      · rw [take_one hwy, List.mem_append, List.mem_singleton]
      · unfold nearB
        rw [List.any_eq_true]
        constructor
        · rintro ⟨v, hv, e⟩
          exact ⟨v, hv, mtB_iff.mp e, wwy, hw2 v (List.mem_of_mem_take ((hL.mem v).mp ⟨A, hA, hv⟩))⟩
        · rintro ⟨v, hv, e, _⟩
          exact ⟨v, hv, mtB_iff.mpr e⟩
      · rw [List.mem_cons, List.mem_flatten]
        constructor
        · rintro (e | ⟨A, hA, hy⟩)
          · exact .inl e
          · exact .inr ⟨A, (List.mem_filter.mp hA).1, (List.mem_filter.mp hA).2, hy⟩
        · rintro (e | ⟨A, h1, h2, h3⟩)
          · exact .inl e
          · exact .inr ⟨A, List.mem_filter.mpr ⟨h1, h2⟩, h3⟩
    · rw [take_one hwy]
      exact flat_turn (nearB wy) fp (List.Perm.refl _)
  · obtain ⟨p, ls, L, y3, y4, y5, rfl, s1, hpl, hls, hL, fp⟩ := pv
    rw [lx, List.take_length] at hL fp
    have e : (fun x => x ∈ waysL cs m) = IsWay cs m := by
      funext x
      exact propext (mem_waysL pos)
    rw [e] at hL
    have lL := hls.len
    have l2 : L.flatten.length ≤ 400 := by rw [fp.length_eq]; exact hw
    have l1 := len_flat hL.ne
    have nd : ∀ A ∈ L, A.Nodup := fun A hA => nodup_of_flat (fp.nodup_iff.mpr (nodup_lt waysL_sorted)) hA
    have sH1 : Same H H1 := s00.trans (sw.trans s1)
    refine ⟨_, rfl, p, rfl, ⟨ls, SqL.of hpl⟩, fun D hD => ?_⟩
    refine lc_rel (walk_list (K := K) (a := p) (xs := ls)) (fun j acc Hh => A2 (Rn0 K H Hh) acc (sortL (L.take j))) hD (by rw [sizeLine_eq]; omega) (fun Hh sh => SqL.of (sh _ _ hpl)) .nil
      (fun j acc A B e r => r.mono fun v b => Rn0.same e)
      (fun j x acc Ha Hb hj sa ha hr hy Yc Nc yc nc => ?_) (fun acc Hn sn hn hr => ?_)
    · obtain ⟨rfl, hxj⟩ := hy
      obtain ⟨A, hA, hdA⟩ := hls.at hxj
      obtain ⟨g, gvs, rfl, hg, hgs⟩ := lst_hd hdA
      have mA := List.mem_of_getElem? hA
      refine ⟨rfl, _, rfl, g, gvs, A, rfl, sa.seq hg, hgs.same sa, fun pq ws hsub hws nq => yc _ _ (same_new nq) ?_⟩
      have npD : pq ≠ D := fun z => by rw [z, ha] at nq; cases nq
      have sq := wo_same (D := D) (same_new (o := .lst ws) nq)
      have hpq : (wo D (upd Hb pq (.lst ws))) pq = some (.lst ws) := by rw [wo_ne npD]; exact upd_same
      rw [take_one hA]
      unfold sortL
      rw [List.map_append]
      exact (hr.mono fun v b => Rn0.same sq).snoc ⟨pq, ws, rfl, (sH1.trans sa).free nq, hpq, (a2_hs (fun _ _ r => r) (hws _ (hs_a2 (hgs.same (same_wo hD sa))))).same sq⟩
    rw [lL, List.take_length] at hr
    have hr1 := hr.mono fun v b => Rn0.same (wo_le (D := D))
    refine ⟨D, acc, sortL L, rfl, SqL.of hn, a2_hs (fun v b r => r.hd) hr1, fun p' ws hsub hws np' => ?_⟩
    refine q p' _ ws (sortL L) (hL.sorted nd) ((sort_flat L).trans fp) (sH1.trans (sn.trans (same_new np'))) ((sH1.trans sn).free np') upd_same ((hws _ hr1).mono fun v b r => ?_)
    obtain ⟨g, vs, a1, a2, a3, a4⟩ := r
    exact ⟨g, vs, a1, a2, same_new np' _ _ a3, a4.same (same_new np'), ne_of_none a3 np'⟩
end
end K21

namespace K21
open PySem PySem.Spec PyProof.Rows L2 Fp
theorem pot_ne {H : Hp} {p b : Addr} (h : PotOk H p) (n : H b = none) : b ≠ p := fun z => by
  obtain ⟨u, v, e, _⟩ := h
  rw [z, e] at n; cases n
structure Small (cs : List Int) (m : Int) : Prop where
  lo : 1 ≤ cs.length
  hi : cs.length ≤ 3
  each : ∀ c ∈ cs, 1 ≤ c ∧ c ≤ 8
  m0 : 0 ≤ m
  m1 : m ≤ 25
  five : ∀ c ∈ cs, m ≤ 5 * c
def spPart (K : PySem.W.Frag) : Sp := fun vs H Q _ => ∃ (p C : Addr) (cs : List Int) (m : Int), vs = [.ref p, .ref C, .int m] ∧ PotOk H p ∧ C ≠ p ∧ H C = some (.lst (VI cs)) ∧ Small cs m ∧ ∀ H', Keep p H H' → Q (.bl true) H'
theorem Small.pm {cs : List Int} {m : Int} {A : List Nat} (S : Small cs m) (h : Places A cs.length) : Small (pm A cs) m :=
  ⟨by rw [pm_len, h.len]; exact S.lo, by rw [pm_len, h.len]; exact S.hi, fun c hc => S.each c ((pm_mem h c).mp hc), S.m0, S.m1, fun c hc => S.five c ((pm_mem h c).mp hc)⟩
theorem toI_at {T : List Nat} {j : Nat} {x : V} (h : (VI (toI T))[j]? = some x) : ∃ y, T[j]? = some y ∧ x = .int (y : Int) := by
  obtain ⟨z, hz, rfl⟩ := vi_at h
  rw [List.getElem?_map] at hz
  obtain ⟨y, hy, rfl⟩ := Option.map_eq_some_iff.mp hz
  exact ⟨y, hy, rfl⟩
theorem toI_snoc {A : List Nat} {y : Nat} : VI (toI (A ++ [y])) = VI (toI A) ++ [.int (y : Int)] := by
  unfold VI toI
  simp
abbrev sp_law_factor_right := spPart
abbrev sp_law_sequence_right := spPart
abbrev sp_law_sum_right := spPart
abbrev sp_law_twice_right := spPart
theorem Small.told {cs : List Int} {m : Int} (S : Small cs m) : Told cs := ⟨S.lo, by have := S.hi; omega, fun c hc => by have := S.each c hc; omega⟩
theorem Small.least {cs : List Int} {m : Int} (S : Small cs m) : ∃ mn ∈ cs, ∀ c ∈ cs, mn ≤ c := by
    have h : ∀ l : List Int, 1 ≤ l.length → ∃ mn ∈ l, ∀ c ∈ l, mn ≤ c := fun l => by
      induction l with
      | nil => intro h; simp at h
      | cons x l ih =>
        intro _
        cases l with
        | nil => exact ⟨x, by simp, fun c hc => by rw [List.mem_singleton.mp hc]; exact Int.le_refl _⟩
        | cons y l =>
          obtain ⟨mn, h1, h2⟩ := ih (by simp)
          rcases Int.lt_or_le x mn with z | z
          · exact ⟨x, by simp, fun c hc => by
              rcases List.mem_cons.mp hc with q | q
              · rw [q]; exact Int.le_refl _
              · have := h2 c q; omega⟩
          · exact ⟨mn, List.mem_cons_of_mem _ h1, fun c hc => by
              rcases List.mem_cons.mp hc with q | q
              · rw [q]; exact z
              · exact h2 c q⟩
    exact h cs S.lo
theorem Small.few {cs : List Int} {m : Int} (S : Small cs m) : (waysL cs m).length ≤ 400 := by
  obtain ⟨mn, hmn, hle⟩ := S.least
  have f := S.five mn hmn
  have e := S.each mn hmn
  exact wl_small (a := mn) (by omega) hle S.lo (by have := S.hi; omega) S.m0 (by omega)
theorem map_take {l : List Int} {g : Int → Int} {j : Nat} {x : Int} (h : l[j]? = some x) : VI ((l.take (j + 1)).map g) = VI ((l.take j).map g) ++ [.int (g x)] := by
  rw [take_one h]
  unfold VI
  simp
theorem metL_srt (cs : List Int) (m : Nat) : (metL cs m).Pairwise (· < ·) := by
  unfold metL
  induction m with
  | zero => rw [fm_succ]; cases (if mb cs ((0 : Nat) : Int) = true then some (((0 : Nat) : Int)) else none) <;> simp
  | succ m ih =>
    rw [fm_succ]
    refine List.pairwise_append.mpr ⟨ih, ?_, fun a ha b hb => ?_⟩
    · split <;> simp
    · have hm : a ∈ metL cs m := ha
      have := (mem_metL hm).2.2
      split at hb
      · rename_i y e
        rw [List.mem_singleton.mp hb]
        split at e
        · obtain rfl := Option.some.inj e; omega
        · cases e
      · cases hb
theorem mem_metL2 {cs : List Int} {m : Nat} {x : Int} : x ∈ metL cs m ↔ mb cs x = true ∧ 0 ≤ x ∧ x ≤ m := by
  refine ⟨mem_metL, fun ⟨a, b, c⟩ => ?_⟩
  unfold metL
  refine List.mem_filterMap.mpr ⟨x.toNat, List.mem_range.mpr (by omega), ?_⟩
  rw [show ((x.toNat : Nat) : Int) = x by omega, if_pos a]
theorem met_mul {cs : List Int} {m f : Int} (hf : 0 < f) (h0 : 0 ≤ m) : metL (cs.map (· * f)) (m * f).toNat = (metL cs m.toNat).map (· * f) := by
  have mf : 0 ≤ m * f := Int.mul_nonneg h0 (by omega)
  refine sorted_ext (metL_srt _ _) (srt_mul hf (metL_srt _ _)) fun x => ?_
  rw [mem_metL2, List.mem_map]
  constructor
  · rintro ⟨a, b, c⟩
    obtain ⟨k, rfl, r⟩ := rch_mul.mp (mb_iff.mp a)
    refine ⟨k, mem_metL2.mpr ⟨mb_iff.mpr r, ?_, ?_⟩, rfl⟩
    · exact Int.nonneg_of_mul_nonneg_left b hf
    · have : k * f ≤ m * f := by omega
      have := Int.le_of_mul_le_mul_right this hf
      omega
  · rintro ⟨y, hy, rfl⟩
    obtain ⟨a, b, c⟩ := mem_metL2.mp hy
    refine ⟨by rw [mb_mul (by omega)]; exact a, Int.mul_nonneg b (by omega), ?_⟩
    have : y * f ≤ m * f := Int.mul_le_mul_of_nonneg_right (by omega) (by omega)
    omega
section
variable {P : Program} {w : World} {K : PySem.W.Frag} {mg : Str → Option Value} {base : Heap} {k : Nat}
-- slots: _law_pot_here 0, _law_counts_here 1, _law_many 2, _law_factor 3, _law_more 4, _law_count 5, _law_number 6; cells: _law_factor
abbrev s_law_factor_right : Stmt := top 45
theorem bk_ways_0_many_counts : BindK 0 2 true "ways" s_ways ["counts", "many"] ["many", "counts"] := fun _ _ _ _ _ _ us ws hu hw => match us, ws, hu, hw with | [], [_, _], _, _ => rfl
abbrev N_law_factor_right : List Str := ["_law_pot_here", "_law_counts_here", "_law_many", "_law_factor", "_law_more", "_law_count", "_law_number"]
theorem sc_law_factor_right : FnScope N_law_factor_right ["_law_pot_here", "_law_counts_here", "_law_many"] (defScope s_law_factor_right) := ⟨rfl, rfl, rfl, by decide +kernel, rfl, by decide +kernel, by decide +kernel⟩
theorem d_law_factor_right (B : Bnd K mg "_law_factor_right" s_law_factor_right) (M : Mg2 mg)  (D_common_count : Def P w K mg base k "common_count" sCommon ["counts"] (spCommon K)) (D_is_met : Def P w K mg base k "is_met" sIsMet ["counts", "many"] (spIsMet K)) (D_met : Def P w K mg base k "met" sMet ["counts", "many"] (spMet K)) (D_least_counts : Def P w K mg base k "least_counts" sLeast ["counts"] (spLeast K)) (D_ways : Def P w K mg base k "ways" s_ways ["counts", "many"] (sp_ways K)) (D_a_way : Def P w K mg base k "a_way" s_a_way ["counts", "many"] (sp_a_way K)) (D_lots_of_ways : Def P w K mg base k "lots_of_ways" s_lots_of_ways ["counts", "many"] (sp_lots_of_ways K)) (D_law_draw : Def P w K mg base k "_law_draw" sDraw ["_law_pot_here", "_law_many"] spDraw) : Def P w K mg base (k + 1) "_law_factor_right" s_law_factor_right ["_law_pot_here", "_law_counts_here", "_law_many"] (sp_law_factor_right K) := by
  refine def_of B sc_law_factor_right (by rintro _ _ _ _ ⟨p, C, cs, m, rfl, _⟩; rfl) (fun _ _ _ _ _ _ us hl => match us, hl with | [_, _, _], _ => rfl) fun f cdv A outer s H vs Q E hr h => ?_
  obtain ⟨p, C, cs, m, rfl, hp, nCp, hC, S, q⟩ := h
  have hu := hr.units
  refine ⟨_, pss_cons (ps_set (i := 3) sc_law_factor_right.nd rfl (.inr rfl) (pe_op op_add pe_int (pe_d D_law_draw hr (by rfl) (pa_cons (pv 0) (pa_cons pe_int pa_nil)))))
    (pss_cons (ps_setLc (i := 4) (own := [("_law_count", 5)]) (g := (gName 5)) (tt := tYes) (te := (tOp _ (tVar 5) (tVar 3))) rfl sc_law_factor_right.nd rfl rfl (sw_true rfl rfl rfl (by decide +kernel)) (pi_list (pv 1)) (blkOk_by (own := [("_law_count", 5)]) (N := N_law_factor_right) (sc := defScope s_law_factor_right) (by decide +kernel)) (fun _ _ _ _ _ => pg_name (i := 5) sc_law_factor_right.nd rfl (.inl rfl)) (fun _ _ _ _ _ => pts_nil) (fun _ _ _ _ _ => pe_op op_mul (pv 5) (pv 3)))
    (pss_cons (ps_if (PW.pt (pw_or (pt_cmpR op_ne (pe_d D_common_count hr (by rfl) (pa_cons (pv 4) pa_nil)) (pe_op op_mul (pe_d D_common_count hr (by rfl) (pa_cons (pv 1) pa_nil)) (pv 3)) (nomark _)) (pw_or1 (pt_cmpR (op_neH (List Int) (dle hu (by decide))) (pe_d D_least_counts hr (by rfl) (pa_cons (pv 4) pa_nil)) (pe_lc (own := [("_law_count", 5)]) (g := (gName 5)) (tt := tYes) (te := (tOp _ (tVar 5) (tVar 3))) rfl sc_law_factor_right.nd (pi_list (pe_d D_least_counts hr (by rfl) (pa_cons (pv 1) pa_nil))) (blkOk_by (own := [("_law_count", 5)]) (N := N_law_factor_right) (sc := defScope s_law_factor_right) (by decide +kernel)) (fun _ _ _ _ _ => pg_name (i := 5) sc_law_factor_right.nd rfl (.inl rfl)) (fun _ _ _ _ _ => pts_nil) (fun _ _ _ _ _ => pe_op op_mul (pv 5) (pv 3))) (nomark _))))) pss_never pss_nil)
    (pss_cons (ps_if (PW.pt (pw_or (pt_cmpR (op_neH (List Int) (dle hu (by decide))) (pe_d D_met hr (by rfl) (pa_cons (pv 4) (pa_cons (pe_op op_mul (pv 2) (pv 3)) pa_nil))) (pe_lc (own := [("_law_number", 6)]) (g := (gName 6)) (tt := tYes) (te := (tOp _ (tVar 6) (tVar 3))) rfl sc_law_factor_right.nd (pi_list (pe_d D_met hr (by rfl) (pa_cons (pv 1) (pa_cons (pv 2) pa_nil)))) (blkOk_by (own := [("_law_number", 6)]) (N := N_law_factor_right) (sc := defScope s_law_factor_right) (by decide +kernel)) (fun _ _ _ _ _ => pg_name (i := 6) sc_law_factor_right.nd rfl (.inl rfl)) (fun _ _ _ _ _ => pts_nil) (fun _ _ _ _ _ => pe_op op_mul (pv 6) (pv 3))) (nomark _)) (pw_or1 (pt_cmpR op_notBl (pe_d D_is_met hr (by rfl) (pa_cons (pv 4) (pa_cons (pe_op op_add (pe_op op_mul (pv 2) (pv 3)) pe_int) pa_nil))) pe_bl (nomark _))))) pss_never pss_nil)
    (pss_cons (ps_if (PW.pt (pw_or (pt_cmpR (op_neH (List (List Int)) (dle hu (by decide))) (pe_d D_ways hr (by rfl) (pa_cons (pv 4) (pa_cons (pe_op op_mul (pv 2) (pv 3)) pa_nil))) (pe_d D_ways hr (by rfl) (pa_cons (pv 1) (pa_cons (pv 2) pa_nil))) (nomark _)) (pw_or1 (pt_cmpR (op_neH (List (List Int)) (dle hu (by decide))) (pe_dk0 D_ways hr (by rfl) 2 true ["many", "counts"] bk_ways_0_many_counts (pk_cons (pe_op op_add (pe_op op_mul (pv 2) (pv 3)) pe_int) (pk_cons (pv 4) pk_nil))) (pe_lst pa_nil) (nomark _))))) pss_never pss_nil)
    (pss_one (ps_ret (pe_and (pe_cmpR (op_eqH (List (List (List Int))) (dle hu (by decide))) (pe_d D_lots_of_ways hr (by rfl) (pa_cons (pv 4) (pa_cons (pe_op op_mul (pv 2) (pv 3)) pa_nil))) (pe_d D_lots_of_ways hr (by rfl) (pa_cons (pv 1) (pa_cons (pv 2) pa_nil))) (nomark _)) (pe_one (pe_cmpR (op_eqD hu) (pe_d D_a_way hr (by rfl) (pa_cons (pv 4) (pa_cons (pe_op op_mul (pv 2) (pv 3)) pa_nil))) (pe_d D_a_way hr (by rfl) (pa_cons (pv 1) (pa_cons (pv 2) pa_nil))) (nomark _)))))))))), ?_⟩
  have T := S.told
  have pos := T.pos
  have s1 := S.lo
  have s2 := S.hi
  have m0 := S.m0
  have m1 := S.m1
  have lw := S.few
  refine ⟨_, rfl, p, 2, rfl, hp, by omega, by omega, fun d H1 d0 d1 hp1 k1 => ⟨_, _, rfl, rfl, ?_⟩⟩
  have f0 : 0 < 2 + d := by omega
  have hC1 := k1 _ _ nCp hC
  have lvc : (VI cs).length = cs.length := vi_len cs
  refine ⟨_, rfl, C, rfl, ⟨_, SqL.of hC1⟩, fun Mo hMo => ?_⟩
  refine lc_rel (walk_list (K := K) (a := C) (xs := VI cs)) (fun j acc Hh => acc = VI ((cs.take j).map (· * (2 + d)))) hMo (by rw [lvc, sizeLine_eq]; omega) (fun Hh sh => SqL.of (sh _ _ hC1)) rfl (fun j acc A B e r => r)
    (fun j v acc Ha Hb hj sa ha hr hy Yc Nc yc nc => ?_) (fun acc H2 s12 hMo2 hr => ?_)
  · obtain ⟨rfl, hv⟩ := hy
    obtain ⟨c, hc, rfl⟩ := vi_at hv
    refine ⟨rfl, _, rfl, _, rfl, c, 2 + d, rfl, rfl, .inr ⟨by omega, by omega⟩, yc _ _ (Same.refl _) ?_⟩
    rw [hr, map_take hc]
  rw [lvc, List.take_length] at hr
  subst hr
  have hC2 := s12 _ _ hC1
  have Tm : Told (cs.map (· * (2 + d))) := ⟨by rw [List.length_map]; exact s1, by rw [List.length_map]; omega, fun c hc => by
    obtain ⟨b, hb, rfl⟩ := List.mem_map.mp hc
    have b1 := S.each b hb
    have p1 : 1 * 1 ≤ b * (2 + d) := Int.mul_le_mul b1.1 (by omega) (by omega) (by omega)
    have p2 : b * (2 + d) ≤ 8 * 3 := Int.mul_le_mul b1.2 (by omega) (by omega) (by omega)
    omega⟩
  have mf0 : 0 ≤ m * (2 + d) := Int.mul_nonneg m0 (by omega)
  have mf1 : m * (2 + d) ≤ 25 * 3 := Int.mul_le_mul m1 (by omega) (by omega) (by omega)
  have lwm : (waysL (cs.map (· * (2 + d))) (m * (2 + d))).length ≤ 400 := by rw [ways_mul f0 pos]; exact lw
  have gl48 := gl_small T.each
  have gl0 := gl_nonneg cs
  -- common counts
  refine ⟨_, rfl, Mo, _, rfl, sq_lst hMo2, Tm, fun H3 s3 => ⟨_, rfl, C, cs, rfl, sq_lst (s3 _ _ hC2), T, fun H4 s4 => ⟨_, rfl, gl cs, 2 + d, rfl, rfl, .inl ⟨by omega, by omega⟩, ?_⟩⟩⟩
  have g4 := s3.trans s4
  refine ⟨rfl, _, rfl, iteF2 (by rw [gl_mul (by omega)]; simp) ?_⟩
  -- least counts
  refine ⟨_, rfl, Mo, _, rfl, sq_lst (g4 _ _ hMo2), Tm, fun p1 H5 R1 hR1 mR1 lR1 s5 np1 hp1' => ?_⟩
  have g5 := g4.trans s5
  refine ⟨_, rfl, C, cs, rfl, sq_lst (g5 _ _ hC2), T, fun p2 H6 R2 hR2 mR2 lR2 s6 np2 hp2' => ⟨p2, rfl, ⟨_, SqL.of hp2'⟩, fun D hD => ?_⟩⟩
  have lvr : (VI R2).length = R2.length := vi_len R2
  refine lc_rel (walk_list (K := K) (a := p2) (xs := VI R2)) (fun j acc Hh => acc = VI ((R2.take j).map (· * (2 + d)))) hD (by rw [lvr, sizeLine_eq]; omega) (fun Hh sh => SqL.of (sh _ _ hp2')) rfl (fun j acc A B e r => r)
    (fun j v acc Ha Hb hj sa ha hr hy Yc Nc yc nc => ?_) (fun acc H7 s7 hD7 hr => ?_)
  · obtain ⟨rfl, hv⟩ := hy
    obtain ⟨c, hc, rfl⟩ := vi_at hv
    refine ⟨rfl, _, rfl, _, rfl, c, 2 + d, rfl, rfl, .inr ⟨by omega, by omega⟩, yc _ _ (Same.refl _) ?_⟩
    rw [hr, map_take hc]
  rw [lvr, List.take_length] at hr
  subst hr
  have eR : R1 = R2.map (· * (2 + d)) := hR1.isL.uniq (isL_mul f0 hR2.isL)
  refine ⟨R1, R2.map (· * (2 + d)), hd_ints (SqL.of (s7 _ _ (s6 _ _ hp1'))), hd_ints (SqL.of hD7), _, rfl, iteF2 (by rw [eR]; simp) ?_⟩
  have g7 := g5.trans (s6.trans s7)
  clear hD7 hR1 hR2 mR1 mR2 hp1' hp2' eR lR1 lR2 lvr hD
  -- the met ones
  refine ⟨_, rfl, _, rfl, _, rfl, m, 2 + d, rfl, rfl, .inl ⟨by omega, by omega⟩, Mo, _, m * (2 + d), rfl, sq_lst (g7 _ _ hMo2), Tm, mf0, by omega, fun p3 H8 s8 np3 hp3 => ?_⟩
  have g8 := g7.trans s8
  refine ⟨_, rfl, _, rfl, C, cs, m, rfl, sq_lst (g8 _ _ hC2), T, m0, by omega, fun p4 H9 s9 np4 hp4 => ⟨p4, rfl, ⟨_, SqL.of hp4⟩, fun D hD => ?_⟩⟩
  have lvm : (VI (metL cs m.toNat)).length = (metL cs m.toNat).length := vi_len _
  have lm := metL_len cs m.toNat
  refine lc_rel (walk_list (K := K) (a := p4) (xs := VI (metL cs m.toNat))) (fun j acc Hh => acc = VI (((metL cs m.toNat).take j).map (· * (2 + d)))) hD (by rw [lvm, sizeLine_eq]; omega) (fun Hh sh => SqL.of (sh _ _ hp4)) rfl (fun j acc A B e r => r)
    (fun j v acc Ha Hb hj sa ha hr hy Yc Nc yc nc => ?_) (fun acc H10 s10 hD10 hr => ?_)
  · obtain ⟨rfl, hv⟩ := hy
    obtain ⟨c, hc, rfl⟩ := vi_at hv
    refine ⟨rfl, _, rfl, _, rfl, c, 2 + d, rfl, rfl, .inr ⟨by omega, by omega⟩, yc _ _ (Same.refl _) ?_⟩
    rw [hr, map_take hc]
  rw [lvm, List.take_length] at hr
  subst hr
  have e9 := met_mul (cs := cs) f0 m0
  refine ⟨_, _, hd_ints (SqL.of (s10 _ _ (s9 _ _ hp3))), hd_ints (SqL.of hD10), _, rfl, iteF2 (by rw [e9]; simp) ?_⟩
  have g10 := g8.trans (s9.trans s10)
  clear hD10 hp3 hp4 e9 hD
  refine ⟨_, rfl, _, rfl, _, rfl, m, 2 + d, rfl, rfl, .inl ⟨by omega, by omega⟩, _, _, rfl, rfl, Mo, _, m * (2 + d) + 1, rfl, sq_lst (g10 _ _ hMo2), Tm, by omega, by omega, fun H11 s11 => ?_⟩
  have g11 := g10.trans s11
  refine ⟨_, _, rfl, rfl, _, rfl, iteF2 (by rw [mb_not_mul (by omega)]; rfl) ?_⟩
  -- ways
  refine ⟨_, rfl, _, rfl, _, rfl, m, 2 + d, rfl, rfl, .inl ⟨by omega, by omega⟩, Mo, _, m * (2 + d), rfl, sq_lst (g11 _ _ hMo2), Tm, mf0, by omega, lwm, fun p5 H12 w5 s12' np5 hp5 hw5 => ?_⟩
  have g12 := g11.trans s12'
  rw [ways_mul f0 pos] at hw5
  refine ⟨_, rfl, _, rfl, C, cs, m, rfl, sq_lst (g12 _ _ hC2), T, m0, by omega, lw, fun p6 H13 w6 s13 np6 hp6 hw6 => ?_⟩
  have g13 := g12.trans s13
  refine ⟨waysL cs m, waysL cs m, hd_lst (SqL.of (s13 _ _ hp5)) ((rws_hs hw5).same s13), hd_lst (SqL.of hp6) (rws_hs hw6), _, rfl, iteF2 (by simp) ?_⟩
  have eN : waysL (cs.map (· * (2 + d))) (m * (2 + d) + 1) = [] := waysL_none (pos_mul f0 pos) (mb_not_mul (by omega))
  refine ⟨_, rfl, _, rfl, m, 2 + d, rfl, rfl, .inl ⟨by omega, by omega⟩, _, _, rfl, rfl, _, rfl, rfl, rfl, Mo, _, m * (2 + d) + 1, rfl, sq_lst (g13 _ _ hMo2), Tm, by omega, by omega, by rw [eN]; exact Nat.zero_le _, fun p7 H14 w7 s14 np7 hp7 hw7 => ?_⟩
  have g14 := g13.trans s14
  rw [eN] at hw7
  refine ⟨Nat.zero_le _, fun e0 ne0 => ?_⟩
  have se := same_new (o := .lst []) ne0
  refine ⟨[], [], hd_lst (xs := ([] : List (List Int))) (SqL.of (se _ _ hp7)) ((rws_hs hw7).same se), hd_lst (xs := ([] : List (List Int))) (SqL.of upd_same) .nil, _, rfl, iteF2 (by simp) ?_⟩
  have g15 := g14.trans se
  generalize upd H14 e0 (.lst []) = H15 at g15 ⊢
  -- lots
  refine ⟨_, rfl, _, rfl, _, rfl, m, 2 + d, rfl, rfl, .inl ⟨by omega, by omega⟩, Mo, _, m * (2 + d), rfl, sq_lst (g15 _ _ hMo2), Tm, mf0, by omega, lwm, fun p8 H16 t8 L8 sl8 fp8 s16 np8 hp8 ht8 => ?_⟩
  have g16 := g15.trans s16
  refine ⟨_, rfl, _, rfl, C, cs, m, rfl, sq_lst (g16 _ _ hC2), T, m0, by omega, lw, fun p9 H17 t9 L9 sl9 fp9 s17 np9 hp9 ht9 => ?_⟩
  have g17 := g16.trans s17
  have eL : L8.mergeSort leH = L9.mergeSort leH := (slots_mul f0 sl8).same MtW.symm MtW.vx sl9
  refine ⟨L8.mergeSort leH, L9.mergeSort leH, hd_lst (SqL.of (s17 _ _ hp8)) ((a2_hs (fun v b r => Rn.hd r) ht8).same s17), hd_lst (SqL.of hp9) (a2_hs (fun v b r => Rn.hd r) ht9), _, rfl, iteT2 (by rw [eL]; simp) ?_⟩
  -- a way
  refine ⟨_, rfl, _, rfl, _, rfl, m, 2 + d, rfl, rfl, .inl ⟨by omega, by omega⟩, Mo, _, m * (2 + d), rfl, sq_lst (g17 _ _ hMo2), Tm, mf0, by omega, fun v1 H18 s18 o18 => ?_⟩
  have g18 := g17.trans s18
  refine ⟨_, rfl, _, rfl, C, cs, m, rfl, sq_lst (g18 _ _ hC2), T, m0, by omega, fun v2 H19 s19 o19 => ?_⟩
  rw [ways_mul f0 pos] at o18
  refine ⟨_, _, (o18.same s19).dp, o19.dp, optD_shaped _, optD_shaped _, ?_⟩
  rw [optD_refl]
  exact q H19 (k1.trans (Keep.of (s12.trans (g18.trans s19))))
-- slots: _law_pot_here 0, _law_counts_here 1, _law_many 2, _law_places 3, _law_left 4, _law_turned 5, _law_at 6, _law_way 7; cells: _law_counts_here _law_places
abbrev s_law_sequence_right : Stmt := top 46
abbrev N_law_sequence_right : List Str := ["_law_pot_here", "_law_counts_here", "_law_many", "_law_places", "_law_left", "_law_turned", "_law_at", "_law_way"]
theorem sc_law_sequence_right : FnScope N_law_sequence_right ["_law_pot_here", "_law_counts_here", "_law_many"] (defScope s_law_sequence_right) := ⟨rfl, rfl, rfl, by decide +kernel, rfl, by decide +kernel, by decide +kernel⟩
theorem d_law_sequence_right (B : Bnd K mg "_law_sequence_right" s_law_sequence_right) (M : Mg2 mg)  (D_met : Def P w K mg base k "met" sMet ["counts", "many"] (spMet K)) (D_ways : Def P w K mg base k "ways" s_ways ["counts", "many"] (sp_ways K)) (D_turning_counts : Def P w K mg base k "turning_counts" s_turning_counts ["counts"] (sp_turning_counts K)) (D_law_draw : Def P w K mg base k "_law_draw" sDraw ["_law_pot_here", "_law_many"] spDraw) : Def P w K mg base (k + 1) "_law_sequence_right" s_law_sequence_right ["_law_pot_here", "_law_counts_here", "_law_many"] (sp_law_sequence_right K) := by
  refine def_of B sc_law_sequence_right (by rintro _ _ _ _ ⟨p, C, cs, m, rfl, _⟩; rfl) (fun _ _ _ _ _ _ us hl => match us, hl with | [_, _, _], _ => rfl) fun f cdv A outer s H vs Q E hr h => ?_
  obtain ⟨p, C, cs, m, rfl, hp, nCp, hC, S, q⟩ := h
  have hu := hr.units
  refine ⟨_, pss_cons (ps_asg (pe_tup (pa_cons (pe_lst pa_nil) (pa_cons (pe_lc (own := [("_law_at", 6)]) (g := (gName 6)) (tt := tYes) (te := (tVar 6)) rfl sc_law_sequence_right.nd (pi_range1 (by rfl) M.range (pa_cons (pe_callB call_len_seq (by rfl) M.len boot_len (pa_cons (pv 1) pa_nil)) pa_nil)) (blkOk_by (own := [("_law_at", 6)]) (N := N_law_sequence_right) (sc := defScope s_law_sequence_right) (by decide +kernel)) (fun _ _ _ _ _ => pg_name (i := 6) sc_law_sequence_right.nd rfl (.inl rfl)) (fun _ _ _ _ _ => pts_nil) (fun _ _ _ _ _ => pv 6)) pa_nil))) (pg_tup rfl (pgs_cons (pg_name (i := 3) sc_law_sequence_right.nd rfl (.inr rfl)) (pgs_cons (pg_name (i := 4) sc_law_sequence_right.nd rfl (.inl rfl)) pgs_nil))))
    (pss_cons (ps_while PassesOwn.never (pt_cmpR (op_neH (List Int) (dle hu (by decide))) (pv 4) (pe_lst pa_nil) (nomark _))
      (pss_one (ps_expr (pe_bm PySem.F.plainAttrs_list PySem.F.slot_list_append PySem.F.type_list_append mt_append (pv 3) (pa_cons (pe_bm PySem.F.plainAttrs_list PySem.F.slot_list_pop PySem.F.type_list_pop mt_popAt (pv 4) (pa_cons (pe_d D_law_draw hr (by rfl) (pa_cons (pv 0) (pa_cons (pe_callB call_len_seq (by rfl) M.len boot_len (pa_cons (pv 4) pa_nil)) pa_nil))) pa_nil)) pa_nil)))))
    (pss_cons (ps_setLc (i := 5) (own := [("_law_at", 6)]) (g := (gName 6)) (tt := tYes) (te := (tOp (rIxL K) (tVar 1) (tVar 6))) rfl sc_law_sequence_right.nd rfl rfl (sw_true rfl rfl rfl (by decide +kernel)) (pi_list (pv 3)) (blkOk_by (own := [("_law_at", 6)]) (N := N_law_sequence_right) (sc := defScope s_law_sequence_right) (by decide +kernel)) (fun _ _ _ _ _ => pg_name (i := 6) sc_law_sequence_right.nd rfl (.inl rfl)) (fun _ _ _ _ _ => pts_nil) (fun _ _ _ _ _ => pe_ix (r := rIxL K) ix_list (pv 1) (pv 6) (fun _ _ => rfl)))
    (pss_cons (ps_if (pt_cmpR (op_neH (List (List Int)) (dle hu (by decide))) (pe_d D_ways hr (by rfl) (pa_cons (pv 5) (pa_cons (pv 2) pa_nil))) (pe_callB (cr_sortH2 (List Int) (dle2 hu (by decide))) (by rfl) M.sorted (by decide +kernel) (pa_cons (pe_lc (own := [("_law_way", 7)]) (g := (gName 7)) (tt := tYes) (te := (tLc (iList K (tVar 3)) (gName 6) tYes (tOp (rIxL K) (tVar 7) (tVar 6)) (List.map (·.2) [("_law_at", 6)]))) rfl sc_law_sequence_right.nd (pi_list (pe_d D_ways hr (by rfl) (pa_cons (pv 1) (pa_cons (pv 2) pa_nil)))) (blkOk_by (own := [("_law_way", 7)]) (N := N_law_sequence_right) (sc := defScope s_law_sequence_right) (by decide +kernel)) (fun _ _ _ _ _ => pg_name (i := 7) sc_law_sequence_right.nd rfl (.inr rfl)) (fun _ _ _ _ _ => pts_nil) (fun _ _ _ _ _ => pe_lc (own := [("_law_at", 6)]) (g := (gName 6)) (tt := tYes) (te := (tOp (rIxL K) (tVar 7) (tVar 6))) rfl sc_law_sequence_right.nd (pi_list (pv 3)) (blkOk_by (own := [("_law_at", 6)]) (N := N_law_sequence_right) (sc := { kind := ScopeKind.function, names := [(".0", .local), ("_law_way", .cell), ("_law_places", .cell)], isGenerator := false, isCoroutine := false }) (by decide +kernel)) (fun _ _ _ _ _ => pg_name (i := 6) sc_law_sequence_right.nd rfl (.inl rfl)) (fun _ _ _ _ _ => pts_nil) (fun _ _ _ _ _ => pe_ix (r := rIxL K) ix_list (pv 7) (pv 6) (fun _ _ => rfl)))) pa_nil)) (nomark _)) pss_never pss_nil)
    (pss_one (ps_ret (pe_and (pe_cmpR (op_eqH (List Int) (dle hu (by decide))) (pe_d D_met hr (by rfl) (pa_cons (pv 5) (pa_cons (pv 2) pa_nil))) (pe_d D_met hr (by rfl) (pa_cons (pv 1) (pa_cons (pv 2) pa_nil))) (nomark _)) (pe_one (pe_cmpR (op_eqH (List Int) (dle hu (by decide))) (pe_d D_turning_counts hr (by rfl) (pa_cons (pv 5) pa_nil)) (pe_d D_turning_counts hr (by rfl) (pa_cons (pv 1) pa_nil)) (nomark _))))))))), ?_⟩
  have T := S.told
  have pos := T.pos
  have s1 := S.lo
  have s2 := S.hi
  have m0 := S.m0
  have m1 := S.m1
  have lw := S.few
  have h24 : ∀ c ∈ cs, c ≤ 24 := fun c hc => by have := S.each c hc; omega
  have lvc : (VI cs).length = cs.length := vi_len cs
  refine ⟨Nat.zero_le _, fun P0 nP0 => ?_⟩
  have sP := same_new (o := .lst []) nP0
  refine ⟨_, rfl, C, _, rfl, .inl (SqL.of (sP _ _ hC)), _, rfl, by omega, by omega, fun L0 nL0 => ?_⟩
  refine lc_rel walk_range (fun i acc Hh => acc = VI (toI (List.range i))) nL0 (by rw [Int.toNat_natCast, lvc, sizeLine_eq]; omega) (fun _ _ => trivial) rfl (fun i acc A B e r => r) (fun i x acc Ha Hb hi sa ha hr hy Yc Nc yc nc => ?_) (fun acc H1 sL hL0 hr => ?_)
  · obtain ⟨rfl, rfl⟩ := hy
    refine ⟨rfl, _, rfl, yc _ _ (Same.refl _) ?_⟩
    rw [hr, List.range_succ, toI_snoc]
    show _ ++ [V.int (0 + (i : Int))] = _
    rw [show (0 : Int) + (i : Int) = (i : Int) by omega]
  rw [Int.toNat_natCast, lvc] at hr
  subst hr
  refine ⟨(by show 2 ≤ sizeLine; decide), fun Tt nT => ⟨Tt, _, rfl, SqT.of upd_same, rfl, _, _, rfl, _, _, rfl, rfl, ?_⟩⟩
  have sT := same_new (o := .tup [V.ref P0, .ref L0]) nT
  have nL0H : H L0 = none := sP.free nL0
  have nPL : P0 ≠ L0 := ne_of_none upd_same nL0
  have nP0p := pot_ne hp nP0
  have nL0p := pot_ne hp nL0H
  have nPC : C ≠ P0 := ne_of_none hC nP0
  have nLC : C ≠ L0 := ne_of_none hC nL0H
  have sall := sP.trans (sL.trans sT)
  refine ⟨fun mm σ H' => ∃ A B : List Nat, σ = [some (.ref p), some (.ref C), some (.int m), some (.ref P0), some (.ref L0), none, none, none] ∧ mm = B.length ∧ (A ++ B).Perm (List.range cs.length) ∧ Keep p H H' ∧ PotOk H' p ∧ H' P0 = some (.lst (VI (toI A))) ∧ H' L0 = some (.lst (VI (toI B))),
    ⟨_, [], List.range cs.length, rfl, rfl, List.Perm.refl _, Keep.of sall, hp.same sall, sT _ _ (sL _ _ upd_same), sT _ _ hL0⟩, ?_⟩
  rintro mm σ H2 ⟨A, B, rfl, rfl, pAB, kH, hp2, hP, hL⟩
  have lAB := pAB.length_eq
  rw [List.length_append, List.length_range] at lAB
  refine ⟨_, rfl, Nat.zero_le _, fun l nl => ⟨toI B, [], hd_ints (SqL.of ((same_new nl) _ _ hL)), hd_ints (SqL.of upd_same), _, rfl, ?_⟩⟩
  have sl := same_new (o := .lst []) nl
  match B, lAB, hL, pAB with
  | y0 :: B1, lAB, hL, pAB =>
    refine iteT2 (by simp) ⟨fun σ' H' => ∃ mm', mm' < (y0 :: B1).length ∧ ∃ A B : List Nat, σ' = [some (.ref p), some (.ref C), some (.int m), some (.ref P0), some (.ref L0), none, none, none] ∧ mm' = B.length ∧ (A ++ B).Perm (List.range cs.length) ∧ Keep p H H' ∧ PotOk H' p ∧ H' P0 = some (.lst (VI (toI A))) ∧ H' L0 = some (.lst (VI (toI B))), fun _ _ z => z, ?_⟩
    generalize hB : y0 :: B1 = B at lAB hL pAB ⊢
    have lB : 1 ≤ B.length := by rw [← hB]; simp
    have lvB : (VI (toI B)).length = B.length := by rw [vi_len, List.length_map]
    refine ⟨_, rfl, Or.inl ⟨rfl, _, SqL.of (sl _ _ hP)⟩, _, rfl, Or.inl ⟨rfl, _, SqL.of (sl _ _ hL)⟩, _, rfl, _, rfl, L0, _, rfl, .inl (SqL.of (sl _ _ hL)), p, _, rfl, hp2.same sl, by omega, by omega, fun d H3 d0 d1 hp3 k3 => ?_⟩
    rw [lvB] at d1
    have hL3 := k3 _ _ nL0p (sl _ _ hL)
    have hP3 := k3 _ _ nP0p (sl _ _ hP)
    have hd : d.toNat < B.length := by omega
    have hy := List.getElem?_eq_getElem hd
    refine ⟨L0, VI (toI B), d, d.toNat, .int (B[d.toNat] : Int), rfl, rfl, hL3, by omega, by omega, ?_, by rw [List.getElem?_map, List.getElem?_map, hy]; rfl, ?_⟩
    · unfold seqIndex?
      have h1 : ¬ d < 0 := by omega
      simp only [if_neg h1]
      rw [if_pos (by rw [lvB, Bool.and_eq_true]; exact ⟨decide_eq_true d0, decide_eq_true (by omega)⟩)]
    have hP4 : (upd H3 L0 (.lst ((VI (toI B)).eraseIdx d.toNat))) P0 = some (.lst (VI (toI A))) := by rw [upd_ne nPL]; exact hP3
    refine ⟨P0, _, _, rfl, rfl, hP4, by rw [vi_len, List.length_map, sizeLine_eq]; omega, (B.eraseIdx d.toNat).length, by rw [List.length_eraseIdx_of_lt hd]; omega, A ++ [B[d.toNat]], B.eraseIdx d.toNat, rfl, rfl, ?_, ?_, ?_, ?_, ?_⟩
    · rw [List.append_assoc]
      exact ((cons_erase hy).append_left A).trans pAB
    · intro b o nb hb
      have n1 : b ≠ P0 := fun z => by rw [z, nP0] at hb; cases hb
      have n2 : b ≠ L0 := fun z => by rw [z, nL0H] at hb; cases hb
      rw [upd_ne n1, upd_ne n2]
      exact k3 _ _ nb (sl _ _ (kH _ _ nb hb))
    · obtain ⟨u, v, e1, e2⟩ := hp3
      exact ⟨u, v, by rw [upd_ne nP0p.symm, upd_ne nL0p.symm]; exact e1, e2⟩
    · rw [upd_same, toI_snoc]
    · rw [upd_ne nPL.symm, upd_same, er_map, er_map]
  | [], lAB, hL, pAB =>
  refine iteF2 (by simp) ?_
  rw [List.append_nil] at pAB
  have pl : Places A cs.length := ⟨pAB⟩
  have Sp := S.pm pl
  have Tp := Sp.told
  have lwp := Sp.few
  have h24p : ∀ c ∈ pm A cs, c ≤ 24 := fun c hc => by have := Sp.each c hc; omega
  have hC2 : H2 C = some (.lst (VI cs)) := kH _ _ nCp hC
  have lvA : (VI (toI A)).length = A.length := by rw [vi_len, List.length_map]
  refine ⟨_, rfl, P0, rfl, ⟨_, SqL.of (sl _ _ hP)⟩, fun D hD => ?_⟩
  refine lc_rel (walk_list (K := K) (a := P0) (xs := VI (toI A))) (fun j acc Hh => acc = VI (pm (A.take j) cs)) hD (by rw [lvA, pl.len, sizeLine_eq]; omega) (fun Hh sh => SqL.of (sh _ _ (sl _ _ hP))) rfl (fun j acc A B e r => r)
    (fun j v acc Ha Hb hj sa ha hr hy Yc Nc yc nc => ?_) (fun acc H4 s4 hD4 hr => ?_)
  · obtain ⟨rfl, hv⟩ := hy
    obtain ⟨i, hi, rfl⟩ := toI_at hv
    have li := pl.mem.mp (List.mem_of_getElem? hi)
    refine ⟨rfl, _, rfl, _, rfl, C, _, _, .int cs[i], rfl, rfl, SqL.of (sa _ _ (sl _ _ hC2)), atI_nat (j := i) (by rw [List.getElem?_map, List.getElem?_eq_getElem li]; rfl), yc _ _ (Same.refl _) ?_⟩
    rw [hr, pm_take cs hi li]
    unfold VI
    rw [List.map_append]; rfl
  rw [lvA, List.take_length] at hr
  subst hr
  have g4 := sl.trans s4
  have hC4 := g4 _ _ hC2
  have hP4 := g4 _ _ hP
  refine ⟨_, rfl, _, rfl, D, pm A cs, m, rfl, sq_lst hD4, Tp, m0, by omega, lwp, fun p5 H5 w5 s5 np5 hp5 hw5 => ?_⟩
  refine ⟨_, rfl, _, rfl, C, cs, m, rfl, sq_lst (s5 _ _ hC4), T, m0, by omega, lw, fun p6 H6 w6 s6 np6 hp6 hw6 => ⟨p6, rfl, ⟨w6, SqL.of hp6⟩, fun D2 hD2 => ?_⟩⟩
  have g6 := s5.trans s6
  have lw6 := hw6.len
  refine lc_rel (walk_list (K := K) (a := p6) (xs := w6)) (fun j acc Hh => Hs K Hh acc (((waysL cs m).take j).map (pm A))) hD2 (by rw [lw6, sizeLine_eq]; omega) (fun Hh sh => SqL.of (sh _ _ hp6)) .nil (fun j acc A B e r => r.same e)
    (fun j x acc Ha Hb hj sa ha hr hy Yc Nc yc nc => ?_) (fun acc H7 s7 hD7 hr => ?_)
  · obtain ⟨rfl, hx⟩ := hy
    obtain ⟨w, hw, b1, rfl, nb1, hb1⟩ := hw6.at_ j x hx
    have lenw : w.length = cs.length := ((mem_waysL pos).mp (List.mem_of_getElem? hw)).1
    have hb2 := sa _ _ hb1
    have hP6 := sa _ _ (g6 _ _ hP4)
    refine ⟨rfl, _, rfl, P0, rfl, ⟨_, SqL.of hP6⟩, fun D3 hD3 => ?_⟩
    refine lc_rel (walk_list (K := K) (a := P0) (xs := VI (toI A))) (fun j acc Hh => acc = VI (pm (A.take j) w)) hD3 (by rw [lvA, pl.len, sizeLine_eq]; omega) (fun Hh sh => SqL.of (sh _ _ hP6)) rfl (fun j acc A B e r => r)
      (fun j2 v acc2 Ha2 Hb2 hj2 sa2 ha2 hr2 hy2 Yc2 Nc2 yc2 nc2 => ?_) (fun acc2 H8 s8 hD8 hr2 => ?_)
    · obtain ⟨rfl, hv⟩ := hy2
      obtain ⟨i, hi, rfl⟩ := toI_at hv
      have li : i < w.length := by rw [lenw]; exact pl.mem.mp (List.mem_of_getElem? hi)
      refine ⟨rfl, _, rfl, _, rfl, b1, _, _, .int w[i], rfl, rfl, SqL.of (sa2 _ _ hb2), atI_nat (j := i) (by rw [List.getElem?_map, List.getElem?_eq_getElem li]; rfl), yc2 _ _ (Same.refl _) ?_⟩
      rw [hr2, pm_take w hi li]
      unfold VI
      rw [List.map_append]; rfl
    rw [lvA, List.take_length] at hr2
    subst hr2
    refine yc _ _ s8 ?_
    have n1 : D3 ≠ D2 := fun z => by rw [z, ha] at hD3; cases hD3
    rw [take_one hw, List.map_append]
    exact (hr.same (wo_same s8)).snoc (hd_ints (SqL.of (by rw [wo_ne n1]; exact hD8)))
  rw [lw6, List.take_length] at hr
  have hr7 := hr.same (wo_le (D := D2))
  refine ⟨D2, acc, (waysL cs m).map (pm A), rfl, SqL.of hD7, hr7, fun ps qs hsub hqs nps => ?_⟩
  have sps := same_new (o := .lst qs) nps
  have eW := ways_pm (m := m) pl pos
  have hqs1 : Hs K H7 qs (waysL (pm A cs) m) := by
    rw [← eW]
    exact a2_hs (fun _ _ r => r) (hqs _ (hs_a2 hr7))
  have g7 := s7.trans sps
  refine ⟨waysL (pm A cs) m, waysL (pm A cs) m, hd_lst (SqL.of (g7 _ _ (s6 _ _ hp5))) ((rws_hs hw5).same (s6.trans g7)), hd_lst (SqL.of upd_same) (hqs1.same sps), _, rfl, iteF2 (by simp) ?_⟩
  have g8 := g6.trans g7
  -- met ones and turning counts
  refine ⟨_, rfl, _, rfl, D, pm A cs, m, rfl, sq_lst (g8 _ _ hD4), Tp, m0, by omega, fun p9 H9 s9 np9 hp9 => ?_⟩
  have g9 := g8.trans s9
  refine ⟨_, rfl, _, rfl, C, cs, m, rfl, sq_lst (g9 _ _ hC4), T, m0, by omega, fun p10 H10 s10 np10 hp10 => ?_⟩
  have g10 := g9.trans s10
  have eM := metL_congr (fun n => mb_congr (rch_congr (pm_mem pl) n)) m.toNat
  refine ⟨_, _, hd_ints (SqL.of (s10 _ _ hp9)), hd_ints (SqL.of hp10), _, rfl, iteT2 (by rw [eM]; simp) ?_⟩
  refine ⟨_, rfl, D, pm A cs, rfl, sq_lst (g10 _ _ hD4), Tp, h24p, fun p11 H11 R1 hR1 lR1 s11 np11 hp11 => ?_⟩
  have g11 := g10.trans s11
  refine ⟨_, rfl, C, cs, rfl, sq_lst (g11 _ _ hC4), T, h24, fun p12 H12 R2 hR2 lR2 s12 np12 hp12 => ?_⟩
  rw [hR1.uniq (turn_pm pl hR2)] at hp11
  refine ⟨R2, R2, hd_ints (SqL.of (s12 _ _ hp11)), hd_ints (SqL.of hp12), ?_⟩
  have eR : (decide (R2 = R2)) = true := by simp
  have fin := q H12 (kH.trans (Keep.of (g4.trans (g11.trans s12))))
  rw [← eR] at fin
  exact fin
-- slots: _law_pot_here 0, _law_counts_here 1, _law_many 2, _law_more 3, _law_longer 4, _law_some 5, _law_found 6, _law_less 7, _law_way 8; cells: 
abbrev s_law_sum_right : Stmt := top 47
theorem bk_ways_0_counts_many : BindK 0 2 false "ways" s_ways ["counts", "many"] ["counts", "many"] := fun _ _ _ _ _ _ us ws hu hw => match us, ws, hu, hw with | [], [_, _], _, _ => rfl
abbrev N_law_sum_right : List Str := ["_law_pot_here", "_law_counts_here", "_law_many", "_law_more", "_law_longer", "_law_some", "_law_found", "_law_less", "_law_way"]
theorem sc_law_sum_right : FnScope N_law_sum_right ["_law_pot_here", "_law_counts_here", "_law_many"] (defScope s_law_sum_right) := ⟨rfl, rfl, rfl, by decide +kernel, rfl, by decide +kernel, by decide +kernel⟩
theorem d_law_sum_right (B : Bnd K mg "_law_sum_right" s_law_sum_right) (M : Mg2 mg)  (D_common_count : Def P w K mg base k "common_count" sCommon ["counts"] (spCommon K)) (D_met : Def P w K mg base k "met" sMet ["counts", "many"] (spMet K)) (D_least_counts : Def P w K mg base k "least_counts" sLeast ["counts"] (spLeast K)) (D_ways : Def P w K mg base k "ways" s_ways ["counts", "many"] (sp_ways K)) (D_law_pick : Def P w K mg base k "_law_pick" sPick ["_law_pot_here", "_law_some"] spPick) : Def P w K mg base (k + 1) "_law_sum_right" s_law_sum_right ["_law_pot_here", "_law_counts_here", "_law_many"] (sp_law_sum_right K) := by
  refine def_of B sc_law_sum_right (by rintro _ _ _ _ ⟨p, C, cs, m, rfl, _⟩; rfl) (fun _ _ _ _ _ _ us hl => match us, hl with | [_, _, _], _ => rfl) fun f cdv A outer s H vs Q E hr h => ?_
  obtain ⟨p, C, cs, m, rfl, hp, nCp, hC, S, q⟩ := h
  have hu := hr.units
  refine ⟨_, pss_cons (ps_set (i := 3) sc_law_sum_right.nd rfl (.inl rfl) (pe_op op_add (pe_d D_law_pick hr (by rfl) (pa_cons (pv 0) (pa_cons (pv 1) pa_nil))) (pe_d D_law_pick hr (by rfl) (pa_cons (pv 0) (pa_cons (pv 1) pa_nil)))))
    (pss_cons (ps_par (i := 4) (j := 5) rfl sc_law_sum_right.nd rfl rfl (by decide) rfl rfl (pa_cons (pe_op op_cat (pv 1) (pe_lst (pa_cons (pv 3) pa_nil))) (pa_cons (pe_d D_ways hr (by rfl) (pa_cons (pv 1) (pa_cons (pv 2) pa_nil))) pa_nil)) (by rfl))
    (pss_cons (ps_if (PW.pt (pw_or (pt_cmpR (op_neH (List Int) (dle hu (by decide))) (pe_d D_met hr (by rfl) (pa_cons (pv 4) (pa_cons (pv 2) pa_nil))) (pe_d D_met hr (by rfl) (pa_cons (pv 1) (pa_cons (pv 2) pa_nil))) (nomark _)) (pw_or (pt_cmpR (op_neH (List Int) (dle hu (by decide))) (pe_d D_least_counts hr (by rfl) (pa_cons (pv 4) pa_nil)) (pe_d D_least_counts hr (by rfl) (pa_cons (pv 1) pa_nil)) (nomark _)) (pw_or1 (pt_cmpR op_ne (pe_d D_common_count hr (by rfl) (pa_cons (pv 4) pa_nil)) (pe_d D_common_count hr (by rfl) (pa_cons (pv 1) pa_nil)) (nomark _)))))) pss_never pss_nil)
    (pss_cons (ps_set (i := 6) sc_law_sum_right.nd rfl (.inl rfl) (pe_dk0 D_ways hr (by rfl) 2 false ["counts", "many"] bk_ways_0_counts_many (pk_cons (pv 4) (pk_cons (pv 2) pk_nil))))
    (pss_cons (ps_if (pt_cmpR (op_neH (List (List Int)) (dle hu (by decide))) (pe_lc (own := [("_law_way", 8)]) (g := (gName 8)) (tt := (tTest (tOp _ (tOp (rIxL K) (tVar 8) (tUn _ (tC (.int 1)))) (tC (.int 0))))) (te := (tSl (rSlL K) (tVar 8) _ _)) rfl sc_law_sum_right.nd (pi_list (pv 6)) (blkOk_by (own := [("_law_way", 8)]) (N := N_law_sum_right) (sc := defScope s_law_sum_right) (by decide +kernel)) (fun _ _ _ _ _ => pg_name (i := 8) sc_law_sum_right.nd rfl (.inl rfl)) (fun _ _ _ _ _ => pts_one (pt_cmpR op_eq (pe_ix (r := rIxL K) ix_list (pv 8) (pe_un un_neg pe_int) (fun _ _ => rfl)) pe_int (nomark _))) (fun _ _ _ _ _ => pe_slice (r := rSlL K) sl_list (pv 8) po_none (po_some (pe_un un_neg pe_int)))) (pv 5) (nomark _)) pss_never pss_nil)
    (pss_cons (ps_set (i := 7) sc_law_sum_right.nd rfl (.inl rfl) (pe_op op_sub (pv 2) (pv 3)))
    (pss_one (ps_ret (pe_or (pe_cmpR op_lt (pv 7) pe_int (nomark _)) (pe_one (pe_cmpR (op_eqH (List (List Int)) (dle hu (by decide))) (pe_lc (own := [("_law_way", 8)]) (g := (gName 8)) (tt := (tTest (tOp _ (tOp (rIxL K) (tVar 8) (tUn _ (tC (.int 1)))) (tC (.int 0))))) (te := (tOp _ (tSl (rSlL K) (tVar 8) _ _) (tLst (tCons (tOp _ (tOp (rIxL K) (tVar 8) (tUn _ (tC (.int 1)))) (tC (.int 1))) tNil)))) rfl sc_law_sum_right.nd (pi_list (pv 6)) (blkOk_by (own := [("_law_way", 8)]) (N := N_law_sum_right) (sc := defScope s_law_sum_right) (by decide +kernel)) (fun _ _ _ _ _ => pg_name (i := 8) sc_law_sum_right.nd rfl (.inl rfl)) (fun _ _ _ _ _ => pts_one (pt_cmpR op_gt (pe_ix (r := rIxL K) ix_list (pv 8) (pe_un un_neg pe_int) (fun _ _ => rfl)) pe_int (nomark _))) (fun _ _ _ _ _ => pe_op op_cat (pe_slice (r := rSlL K) sl_list (pv 8) po_none (po_some (pe_un un_neg pe_int))) (pe_lst (pa_cons (pe_op op_sub (pe_ix (r := rIxL K) ix_list (pv 8) (pe_un un_neg pe_int) (fun _ _ => rfl)) pe_int) pa_nil)))) (pe_d D_ways hr (by rfl) (pa_cons (pv 4) (pa_cons (pv 7) pa_nil))) (nomark _))))))))))), ?_⟩
  have T := S.told
  have pos := T.pos
  have s1 := S.lo
  have s2 := S.hi
  have m0 := S.m0
  have m1 := S.m1
  have lw := S.few
  have lvc : (VI cs).length = cs.length := vi_len cs
  refine ⟨_, rfl, _, rfl, p, C, VI cs, rfl, hp, hC, nCp, by omega, by omega, fun x1 H1 mx1 hp1 k1 => ?_⟩
  obtain ⟨a, ha, rfl⟩ := List.mem_map.mp mx1
  have hC1 := k1 _ _ nCp hC
  refine ⟨_, rfl, _, rfl, p, C, VI cs, rfl, hp1, hC1, nCp, by omega, by omega, fun x2 H2 mx2 hp2 k2 => ?_⟩
  obtain ⟨b, hb, rfl⟩ := List.mem_map.mp mx2
  have hC2 := k2 _ _ nCp hC1
  have kk := k1.trans k2
  have a0 := S.each a ha
  have b0 := S.each b hb
  have hab : Rch (· ∈ cs) (a + b) := (Rch.one ha).add (Rch.one hb)
  have hm : ∀ x, x ∈ cs ++ [a + b] ↔ x ∈ cs ∨ x = a + b := fun x => by rw [List.mem_append, List.mem_singleton]
  have Tl : Told (cs ++ [a + b]) := ⟨by rw [List.length_append, List.length_singleton]; omega, by rw [List.length_append, List.length_singleton]; omega, fun c hc => by
    rcases (hm c).mp hc with z | z
    · have := S.each c z; omega
    · omega⟩
  obtain ⟨mn, hmn, hle⟩ := S.least
  have fv := S.five mn hmn
  have mn0 := S.each mn hmn
  have lwl : ∀ n : Int, 0 ≤ n → n ≤ m → (waysL (cs ++ [a + b]) n).length ≤ 400 := fun n n0 n1 => wl_small (a := mn) (by omega) (fun c hc => by
    rcases (hm c).mp hc with z | z
    · exact hle c z
    · have := hle a ha; omega) (by rw [List.length_append, List.length_singleton]; omega) (by rw [List.length_append, List.length_singleton]; omega) n0 (by omega)
  refine ⟨_, _, rfl, rfl, ?_⟩
  refine ⟨_, rfl, _, rfl, (by show 1 ≤ sizeLine; decide), fun l nl => ?_⟩
  have sl := same_new (o := .lst [V.int (a + b)]) nl
  refine ⟨C, l, VI cs, _, rfl, rfl, sl _ _ hC2, upd_same, by rw [lvc, List.length_singleton, sizeLine_eq]; omega, fun Lo nLo => ?_⟩
  have sLo := same_new (o := .lst (VI cs ++ [V.int (a + b)])) nLo
  have eLo : VI cs ++ [V.int (a + b)] = VI (cs ++ [a + b]) := by unfold VI; rw [List.map_append]; rfl
  have hLo : (upd (upd H2 l (.lst [V.int (a + b)])) Lo (.lst (VI cs ++ [V.int (a + b)]))) Lo = some (.lst (VI (cs ++ [a + b]))) := by rw [upd_same, eLo]
  have g0 := sl.trans sLo
  generalize upd (upd H2 l (.lst [V.int (a + b)])) Lo (.lst (VI cs ++ [V.int (a + b)])) = H3 at hLo g0 ⊢
  have hC3 := g0 _ _ hC2
  refine ⟨_, rfl, _, rfl, C, cs, m, rfl, sq_lst hC3, T, m0, by omega, lw, fun So H5 ss s5 nSo hSo hss => ⟨_, _, rfl, ?_⟩⟩
  -- met, least, common
  refine ⟨_, rfl, _, rfl, Lo, cs ++ [a + b], m, rfl, sq_lst (s5 _ _ hLo), Tl, m0, by omega, fun p1 H6 s6 np1 hp1' => ?_⟩
  have g6 := s5.trans s6
  refine ⟨_, rfl, _, rfl, C, cs, m, rfl, sq_lst (g6 _ _ hC3), T, m0, by omega, fun p2 H7 s7 np2 hp2' => ?_⟩
  have g7 := g6.trans s7
  refine ⟨_, _, hd_ints (SqL.of (s7 _ _ hp1')), hd_ints (SqL.of hp2'), _, rfl, iteF2 (by rw [metL_congr (mb_more hab hm)]; simp) ?_⟩
  refine ⟨_, rfl, Lo, _, rfl, sq_lst (g7 _ _ hLo), Tl, fun p3 H8 R1 hR1 mR1 lR1 s8 np3 hp3 => ?_⟩
  have g8 := g7.trans s8
  refine ⟨_, rfl, C, cs, rfl, sq_lst (g8 _ _ hC3), T, fun p4 H9 R2 hR2 mR2 lR2 s9 np4 hp4 => ?_⟩
  have g9 := g8.trans s9
  have eR : R1 = R2 := hR1.isL.uniq (hR2.more pos hab hm)
  refine ⟨R1, R2, hd_ints (SqL.of (s9 _ _ hp3)), hd_ints (SqL.of hp4), _, rfl, iteF2 (by rw [eR]; simp) ?_⟩
  refine ⟨_, rfl, Lo, _, rfl, sq_lst (g9 _ _ hLo), Tl, fun H10 s10 => ⟨_, rfl, C, cs, rfl, sq_lst (s10 _ _ (g9 _ _ hC3)), T, fun H11 s11 => ⟨rfl, _, rfl, iteF2 (by rw [gl_more hab hm]; simp) ?_⟩⟩⟩
  have g11 := g9.trans (s10.trans s11)
  clear hp1' hp2' hR1 hR2 mR1 mR2 hp3 hp4 eR lR1 lR2
  -- ways
  refine ⟨_, rfl, _, rfl, rfl, rfl, Lo, cs ++ [a + b], m, rfl, sq_lst (g11 _ _ hLo), Tl, m0, by omega, lwl m m0 (Int.le_refl _), fun Fo H12 fs s12 nFo hFo hfs => ?_⟩
  have g12 := g11.trans s12
  have lfs := hfs.len
  have lw2 := lwl m m0 (Int.le_refl _)
  have pl := pos_more pos (show 0 < a + b by omega)
  refine ⟨_, rfl, Fo, rfl, ⟨fs, SqL.of hFo⟩, fun D hD => ?_⟩
  refine lc_rel (walk_list (K := K) (a := Fo) (xs := fs)) (fun j acc Hh => Hs K Hh acc ((((waysL (cs ++ [a + b]) m).take j).filter fun w => decide (la w = 0)).map List.dropLast)) hD (by rw [sizeLine_eq]; omega) (fun Hh sh => SqL.of (sh _ _ hFo)) .nil (fun j acc A B e r => r.same e)
    (fun j x acc Ha Hb hj sa ha hr hy Yc Nc yc nc => ?_) (fun acc H13 s13 hD13 hr => ?_)
  · obtain ⟨rfl, hx⟩ := hy
    obtain ⟨w, hw, b1, rfl, nb1, hb1⟩ := hfs.at_ j x hx
    obtain ⟨u, x0, rfl, lu, _⟩ := shape ((mem_waysL pl).mp (List.mem_of_getElem? hw))
    have ew : (u ++ [x0]).map V.int = VI u ++ [.int x0] := by unfold VI; rw [List.map_append]; rfl
    rw [ew] at hb1
    refine ⟨rfl, _, rfl, 1, rfl, b1, _, -1, .int x0, rfl, rfl, SqL.of (sa _ _ hb1), atI_last _ _, rfl, _, rfl, ite2 (fun e => ?_) (fun e => ?_)⟩
    · have e' : x0 = 0 := V.int.inj (of_decide_eq_true e)
      refine ⟨_, rfl, 1, rfl, _, rfl, b1, _, rfl, SqL.of (sa _ _ hb1), fun nb hnb => yc _ _ (same_new hnb) ?_⟩
      have n1 : nb ≠ D := fun z => by rw [z, ha] at hnb; cases hnb
      rw [filter_take hw, la_app, if_pos (decide_eq_true e'), List.map_append]
      refine (hr.same (wo_same (same_new hnb))).snoc ?_
      rw [List.dropLast_concat]
      refine hd_ints (SqL.of ?_)
      rw [wo_ne n1, upd_same]
      exact congrArg (fun z => some (HO.lst z)) (cut_last _ _)
    · have e' : x0 ≠ 0 := fun z => e (decide_eq_true (by rw [z]))
      refine nc _ (Same.refl _) ?_
      rw [filter_take hw, la_app, if_neg (by rw [decide_eq_false e']; decide), List.append_nil]
      exact hr
  rw [lfs, List.take_length, keep0 pos (by omega)] at hr
  have g13 := g12.trans s13
  refine ⟨_, rfl, waysL cs m, waysL cs m, hd_lst (SqL.of hD13) (hr.same wo_le), hd_lst (SqL.of ((s6.trans (s7.trans (s8.trans (s9.trans (s10.trans (s11.trans (s12.trans s13))))))) _ _ hSo)) ((rws_hs hss).same (s6.trans (s7.trans (s8.trans (s9.trans (s10.trans (s11.trans (s12.trans s13)))))))), _, rfl, iteF2 (by simp) ?_⟩
  -- one of the last count less
  clear hr hD13 hD
  refine ⟨_, rfl, _, rfl, m, a + b, rfl, rfl, ?_⟩
  refine ⟨_, rfl, m - (a + b), 0, rfl, rfl, _, rfl, ite2 (fun e => ?_) (fun e => ?_)⟩
  · have fin := q H13 (kk.trans (Keep.of (g0.trans g13)))
    exact fin
  have e' : ¬ m - (a + b) < 0 := fun z => e (decide_eq_true z)
  refine ⟨_, rfl, Fo, rfl, ⟨fs, SqL.of (s13 _ _ hFo)⟩, fun D hD => ?_⟩
  refine lc_rel (walk_list (K := K) (a := Fo) (xs := fs)) (fun j acc Hh => Hs K Hh acc ((((waysL (cs ++ [a + b]) m).take j).filter fun w => decide (0 < la w)).map fun w => w.dropLast ++ [la w - 1])) hD (by rw [sizeLine_eq]; omega) (fun Hh sh => SqL.of (sh _ _ (s13 _ _ hFo))) .nil (fun j acc A B e r => r.same e)
    (fun j x acc Ha Hb hj sa ha hr hy Yc Nc yc nc => ?_) (fun acc H14 s14 hD14 hr => ?_)
  · obtain ⟨rfl, hx⟩ := hy
    obtain ⟨w, hw, b1, rfl, nb1, hb1⟩ := hfs.at_ j x hx
    obtain ⟨u, x0, rfl, lu, _⟩ := shape ((mem_waysL pl).mp (List.mem_of_getElem? hw))
    have ew : (u ++ [x0]).map V.int = VI u ++ [.int x0] := by unfold VI; rw [List.map_append]; rfl
    rw [ew] at hb1
    have hb2 := sa _ _ (s13 _ _ hb1)
    refine ⟨rfl, _, rfl, 1, rfl, b1, _, -1, .int x0, rfl, rfl, SqL.of hb2, atI_last _ _, x0, 0, rfl, rfl, _, rfl, ite2 (fun e => ?_) (fun e => ?_)⟩
    · have e' : 0 < x0 := of_decide_eq_true e
      refine ⟨_, rfl, 1, rfl, _, rfl, b1, _, rfl, SqL.of hb2, fun nb hnb => ?_⟩
      have sb := same_new (o := .lst (cutV (VI u ++ [V.int x0]) none (some (-1)))) hnb
      have ec : cutV (VI u ++ [V.int x0]) none (some (-1)) = VI u := cut_last _ _
      refine ⟨_, rfl, 1, rfl, b1, _, -1, .int x0, rfl, rfl, SqL.of (sb _ _ hb2), atI_last _ _, x0, 1, rfl, rfl, (by show 1 ≤ sizeLine; decide), fun nc2 hnc => ?_⟩
      have sc := same_new (o := .lst [V.int (x0 - 1)]) hnc
      have hnb3 := sc _ _ (upd_same (H := Hb) (a := nb) (o := .lst (cutV (VI u ++ [V.int x0]) none (some (-1)))))
      refine ⟨nb, nc2, _, _, rfl, rfl, hnb3, upd_same, by rw [ec, vi_len, List.length_singleton, sizeLine_eq]; omega, fun nd hnd => ?_⟩
      have sd := same_new (o := .lst (cutV (VI u ++ [V.int x0]) none (some (-1)) ++ [V.int (x0 - 1)])) hnd
      have sall := sb.trans (sc.trans sd)
      refine yc _ _ sall ?_
      have n1 : nd ≠ D := fun z => by rw [z, sc _ _ (sb _ _ ha)] at hnd; cases hnd
      rw [filter_take hw, la_app, if_pos (decide_eq_true e'), List.map_append]
      refine (hr.same (wo_same sall)).snoc ?_
      show Hd K _ _ ((u ++ [x0]).dropLast ++ [la (u ++ [x0]) - 1])
      rw [List.dropLast_concat, la_app]
      refine hd_ints (SqL.of ?_)
      rw [wo_ne n1, upd_same, ec]
      refine congrArg (fun z => some (HO.lst z)) ?_
      unfold VI
      rw [List.map_append]; rfl
    · have e' : ¬ 0 < x0 := fun z => e (decide_eq_true z)
      refine nc _ (Same.refl _) ?_
      rw [filter_take hw, la_app, if_neg (by rw [decide_eq_false e']; decide), List.append_nil]
      exact hr
  rw [lfs, List.take_length, keep1 pos (by omega)] at hr
  have g14 := g13.trans s14
  refine ⟨_, rfl, _, rfl, Lo, cs ++ [a + b], m - (a + b), rfl, sq_lst (g14 _ _ hLo), Tl, by omega, by omega, lwl _ (by omega) (by omega), fun Fz H15 fz s15 nFz hFz hfz => ?_⟩
  refine ⟨waysL (cs ++ [a + b]) (m - (a + b)), waysL (cs ++ [a + b]) (m - (a + b)), hd_lst (SqL.of (s15 _ _ hD14)) ((hr.same wo_le).same s15), hd_lst (SqL.of hFz) (rws_hs hfz), ?_⟩
  have eW : (decide (waysL (cs ++ [a + b]) (m - (a + b)) = waysL (cs ++ [a + b]) (m - (a + b)))) = true := by simp
  have fin := q H15 (kk.trans (Keep.of (g0.trans (g14.trans s15))))
  rw [← eW] at fin
  exact fin
-- slots: _law_pot_here 0, _law_counts_here 1, _law_many 2, _law_spot 3, _law_due 4, _law_way 5, _law_first 6, _law_longer 7; cells: 
abbrev s_law_twice_right : Stmt := top 48
abbrev N_law_twice_right : List Str := ["_law_pot_here", "_law_counts_here", "_law_many", "_law_spot", "_law_due", "_law_way", "_law_first", "_law_longer"]
theorem sc_law_twice_right : FnScope N_law_twice_right ["_law_pot_here", "_law_counts_here", "_law_many"] (defScope s_law_twice_right) := ⟨rfl, rfl, rfl, by decide +kernel, rfl, by decide +kernel, by decide +kernel⟩
theorem d_law_twice_right (B : Bnd K mg "_law_twice_right" s_law_twice_right) (M : Mg2 mg)  (D_ways : Def P w K mg base k "ways" s_ways ["counts", "many"] (sp_ways K)) (D_lots_of_ways : Def P w K mg base k "lots_of_ways" s_lots_of_ways ["counts", "many"] (sp_lots_of_ways K)) (D_turning_counts : Def P w K mg base k "turning_counts" s_turning_counts ["counts"] (sp_turning_counts K)) (D_law_draw : Def P w K mg base k "_law_draw" sDraw ["_law_pot_here", "_law_many"] spDraw) : Def P w K mg base (k + 1) "_law_twice_right" s_law_twice_right ["_law_pot_here", "_law_counts_here", "_law_many"] (sp_law_twice_right K) := by
  refine def_of B sc_law_twice_right (by rintro _ _ _ _ ⟨p, C, cs, m, rfl, _⟩; rfl) (fun _ _ _ _ _ _ us hl => match us, hl with | [_, _, _], _ => rfl) fun f cdv A outer s H vs Q E hr h => ?_
  obtain ⟨p, C, cs, m, rfl, hp, nCp, hC, S, q⟩ := h
  have hu := hr.units
  refine ⟨_, pss_cons (ps_par (i := 3) (j := 4) rfl sc_law_twice_right.nd rfl rfl (by decide) rfl rfl (pa_cons (pe_d D_law_draw hr (by rfl) (pa_cons (pv 0) (pa_cons (pe_callB call_len_seq (by rfl) M.len boot_len (pa_cons (pv 1) pa_nil)) pa_nil))) (pa_cons (pe_lst pa_nil) pa_nil)) (by rfl))
    (pss_cons (ps_for PassesOwn.never rfl (pi_list (pe_d D_ways hr (by rfl) (pa_cons (pv 1) (pa_cons (pv 2) pa_nil)))) (pg_name (i := 5) sc_law_twice_right.nd rfl (.inl rfl))
      (pss_one (ps_for PassesOwn.never rfl (pi_range1 (by rfl) M.range (pa_cons (pe_op op_add (pe_ix (r := rIxL K) ix_list (pv 5) (pv 3) (fun _ _ => rfl)) pe_int) pa_nil)) (pg_name (i := 6) sc_law_twice_right.nd rfl (.inl rfl))
        (pss_one (ps_expr (pe_bm PySem.F.plainAttrs_list PySem.F.slot_list_append PySem.F.type_list_append mt_append (pv 4) (pa_cons (pe_op op_cat (pe_op op_cat (pe_op op_cat (pe_slice (r := rSlL K) sl_list (pv 5) po_none (po_some (pv 3))) (pe_lst (pa_cons (pv 6) pa_nil))) (pe_slice (r := rSlL K) sl_list (pv 5) (po_some (pe_op op_add (pv 3) pe_int)) po_none)) (pe_lst (pa_cons (pe_op op_sub (pe_ix (r := rIxL K) ix_list (pv 5) (pv 3) (fun _ _ => rfl)) (pv 6)) pa_nil))) pa_nil)))))))
    (pss_cons (ps_set (i := 7) sc_law_twice_right.nd rfl (.inl rfl) (pe_op op_cat (pv 1) (pe_lst (pa_cons (pe_ix (r := rIxL K) ix_list (pv 1) (pv 3) (fun _ _ => rfl)) pa_nil))))
    (pss_cons (ps_if (pt_cmpR (op_neH (List (List Int)) (dle hu (by decide))) (pe_d D_ways hr (by rfl) (pa_cons (pv 7) (pa_cons (pv 2) pa_nil))) (pe_callB (cr_sortH2 (List Int) (dle2 hu (by decide))) (by rfl) M.sorted (by decide +kernel) (pa_cons (pv 4) pa_nil)) (nomark _)) pss_never pss_nil)
    (pss_one (ps_ret (pe_and (pe_cmpR (op_inH Int (dle1 hu (by decide))) (pe_ix (r := rIxL K) ix_list (pv 1) (pv 3) (fun _ _ => rfl)) (pe_d D_turning_counts hr (by rfl) (pa_cons (pv 7) pa_nil)) (by rfl)) (pe_one (pe_cmpR op_gt (pe_callB call_len_seq (by rfl) M.len boot_len (pa_cons (pe_d D_lots_of_ways hr (by rfl) (pa_cons (pv 7) (pa_cons (pe_ix (r := rIxL K) ix_list (pv 1) (pv 3) (fun _ _ => rfl)) pa_nil))) pa_nil)) pe_int (nomark _))))))))), ?_⟩
  have T := S.told
  have pos := T.pos
  have s1 := S.lo
  have s2 := S.hi
  have m0 := S.m0
  have m1 := S.m1
  have lw := S.few
  have lvc : (VI cs).length = cs.length := vi_len cs
  refine ⟨_, rfl, _, rfl, C, _, rfl, .inl (SqL.of hC), p, _, rfl, hp, by omega, by omega, fun d H1 d0 d1 hp1 k1 => ?_⟩
  obtain ⟨s, rfl⟩ : ∃ s : Nat, d = (s : Int) := ⟨d.toNat, by omega⟩
  have ls : s < cs.length := by omega
  have hs := List.getElem?_eq_getElem ls
  have c8 := S.each _ (List.mem_of_getElem? hs)
  have hC1 := k1 _ _ nCp hC
  refine ⟨Nat.zero_le _, fun De nDe => ⟨_, _, rfl, ?_⟩⟩
  have sDe := same_new (o := .lst []) nDe
  have hC2 := sDe _ _ hC1
  have nCD : C ≠ De := ne_of_none hC1 nDe
  have hm : ∀ x, x ∈ cs ++ [cs[s]] ↔ x ∈ cs ∨ x = cs[s] := fun x => by rw [List.mem_append, List.mem_singleton]
  have Tl : Told (cs ++ [cs[s]]) := ⟨by rw [List.length_append, List.length_singleton]; omega, by rw [List.length_append, List.length_singleton]; omega, fun c hc => by
    rcases (hm c).mp hc with z | z
    · have := S.each c z; omega
    · omega⟩
  have h24l : ∀ c ∈ cs ++ [cs[s]], c ≤ 24 := fun c hc => by
    rcases (hm c).mp hc with z | z
    · have := S.each c z; omega
    · omega
  obtain ⟨mn, hmn, hle⟩ := S.least
  have fv := S.five mn hmn
  have mn0 := S.each mn hmn
  have lwl : ∀ n : Int, 0 ≤ n → n ≤ 10 * mn → (waysL (cs ++ [cs[s]]) n).length ≤ 400 := fun n n0 n1 => wl_small (a := mn) (by omega) (fun c hc => by
    rcases (hm c).mp hc with z | z
    · exact hle c z
    · rw [z]; exact hle _ (List.mem_of_getElem? hs)) (by rw [List.length_append, List.length_singleton]; omega) (by rw [List.length_append, List.length_singleton]; omega) n0 n1
  have tw := twice (m := m) pos hs
  have ldue : ((waysL cs m).flatMap (tws s)).length ≤ 400 := by
    rw [← (List.mergeSort_perm ((waysL cs m).flatMap (tws s)) leH).length_eq, tw]
    exact lwl m m0 (by omega)
  refine ⟨_, rfl, _, rfl, C, cs, m, rfl, sq_lst hC2, T, m0, by omega, lw, fun Wy H3 ws s3 nWy hWy hws => ⟨Wy, rfl, ⟨ws, SqL.of hWy⟩, ?_⟩⟩
  have lws := hws.len
  have hDe3 := s3 _ _ (upd_same (H := H1) (a := De) (o := .lst []))
  have nWD : Wy ≠ De := fun z => by rw [z, upd_same] at nWy; cases nWy
  have hWyw : (wo De H3) Wy = some (.lst ws) := by rw [wo_ne nWD]; exact hWy
  refine for_it (walk_list (K := K) (a := Wy) (xs := ws)) (fun i σ H' => ∃ (acc : List V) (y5 y6 : Option V), σ = [some (.ref p), some (.ref C), some (.int m), some (.int (s : Int)), some (.ref De), y5, y6, none] ∧ Same (wo De H3) (wo De H') ∧ H' De = some (.lst acc) ∧ Hs K (wo De H') acc (((waysL cs m).take i).flatMap (tws s)))
    ⟨[], none, none, rfl, Same.refl _, hDe3, .nil⟩ (fun i σ' H' hi ⟨_, _, _, _, h1, _⟩ => SqL.of (wo_le _ _ (h1 _ _ hWyw))) (fun i x σ' HH H4 hi pv y => ?_) (fun σ' H4 pv => ?_)
  · obtain ⟨acc, y5, y6, rfl, s4, hDe, hacc⟩ := pv
    obtain ⟨rfl, hx⟩ := y
    obtain ⟨w, hw, b1, rfl, nb1, hb1⟩ := hws.at_ i x hx
    have mw := List.mem_of_getElem? hw
    have ww := (mem_waysL pos).mp mw
    have lsw : s < w.length := by rw [ww.1]; exact ls
    have ew := getD_at lsw
    have w0 := ww.2.1 _ (List.mem_of_getElem? ew)
    have nbD : b1 ≠ De := fun z => by rw [z, upd_same] at nb1; cases nb1
    have hb3 : (wo De H3) b1 = some (.lst (VI w)) := by rw [wo_ne nbD]; exact hb1
    have hb4 : H4 b1 = some (.lst (VI w)) := wo_le _ _ (s4 _ _ hb3)
    have at5 : atI (VI w) (s : Int) = some (.int (w.getD s 0)) := atI_nat (j := s) (by rw [List.getElem?_map, ew]; rfl)
    have lall : (((waysL cs m).take i).flatMap (tws s)).length + (tws s w).length ≤ ((waysL cs m).flatMap (tws s)).length := by
      have e : (waysL cs m).flatMap (tws s) = ((waysL cs m).take i).flatMap (tws s) ++ ((waysL cs m).drop i).flatMap (tws s) := by rw [← List.flatMap_append, List.take_append_drop]
      have e2 : (waysL cs m).drop i = w :: (waysL cs m).drop (i + 1) := by
        rw [List.drop_eq_getElem_cons (List.getElem?_eq_some_iff.mp hw).1, (List.getElem?_eq_some_iff.mp hw).2]
      rw [e, List.length_append, e2, List.flatMap_cons, List.length_append]
      omega
    have ltw : (tws s w).length = (w.getD s 0 + 1).toNat := by unfold tws; rw [List.length_map, List.length_range]
    refine ⟨_, rfl, _, rfl, b1, _, _, _, rfl, rfl, SqL.of hb4, at5, _, _, rfl, rfl, _, rfl, by omega, by omega, ?_⟩
    refine for_range (lo := 0) (n := (w.getD s 0 + 1).toNat) (fun k σ H' => ∃ (acc : List V) (y6 : Option V), σ = [some (.ref p), some (.ref C), some (.int m), some (.int (s : Int)), some (.ref De), some (.ref b1), y6, none] ∧ Same (wo De H3) (wo De H') ∧ H' De = some (.lst acc) ∧ Hs K (wo De H') acc (((waysL cs m).take i).flatMap (tws s) ++ (List.range k).map (twk s w)))
      ⟨acc, y6, rfl, s4, hDe, by simpa using hacc⟩ (fun k σ2 H5 hk ⟨acc2, y6', e5, s5, hDe5, hacc2⟩ => ?_) (fun σ2 H5 ⟨acc2, y6', e5, s5, hDe5, hacc2⟩ => ?_)
    · subst e5
      rw [show (0 : Int) + (k : Int) = (k : Int) by omega]
      have la2 := hacc2.len
      rw [List.length_append, List.length_map, List.length_range] at la2
      have hb5 : H5 b1 = some (.lst (VI w)) := wo_le _ _ (s5 _ _ hb3)
      have lvw : (VI w).length = w.length := vi_len w
      have lw8 : w.length ≤ 8 := by rw [ww.1]; omega
      have ec1 : cutV (VI w) none (some (s : Int)) = (VI w).take s := cut_to s
      have ec2 : cutV (VI w) (some ((s : Int) + 1)) none = (VI w).drop (s + 1) := cut_from (s + 1)
      refine ⟨_, rfl, Or.inl ⟨rfl, _, SqL.of hDe5⟩, _, rfl, _, rfl, _, rfl, b1, _, rfl, SqL.of hb5, fun a1 na1 => ?_⟩
      have t1 := same_new (o := .lst (cutV (VI w) none (some (s : Int)))) na1
      refine ⟨_, rfl, (by show 1 ≤ sizeLine; decide), fun a2 na2 => ?_⟩
      have t2 := same_new (o := .lst [V.int (k : Int)]) na2
      refine ⟨a1, a2, _, _, rfl, rfl, t2 _ _ upd_same, upd_same, by rw [ec1, List.length_take, List.length_singleton, sizeLine_eq]; omega, fun a3 na3 => ?_⟩
      have t3 := same_new (o := .lst (cutV (VI w) none (some (s : Int)) ++ [V.int (k : Int)])) na3
      have t13 := t1.trans (t2.trans t3)
      refine ⟨_, rfl, _, rfl, _, _, rfl, rfl, _, rfl, b1, _, rfl, SqL.of (t13 _ _ hb5), fun a4 na4 => ?_⟩
      have t4 := same_new (o := .lst (cutV (VI w) (some ((s : Int) + 1)) none)) na4
      refine ⟨a3, a4, _, _, rfl, rfl, t4 _ _ upd_same, upd_same, by rw [ec1, ec2, List.length_append, List.length_take, List.length_singleton, List.length_drop, sizeLine_eq]; omega, fun a5 na5 => ?_⟩
      have t5 := same_new (o := .lst ((cutV (VI w) none (some (s : Int)) ++ [V.int (k : Int)]) ++ cutV (VI w) (some ((s : Int) + 1)) none)) na5
      have t15 := t13.trans (t4.trans t5)
      refine ⟨_, rfl, _, rfl, b1, _, _, _, rfl, rfl, SqL.of (t15 _ _ hb5), at5, _, rfl, _, _, rfl, rfl, (by show 1 ≤ sizeLine; decide), fun a6 na6 => ?_⟩
      have t6 := same_new (o := .lst [V.int (w.getD s 0 - (k : Int))]) na6
      refine ⟨a5, a6, _, _, rfl, rfl, t6 _ _ upd_same, upd_same, by rw [ec1, ec2, List.length_append, List.length_append, List.length_take, List.length_singleton, List.length_drop, List.length_singleton, sizeLine_eq]; omega, fun a7 na7 => ?_⟩
      have t7 := same_new (o := .lst (((cutV (VI w) none (some (s : Int)) ++ [V.int (k : Int)]) ++ cutV (VI w) (some ((s : Int) + 1)) none) ++ [V.int (w.getD s 0 - (k : Int))])) na7
      have t17 := t15.trans (t6.trans t7)
      have n7 : a7 ≠ De := fun z => by
        have := (t15.trans t6) _ _ hDe5
        rw [z, this] at na7; cases na7
      refine ⟨De, acc2, _, rfl, rfl, t17 _ _ hDe5, by rw [sizeLine_eq]; omega, acc2 ++ [.ref a7], _, rfl, ?_, upd_same, ?_⟩
      · rw [wo_upd]; exact s5.trans (wo_same t17)
      · rw [wo_upd, List.range_succ, List.map_append, ← List.append_assoc]
        refine (hacc2.same (wo_same t17)).snoc (hd_ints (SqL.of ?_))
        rw [wo_ne n7, upd_same]
        refine congrArg (fun z => some (HO.lst z)) ?_
        rw [ec1, ec2]
        unfold twk VI
        rw [List.set_eq_take_append_cons_drop, if_pos lsw, ← List.map_take, ← List.map_drop, List.map_append, List.map_append, List.map_cons]
        simp
    · subst e5
      refine ⟨acc2, _, y6', rfl, s5, hDe5, ?_⟩
      rw [take_one hw, List.flatMap_append]
      have e9 : [w].flatMap (tws s) = (List.range (w.getD s 0 + 1).toNat).map (twk s w) := by unfold tws; simp
      rw [e9]
      exact hacc2
  obtain ⟨acc, y5, y6, rfl, s4, hDe, hacc⟩ := pv
  rw [lws, List.take_length] at hacc
  have hacc1 := hacc.same (wo_le (D := De))
  have hC4 : H4 C = some (.lst (VI cs)) := by
    refine wo_le _ _ (s4 _ _ ?_)
    rw [wo_ne nCD]
    exact s3 _ _ hC2
  have atc : atI (VI cs) (s : Int) = some (.int cs[s]) := atI_nat (j := s) (by rw [List.getElem?_map, hs]; rfl)
  refine ⟨_, rfl, _, rfl, _, rfl, C, _, _, _, rfl, rfl, SqL.of hC4, atc, (by show 1 ≤ sizeLine; decide), fun l nl => ?_⟩
  have sl := same_new (o := .lst [V.int cs[s]]) nl
  refine ⟨C, l, VI cs, _, rfl, rfl, sl _ _ hC4, upd_same, by rw [lvc, List.length_singleton, sizeLine_eq]; omega, fun Lo nLo => ?_⟩
  have sLo := same_new (o := .lst (VI cs ++ [V.int cs[s]])) nLo
  have eLo : VI cs ++ [V.int cs[s]] = VI (cs ++ [cs[s]]) := by unfold VI; rw [List.map_append]; rfl
  have hLo : (upd (upd H4 l (.lst [V.int cs[s]])) Lo (.lst (VI cs ++ [V.int cs[s]]))) Lo = some (.lst (VI (cs ++ [cs[s]]))) := by rw [upd_same, eLo]
  have g0 := sl.trans sLo
  generalize upd (upd H4 l (.lst [V.int cs[s]])) Lo (.lst (VI cs ++ [V.int cs[s]])) = H5 at hLo g0 ⊢
  have hC5 := g0 _ _ hC4
  refine ⟨_, rfl, _, rfl, Lo, cs ++ [cs[s]], m, rfl, sq_lst hLo, Tl, m0, by omega, lwl m m0 (by omega), fun Fo H6 fs s6 nFo hFo hfs => ?_⟩
  have g6 := g0.trans s6
  refine ⟨_, rfl, De, acc, _, rfl, SqL.of (g6 _ _ hDe), hacc1.same g6, fun ps qs hsub hqs nps => ?_⟩
  have sps := same_new (o := .lst qs) nps
  have hqs1 : Hs K H6 qs (waysL (cs ++ [cs[s]]) m) := by
    rw [← tw]
    exact a2_hs (fun _ _ r => r) (hqs _ (hs_a2 (hacc1.same g6)))
  refine ⟨waysL (cs ++ [cs[s]]) m, waysL (cs ++ [cs[s]]) m, hd_lst (SqL.of (sps _ _ hFo)) ((rws_hs hfs).same sps), hd_lst (SqL.of upd_same) (hqs1.same sps), _, rfl, iteF2 (by simp) ?_⟩
  have g7 := s6.trans sps
  have tn := tn_twice pos hs
  -- a count that is told twice turns
  refine ⟨_, rfl, _, rfl, C, _, _, _, rfl, rfl, SqL.of (g7 _ _ hC5), atc, _, rfl, Lo, cs ++ [cs[s]], rfl, sq_lst (g7 _ _ hLo), Tl, h24l, fun p8 H8 R hR lR s8 np8 hp8 => ?_⟩
  have g8 := g7.trans s8
  refine ⟨cs[s], R, hd_int _, hd_ints (SqL.of hp8), _, rfl, iteT2 (to_dec ((hR.mem _).mpr ⟨c8.1, tn⟩)) ?_⟩
  refine ⟨_, rfl, _, rfl, _, rfl, C, _, _, _, rfl, rfl, SqL.of (g8 _ _ hC5), atc, Lo, cs ++ [cs[s]], cs[s], rfl, sq_lst (g8 _ _ hLo), Tl, by omega, by omega, lwl _ (by omega) (by omega), fun p9 H9 t9 L9 sl9 fp9 s9 np9 hp9 ht9 => ?_⟩
  have l9 := ht9.len
  rw [(List.mergeSort_perm L9 leH).length_eq] at l9
  have many : 1 < L9.length := by
    rw [sl9.lots.many MtW.symm MtW.vx, ways_turn Tl.pos]
    exact tn
  refine ⟨p9, t9, rfl, .inl (SqL.of hp9), _, _, rfl, rfl, ?_⟩
  have eb : (decide ((1 : Int) < (t9.length : Int))) = true := decide_eq_true (by omega)
  have kz : Keep p H H9 := by
    intro b o nb hb
    have nD : b ≠ De := fun z => by
      have := k1 _ _ nb hb
      rw [z, nDe] at this; cases this
    have e3 := s3 _ _ (sDe _ _ (k1 _ _ nb hb))
    have e4 : H4 b = some o := by
      refine wo_le _ _ (s4 _ _ ?_)
      rw [wo_ne nD]; exact e3
    exact s9 _ _ (g8 _ _ (g0 _ _ e4))
  have fin := q H9 kz
  rw [← eb] at fin
  exact fin
end
end K21

namespace K21
open PySem PySem.Spec PyProof.Rows L2 Fp
section
variable {P : Program} {w : World} {K : PySem.W.Frag} {mg : Str → Option Value} {base : Heap} {k : Nat}
def sp_law_right (K : PySem.W.Frag) : Sp := fun vs H Q _ => ∃ p : Addr, vs = [.ref p] ∧ PotOk H p ∧ ∀ H', Keep p H H' → Q (.bl true) H'
-- slots: _law_pot_here 0, _law_counts_here 1, _law_way 2, _law_many 3; cells: 
abbrev s_law_right : Stmt := top 49
abbrev N_law_right : List Str := ["_law_pot_here", "_law_counts_here", "_law_way", "_law_many"]
theorem sc_law_right : FnScope N_law_right ["_law_pot_here"] (defScope s_law_right) := ⟨rfl, rfl, rfl, by decide +kernel, rfl, by decide +kernel, by decide +kernel⟩
theorem d_law_right (B : Bnd K mg "_law_right" s_law_right) (M : Mg2 mg)  (D_law_draw : Def P w K mg base k "_law_draw" sDraw ["_law_pot_here", "_law_many"] spDraw) (D_law_counts : Def P w K mg base k "_law_counts" sCounts ["_law_pot_here", "_law_most_many", "_law_most"] spCounts) (D_law_factor_right : Def P w K mg base k "_law_factor_right" s_law_factor_right ["_law_pot_here", "_law_counts_here", "_law_many"] (sp_law_factor_right K)) (D_law_sequence_right : Def P w K mg base k "_law_sequence_right" s_law_sequence_right ["_law_pot_here", "_law_counts_here", "_law_many"] (sp_law_sequence_right K)) (D_law_sum_right : Def P w K mg base k "_law_sum_right" s_law_sum_right ["_law_pot_here", "_law_counts_here", "_law_many"] (sp_law_sum_right K)) (D_law_twice_right : Def P w K mg base k "_law_twice_right" s_law_twice_right ["_law_pot_here", "_law_counts_here", "_law_many"] (sp_law_twice_right K)) : DefG P w K mg base (k + 1) "_law_right" s_law_right ["_law_pot_here"] (sp_law_right K) := by
  refine defG_of B sc_law_right (by rintro _ _ _ _ ⟨p, rfl, _⟩; rfl) (fun _ _ _ _ _ _ us hl => match us, hl with | [_], _ => rfl) fun f cdv A outer s H vs Q E hgd hr h => ?_
  obtain ⟨p, rfl, hp, q⟩ := h
  have hu := hr.units
  have hg2 : (A.deeper (envOfC "_law_right" (defScope s_law_right) s.heap.objs.size f cdv)).guards = some [] := hgd
  refine ⟨_, pss_cons (ps_par (i := 1) (j := 2) rfl sc_law_right.nd rfl rfl (by decide) rfl rfl (pa_cons (pe_d D_law_counts hr (by rfl) (pa_cons (pv 0) (pa_cons pe_int (pa_cons pe_int pa_nil)))) (pa_cons (pe_d D_law_draw hr (by rfl) (pa_cons (pv 0) (pa_cons pe_int pa_nil))) pa_nil)) (by rfl))
    (pss_cons (ps_set (i := 3) sc_law_right.nd rfl (.inl rfl) (pe_d D_law_draw hr (by rfl) (pa_cons (pv 0) (pa_cons (pe_callB (call_min2 rfl) (by rfl) M.min (by decide +kernel) (pa_cons pe_int (pa_cons (pe_op op_add (pe_op op_mul pe_int (pe_callB (cr_min rfl) (by rfl) M.min (by decide +kernel) (pa_cons (pv 1) pa_nil))) pe_int) pa_nil))) pa_nil))))
    (C8.pss_cut (ps_if (pt_cmpR op_eq (pv 2) pe_int (nomark _))
      (pss_one (ps_ret (pe_d D_law_factor_right hr (by rfl) (pa_cons (pv 0) (pa_cons (pv 1) (pa_cons (pv 3) pa_nil))))))
      (pss_nil))
    (C8.pss_cut (ps_if (pt_cmpR op_eq (pv 2) pe_int (nomark _))
      (pss_one (ps_ret (pe_d D_law_sequence_right hr (by rfl) (pa_cons (pv 0) (pa_cons (pv 1) (pa_cons (pv 3) pa_nil))))))
      (pss_nil))
    (pss_one (ps_ret (pe_ifExp (pt_cmpR op_eq (pv 2) pe_int (nomark _)) (pe_d D_law_sum_right hr (by rfl) (pa_cons (pv 0) (pa_cons (pv 1) (pa_cons (pv 3) pa_nil)))) (pe_d D_law_twice_right hr (by rfl) (pa_cons (pv 0) (pa_cons (pv 1) (pa_cons (pv 3) pa_nil)))))))))), ?_⟩
  refine ⟨_, rfl, p, 3, 8, rfl, hp, by omega, by omega, by omega, by omega, fun C H1 cs l1 l2 ec hp1 k1 nC hC => ?_⟩
  have nCp : C ≠ p := pot_ne hp nC
  refine ⟨_, rfl, p, 4, rfl, hp1, by omega, by omega, fun wy H2 w0 w1 hp2 k2 => ⟨_, _, rfl, ?_⟩⟩
  have hC2 := k2 _ _ nCp hC
  refine ⟨_, rfl, _, rfl, C, cs, rfl, SqL.of hC2, by omega, fun mn hmn hle => ?_⟩
  have mn0 := ec mn hmn
  refine ⟨_, _, rfl, rfl, .inl ⟨by omega, by omega⟩, _, _, rfl, rfl, _, _, rfl, p, _, rfl, hp2, by split <;> omega, by split <;> omega, fun m H3 m0 m1 hp3 k3 => ?_⟩
  have m2 : m ≤ 25 ∧ m ≤ 5 * mn := by
    split at m1 <;> omega
  have hC3 := k3 _ _ nCp hC2
  have kk := k1.trans (k2.trans k3)
  have S : Small cs m := ⟨l1, by omega, ec, m0, m2.1, fun c hc => by have := hle c hc; omega⟩
  clear hC hC2 k1 k2 k3 hp1 hp2 m1
  refine ⟨fun σ' H' => σ' = [some (.ref p), some (.ref C), some (.int wy), some (.int m)] ∧ Keep p H H' ∧ PotOk H' p ∧ H' C = some (.lst (VI cs)), ?_, ?_⟩
  · refine ⟨_, rfl, rfl, _, rfl, ite2 (fun e => ?_) (fun e => ⟨rfl, kk, hp3, hC3⟩)⟩
    exact ⟨_, rfl, _, rfl, _, rfl, p, C, cs, m, rfl, hp3, nCp, hC3, S, fun H' k => q H' (kk.trans k)⟩
  clear hC3 hp3 kk
  rintro _ H4 ⟨rfl, kk, hp4, hC4⟩
  refine ⟨fun σ' H' => σ' = [some (.ref p), some (.ref C), some (.int wy), some (.int m)] ∧ Keep p H H' ∧ PotOk H' p ∧ H' C = some (.lst (VI cs)), ?_, ?_⟩
  · refine ⟨_, rfl, rfl, _, rfl, ite2 (fun e => ?_) (fun e => ⟨rfl, kk, hp4, hC4⟩)⟩
    exact ⟨_, rfl, _, rfl, _, rfl, p, C, cs, m, rfl, hp4, nCp, hC4, S, fun H' k => q H' (kk.trans k)⟩
  clear hC4 hp4 kk
  rintro _ H5 ⟨rfl, kk, hp5, hC5⟩
  refine ⟨_, rfl, rfl, _, rfl, ite2 (fun e => ?_) (fun e => ?_)⟩
  · exact ⟨_, rfl, _, rfl, _, rfl, p, C, cs, m, rfl, hp5, nCp, hC5, S, fun H' k => q H' (kk.trans k)⟩
  · exact ⟨_, rfl, _, rfl, _, rfl, p, C, cs, m, rfl, hp5, nCp, hC5, S, fun H' k => q H' (kk.trans k)⟩
end
end K21

namespace K21
open PySem PySem.Spec PyProof.Rows L2 Fp
section
variable {P : Program} {w : World} {K : PySem.W.Frag} {mg : Str → Option Value} {base : Heap} {k : Nat}
def spLaw (K : PySem.W.Frag) : Sp := fun vs H Q _ => ∃ (a : Addr) (ns : List Int), vs = [.ref a] ∧ SqL K H a (VI ns) ∧ ns.length ≤ 63 ∧ ∀ H', Q (.bl true) H'
abbrev sLaw : Stmt := top 50
theorem sc_law : FnScope ["_law_script", "_law_k"] ["_law_script"] (defScope sLaw) := ⟨rfl, rfl, rfl, by decide +kernel, rfl, by decide +kernel, by decide +kernel⟩
theorem d_law (B : Bnd K mg "law" sLaw) (M : Mg2 mg) (DP : Def P w K mg base k "_law_pot" sPot ["_law_script", "_law_k"] (spPot K)) (DR : DefG P w K mg base k "_law_right" s_law_right ["_law_pot_here"] (sp_law_right K)) : DefG P w K mg base (k + 1) "law" sLaw ["_law_script"] (spLaw K) := by
  refine defG_of B sc_law (by rintro _ _ _ _ ⟨a, ns, rfl, _⟩; rfl) (fun _ _ _ _ _ _ us hl => match us, hl with | [_], _ => rfl) fun f cdv A outer s H vs Q E hgd hr h => ?_
  obtain ⟨a, ns, rfl, hS, hl, q⟩ := h
  have hg2 : (A.deeper (envOfC "law" (defScope sLaw) s.heap.objs.size f cdv)).guards = some [] := hgd
  refine ⟨_, pss_one (ps_ret (pe_callB (cr_all rfl) (by rfl) M.all (by decide +kernel) (pa_cons (pe_lc (own := [("_law_k", 1)]) (g := gName 1) (tt := tYes) rfl sc_law.nd
      (pi_range1 (by rfl) M.range (pa_cons (pe_callB (call_max2 rfl) (by rfl) M.max (by decide +kernel) (pa_cons pe_int (pa_cons (pe_callB (call_min2 rfl) (by rfl) M.min (by decide +kernel) (pa_cons pe_int (pa_cons (pe_callB call_len_seq (by rfl) M.len boot_len (pa_cons (pv 0) pa_nil)) pa_nil))) pa_nil))) pa_nil))
      (blkOk_by (own := [("_law_k", 1)]) (N := ["_law_script", "_law_k"]) (sc := defScope sLaw) (by decide +kernel)) (fun _ _ _ _ _ => pg_name (i := 1) sc_law.nd rfl (Or.inl rfl)) (fun _ _ _ _ _ => pts_nil)
      (fun _ _ _ _ _ => pe_dG DR hg2 hr (by rfl) (pa_cons (pe_d DP hr (by rfl) (pa_cons (pv 0) (pa_cons (pv 1) pa_nil))) pa_nil))) pa_nil))), ?_⟩
  have ln := vi_len ns
  refine ⟨_, rfl, a, _, rfl, .inl hS, 3, _, rfl, 1, _, rfl, _, rfl, ?_, ?_, fun D nD => ?_⟩
  · split <;> split <;> omega
  · split <;> split <;> omega
  generalize hn : (if (if (((VI ns).length : Int)) < 3 then (((VI ns).length : Int)) else 3) > 1 then (if (((VI ns).length : Int)) < 3 then (((VI ns).length : Int)) else 3) else (1 : Int)) = n
  have hn2 : n ≤ 3 := by rw [← hn]; split <;> split <;> omega
  refine lc_rg (lo := 0) (n := n.toNat) (fun _ => some (.bl true)) nD (Nat.le_of_lt (small (by omega))) (fun i H1 hi s1 Y N y nn => ?_) (fun H1 s1 hD1 => ?_)
  · refine ⟨rfl, _, rfl, _, rfl, a, ns, 0 + (i : Int), rfl, s1.seq hS, by omega, by omega, fun p H2 s2 np hp => ⟨p, rfl, hp, fun H3 k3 => ?_⟩⟩
    exact y _ _ (fun b o hb => k3 _ _ (ne_of_none hb np) (s2 _ _ hb)) rfl
  · rw [all_true] at hD1
    refine ⟨D, List.replicate n.toNat true, rfl, SqL.of hD1, ?_⟩
    rw [all_rep]
    exact q _
end
theorem bnd {K : PySem.W.Frag} {h : Heap} {mg : Str → Option Value} (X : K.In h) (G : h.Ns mainGlobals mg) {x : Str} {st : Stmt} {f : Addr} {oc kV dc pm cd ct : Value} {od an : Option Addr} {sl : Array (Option Value)} (a : PySem.W.nsIn K mainGlobals x = some (some (.ref f)))
    (l : K.lookup f = some ⟨oc, od, .func (PySem.W.fnOf x x (defArgs st) (defBody st) (defScope st) .none kV dc pm an cd ct), sl⟩) (c : PySem.W.codeIn K cd x = true) (k : PySem.W.keepIn K (.ref f) = true) : Bnd K mg x st :=
  ⟨f, _, PySem.W.mg_of X G a, fun_mk (st := st) l c k⟩
structure All (K : PySem.W.Frag) (mg : Str → Option Value) : Prop where
  g : Mg2 mg
  b8 : Bnd K mg "is_integer" sInteger
  b9 : Bnd K mg "is_count" sCount
  b10 : Bnd K mg "is_list" sList
  b11 : Bnd K mg "check_many" sMany
  b16 : Bnd K mg "common_count" sCommon
  b17 : Bnd K mg "is_met" sIsMet
  b18 : Bnd K mg "met" sMet
  b19 : Bnd K mg "least_counts" sLeast
  b20 : Bnd K mg "is_counts" sIsCounts
  b21 : Bnd K mg "check_counts" sCheck
  b22 : Bnd K mg "met_table" sTable
  b23 : Bnd K mg "is_in_table" s_is_in_table
  b24 : Bnd K mg "is_next_met" sNext
  b25 : Bnd K mg "least_of" sLeastOf
  b26 : Bnd K mg "unmet" sUnmet
  b31 : Bnd K mg "ways" s_ways
  b32 : Bnd K mg "a_way" s_a_way
  b33 : Bnd K mg "lots_of_ways" s_lots_of_ways
  b34 : Bnd K mg "turning_counts" s_turning_counts
  b35 : Bnd K mg "way_number" s_way_number
  b36 : Bnd K mg "following" s_following
  b37 : Bnd K mg "are_neighbours" s_are_neighbours
  b38 : Bnd K mg "last_to_turn" s_last_to_turn
  b39 : Bnd K mg "lot_number" s_lot_number
  b41 : Bnd K mg "_law_pot" sPot
  b42 : Bnd K mg "_law_draw" sDraw
  b43 : Bnd K mg "_law_pick" sPick
  b44 : Bnd K mg "_law_counts" sCounts
  b45 : Bnd K mg "_law_factor_right" s_law_factor_right
  b46 : Bnd K mg "_law_sequence_right" s_law_sequence_right
  b47 : Bnd K mg "_law_sum_right" s_law_sum_right
  b48 : Bnd K mg "_law_twice_right" s_law_twice_right
  b49 : Bnd K mg "_law_right" s_law_right
  b50 : Bnd K mg "law" sLaw
theorem all_law {P : Program} {w : World} {K : PySem.W.Frag} {mg : Str → Option Value} {base : Heap} (A : All K mg) : DefG P w K mg base 10 "law" sLaw ["_law_script"] (spLaw K) := by
  have L_draw : Def P w K mg base 1 _ _ _ _ := d_draw (k := 0) A.b42 A.g.toMg 
  have L_counts : Def P w K mg base 2 _ _ _ _ := d_counts (k := 1) A.b44 A.g.toMg L_draw
  have D_is_list : Def P w K mg base 1 _ _ _ _ := d_list (k := 0) A.b10 A.g.toMg 
  have D_is_integer : Def P w K mg base 1 _ _ _ _ := d_integer (k := 0) A.b8 A.g.toMg 
  have D_is_count : Def P w K mg base 2 _ _ _ _ := d_count (k := 1) A.b9  D_is_integer
  have D_is_counts : Def P w K mg base 3 _ _ _ _ := d_isCounts (k := 2) A.b20 A.g.toMg (D_is_list.mono (by omega)) D_is_count
  have D_check_counts : Def P w K mg base 4 _ _ _ _ := d_check (k := 3) A.b21  D_is_counts
  have D_common_count : Def P w K mg base 5 _ _ _ _ := d_common (k := 4) A.b16 A.g.toMg D_check_counts
  have D_check_many : Def P w K mg base 3 _ _ _ _ := d_many (k := 2) A.b11  D_is_count
  have D_is_next_met : Def P w K mg base 1 _ _ _ _ := d_next (k := 0) A.b24 A.g.toMg 
  have D_met_table : Def P w K mg base 2 _ _ _ _ := d_table (k := 1) A.b22 A.g.toMg D_is_next_met
  have D_is_met : Def P w K mg base 5 _ _ _ _ := d_isMet (k := 4) A.b17 A.g.toMg D_check_counts (D_check_many.mono (by omega)) (D_met_table.mono (by omega))
  have D_met : Def P w K mg base 5 _ _ _ _ := d_met (k := 4) A.b18 A.g.toMg D_check_counts (D_check_many.mono (by omega)) (D_met_table.mono (by omega))
  have D_least_of : Def P w K mg base 3 _ _ _ _ := d_leastOf (k := 2) A.b25 A.g.toMg D_met_table
  have D_least_counts : Def P w K mg base 5 _ _ _ _ := d_least (k := 4) A.b19  D_check_counts (D_least_of.mono (by omega))
  have D_way_number : Def P w K mg base 1 _ _ _ _ := d_way_number (k := 0) A.b35 A.g 
  have D_following : Def P w K mg base 3 _ _ _ _ := d_following (k := 2) A.b36 A.g D_met_table
  have D_ways : Def P w K mg base 5 _ _ _ _ := d_ways (k := 4) A.b31 A.g (D_check_many.mono (by omega)) D_check_counts (D_way_number.mono (by omega)) (D_following.mono (by omega))
  have D_a_way : Def P w K mg base 5 _ _ _ _ := d_a_way (k := 4) A.b32 A.g (D_check_many.mono (by omega)) D_check_counts (D_following.mono (by omega))
  have D_are_neighbours : Def P w K mg base 1 _ _ _ _ := d_are_neighbours (k := 0) A.b37 A.g 
  have D_lots_of_ways : Def P w K mg base 6 _ _ _ _ := d_lots_of_ways (k := 5) A.b33 A.g D_ways (D_are_neighbours.mono (by omega))
  have L_factor_right : Def P w K mg base 7 _ _ _ _ := d_law_factor_right (k := 6) A.b45 A.g (D_common_count.mono (by omega)) (D_is_met.mono (by omega)) (D_met.mono (by omega)) (D_least_counts.mono (by omega)) (D_ways.mono (by omega)) (D_a_way.mono (by omega)) D_lots_of_ways (L_draw.mono (by omega))
  have D_unmet : Def P w K mg base 2 _ _ _ _ := d_unmet (k := 1) A.b26 A.g D_is_next_met
  have D_last_to_turn : Def P w K mg base 6 _ _ _ _ := d_last_to_turn (k := 5) A.b38 A.g D_common_count (D_unmet.mono (by omega))
  have D_is_in_table : Def P w K mg base 1 _ _ _ _ := d_is_in_table (k := 0) A.b23 A.g 
  have D_lot_number : Def P w K mg base 2 _ _ _ _ := d_lot_number (k := 1) A.b39 A.g D_is_in_table
  have D_turning_counts : Def P w K mg base 7 _ _ _ _ := d_turning_counts (k := 6) A.b34 A.g (D_check_counts.mono (by omega)) (D_met_table.mono (by omega)) D_last_to_turn (D_lot_number.mono (by omega))
  have L_sequence_right : Def P w K mg base 8 _ _ _ _ := d_law_sequence_right (k := 7) A.b46 A.g (D_met.mono (by omega)) (D_ways.mono (by omega)) D_turning_counts (L_draw.mono (by omega))
  have L_pick : Def P w K mg base 2 _ _ _ _ := d_pick (k := 1) A.b43 A.g.toMg L_draw
  have L_sum_right : Def P w K mg base 6 _ _ _ _ := d_law_sum_right (k := 5) A.b47 A.g D_common_count D_met D_least_counts D_ways (L_pick.mono (by omega))
  have L_twice_right : Def P w K mg base 8 _ _ _ _ := d_law_twice_right (k := 7) A.b48 A.g (D_ways.mono (by omega)) (D_lots_of_ways.mono (by omega)) D_turning_counts (L_draw.mono (by omega))
  have L_right : DefG P w K mg base 9 _ _ _ _ := d_law_right (k := 8) A.b49 A.g (L_draw.mono (by omega)) (L_counts.mono (by omega)) (L_factor_right.mono (by omega)) L_sequence_right (L_sum_right.mono (by omega)) L_twice_right
  have L_pot : Def P w K mg base 1 _ _ _ _ := d_pot (k := 0) A.b41 A.g.toMg 
  exact d_law (k := 9) A.b50 A.g (L_pot.mono (by omega)) L_right
theorem mg_int {K : PySem.W.Frag} {h : Heap} {mg : Str → Option Value} {x : Str} {z : Int} {t : Tok} (X : K.In h) (G : h.Ns mainGlobals mg) (a : PySem.W.nsIn K mainGlobals x = some (some (.int z t))) : ∃ t, mg x = some (.int z t) := ⟨t, PySem.W.mg_of X G a⟩
theorem fun_fd {K : PySem.W.Frag} {x : Str} {st : Stmt} {f : Addr} {fd fd' : FuncData} (a : Fun K x x st f fd) (b : Fun K x x st f fd') : fd = fd' := by
  obtain ⟨_, _, _, _, _, _, _, _, _, _, l1, _⟩ := a.ex
  obtain ⟨_, _, _, _, _, _, _, _, _, _, l2, _⟩ := b.ex
  rw [l1] at l2
  cases l2
  rfl
theorem fin {l : PySem.W.OpenLaw} {w : World} {K : PySem.W.Frag} {mg : Str → Option Value} {fa : Addr} (hfa : mg "law" = some (.ref fa)) (A : All K mg) :
    ∃ fd : FuncData, (∀ (s : Shared) (v : Value), BindsTo s fd ⟨[v], []⟩ [("_law_script", v)]) ∧ ∀ base : Heap, K.In base → base.Ns mainGlobals mg → FnG l.prog w K mg base CX0 10 fa fd ["_law_script"] (spLaw K) := by
  obtain ⟨f, fd, hm, F⟩ := A.b50.ex
  obtain rfl : f = fa := by
    rw [hfa] at hm
    cases hm
    rfl
  refine ⟨fd, fun s v => ?_, fun base _ _ => ?_⟩
  · obtain ⟨_, _, _, _, _, _, _, _, _, rfl, _⟩ := F.ex
    exact .of_eq rfl
  · obtain ⟨f', fd', hm', F', _, ok⟩ := (all_law (P := l.prog) (w := w) (base := base) A).ex
    obtain rfl : f = f' := by
      rw [hm] at hm'
      cases hm'
      rfl
    rw [fun_fd F F']
    exact ok
end K21
open PySem PySem.W PyProof.Rows
set_option maxRecDepth 100000 in
set_option maxHeartbeats 0 in
theorem PySem.Challenge.cw_fromplaces_k28_whole_lists_of_counts_cha_holds : PySem.Challenge.rw_fromplaces_k28_whole_lists_of_counts_cha.Holds := by
  w_on; o_law; k_head; (case hw => w_witness2)
  k_fill
  refine Fp.walk_ofG (l := PySem.Challenge.rw_fromplaces_k28_whole_lists_of_counts_cha) (n := 63) (k := 10) (x := "_law_script") (sp := K21.spLaw) rfl (by decide) rfl ⟨rfl, by decide, by decide⟩ (fun w h Y => PySem.W.kIn_of Y) ?F (fun K H a ns hl _ hS => ⟨a, ns, rfl, hS, hl, fun _ => rfl⟩)
  case F =>
    intro w mg fa h KX G hmg
    refine' K21.fin hmg ?_
    refine' ⟨⟨⟨?_, ?_, ?_, ?_, ?_, ?_, ?_, ?_, ?_, ?_, ?_, ?_, ?_, ?_, ?_, ?_, ?_, ?_, ?_, ?_⟩, ?_, ?_, ?_, ?_, ?_, ?_⟩, ?_, ?_, ?_, ?_, ?_, ?_, ?_, ?_, ?_, ?_, ?_, ?_, ?_, ?_, ?_, ?_, ?_, ?_, ?_, ?_, ?_, ?_, ?_, ?_, ?_, ?_, ?_, ?_, ?_, ?_, ?_, ?_, ?_, ?_⟩
    (refine' PySem.W.mg_none_of KX G ?a; (case a => k_is))
    (refine' PySem.W.mg_none_of KX G ?a; (case a => k_is))
    (refine' PySem.W.mg_none_of KX G ?a; (case a => k_is))
    (refine' PySem.W.mg_none_of KX G ?a; (case a => k_is))
    (refine' PySem.W.mg_none_of KX G ?a; (case a => k_is))
    (refine' PySem.W.mg_none_of KX G ?a; (case a => k_is))
    (refine' PySem.W.mg_none_of KX G ?a; (case a => k_is))
    (refine' PySem.W.mg_none_of KX G ?a; (case a => k_is))
    (refine' PySem.W.mg_none_of KX G ?a; (case a => k_is))
    (refine' PySem.W.mg_none_of KX G ?a; (case a => k_is))
    (refine' PySem.W.mg_none_of KX G ?a; (case a => k_is))
    (refine' PySem.W.mg_none_of KX G ?a; (case a => k_is))
    (refine' PySem.W.mg_none_of KX G ?a; (case a => k_is))
    (refine' PySem.W.mg_none_of KX G ?a; (case a => k_is))
    (refine' PySem.W.mg_none_of KX G ?a; (case a => k_is))
    (refine' PySem.W.mg_none_of KX G ?a; (case a => k_is))
    (refine' PySem.W.mg_of KX G ?a; (case a => k_is))
    (refine' K21.mg_int KX G ?a; (case a => k_is))
    (refine' K21.mg_int KX G ?a; (case a => k_is))
    (refine' K21.mg_int KX G ?a; (case a => k_is))
    (refine' PySem.W.mg_none_of KX G ?a; (case a => k_is))
    (refine' PySem.W.mg_none_of KX G ?a; (case a => k_is))
    (refine' PySem.W.mg_none_of KX G ?a; (case a => k_is))
    (refine' K21.mg_int KX G ?a; (case a => k_is))
    (refine' K21.mg_int KX G ?a; (case a => k_is))
    (refine' K21.mg_int KX G ?a; (case a => k_is))
    all_goals (refine' K21.bnd KX G ?a ?l ?c ?k; (case a => k_is); (case l => k_is); (case c => k_is); (case k => k_is))
