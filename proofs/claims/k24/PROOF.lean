import PyProof.Rows.All
import Wide.All
import OpenK.AllK
import Wide.FinOn
import HandS.ForMost
import HandS.IsInst
import HandS.Gcd
import HandS.Style
import HandS.SetFor
import HandS.Strs
import PyProof.ReprRoads
import KE.Datum
import KE.SortData
import KE.GoesMore
import KE.GoesZip
import HandS.Walk
import HandS.TupAny
import HandS.Star
import HandS.Deep
import HandS.Codes
import HandS.Conv
import KE.GoesEnum
import HandS.SortInts
import HandS.OwnEq
import HandS.Property
import PyProof.ReprNest
import PyProof.ReprReads
import PyProof.Rows.RegStrFacts
import KE.KOpsOwn
import PyProof.ReprBulk
import HandS.FStr
import HandS.Defaults
import KE.RegKIsAll
import PySem.Challenge.RW_fromplaces_k24_any_value_as_a_way
set_option Elab.async false
set_option linter.all false
set_option maxRecDepth 100000
set_option maxHeartbeats 8000000
namespace Fp
open PySem PySem.Spec PyProof.Rows L2

/-! ### heaps -/
theorem same_new {H : Hp} {p : Addr} {o : HO} (h : H p = none) : Same H (upd H p o) := fun b u q => by rw [upd_ne (ne_of_none q h)]; exact q
theorem same_sqT {K : PySem.W.Frag} {H H' : Hp} {a : Addr} {xs : List V} (e : Same H H') (h : SqT K H a xs) : SqT K H' a xs := by
  rcases h with (h | ⟨o, h⟩) | h
  · exact Or.inl (Or.inl (e _ _ h))
  · exact Or.inl (Or.inr ⟨o, e _ _ h⟩)
  · exact Or.inr h
/-- a list or a tuple that is read -/
def Sq (K : PySem.W.Frag) (H : Hp) (a : Addr) (xs : List V) : Prop := SqL K H a xs ∨ SqT K H a xs
theorem Sq.same {K : PySem.W.Frag} {H H' : Hp} {a : Addr} {xs : List V} (h : Sq K H a xs) (e : Same H H') : Sq K H' a xs := h.imp (fun q => e.seq q) (fun q => same_sqT e q)
theorem sq_lst {K : PySem.W.Frag} {H : Hp} {a : Addr} {xs : List V} (h : H a = some (.lst xs)) : Sq K H a xs := Or.inl (SqL.of h)
theorem sq_tup {K : PySem.W.Frag} {H : Hp} {a : Addr} {xs : List V} (h : H a = some (.tup xs)) : Sq K H a xs := Or.inr (SqT.of h)
/-- all but p as it was -/
def Keep (p : Addr) (H H' : Hp) : Prop := ∀ b o, b ≠ p → H b = some o → H' b = some o
theorem Keep.refl (p : Addr) (H : Hp) : Keep p H H := fun _ _ _ h => h
theorem Keep.trans {p : Addr} {H H1 H2 : Hp} (a : Keep p H H1) (b : Keep p H1 H2) : Keep p H H2 := fun c o n h => b c o n (a c o n h)
theorem Keep.of {p : Addr} {H H' : Hp} (a : Same H H') : Keep p H H' := fun c o _ h => a c o h
theorem keep_upd {p : Addr} {H : Hp} {o : HO} : Keep p H (upd H p o) := fun b u n q => by rw [upd_ne n]; exact q

/-! ### what is walked: a list or a tuple -/
section
variable {X : Cx} {tg : Expr}
theorem pi_or {l : Expr} {w1 w2 : TI} (h1 : PI X tg l w1) (h2 : PI X tg l w2) : PI X tg l (fun σ H R => w1 σ H R ∨ w2 σ H R) :=
  ⟨fun pins s σ H R I h => h.elim (fun q => h1.run pins s σ H R I q) (fun q => h2.run pins s σ H R I q)⟩
def iSq (K : PySem.W.Frag) (tl : TE) : TI := fun σ H R => iList K tl σ H R ∨ iTup K tl σ H R
theorem pi_sq {l : Expr} {tl : TE} (hl : PE X l tl) : PI X tg l (iSq X.K tl) := pi_or (pi_list hl) (pi_tup hl)
end
section
variable {K : PySem.W.Frag} {tl : TE} {a : Addr} {xs : List V} {g : TG} {tt : TT} {te : TE} {vs : List Nat} {σ : L2.St} {H : Hp} {Q : VK} {tb : TS} {D : Ends}
/-- for x in a list or a tuple that stood at H0 and stands still -/
theorem for_sq {H0 : Hp} (Pv : Nat → L2.St → Hp → Prop) (hv : ∀ R : V → Hp → Prop, R (.ref a) H → tl σ H R) (hS : Sq K H0 a xs) (e0 : Same H0 H) (h0 : Pv 0 σ H) (hl : ∀ i σ' H', Pv i σ' H' → Same H0 H')
    (hs : ∀ i x σ H, xs[i]? = some x → Pv i σ H → g x σ H fun σ2 H2 => tb { D with nx := Pv (i + 1), ct := Pv (i + 1), bk := D.nx } σ2 H2) (hd : ∀ σ H, Pv xs.length σ H → D.nx σ H) : tFor (iSq K tl) g tb D σ H := by
  rcases hS with hS | hS
  · exact Or.inl (hv _ ⟨a, rfl, ⟨xs, e0.seq hS⟩, for_list (xs := xs) Pv h0 (fun i σ' H' _ p => (hl i σ' H' p).seq hS) hs hd⟩)
  · exact Or.inr (hv _ ⟨a, rfl, ⟨xs, same_sqT e0 hS⟩, for_tup (xs := xs) Pv h0 (fun i σ' H' _ p => same_sqT (hl i σ' H' p) hS) hs hd⟩)

/-! ### comprehensions whose elements leave what is tracked as it was: index i yields f i (or is left out) -/
theorem fm_succ {α : Type} (f : Nat → Option α) (i : Nat) : (List.range (i + 1)).filterMap f = (List.range i).filterMap f ++ (match f i with | some y => [y] | none => []) := by
  rw [List.range_succ, List.filterMap_append]
  cases e : f i <;> simp [e]
theorem fm_len {α : Type} (f : Nat → Option α) (n : Nat) : ((List.range n).filterMap f).length ≤ n := by
  have q := List.length_filterMap_le f (List.range n)
  rw [List.length_range] at q
  exact q
/-- the part of a reading that a turn of such a comprehension is -/
def LcTurn (f : Nat → Option V) (g : TG) (tt : TT) (te : TE) (vs : List Nat) (σ : L2.St) (i : Nat) (x : V) (H0 H1 : Hp) : Prop :=
  ∀ (Y : V → Hp → Prop) (N : Hp → Prop), (∀ y H2, Same H0 H2 → f i = some y → Y y H2) → (∀ H2, Same H0 H2 → f i = none → N H2) →
    g x (wipe σ vs) H1 fun σ2 H2 => wipe σ2 vs = wipe σ vs ∧ tt σ2 H2 fun b H3 => if b = true then te σ2 H3 Y else N H3
/-- the invariant -/
def LcInv (f : Nat → Option V) (H : Hp) (Dd : Addr) (i : Nat) (H1 : Hp) : Prop := Same H H1 ∧ H1 Dd = some (.lst ((List.range i).filterMap f))
theorem LcInv.start {f : Nat → Option V} {Dd : Addr} (hD : H Dd = none) : LcInv f H Dd 0 (upd H Dd (.lst [])) := ⟨same_new hD, by rw [upd_same]; rfl⟩
theorem LcInv.turn {f : Nat → Option V} {Dd : Addr} (hD : H Dd = none) {i : Nat} (hz : i < sizeLine) {x : V} {H1 H0 : Hp} (h : LcInv f H Dd i H1) (h0 : Same H1 H0) (t : LcTurn f g tt te vs σ i x H1 H0) :
    g x (wipe σ vs) H0 fun σ2 H2 => wipe σ2 vs = wipe σ vs ∧ tt σ2 H2 fun b H3 =>
      if b = true then te σ2 H3 fun y H4 => ∃ acc, H4 Dd = some (.lst acc) ∧ acc.length < sizeLine ∧ LcInv f H Dd (i + 1) (upd H4 Dd (.lst (acc ++ [y]))) else LcInv f H Dd (i + 1) H3 := by
  refine t _ _ (fun y H2 sm e => ?_) fun H2 sm e => ?_
  · refine ⟨_, sm _ _ h.2, Nat.lt_of_le_of_lt (fm_len f i) hz, fun b o q => ?_, ?_⟩
    · rw [upd_ne (ne_of_none q hD)]
      exact sm _ _ (h.1 _ _ q)
    · rw [upd_same, fm_succ, e]
  · refine ⟨fun b o q => sm _ _ (h.1 _ _ q), ?_⟩
    rw [sm _ _ h.2, fm_succ, e, List.append_nil]
theorem lc_sq (f : Nat → Option V) (hv : ∀ R : V → Hp → Prop, R (.ref a) H → tl σ H R) (hS : Sq K H a xs) (hz : xs.length ≤ sizeLine)
    (hs : ∀ i x H1, xs[i]? = some x → Same H H1 → LcTurn f g tt te vs σ i x H1 H1)
    (hd : ∀ Dd H1, Same H H1 → H Dd = none → H1 Dd = some (.lst ((List.range xs.length).filterMap f)) → Q (.ref Dd) H1) : tLc (iSq K tl) g tt te vs σ H Q := by
  have hi : ∀ {i : Nat} {x : V}, xs[i]? = some x → i < sizeLine := fun {i x} e => Nat.lt_of_lt_of_le (List.getElem?_eq_some_iff.mp e).1 hz
  rcases hS with hS | hS
  · exact Or.inl (hv _ ⟨a, rfl, ⟨xs, hS⟩, fun Dd hD => lc_list (xs := xs) (LcInv f H Dd) (LcInv.start hD) (fun i H1 _ p => p.1.seq hS)
      (fun i x H1 hx p => p.turn hD (hi hx) (Same.refl _) (hs i x H1 hx p.1)) fun H1 p => hd Dd H1 p.1 hD p.2⟩)
  · exact Or.inr (hv _ ⟨a, rfl, ⟨xs, hS⟩, fun Dd hD => lc_tup (xs := xs) (LcInv f H Dd) (LcInv.start hD) (fun i H1 _ p => same_sqT p.1 hS)
      (fun i x H1 hx p => p.turn hD (hi hx) (Same.refl _) (hs i x H1 hx p.1)) fun H1 p => hd Dd H1 p.1 hD p.2⟩)
/-- over a range: ahead of it stand the range's own words -/
theorem lc_rg {lo : Int} {n : Nat} {Dd : Addr} {Qd : Hp → Prop} (f : Nat → Option V) (hD : H Dd = none) (hz : n ≤ sizeLine)
    (hs : ∀ i H1, i < n → Same H H1 → LcTurn f g tt te vs σ i (.int (lo + i)) H1 H1)
    (hd : ∀ H1, Same H H1 → H1 Dd = some (.lst ((List.range n).filterMap f)) → Qd H1) : ∃ W : Nat → Nat → Hp → Prop, (∃ m, W 0 m (upd H Dd (.lst []))) ∧ ∀ i m H, W i m H →
      ((Itr lo n).stop i H ∧ Qd H) ∨ ((Itr lo n).go i H ∧ ∃ Nx : Hp → Prop, (∀ H', Nx H' → ∃ m', m' < m ∧ W (i + 1) m' H') ∧ ∀ x H', (Itr lo n).yld i H x H' → g x (wipe σ vs) H' fun σ2 H2 => wipe σ2 vs = wipe σ vs ∧ tt σ2 H2 fun b H3 =>
        if b = true then te σ2 H3 fun y H4 => ∃ acc, H4 Dd = some (.lst acc) ∧ acc.length < sizeLine ∧ Nx (upd H4 Dd (.lst (acc ++ [y]))) else Nx H3) :=
  lc_range (lo := lo) (n := n) (LcInv f H Dd) (LcInv.start hD) (fun i H1 hi p => p.turn hD (Nat.lt_of_lt_of_le hi hz) (Same.refl _) (hs i H1 hi p.1)) fun H1 p => hd H1 p.1 p.2
/-- over enumerate of a list -/
theorem lc_en {Dd : Addr} {Qd : Hp → Prop} (f : Nat → Option V) (hS : SqL K H a xs) (hD : H Dd = none) (hz : xs.length ≤ sizeLine)
    (hs : ∀ i x H1 T, xs[i]? = some x → Same H H1 → H1 T = none → LcTurn f g tt te vs σ i (.ref T) H1 (upd H1 T (.tup [.int (i : Nat), x])))
    (hd : ∀ H1, Same H H1 → H1 Dd = some (.lst ((List.range xs.length).filterMap f)) → Qd H1) : ∃ W : Nat → Nat → Hp → Prop, (∃ m, W 0 m (upd H Dd (.lst []))) ∧ ∀ i m H, W i m H →
      ((Ite K a).stop i H ∧ Qd H) ∨ ((Ite K a).go i H ∧ ∃ Nx : Hp → Prop, (∀ H', Nx H' → ∃ m', m' < m ∧ W (i + 1) m' H') ∧ ∀ x H', (Ite K a).yld i H x H' → g x (wipe σ vs) H' fun σ2 H2 => wipe σ2 vs = wipe σ vs ∧ tt σ2 H2 fun b H3 =>
        if b = true then te σ2 H3 fun y H4 => ∃ acc, H4 Dd = some (.lst acc) ∧ acc.length < sizeLine ∧ Nx (upd H4 Dd (.lst (acc ++ [y]))) else Nx H3) := by
  refine ⟨fun i m H1 => m = xs.length - i ∧ i ≤ xs.length ∧ LcInv f H Dd i H1, ⟨xs.length, rfl, Nat.zero_le _, LcInv.start hD⟩, ?_⟩
  rintro i m H1 ⟨rfl, hi, p⟩
  have q : SqL K H1 a xs := p.1.seq hS
  by_cases hlt : i < xs.length
  · have hx : xs[i]? = some xs[i] := List.getElem?_eq_getElem hlt
    refine Or.inr ⟨⟨xs, xs[i], q, hx⟩, LcInv f H Dd (i + 1), fun H' p' => ⟨xs.length - (i + 1), by omega, rfl, hlt, p'⟩, ?_⟩
    rintro v H' ⟨T, x, rfl, hT, rfl, hy⟩
    have ex : x = xs[i] := Option.some.inj ((hy xs q).symm.trans hx)
    subst ex
    exact p.turn hD (Nat.lt_of_lt_of_le hlt hz) (same_new hT) (hs i _ H1 T hx p.1 hT)
  · have e : i = xs.length := by omega
    subst e
    exact Or.inl ⟨⟨xs, q, Nat.le_refl _⟩, hd H1 p.1 p.2⟩
end
/-- from an index to the items -/
theorem fm_take {α : Type} (xs : List α) (h : α → Option V) : ∀ n, (List.range n).filterMap (fun i => (xs[i]?).bind h) = (xs.take n).filterMap h
  | 0 => by rw [List.take_zero]; rfl
  | n + 1 => by
    rw [fm_succ, fm_take xs h n, List.take_add_one, List.filterMap_append]
    cases e : xs[n]? with
    | none => rfl
    | some x =>
      cases e2 : h x <;> simp [e2]
theorem fm_all {α : Type} (xs : List α) (h : α → Option V) : (List.range xs.length).filterMap (fun i => (xs[i]?).bind h) = xs.filterMap h := by
  rw [fm_take, List.take_length]
end Fp

namespace Fp
open PySem PySem.Spec PyProof.Rows L2

/-! ### isinstance(x, (list, tuple)) -/
theorem tyx_of {K : PySem.W.Frag} {H : Hp} {a : Addr} {xs : List V} (h : Sq K H a xs) : TyX K H (.ref a) (.type "list") ∨ TyX K H (.ref a) (.type "tuple") := by
  rcases h with ((h | ⟨o, h⟩) | ⟨o, its, n, hk, hc, _⟩) | ((h | ⟨o, h⟩) | ⟨o, its, n, hk, hc, _⟩)
  · exact Or.inl (.base (.lst h))
  · exact Or.inl (.base (.frz h))
  · exact Or.inl (.kList hk hc)
  · exact Or.inr (.base (.tup h))
  · exact Or.inr (.fTuple h)
  · exact Or.inr (.kTuple hk hc)
theorem kit_lt {K : PySem.W.Frag} : PySem.W.kitAny K (.type "list") [.type "list", .type "tuple"] = some true ∧ PySem.W.kitAny K (.type "tuple") [.type "list", .type "tuple"] = some true := by
  refine ⟨kitAny_cons (kit_ty (r := true) (by decide +kernel)) (fun z => nomatch z) (fun _ => rfl), ?_⟩
  exact kitAny_cons (kit_ty (r := false) (by decide +kernel)) (fun _ => kitAny_cons (kit_ty (r := true) (by decide +kernel)) (fun z => nomatch z) (fun _ => rfl)) (fun z => nomatch z)
theorem isi_lt {K : PySem.W.Frag} {H : Hp} {a tp : Addr} {xs : List V} {Q : VK} (h : Sq K H a xs) (ht : H tp = some (.tup [.ty "list", .ty "tuple"])) (q : Q (.bl true) H) : rIsiT K [.ref a, .ref tp] H Q := by
  rcases tyx_of h with t | t
  · exact ⟨_, tp, _, _, _, true, rfl, ht, .cons (.ty _) (.cons (.ty _) .nil), t, kit_lt.1, q⟩
  · exact ⟨_, tp, _, _, _, true, rfl, ht, .cons (.ty _) (.cons (.ty _) .nil), t, kit_lt.2, q⟩
theorem kit_int {K : PySem.W.Frag} : PySem.W.kitOne K (.type "int") (.type "int") = some true := kit_ty (by decide +kernel)
theorem kit_int_bool {K : PySem.W.Frag} : PySem.W.kitOne K (.type "int") (.type "bool") = some false := kit_ty (by decide +kernel)
theorem isi_int {K : PySem.W.Frag} {H : Hp} {i : Int} {Q : VK} (q : Q (.bl true) H) : rIsi K [.int i, .ty "int"] H Q := ⟨_, _, _, _, true, rfl, .ty _, .base (.int i), kit_int, q⟩
theorem isi_bool {K : PySem.W.Frag} {H : Hp} {i : Int} {Q : VK} (q : Q (.bl false) H) : rIsi K [.int i, .ty "bool"] H Q := ⟨_, _, _, _, false, rfl, .ty _, .base (.int i), kit_int_bool, q⟩

/-! ### len of a list or a tuple -/
theorem len_sq {K : PySem.W.Frag} {H : Hp} {a : Addr} {xs : List V} {Q : VK} (h : Sq K H a xs) (q : Q (.int xs.length) H) : ∃ p ys, [V.ref a] = [.ref p] ∧ (SqL K H p ys ∨ SqT K H p ys) ∧ Q (.int ys.length) H := ⟨a, xs, rfl, h, q⟩

/-! ### set(..) of a list or a tuple of ints -/
abbrev eset (w : World) : Obj := { cls := .type "set", dict := none, data := .set #[] 0 (.fresh 0 0 (!w.params.followText "set-order")) }
section
variable {P : Program} {w : World} {A : Around} {E : Value → Shared → Prop} {s : Shared}
theorem call_set_lstI {l : Addr} {xs : Array Value} (ns : List Int) {Q : Value → Shared → Prop} (hh : A.handled = none) (hl : s.heap.IsList l xs) (hi : IntsAre xs.toList ns) (hb : ns.length + 1 < scanBound)
    (q : ∀ (h' : Heap) (tk c : Nat), SetR w h' s.heap.objs.size (fun j => decide (j ∈ ns)) c → c ≤ ns.length → (∀ b o, s.heap.get? b = some o → h'.get? b = some o) → Q (.ref s.heap.objs.size) { s with heap := h', toks := tk }) :
    wpAny (model P w) A (call (.type "set") [.ref l]) Q E s := by
  have sz : xs.size = ns.length := by have z := IntsAre.length hi; rw [Array.length_toList] at z; exact z
  obtain ⟨c0, tl0, mro0⟩ := F.called_set.mro
  have f1 := F.called_set.made
  have f2 := F.called_set.sub
  have f3 := F.called_set.notType
  have f4 := F.called_set.canCreate
  have f5 := F.typeCall_set_1 (.ref l)
  refine wpAny_call (codeAny_of_tree (wpAny_pure ⟨Code.quiet_builtin _ (by decide +kernel), codeAny_builtin F.entry_type_call ?_⟩))
  rw [Around.under_plain (weight_type_call_type "set" [.ref l] []) rfl]
  repeat (any_goals (first | assumption | wp_step))
  refine codeAny_mono (code_set_led1 (.ref l) (E := E) (Q₁ := fun ob sb => ob = .ref s.heap.objs.size ∧ sb = { s with heap := s.heap.push (eset w) }) ⟨rfl, rfl⟩) ?_
  rintro (e | fl) s1 hr
  · exact hr
  cases fl with
  | next => exact hr.elim
  | brk => exact hr.elim
  | cont => exact hr.elim
  | ret ob =>
    obtain ⟨rfl, rfl⟩ := hr
    have g0 : (s.heap.push (eset w)).get? s.heap.objs.size = some (eset w) := Heap.get?_push_size _ rfl
    have gT : Shared.TypeIs { s with heap := s.heap.push (eset w) } (.ref s.heap.objs.size) "set" := ⟨_, g0, rfl⟩
    have i1 := F.called_set.init.lookup
    have i2 := F.called_set.init.bind (.ref s.heap.objs.size)
    repeat (any_goals (first | assumption | wp_step))
    refine codeAny_mono (codeAny_call_builtin (R := wants (fun r sb => r = .none ∧ ∃ h' tk c, sb = { s with heap := h', toks := tk } ∧ SetR w h' s.heap.objs.size (fun j => decide (j ∈ ns)) c ∧ c ≤ ns.length ∧
        (∀ b o, s.heap.get? b = some o → h'.get? b = some o)) E) F.called_set.init.plain F.entry_set_init (check_set_init_1 gT ?_)) ?_
    · obtain ⟨⟨ocls, odict, odata, oslots⟩, hol, hcl, nl, hdl⟩ := hl
      simp only at hcl hdl
      subst hcl; subst hdl
      have hl0 : l < s.heap.objs.size := Heap.lt_size hol
      have hol1 : (s.heap.push (eset w)).get? l = some { cls := .type "list", dict := odict, data := .seq xs nl, slots := oslots } := Heap.get?_push_of_some _ hol
      have hl1 : (s.heap.push (eset w)).IsList l xs := ⟨_, hol1, rfl, nl, rfl⟩
      have u1 := F.sub_list_set
      have u2 := F.sub_list_frozenset
      have u3 : (Value.type "list" == Value.type "dict") = false := by decide
      unfold Builtin.«set.__init__» noKeywords Builtin.Frozenset.updateFrom
      generalize hPI : pyIter = PI
      wp_walk
      subst hPI
      refine wpAny_pyIter_list hl1 ?_
      refine wpAny_bind (wpAny_runValue ?_)
      have z1 : (s.heap.push (eset w)).objs.size = s.heap.objs.size + 1 := Heap.size_push ..
      have n1 : l ≠ (s.heap.push (eset w)).objs.size := Nat.ne_of_lt (by rw [z1]; exact Nat.lt_succ_of_lt hl0)
      have n2 : s.heap.objs.size ∉ [(s.heap.push (eset w)).objs.size, l] := by
        simp only [List.mem_cons, List.not_mem_nil, or_false, not_or]
        exact ⟨Nat.ne_of_lt (by rw [z1]; exact Nat.lt_succ_self _), Nat.ne_of_gt hl0⟩
      have it : ∀ (i : Nat) (v : Value), xs[i]? = some v → ∃ k t, ns[i]? = some k ∧ v = .int k t := fun i v hv => by
        have hlt : i < ns.length := by rw [← sz]; exact (Array.getElem?_eq_some_iff.mp hv).1
        obtain ⟨t, e⟩ := PyProof.Rows.IntsAre.int_at hi i v (by rw [Array.getElem?_toList]; exact hv)
        refine ⟨ns[i], t, List.getElem?_eq_getElem hlt, e.trans ?_⟩
        rw [List.getD_eq_getElem?_getD, List.getElem?_eq_getElem hlt]; rfl
      have hA3 : A.in1.in1.in1.handled = none := by simp [hh]
      refine set_update_ints ((Walks.list hA3 _ l n1 xs).toS) s.heap.objs.size n2 ns sz hb it (xs.size - 0) 0 _ (by omega) (Nat.zero_le _) ⟨⟨_, Heap.get?_push_size _ rfl, rfl, rfl⟩, (hl1.push _)⟩ ?_ ?_
      · exact ⟨0, Nat.le_refl 0, setR_new_at (Heap.get?_push_of_some _ g0)⟩
      · rintro ⟨h', g2, d', tk', os'⟩ c' hm hc' hS'
        obtain rfl : g2 = s.gens := hm.gens
        obtain rfl : d' = s.drawn := hm.drawn
        obtain rfl : os' = s.os := hm.os
        rw [sz] at hc'
        refine wpAny_pure (wpAny_pure ⟨rfl, h', tk', c', rfl, hS', hc', fun b o e => ?_⟩)
        have hb0 : b < s.heap.objs.size := Heap.lt_size e
        refine hm.heap b o ?_ (Heap.get?_push_of_some _ (Heap.get?_push_of_some _ e))
        simp only [List.mem_cons, List.not_mem_nil, or_false, not_or]
        exact ⟨Nat.ne_of_lt hb0, Nat.ne_of_lt (by rw [z1]; exact Nat.lt_succ_of_lt hb0)⟩
    · rintro (e | f2) s2 hr2
      · exact hr2
      cases f2 with
      | next => exact hr2.elim
      | brk => exact hr2.elim
      | cont => exact hr2.elim
      | ret r =>
        obtain ⟨rfl, h', tk, c', rfl, hS', hc', hk'⟩ := hr2
        repeat (any_goals (first | assumption | wp_step))
        exact q _ _ _ hS' hc' hk'
end
end Fp

namespace Fp
open PySem PySem.Spec PyProof.Rows L2

/-! ### repr(..) of data, where nothing is being shown -/
def rRepr (K : PySem.W.Frag) : List V → Hp → VK → Prop := fun vs H Q => ∃ (a : Addr) (d : PyData), vs = [.ref a] ∧ Dp K H (.ref a) d ∧ d.showable = true ∧ d.hasDict = false ∧ d.depth ≤ 8 ∧ d.shown.length ≤ sizeLine ∧ Q (.str d.shown) H
theorem cr_repr {X : Cx} (hu : X.A.units + 64 < cLine) (hg : X.A.guards = some []) : CallR X (.builtin "repr") (rRepr X.K) := by
  intro pins s σ H xs us Q I r h
  obtain ⟨a, d, rfl, hd, h1, h2, h3, h4, q⟩ := h
  rw [Vals.ref1 r]
  obtain ⟨as, hr⟩ := Dp.reads I d _ (.ref a) hd rfl
  refine repr_of_reads' hr h1 (fun z => by rw [h2] at z; cases z) hg (by omega) (fun _ _ e => e) (fun h' u tk k => ?_) h4
  exact ⟨.str d.shown, H, I.kept (t' := tk) k, ⟨u, rfl⟩, q⟩

/-! ### defs that are called where nothing is being shown -/
structure FnG (P : Program) (w : World) (K : PySem.W.Frag) (mg : Str → Option Value) (base : Heap) (CX : CXT) (k : Nat) (f : Addr) (fd : FuncData) (ps : List Str) (sp : Sp) : Prop where
  len : ∀ vs H Q E, sp vs H Q E → vs.length = ps.length
  go : ∀ (A : Around) (outer : List Env) (s : Shared) (H : Hp) (args : Args) (us : List Value) (vs : List V) (Q : VK) (E : XK), A.guards = some [] → Room k A → Env0 P w K mg base A outer s H → BindsTo s fd args (ps.zip us) → Vals vs us → sp vs H Q E →
    codeAny (model P w) A (.call (.ref f) args) (CR CX outer P w H s Q E) s
section
variable {P : Program} {w : World} {K : PySem.W.Frag} {mg : Str → Option Value} {base : Heap} {CX : CXT} {k : Nat} {f : Addr}
theorem fnG_of {name qual : Str} {params : Arguments} {body : List Stmt} {scope : Scope} {dV kV doc pm cdv ct oc : Value} {an od : Option Addr} {osl : Array (Option Value)} {N ps : List Str} {sp : Sp}
    (lk : K.lookup f = some ⟨oc, od, .func (PySem.W.fnOf name qual params body scope dV kV doc pm an cdv ct), osl⟩) (hcd : PySem.W.codeIn K cdv qual = true) (S : FnScope N ps scope) (len : ∀ vs H Q E, sp vs H Q E → vs.length = ps.length)
    (hb : ∀ (A : Around) (outer : List Env) (s : Shared) (H : Hp) (vs : List V) (Q : VK) (E : XK), A.guards = some [] → Room k (A.deeper (envOfC qual scope s.heap.objs.size f cdv)) → sp vs H Q E →
      ∃ t, PSs (cxOf CX P w K mg base N qual scope f cdv A outer s H E) body t ∧ t { nx := fun _ H1 => Q .non H1, rt := Q } (start N vs) H) :
    FnG P w K mg base CX (k + 1) f (PySem.W.fnOf name qual params body scope dV kV doc pm an cdv ct) ps sp := by
  constructor
  · exact len
  intro A outer s H args us vs Q E hgd hr e0 hbd rv hsp
  have z := len _ _ _ _ hsp
  have KX : K.In s.heap := e0.mod.kin.keeps (fun b o e => (e0.bs b o e).1)
  have nl : s.heap.NoLimit := e0.mod.nolimit.keeps (fun b o e => (e0.bs b o e).1)
  have par : ∀ y ∈ ps.zip us, scope.names.lookup y.1 = some .local ∨ (scope.names.lookup y.1 = some .cell ∧ ((cellsFrom (s.heap.objs.size + 1) scope.names []).lookup y.1).isSome = true) := by
    rintro ⟨n, v⟩ hy
    exact (S.par n (List.of_mem_zip hy).1).imp id fun q => ⟨q, PySem.W.cellsFrom_some _ _ _ (.inl q)⟩
  refine codeAny_call_function hr.depth (KX _ _ lk) rfl S.co S.gen rfl (PySem.W.codeRec_of KX hcd) (hbd _ _ _ _ (wpAny_newFunctionEnv_cells S.kind par ?_))
  rintro env rfl s1 x
  refine ⟨nl.keeps x.toInCall.keep, codeAny_func ?_⟩
  obtain ⟨t, ht, hq⟩ := hb A outer s H vs Q E hgd (hr.deeper _) hsp
  have I := inv_start (CX := CX) (cd := cdv) (f := f) (E := E) S hr.hd e0 z rv x
  refine wpAny_mono (ht.run [] s1 (start N vs) H _ I hq) ?_ (fun e s' h => h)
  rintro (_ | _ | _ | u) s' h
  · obtain ⟨σ', H', J, q⟩ := h
    exact ⟨.non, H', J.os, J.bare, J.base, J.hok, rfl, q⟩
  · obtain ⟨_, _, _, q⟩ := h
    exact q.elim
  · obtain ⟨_, _, _, q⟩ := h
    exact q.elim
  · obtain ⟨v, σ', H', J, r, q⟩ := h
    exact ⟨v, H', J.os, J.bare, J.base, J.hok, r, q⟩
/-- the rule for such a def -/
theorem fun_okG {x qual : Str} {st : Stmt} {fd : FuncData} {N ps : List Str} {sp : Sp} (F : Fun K x qual st f fd) (S : FnScope N ps (defScope st)) (len : ∀ vs H Q E, sp vs H Q E → vs.length = ps.length)
    (hb : ∀ (cdv : Value) (A : Around) (outer : List Env) (s : Shared) (H : Hp) (vs : List V) (Q : VK) (E : XK), A.guards = some [] → Room k (A.deeper (envOfC qual (defScope st) s.heap.objs.size f cdv)) → sp vs H Q E →
      ∃ t, PSs (cxOf CX0 P w K mg base N qual (defScope st) f cdv A outer s H E).nox (defBody st) t ∧ t { nx := fun _ H' => Q .non H', rt := Q } (start N vs) H) : FnG P w K mg base CX0 (k + 1) f fd ps sp := by
  obtain ⟨oc, od, kV, doc, pm, an, cdv, ct, osl, rfl, lk, hcd⟩ := F.ex
  refine fnG_of lk hcd S len fun A outer s H vs Q E hg hr hsp => ?_
  obtain ⟨t, h, q⟩ := hb cdv A outer s H vs Q E hg hr hsp
  exact ⟨t, h.nox, q⟩
end
section
variable {X : Cx} {CX : CXT} {k : Nat} {f : Addr} {fd : FuncData} {ps : List Str} {sp : Sp} {E : XK} {x : Str} {p pos : Pos} {e : Expr} {es : List Expr} {t : TA}
theorem pe_callG (F : FnG X.prog X.w X.K X.mg X.base CX k f fd ps sp) (hgd : X.A.guards = some []) (hr : Room k X.A) (hg : Gl X x) (hm : X.mg x = some (.ref f)) (hk : PySem.W.keepIn X.K (.ref f) = true) (hb : Binds X.K fd ps []) (hx : Passes CX X E)
    (ha : PA X (e :: es) t) (hdb : (x == ("__debug__" : Str)) = false := by decide) (he : starEach (e :: es) X.env = (false, eval e X.env) :: starEach es X.env := by rfl) (hpl : (backTo pos (starEach es X.env)).any (·.1) = false := by rfl) :
    PE X (.Call (.Name x p) (e :: es) [] pos) (fun σ H Q => t σ H fun vs H1 => sp vs H1 Q E) := by
  constructor
  intro pins s σ H Q I h
  refine wpAny_Call_Name_kw (ld_glob I hg hm (PySem.W.callWith_K (h₀ := X.base) I.ok.mod.kin hk (thn (ha.run pos pins s σ H _ I h) ?_) he hpl) hdb)
  rintro us s1 ⟨vs, H1, I1, r, q⟩
  refine ⟨I1.kIn, ?_⟩
  have hl : us.length = ps.length := by rw [← r.length]; exact F.len _ _ _ _ q
  have hb' : BindsTo s1 fd ⟨us, []⟩ (ps.zip us) := by
    have z := hb s1 us I1.kIn (by rw [List.append_nil]; exact hl)
    rw [List.append_nil] at z
    exact z
  refine wpAny_call (codeAny_mono (F.go X.A X.stack s1 H1 ⟨us, []⟩ us vs Q E hgd hr I1.env0 hb' r q) ?_)
  rintro (e | fl) s' hq
  · exact hx pins σ H1 s1 e s' I1 hq
  · cases fl with
    | ret u => exact I1.after hq
    | next => exact hq.elim
    | brk => exact hq.elim
    | cont => exact hq.elim
end
end Fp

namespace Fp
open PySem PySem.Spec PyProof.Rows L2

/-! ### the law's own call, by FnG -/
theorem only_base {P : Program} {w : World} {K : PySem.W.Frag} {mg mb : Str → Option Value} {a : Addr} {s : Shared} {vs : List Value} {H : Hp} (KX : K.In s.heap) (hns : s.heap.Ns mainGlobals mg) (hb : s.heap.Ns builtinsNs mb)
    (hbb : ∀ x : Str, x ≠ "__name__" → mb x = bootBuiltins x) (hlim : s.heap.NoLimit) (hgen : s.gens = #[]) (ha : s.heap.get? a = some { cls := .type "list", data := .seq vs.toArray }) (hok : HOk P w H s.heap)
    (hA : ∀ b, H b ≠ none → b = a) (hK : H a ≠ none → K.lookup a = none) : K.In (hidT s.heap H) ∧ (hidT s.heap H).Ns mainGlobals mg ∧ Env0 P w K mg (hidT s.heap H) callerA [] s H := by
  have fr : ∀ {b : Addr}, b ≠ a → H b = none := fun {b} n => by
    cases q : H b with
    | none => rfl
    | some u => exact absurd (hA b fun z => by rw [q] at z; cases z) n
  have dn : ∀ {b : Addr} {m : Str → Option Value}, s.heap.Ns b m → (hidT s.heap H).Ns b m := fun {b m} ⟨o, es, ep, e, d, r⟩ => by
    refine ⟨o, es, ep, hidT_get e (fr fun z => ?_), d, r⟩
    subst z
    obtain rfl := Option.some.inj (e.symm.trans ha)
    cases (show Data.seq vs.toArray _ = Data.dict es ep from d)
  have k0 : K.In (hidT s.heap H) := fun b o e => by
    by_cases z : H b = none
    · exact hidT_get (KX b o e) z
    · have eb := hA b z
      subst eb
      rw [hK z] at e
      cases e
  obtain ⟨mc, l1, l2⟩ := hlim
  exact ⟨k0, dn hns, ⟨rfl, ⟨k0, dn hns, ⟨mb, dn hb, hbb⟩, ⟨mc, dn l1, l2⟩⟩, fun b o e => of_hidT e, Nat.le_of_eq (hidT_size _ _), trivial, fun b z => absurd (show b ∈ ([] : List Addr) from z) (by simp), hok, .of_eq hgen⟩⟩
theorem law_callG {P : Program} {w : World} {K : PySem.W.Frag} {mg mb : Str → Option Value} {CX : CXT} {k : Nat} {fa a : Addr} {fd : FuncData} {x : Str} {sp : Sp} {s : Shared} {vs : List Value} {ns : List Int}
    (KX : K.In s.heap) (hns : s.heap.Ns mainGlobals mg) (hb : s.heap.Ns builtinsNs mb) (hbb : ∀ x : Str, x ≠ "__name__" → mb x = bootBuiltins x) (hlim : s.heap.NoLimit) (hgen : s.gens = #[])
    (ha : s.heap.get? a = some { cls := .type "list", data := .seq vs.toArray }) (hi : IntsAre vs ns) (hl : ns.length ≤ sizeLine) (hr : Room k callerA)
    (F : ∀ base : Heap, K.In base → base.Ns mainGlobals mg → FnG P w K mg base CX k fa fd [x] sp) (hbind : ∀ (s : Shared) (u : Value), BindsTo s fd ⟨[u], []⟩ [(x, u)])
    (hsp : ∀ H : Hp, Only H → SqL K H a (ns.map V.int) → sp [.ref a] H (fun v _ => v = .bl true) fun _ _ _ => False) (hCX : ∀ H e s', CX [] H s (fun _ _ _ => False) e s' → False) :
    codeAny (model P w) callerA (.call (.ref fa) ⟨[.ref a], []⟩) (fun r s' => r = .ok (.ret (.bool true)) ∧ OldK s.heap s'.heap ∧ s'.os = s.os ∧ AllBare s'.gens) s := by
  have rv := vals_ints hi
  have core : ∀ H : Hp, Only H → SqL K H a (ns.map V.int) → HOk P w H s.heap → (∀ b, H b ≠ none → b = a) → (H a ≠ none → K.lookup a = none) →
      codeAny (model P w) callerA (.call (.ref fa) ⟨[.ref a], []⟩) (fun r s' => r = .ok (.ret (.bool true)) ∧ OldK s.heap s'.heap ∧ s'.os = s.os ∧ AllBare s'.gens) s := by
    intro H hO hS hok hA hK
    obtain ⟨k0, n0, e0⟩ := only_base (P := P) (w := w) KX hns hb hbb hlim hgen ha hok hA hK
    refine codeAny_mono ((F _ k0 n0).go callerA [] s H ⟨[.ref a], []⟩ [.ref a] [.ref a] _ _ rfl hr e0 (hbind s (.ref a)) (.cons rfl .nil) (hsp H hO hS)) ?_
    rintro (e | fl) s' h
    · exact (hCX H e s' h).elim
    cases fl with
    | next => exact h.elim
    | brk => exact h.elim
    | cont => exact h.elim
    | ret u =>
      obtain ⟨v, H', os, bare, un, hok', r, q⟩ := h
      obtain rfl : v = .bl true := q
      obtain rfl : u = Value.bool true := r
      refine ⟨rfl, OldK.of_keep fun b o e => ?_, os, bare⟩
      rcases hO b with z | ⟨ob, xs, z⟩
      · exact un.keep b o e z (fun z => absurd (show b ∈ ([] : List Addr) from z) (by simp)) (by simp)
      · obtain ⟨e1, _⟩ := hok b _ z
        obtain ⟨e2, _⟩ := hok' b _ (un.frzs b ob _ z)
        exact e2.trans (e1.symm.trans e)
  cases hk : K.lookup a with
  | some o =>
    obtain rfl := Option.some.inj ((KX a o hk).symm.trans ha)
    exact core (fun _ => none) (fun _ => .inl rfl) (.inr ⟨_, vs.toArray, _, hk, rfl, rfl, rfl, by rw [List.size_toArray, hi.length]; exact hl, by simpa using rv⟩) (fun b u z => by cases (show (none : Option HO) = some u from z)) (fun b z => absurd rfl z) (fun z => absurd rfl z)
  | none =>
    have up : ∀ {b : Addr} {u : HO}, (fun c => if c = a then some (HO.frz { cls := .type "list", data := .seq vs.toArray } (.lst (ns.map V.int))) else none) b = some u → b = a ∧ u = HO.frz { cls := .type "list", data := .seq vs.toArray } (.lst (ns.map V.int)) := fun {b u} z => by
      by_cases hb : b = a
      · exact ⟨hb, (Option.some.inj ((if_pos hb).symm.trans z)).symm⟩
      · cases (if_neg hb).symm.trans z
    refine core (fun c => if c = a then some (HO.frz { cls := .type "list", data := .seq vs.toArray } (.lst (ns.map V.int))) else none) (fun b => ?_) (.inl (.inr ⟨_, if_pos rfl⟩)) (fun b u z => ?_) (fun b z => ?_) (fun _ => hk)
    · by_cases hb : b = a
      · exact .inr ⟨_, _, if_pos hb⟩
      · exact .inl (if_neg hb)
    · obtain ⟨rfl, rfl⟩ := up z
      exact ⟨ha, by rw [List.length_map]; exact hl, vs, _, rv, ha⟩
    · by_cases hb : b = a
      · exact hb
      · exact absurd (if_neg hb) z
theorem walk_ofG {l : PySem.W.OpenLaw} {n k : Nat} {q : Program} {loose : List Str} {XP : (Str → Option Value) → Heap → Prop} {YP : World → Heap → Prop} {d : DefRec} {K : Params → PySem.W.Frag} {sp : PySem.W.Frag → Sp} {x : Str}
    (hn : l.most = some n) (hn2 : n ≤ sizeLine) (hdf : d.params.defaults = []) (hr : Room k callerA) (hY : ∀ (w : World) (h : Heap), YP w h → (K w.params).In h)
    (F : ∀ (w : World) (mg : Str → Option Value) (fa : Addr) (h : Heap), (K w.params).In h → h.Ns mainGlobals mg → mg d.name = some (.ref fa) →
      ∃ fd : FuncData, (∀ (s : Shared) (u : Value), BindsTo s fd ⟨[u], []⟩ [(x, u)]) ∧ ∀ base : Heap, (K w.params).In base → base.Ns mainGlobals mg → FnG l.prog w (K w.params) mg base CX0 k fa fd [x] (sp (K w.params)))
    (hsp : ∀ (K : PySem.W.Frag) (H : Hp) (a : Addr) (ns : List Int), ns.length ≤ n → Only H → SqL K H a (ns.map V.int) → sp K [.ref a] H (fun v _ => v = .bl true) fun _ _ _ => False) :
    PySem.W.WalkO q loose XP YP l.row.toRowW d [] (fun f vs => PySem.call f vs) := by
  refine Att.attach_call hn hdf ?_
  intro w s₀ s₁ mg mb fa o pm cd doc a vs ns G Y ho hd hcd hmg hobj hints hlen hg
  have KX := hY w _ Y
  obtain ⟨fd, hb, hF⟩ := F w mg fa _ KX G.T.g hmg
  exact law_callG KX G.T.g G.T.b G.T.builtins G.T.nolimit hg hobj hints (Nat.le_trans hlen hn2) hr hF hb (fun H hO hS => hsp (K w.params) H a ns hlen hO hS) (fun H e s' h => h.elim)
end Fp

namespace Fp
open PySem PySem.Spec PyProof.Rows L2

/-- the def that stands at the module's name x -/
structure Bnd (K : PySem.W.Frag) (mg : Str → Option Value) (x : Str) (st : Stmt) : Prop where
  ex : ∃ (f : Addr) (fd : FuncData), mg x = some (.ref f) ∧ Fun K x x st f fd
/-- the def at the module's name x keeps its promise -/
structure Def (P : Program) (w : World) (K : PySem.W.Frag) (mg : Str → Option Value) (base : Heap) (k : Nat) (x : Str) (st : Stmt) (ps : List Str) (sp : Sp) : Prop where
  ex : ∃ (f : Addr) (fd : FuncData), mg x = some (.ref f) ∧ Fun K x x st f fd ∧ Binds K fd ps [] ∧ FnOk P w K mg base CX0 k f fd ps sp
structure DefG (P : Program) (w : World) (K : PySem.W.Frag) (mg : Str → Option Value) (base : Heap) (k : Nat) (x : Str) (st : Stmt) (ps : List Str) (sp : Sp) : Prop where
  ex : ∃ (f : Addr) (fd : FuncData), mg x = some (.ref f) ∧ Fun K x x st f fd ∧ Binds K fd ps [] ∧ FnG P w K mg base CX0 k f fd ps sp
/-- how a def without defaults binds -/
abbrev Bind (x : Str) (st : Stmt) (ps : List Str) : Prop := ∀ (kV doc pm : Value) (an : Option Addr) (cdv ct : Value) (us : List Value), us.length = ps.length → bindArgs (PySem.W.fnOf x x (defArgs st) (defBody st) (defScope st) .none kV doc pm an cdv ct) ⟨us, []⟩ = pure (ps.zip us)
section
variable {P : Program} {w : World} {K : PySem.W.Frag} {mg : Str → Option Value} {base : Heap} {k : Nat} {x : Str} {st : Stmt} {N ps : List Str} {sp : Sp}
theorem Def.mono {j : Nat} (D : Def P w K mg base k x st ps sp) (h : k ≤ j) : Def P w K mg base j x st ps sp := by
  obtain ⟨f, fd, a, b, c, d⟩ := D.ex
  exact ⟨f, fd, a, b, c, d.mono h⟩
theorem def_of (B : Bnd K mg x st) (S : FnScope N ps (defScope st)) (len : ∀ vs H Q E, sp vs H Q E → vs.length = ps.length) (hbi : Bind x st ps)
    (hb : ∀ (f : Addr) (cdv : Value) (A : Around) (outer : List Env) (s : Shared) (H : Hp) (vs : List V) (Q : VK) (E : XK), Room k (A.deeper (envOfC x (defScope st) s.heap.objs.size f cdv)) → sp vs H Q E →
      ∃ t, PSs (cxOf CX0 P w K mg base N x (defScope st) f cdv A outer s H E).nox (defBody st) t ∧ t { nx := fun _ H' => Q .non H', rt := Q } (start N vs) H) : Def P w K mg base (k + 1) x st ps sp := by
  obtain ⟨f, fd, hm, F⟩ := B.ex
  exact ⟨f, fd, hm, F, F.binds hbi, F.ok S len (hb f)⟩
theorem defG_of (B : Bnd K mg x st) (S : FnScope N ps (defScope st)) (len : ∀ vs H Q E, sp vs H Q E → vs.length = ps.length) (hbi : Bind x st ps)
    (hb : ∀ (f : Addr) (cdv : Value) (A : Around) (outer : List Env) (s : Shared) (H : Hp) (vs : List V) (Q : VK) (E : XK), A.guards = some [] → Room k (A.deeper (envOfC x (defScope st) s.heap.objs.size f cdv)) → sp vs H Q E →
      ∃ t, PSs (cxOf CX0 P w K mg base N x (defScope st) f cdv A outer s H E).nox (defBody st) t ∧ t { nx := fun _ H' => Q .non H', rt := Q } (start N vs) H) : DefG P w K mg base (k + 1) x st ps sp := by
  obtain ⟨f, fd, hm, F⟩ := B.ex
  exact ⟨f, fd, hm, F, F.binds hbi, fun_okG F S len (hb f)⟩
end
def tD (sp : Sp) (t : TA) : TE := fun σ H Q => t σ H fun vs H1 => sp vs H1 Q E0
def tDK (n m : Nat) (b : Bool) (sp : Sp) (t tk : TA) : TE := fun σ H Q => t σ H fun vs H1 => tk σ H1 fun zs H2 => vs.length = n ∧ zs.length = m ∧ sp (vs ++ if b = true then zs.reverse else zs) H2 Q E0
/-- how a def without defaults binds n values by place and m by the names ks (b: turned about) -/
abbrev BindK (n m : Nat) (b : Bool) (x : Str) (st : Stmt) (ps ks : List Str) : Prop := ∀ (kV doc pm : Value) (an : Option Addr) (cdv ct : Value) (us ws : List Value), us.length = n → ws.length = m →
  bindArgs (PySem.W.fnOf x x (defArgs st) (defBody st) (defScope st) .none kV doc pm an cdv ct) ⟨us, ks.zip ws⟩ = pure (ps.zip (us ++ if b = true then ws.reverse else ws))
section
variable {X : Cx} {k : Nat} {x : Str} {st : Stmt} {ps ks : List Str} {sp : Sp} {p pos : Pos} {e : Expr} {es : List Expr} {t tk : TA} {kws : List Keyword} {n m : Nat} {b : Bool}
/-- f(e, ..) -/
theorem pe_d (D : Def X.prog X.w X.K X.mg X.base k x st ps sp) (hr : Room k X.A) (hg : Gl X x) (ha : PA X (e :: es) t)
    (hdb : (x == ("__debug__" : Str)) = false := by decide) (he : starEach (e :: es) X.env = (false, eval e X.env) :: starEach es X.env := by rfl) (hpl : (backTo pos (starEach es X.env)).any (·.1) = false := by rfl) :
    PE X (.Call (.Name x p) (e :: es) [] pos) (tD sp t) := by
  obtain ⟨f, fd, hm, F, hb, ok⟩ := D.ex
  have q := pe_call (p := p) ok hr hg hm F.kp hb .nil (pass0 (X := X)) ha hdb he hpl
  have z : tCall sp [] E0 t = tD sp t := by
    funext σ H Q
    unfold tCall tD
    simp only [List.append_nil]
  rw [z] at q
  exact q
theorem pe_dG (D : DefG X.prog X.w X.K X.mg X.base k x st ps sp) (hgd : X.A.guards = some []) (hr : Room k X.A) (hg : Gl X x) (ha : PA X (e :: es) t)
    (hdb : (x == ("__debug__" : Str)) = false := by decide) (he : starEach (e :: es) X.env = (false, eval e X.env) :: starEach es X.env := by rfl) (hpl : (backTo pos (starEach es X.env)).any (·.1) = false := by rfl) :
    PE X (.Call (.Name x p) (e :: es) [] pos) (tD sp t) := by
  obtain ⟨f, fd, hm, F, hb, ok⟩ := D.ex
  exact pe_callG (p := p) ok hgd hr hg hm F.kp hb (pass0 (X := X)) ha hdb he hpl
theorem run_dk {pins : List (Addr × Obj)} {σ : L2.St} {H : Hp} {s : Shared} {Q : VK} {us ws : List Value} {vs zs : List V} {f : Addr} {fd : FuncData} (F : Fun X.K x x st f fd) (ok : FnOk X.prog X.w X.K X.mg X.base CX0 k f fd ps sp) (hr : Room k X.A)
    (hb : BindK n m b x st ps ks) (I : Inv X pins σ H s) (r : Vals vs us) (rz : Vals zs ws) (hn : vs.length = n) (hm : zs.length = m) (h : sp (vs ++ if b = true then zs.reverse else zs) H Q E0) :
    wpAny (model X.prog X.w) X.A (call (.ref f) us (ks.zip ws)) (EP X pins σ Q) X.xe s := by
  obtain ⟨oc, od, kV, doc, pm, an, cdv, ct, osl, efd, lk, hcd⟩ := F.ex
  have rr : Vals (vs ++ if b = true then zs.reverse else zs) (us ++ if b = true then ws.reverse else ws) := by
    refine r.append ?_
    cases b with
    | true => rw [if_pos rfl, if_pos rfl]; exact rz.reverse
    | false => rw [if_neg Bool.false_ne_true, if_neg Bool.false_ne_true]; exact rz
  have hbd : BindsTo s fd ⟨us, ks.zip ws⟩ (ps.zip (us ++ if b = true then ws.reverse else ws)) := by
    rw [efd]
    exact .of_eq (hb kV doc pm an cdv ct us ws (r.length.symm.trans hn) (rz.length.symm.trans hm))
  refine wpAny_call (codeAny_mono (ok.run X.A X.stack s H ⟨us, ks.zip ws⟩ _ _ Q E0 hr I.env0 hbd rr h) ?_)
  rintro (e | fl) s' hq
  · exact pass0 (X := X) pins σ H s e s' I hq
  · cases fl with
    | ret u => exact I.after hq
    | next => exact hq.elim
    | brk => exact hq.elim
    | cont => exact hq.elim
/-- f(e, .., k = v, ..) -/
theorem pe_dk (D : Def X.prog X.w X.K X.mg X.base k x st ps sp) (hr : Room k X.A) (hg : Gl X x) (n m : Nat) (b : Bool) (ks : List Str) (hb : BindK n m b x st ps ks) (ha : PA X (e :: es) t) (hkw : PK X kws tk)
    (hks : (backToKw pos (keywordEach kws X.env)).filterMap (·.1) = ks := by rfl) (hall : (backToKw pos (keywordEach kws X.env)).all (·.1.isSome) = true := by rfl) (hdb : (x == ("__debug__" : Str)) = false := by decide)
    (he : starEach (e :: es) X.env = (false, eval e X.env) :: starEach es X.env := by rfl) (hpl : ((backTo pos (starEach (e :: es) X.env)).any (·.1) || (backToKw pos (keywordEach kws X.env)).any (·.1.isNone)) = false := by rfl) :
    PE X (.Call (.Name x p) (e :: es) kws pos) (tDK n m b sp t tk) := by
  obtain ⟨f, fd, hm, F, _, ok⟩ := D.ex
  constructor
  intro pins s σ H Q I h
  refine wpAny_Call_Name_kw (ld_glob I hg hm (PySem.W.callWith_KW (h₀ := X.base) I.ok.mod.kin F.kp hall (thn (ha.run pos pins s σ H _ I h) ?_) hpl he) hdb)
  rintro us s1 ⟨vs, H1, I1, r, q⟩
  refine thn (hkw.run pos pins s1 σ H1 _ I1 q) ?_
  rintro ws s2 ⟨zs, H2, I2, rz, q2⟩
  refine ⟨I2.kIn, ?_⟩
  rw [hks]
  exact run_dk F ok hr hb I2 r rz q2.1 q2.2.1 q2.2.2
/-- f(k = v, ..) -/
theorem pe_dk0 (D : Def X.prog X.w X.K X.mg X.base k x st ps sp) (hr : Room k X.A) (hg : Gl X x) (m : Nat) (b : Bool) (ks : List Str) (hb : BindK 0 m b x st ps ks) (hkw : PK X kws tk)
    (hks : (backToKw pos (keywordEach kws X.env)).filterMap (·.1) = ks := by rfl) (hall : (backToKw pos (keywordEach kws X.env)).all (·.1.isSome) = true := by rfl) (hdb : (x == ("__debug__" : Str)) = false := by decide)
    (hpl : ((backTo pos (starEach [] X.env)).any (·.1) || (backToKw pos (keywordEach kws X.env)).any (·.1.isNone)) = false := by rfl) :
    PE X (.Call (.Name x p) [] kws pos) (tDK 0 m b sp tNil tk) := by
  obtain ⟨f, fd, hm, F, _, ok⟩ := D.ex
  constructor
  intro pins s σ H Q I h
  refine wpAny_Call_Name_kw (ld_glob I hg hm (PySem.W.callWith_KW0 (h₀ := X.base) I.ok.mod.kin F.kp hall (thn (hkw.run pos pins s σ H _ I h) ?_) hpl) hdb)
  rintro ws s2 ⟨zs, H2, I2, rz, q2⟩
  refine ⟨I2.kIn, ?_⟩
  rw [hks]
  exact run_dk F ok hr hb I2 .nil rz q2.1 q2.2.1 q2.2.2
end
/-- sorted(set(..)) and set(..) -/
def rSetI (K : PySem.W.Frag) (w : World) : List V → Hp → VK → Prop := fun vs H Q => ∃ (a : Addr) (ns : List Int), vs = [.ref a] ∧ Sq K H a (ns.map V.int) ∧ ns.length ≤ 60 ∧
  ∀ (p : Addr) (n : Nat), n ≤ ns.length → H p = none → Q (.ref p) (upd H p (SetO w p (fun j => decide (j ∈ ns)) n))
theorem cr_setI {X : Cx} (hc : X.calm = true) : CallR X (.type "set") (rSetI X.K X.w) := by
  intro pins s σ H vs us Q I r h
  obtain ⟨a, ns, rfl, hS, hz, q⟩ := h
  rw [Vals.ref1 r]
  have hb : ns.length + 1 < scanBound := by unfold scanBound; omega
  have fin : ∀ (h' : Heap) (tk c : Nat), SetR X.w h' s.heap.objs.size (fun j => decide (j ∈ ns)) c → c ≤ ns.length → (∀ b o, s.heap.get? b = some o → h'.get? b = some o) → EP X pins σ Q (.ref s.heap.objs.size) { s with heap := h', toks := tk } :=
    fun h' tk c R hc k => ⟨.ref s.heap.objs.size, _, I.laid (t' := tk) k (Nat.le_refl _) (setO_new R), rfl, q _ c hc (I.hok.fresh (Nat.le_refl _))⟩
  rcases hS with hS | hS
  · obtain ⟨its, rv, pl, _⟩ := I.list hS
    exact call_set_lstI ns (I.ok.hd hc) pl.isList (by simpa using Vals.ints rv) hb fin
  · obtain ⟨its, rv, pl, _⟩ := I.tuple hS
    exact call_set_tupI ns (I.ok.hd hc) pl (by simpa using Vals.ints rv) hb fin
end Fp

namespace Fp
open PySem PySem.Spec PyProof.Rows L2 PySem.W

/-! ### data by a Lean type -/
section
variable {K : PySem.W.Frag} {H H' : Hp}
mutual
theorem dp_same (e : Same H H') : ∀ (d : PyData) (v : V), Dp K H v d → Dp K H' v d
  | .none, _, h => by cases h; exact .non
  | .bool _, _, h => by cases h; exact .bl _
  | .int _, _, h => by cases h; exact .int _
  | .str _, _, h => by cases h; exact .str _
  | .list ds, _, h => by
    cases h with
    | lst a b => exact .lst (e.seq a) (dpAll_same e ds _ b)
  | .tuple ds, _, h => by
    cases h with
    | tup a b => exact .tup (same_sqT e a) (dpAll_same e ds _ b)
  | .dict _, _, h => by cases h
theorem dpAll_same (e : Same H H') : ∀ (ds : List PyData) (vs : List V), DpAll K H vs ds → DpAll K H' vs ds
  | [], _, h => by cases h; exact .nil
  | d :: ds, _, h => by
    cases h with
    | cons a b => exact .cons (dp_same e d _ a) (dpAll_same e ds _ b)
end
theorem dpAll_len : ∀ {vs : List V} {ds : List PyData}, DpAll K H vs ds → vs.length = ds.length
  | _, _, .nil => rfl
  | _, _, .cons _ b => congrArg (· + 1) (dpAll_len b)
theorem dpAll_app : ∀ {vs ws : List V} {ds es : List PyData}, DpAll K H vs ds → DpAll K H ws es → DpAll K H (vs ++ ws) (ds ++ es)
  | _, _, _, _, .nil, b => b
  | _, _, _, _, .cons a r, b => .cons a (dpAll_app r b)
theorem dpAll_at : ∀ {vs : List V} {ds : List PyData}, DpAll K H vs ds → ∀ {i : Nat} {v : V}, vs[i]? = some v → ∃ d, ds[i]? = some d ∧ Dp K H v d
  | _, _, .nil, i, v, h => by cases h
  | _, _, .cons a r, 0, v, h => by obtain rfl := Option.some.inj h; exact ⟨_, rfl, a⟩
  | _, _, .cons a r, i + 1, v, h => dpAll_at r (i := i) h
theorem dpAll_get : ∀ {vs : List V} {ds : List PyData}, DpAll K H vs ds → ∀ {i : Nat} {d : PyData}, ds[i]? = some d → ∃ v, vs[i]? = some v ∧ Dp K H v d
  | _, _, .nil, i, v, h => by cases h
  | _, _, .cons a r, 0, v, h => by obtain rfl := Option.some.inj h; exact ⟨_, rfl, a⟩
  | _, _, .cons a r, i + 1, v, h => dpAll_get r (i := i) h
theorem dpAll_rev : ∀ {vs : List V} {ds : List PyData}, DpAll K H vs ds → DpAll K H vs.reverse ds.reverse
  | _, _, .nil => .nil
  | _, _, .cons a r => by
    rw [List.reverse_cons, List.reverse_cons]
    exact dpAll_app (dpAll_rev r) (.cons a .nil)
theorem dpAll_take : ∀ {vs : List V} {ds : List PyData}, DpAll K H vs ds → ∀ n, DpAll K H (vs.take n) (ds.take n)
  | _, _, .nil, n => by rw [List.take_nil, List.take_nil]; exact .nil
  | _, _, .cons a r, 0 => .nil
  | _, _, .cons a r, n + 1 => .cons a (dpAll_take r n)
theorem dpAll_drop : ∀ {vs : List V} {ds : List PyData}, DpAll K H vs ds → ∀ n, DpAll K H (vs.drop n) (ds.drop n)
  | _, _, .nil, n => by rw [List.drop_nil, List.drop_nil]; exact .nil
  | _, _, .cons a r, 0 => .cons a r
  | _, _, .cons a r, n + 1 => dpAll_drop r n
theorem dpAll_ints : ∀ ns : List Int, DpAll K H (ns.map V.int) (ns.map Datum.toD)
  | [] => .nil
  | n :: r => .cons (.int n) (dpAll_ints r)
theorem ints_dpAll : ∀ {vs : List V} {ns : List Int}, DpAll K H vs (ns.map Datum.toD) → vs = ns.map V.int
  | [], [], _ => rfl
  | [], _ :: _, h => by cases h
  | _ :: _, [], h => by cases h
  | v :: vs, n :: ns, h => by
    cases h with
    | cons a r =>
      have e : v = .int n := by
        have a' : Dp K H v (.int n) := a
        cases a'; rfl
      rw [e, ints_dpAll r]; rfl
section
variable {α β : Type} [DecidableEq α] [Datum α] [DecidableEq β] [Datum β]
/-- v holds x -/
abbrev Hd (K : PySem.W.Frag) (H : Hp) (v : V) (x : α) : Prop := Dp K H v (Datum.toD x)
/-- the values hold the items -/
abbrev Hs (K : PySem.W.Frag) (H : Hp) (vs : List V) (xs : List α) : Prop := DpAll K H vs (xs.map Datum.toD)
theorem Hd.same {v : V} {x : α} (h : Hd K H v x) (e : Same H H') : Hd K H' v x := dp_same e _ _ h
theorem Hs.same {vs : List V} {xs : List α} (h : Hs K H vs xs) (e : Same H H') : Hs K H' vs xs := dpAll_same e _ _ h
theorem hd_lst {a : Addr} {vs : List V} {xs : List α} (h : SqL K H a vs) (r : Hs K H vs xs) : Hd K H (.ref a) xs := Dp.lst h r
theorem hd_pair {a : Addr} {u v : V} {x : α} {y : β} (h : SqT K H a [u, v]) (r : Hd K H u x) (q : Hd K H v y) : Hd K H (.ref a) (x, y) := Dp.tup h (.cons r (.cons q .nil))
theorem hd_int (i : Int) : Hd K H (.int i) i := .int i
theorem lst_hd {v : V} {xs : List α} (h : Hd K H v xs) : ∃ a vs, v = .ref a ∧ SqL K H a vs ∧ Hs K H vs xs := by
  have h' : Dp K H v (.list (xs.map Datum.toD)) := h
  cases h' with
  | lst a b => exact ⟨_, _, rfl, a, b⟩
theorem pair_hd {v : V} {p : α × β} (h : Hd K H v p) : ∃ a x y, v = .ref a ∧ SqT K H a [x, y] ∧ Hd K H x p.1 ∧ Hd K H y p.2 := by
  have h' : Dp K H v (.tuple [Datum.toD p.1, Datum.toD p.2]) := h
  cases h' with
  | tup a b =>
    cases b with
    | cons b1 b2 =>
      cases b2 with
      | cons b2 b3 =>
        cases b3
        exact ⟨_, _, _, rfl, a, b1, b2⟩
theorem hd_ints {a : Addr} {ns : List Int} (h : SqL K H a (ns.map V.int)) : Hd K H (.ref a) ns := hd_lst h (dpAll_ints ns)
theorem ints_hd {v : V} {ns : List Int} (h : Hd K H v ns) : ∃ a, v = .ref a ∧ SqL K H a (ns.map V.int) := by
  obtain ⟨a, vs, e, hs, r⟩ := lst_hd h
  rw [ints_dpAll r] at hs
  exact ⟨a, e, hs⟩
theorem int_hd {v : V} {n : Int} (h : Hd K H v n) : v = .int n := by
  have h' : Dp K H v (.int n) := h
  cases h'; rfl
theorem Hs.len {vs : List V} {xs : List α} (h : Hs K H vs xs) : vs.length = xs.length := by rw [dpAll_len h, List.length_map]
theorem Hs.at {vs : List V} {xs : List α} (h : Hs K H vs xs) {i : Nat} {v : V} (e : vs[i]? = some v) : ∃ x, xs[i]? = some x ∧ Hd K H v x := by
  obtain ⟨d, e2, hd⟩ := dpAll_at h e
  rw [List.getElem?_map] at e2
  cases q : xs[i]? with
  | none => rw [q] at e2; cases e2
  | some x =>
    rw [q] at e2
    obtain rfl : Datum.toD x = d := Option.some.inj e2
    exact ⟨x, rfl, hd⟩
theorem Hs.get {vs : List V} {xs : List α} (h : Hs K H vs xs) {i : Nat} {x : α} (e : xs[i]? = some x) : ∃ v, vs[i]? = some v ∧ Hd K H v x :=
  dpAll_get h (by rw [List.getElem?_map, e]; rfl)
theorem Hs.app {vs ws : List V} {xs ys : List α} (h : Hs K H vs xs) (r : Hs K H ws ys) : Hs K H (vs ++ ws) (xs ++ ys) := by
  show DpAll K H (vs ++ ws) ((xs ++ ys).map Datum.toD)
  rw [List.map_append]
  exact dpAll_app h r
theorem Hs.one {v : V} {x : α} (h : Hd K H v x) : Hs K H [v] [x] := .cons h .nil
theorem Hs.snoc {vs : List V} {xs : List α} {v : V} {x : α} (h : Hs K H vs xs) (r : Hd K H v x) : Hs K H (vs ++ [v]) (xs ++ [x]) := h.app (.one r)
theorem Hs.rev {vs : List V} {xs : List α} (h : Hs K H vs xs) : Hs K H vs.reverse xs.reverse := by
  show DpAll K H vs.reverse (xs.reverse.map Datum.toD)
  rw [List.map_reverse]
  exact dpAll_rev h
theorem Hs.take {vs : List V} {xs : List α} (h : Hs K H vs xs) (n : Nat) : Hs K H (vs.take n) (xs.take n) := by
  show DpAll K H (vs.take n) ((xs.take n).map Datum.toD)
  rw [List.map_take]
  exact dpAll_take h n
theorem Hs.drop {vs : List V} {xs : List α} (h : Hs K H vs xs) (n : Nat) : Hs K H (vs.drop n) (xs.drop n) := by
  show DpAll K H (vs.drop n) ((xs.drop n).map Datum.toD)
  rw [List.map_drop]
  exact dpAll_drop h n
end
end

/-! ### ==, !=, in, not in of such -/
section
variable {X : Cx}
def rEqH (α : Type) [DecidableEq α] [Datum α] (K : PySem.W.Frag) : R2 := fun x y H Q => ∃ a b : α, Hd K H x a ∧ Hd K H y b ∧ Q (.bl (decide (a = b))) H
def rNeH (α : Type) [DecidableEq α] [Datum α] (K : PySem.W.Frag) : R2 := fun x y H Q => ∃ a b : α, Hd K H x a ∧ Hd K H y b ∧ Q (.bl (decide (a ≠ b))) H
def rInH (α : Type) [DecidableEq α] [Datum α] (K : PySem.W.Frag) : R2 := fun x y H Q => ∃ (a : α) (bs : List α), Hd K H x a ∧ Hd K H y bs ∧ Q (.bl (decide (a ∈ bs))) H
def rNiH (α : Type) [DecidableEq α] [Datum α] (K : PySem.W.Frag) : R2 := fun x y H Q => ∃ (a : α) (bs : List α), Hd K H x a ∧ Hd K H y bs ∧ Q (.bl (decide (a ∉ bs))) H
theorem op_eqH (α : Type) [DecidableEq α] [Datum α] (hu : X.A.units + Datum.depth α < cLine) : OpR X (compareOp .Eq) (rEqH α X.K) := by
  intro pins s σ H x y v u Q I rx ry h
  obtain ⟨a, b, ha, hb, q⟩ := h
  exact eq_datum (Dp.reads I _ x v ha rx) (Dp.reads I _ y u hb ry) hu ⟨.bl _, H, I, rfl, q⟩
theorem op_neH (α : Type) [DecidableEq α] [Datum α] (hu : X.A.units + Datum.depth α < cLine) : OpR X (compareOp .NotEq) (rNeH α X.K) := by
  intro pins s σ H x y v u Q I rx ry h
  obtain ⟨a, b, ha, hb, q⟩ := h
  exact ne_datum (Dp.reads I _ x v ha rx) (Dp.reads I _ y u hb ry) hu ⟨.bl _, H, I, rfl, q⟩
theorem op_inH (α : Type) [DecidableEq α] [Datum α] (hu : X.A.units + 1 + Datum.depth α < cLine) : OpR X (compareOp .In) (rInH α X.K) := by
  intro pins s σ H x y v u Q I rx ry h
  obtain ⟨a, bs, ha, hb, q⟩ := h
  obtain ⟨l, vs, rfl, hs, r⟩ := lst_hd hb
  obtain ⟨its, rv, pl, _⟩ := I.list hs
  cases ry
  exact in_list_datum pl.isList (Dp.readsAll I _ vs its r rv) (Dp.reads I _ x v ha rx) hu ⟨.bl _, H, I, rfl, q⟩
theorem op_niH (α : Type) [DecidableEq α] [Datum α] (hu : X.A.units + 1 + Datum.depth α < cLine) : OpR X (compareOp .NotIn) (rNiH α X.K) := by
  intro pins s σ H x y v u Q I rx ry h
  obtain ⟨a, bs, ha, hb, q⟩ := h
  obtain ⟨l, vs, rfl, hs, r⟩ := lst_hd hb
  obtain ⟨its, rv, pl, _⟩ := I.list hs
  cases ry
  exact notIn_list_datum pl.isList (Dp.readsAll I _ vs its r rv) (Dp.reads I _ x v ha rx) hu ⟨.bl _, H, I, rfl, q⟩
end

/-! ### sorted of such, any number -/
section
variable {X : Cx}
/-- data that a sort takes: all of one build, no tuples -/
class Srt1 (α : Type) [DecidableEq α] [Datum α] : Prop where
  like : ∀ a b : α, alike (Datum.toD a) (Datum.toD b) = true
  other : ∀ a : α, Datum.toD a ≠ .none ∧ ∀ xs, Datum.toD a ≠ .tuple xs
theorem like_all {α : Type} [DecidableEq α] [Datum α] (h : ∀ a b : α, alike (Datum.toD a) (Datum.toD b) = true) : ∀ xs ys : List α, alikeAll (xs.map Datum.toD) (ys.map Datum.toD) = true
  | [], _ => by simp [alikeAll]
  | _ :: _, [] => by simp [alikeAll]
  | x :: xs, y :: ys => by
    show alikeAll (Datum.toD x :: xs.map Datum.toD) (Datum.toD y :: ys.map Datum.toD) = true
    rw [alikeAll, h x y, like_all h xs ys]; rfl
instance : Srt1 Int where
  like _ _ := by simp [Datum.toD, alike]
  other _ := ⟨(fun z => by cases z), (fun _ z => by cases z)⟩
instance {α : Type} [DecidableEq α] [Datum α] [Srt1 α] : Srt1 (List α) where
  like a b := by
    show alike (.list (a.map Datum.toD)) (.list (b.map Datum.toD)) = true
    simpa [alike] using like_all Srt1.like a b
  other _ := ⟨(fun z => by cases z), (fun _ z => by cases z)⟩
theorem vals_of_each {R : Value → V → Prop} : ∀ {out : List Value}, (∀ v ∈ out, ∃ x, R v x) → ∃ ws : List V, EachIs R out ws
  | [], _ => ⟨[], .nil⟩
  | v :: out, h => by
    obtain ⟨x, hx⟩ := h v List.mem_cons_self
    obtain ⟨ws, e⟩ := vals_of_each (out := out) fun u hu => h u (List.mem_cons_of_mem _ hu)
    exact ⟨x :: ws, .cons hx e⟩
def SrR (K : PySem.W.Frag) (H : Hp) (vs : List V) {α : Type} [DecidableEq α] [Datum α] (v : Value) (b : α) : Prop := ∃ x, x ∈ vs ∧ RelV x v ∧ Hd K H x b
theorem srt_in {α : Type} [DecidableEq α] [Datum α] {K : PySem.W.Frag} {H : Hp} {all : List V} : ∀ {vs : List V} {its : List Value} {xs : List α}, (∀ v ∈ vs, v ∈ all) → Vals vs its → Hs K H vs xs → EachIs (SrR K H all) its xs
  | [], _, [], _, r, _ => by cases r; exact .nil
  | [], _, _ :: _, _, _, h => by cases h
  | _ :: _, _, [], _, _, h => by cases h
  | v :: vs, _, x :: xs, m, r, h => by
    cases r with
    | cons r1 r2 =>
      cases h with
      | cons h1 h2 => exact .cons ⟨v, m v List.mem_cons_self, r1, h1⟩ (srt_in (fun u hu => m u (List.mem_cons_of_mem _ hu)) r2 h2)
theorem srt_out {α : Type} [DecidableEq α] [Datum α] {K : PySem.W.Frag} {H : Hp} {all : List V} : ∀ {its : List Value} {xs : List α}, EachIs (SrR K H all) its xs → ∃ ws, Vals ws its ∧ Hs K H ws xs ∧ ∀ w ∈ ws, w ∈ all
  | _, _, .nil => ⟨[], .nil, .nil, fun w h => by cases h⟩
  | _, _, .cons h r => by
    obtain ⟨x, m, rx, hx⟩ := h
    obtain ⟨ws, r1, r2, r3⟩ := srt_out r
    exact ⟨x :: ws, .cons rx r1, .cons hx r2, fun w hw => by
      rcases List.mem_cons.mp hw with e | e
      · rw [e]; exact m
      · exact r3 w e⟩
/-- the order of sorted -/
def leH {α : Type} [DecidableEq α] [Datum α] : α → α → Bool := dataLe false Datum.toD
def rSortH (α : Type) [DecidableEq α] [Datum α] (K : PySem.W.Frag) : List V → Hp → VK → Prop := fun vs H Q => ∃ (a : Addr) (xs : List V) (L : List α), vs = [V.ref a] ∧ SqL K H a xs ∧ Hs K H xs L ∧
  ∀ p ws, (∀ w ∈ ws, w ∈ xs) → Hs K H ws (L.mergeSort leH) → H p = none → Q (.ref p) (upd H p (.lst ws))
theorem cr_sortH (α : Type) [DecidableEq α] [Datum α] [Srt1 α] (hu : X.A.units + 2 + Datum.depth α < cLine) : CallR X (.builtin "sorted") (rSortH α X.K) := by
  intro pins s σ H vs us Q I r h
  obtain ⟨a, xs, L, rfl, hs, hL, q⟩ := h
  obtain ⟨its, rv, hl, hz⟩ := I.list hs
  rw [Vals.ref1 r]
  have el := srt_in (all := xs) (fun _ m => m) rv hL
  have n1 : L.length = xs.length := hL.len.symm
  have er : EachIs (fun v (b : α) => ∃ as, Reads s.heap v (Datum.toD b) as) its L := el.mono fun v b ⟨x, _, rx, hx⟩ => Dp.reads I _ x v hx rx
  refine sorted_data (enc := Datum.toD) hl.isList el er (AllAlike.of Srt1.like) (Sortable.others Srt1.other) (by rw [n1]; exact hz) (fun b _ => Nat.lt_of_le_of_lt (Nat.add_le_add_left (Datum.depth_le b) _) hu) fun out ho eo => ?_
  obtain ⟨ws, r1, r2, r3⟩ := srt_out eo
  obtain ⟨ep, he'⟩ := PyProof.Rows.sortedAll_at s.heap its out.toArray
  have hlen : ws.length ≤ sizeLine := by rw [r1.length, ho, n1]; exact hz
  exact ⟨.ref _, upd H (s.heap.objs.size + 1) (.lst ws), I.laid (t' := s.toks) (fun _ _ => PyProof.Rows.sortedAll_old) (Nat.le_succ _) ⟨hlen, out, ep, r1, he'⟩, rfl, q _ _ r3 r2 (I.hok.fresh (Nat.le_succ _))⟩
end

/-! ### zip of lists and tuples -/
def SqK (κ : Bool) (K : PySem.W.Frag) (H : Hp) (a : Addr) (xs : List V) : Prop := if κ = true then SqT K H a xs else SqL K H a xs
theorem sqk_of {K : PySem.W.Frag} {H : Hp} {a : Addr} {xs : List V} (h : Sq K H a xs) : ∃ κ, SqK κ K H a xs := h.elim (fun q => ⟨false, q⟩) (fun q => ⟨true, q⟩)
theorem SqK.same {κ : Bool} {K : PySem.W.Frag} {H H' : Hp} {a : Addr} {xs : List V} (e : Same H H') (h : SqK κ K H a xs) : SqK κ K H' a xs := by
  cases κ with
  | false => exact e.seq (show SqL K H a xs from h)
  | true => exact same_sqT e (show SqT K H a xs from h)
theorem sqk_lst {K : PySem.W.Frag} {H : Hp} {a : Addr} {xs : List V} (h : H a = some (.lst xs)) : SqK false K H a xs := SqL.of h
theorem SqK.sq {κ : Bool} {K : PySem.W.Frag} {H : Hp} {a : Addr} {xs : List V} (h : SqK κ K H a xs) : Sq K H a xs := by
  cases κ with
  | false => exact .inl h
  | true => exact .inr h
def ItAtK (κ : Bool) (h : Heap) (it l : Addr) (i : Nat) : Prop := if κ = true then h.IsTupleIter it l i else h.IsListIter it l i
def SqAtK (κ : Bool) (h : Heap) (l : Addr) (its : Array Value) : Prop := if κ = true then h.IsTuple l its else h.IsList l its
theorem ItAtK.at {κ : Bool} {h h' : Heap} {it l : Addr} {i : Nat} (a : ItAtK κ h it l i) (k : ∀ o, h.get? it = some o → h'.get? it = some o) : ItAtK κ h' it l i := by
  cases κ with
  | false => exact Heap.IsListIter.at (show h.IsListIter it l i from a) k
  | true => exact Heap.IsTupleIter.at (show h.IsTupleIter it l i from a) k
theorem ItAtK.obj {κ : Bool} {h : Heap} {it l : Addr} {i : Nat} (a : ItAtK κ h it l i) : ∃ o, h.get? it = some o ∧ ∀ v, o.data ≠ .cell v := by
  cases κ with
  | false => obtain ⟨o, e, _, d⟩ := (show h.IsListIter it l i from a); exact ⟨o, e, fun v q => by rw [d] at q; cases q⟩
  | true => obtain ⟨o, e, _, d⟩ := (show h.IsTupleIter it l i from a); exact ⟨o, e, fun v q => by rw [d] at q; cases q⟩
theorem draws_k {prog : Program} {w : World} {A : Around} (κ : Bool) (hh : A.handled = none) (it l : Addr) (ne : l ≠ it) (its : Array Value) :
    Draws prog w A it [it, l] its.size (fun i v => its[i]? = some v) (fun i h => ItAtK κ h it l i ∧ SqAtK κ h l its) := by
  cases κ with
  | false => exact Draws.list hh it l ne its
  | true => exact Draws.tuple hh it l ne its
theorem Inv.seqK {X : Cx} {pins : List (Addr × Obj)} {σ : L2.St} {H : Hp} {s : Shared} {κ : Bool} {a : Addr} {xs : List V} (I : L2.Inv X pins σ H s) (h : SqK κ X.K H a xs) : ∃ its : List Value, Vals xs its ∧ SqAtK κ s.heap a its.toArray ∧ a < s.heap.objs.size := by
  cases κ with
  | false =>
    obtain ⟨its, rv, p, _⟩ := I.list (show SqL X.K H a xs from h)
    exact ⟨its, rv, p.isList, p.lt⟩
  | true =>
    obtain ⟨its, rv, p, _⟩ := I.tuple (show SqT X.K H a xs from h)
    obtain ⟨o, ho, _⟩ := id p
    exact ⟨its, rv, p, Heap.lt_size ho⟩
theorem Inv.seqK_inj {X : Cx} {pins : List (Addr × Obj)} {σ : L2.St} {H : Hp} {s : Shared} {κ : Bool} {a : Addr} {xs ys : List V} (I : L2.Inv X pins σ H s) (h : SqK κ X.K H a xs) (g : SqK κ X.K H a ys) : xs = ys := by
  cases κ with
  | false => exact I.list_inj (show SqL X.K H a xs from h) (show SqL X.K H a ys from g)
  | true => exact I.tuple_inj (show SqT X.K H a xs from h) (show SqT X.K H a ys from g)
def ItZ (K : PySem.W.Frag) (κ1 κ2 : Bool) (a b : Addr) (xs ys : List V) : It :=
  ⟨fun i H => SqK κ1 K H a xs ∧ SqK κ2 K H b ys ∧ i < xs.length ∧ i < ys.length,
    fun i H v H' => ∃ T x y, v = .ref T ∧ H T = none ∧ H' = upd H T (.tup [x, y]) ∧ xs[i]? = some x ∧ ys[i]? = some y,
    fun i H => SqK κ1 K H a xs ∧ SqK κ2 K H b ys ∧ i ≤ xs.length ∧ i ≤ ys.length ∧ (i = xs.length ∨ i = ys.length)⟩
def TnZ (κ1 κ2 : Bool) (z TI TO i1 i2 a b : Addr) (i : Nat) (h : Heap) : Prop := IsZip h z TI TO .none ∧ IsPair h TI (.ref i1) (.ref i2) ∧ (∃ x y, IsPair h TO x y) ∧ ItAtK κ1 h i1 a i ∧ ItAtK κ2 h i2 b i
theorem zip_turns {P : Program} {w : World} {K : PySem.W.Frag} {elts : List Expr} {kk : Nat} {tpos : Pos} {κ1 κ2 : Bool} {a b z TI TO i1 i2 : Addr} {xs ys : List V} (D : ZipApart z TI TO i1 i2 a b) :
    Turn P w K (.Tuple elts kk tpos) (ItZ K κ1 κ2 a b xs ys) [z, TI, TO, i1, i2] z (TnZ κ1 κ2 z TI TO i1 i2 a b) := by
  have S : ZipSep2 z TI TO i1 i2 [i1, a] [i2, b] := by
    refine ⟨D.TIz, D.TOz, D.TITO, D.TIi1, by simp, ?_, ?_, D.TIi2, by simp, ?_, ?_, ?_, ?_⟩ <;>
      · simp only [List.mem_cons, List.not_mem_nil, or_false, not_or]
        first
          | exact ⟨D.i1z.symm, D.l1z.symm⟩ | exact ⟨D.TOi1, D.l1TO.symm⟩ | exact ⟨D.i2z.symm, D.l2z.symm⟩ | exact ⟨D.TOi2, D.l2TO.symm⟩ | exact ⟨D.i12, D.l2i1.symm⟩ | exact ⟨D.i12.symm, D.l1i2.symm⟩
  refine ⟨by simp, ?_, ?_, ?_, ?_, ?_⟩
  · rintro i h ⟨hz, hTI, ⟨x, y, hTO⟩, h1, h2⟩ c hc
    have e' : c = z ∨ c = TI ∨ c = TO ∨ c = i1 ∨ c = i2 := by simpa using hc
    rcases e' with q | q | q | q | q <;> subst q
    · exact ⟨_, hz, fun v q => nomatch q⟩
    · exact ⟨_, hTI, fun v q => nomatch q⟩
    · exact ⟨_, hTO, fun v q => nomatch q⟩
    · exact h1.obj
    · exact h2.obj
  · rintro i h h' ⟨hz, hTI, ⟨x, y, hTO⟩, h1, h2⟩ k
    exact ⟨k z (by simp) _ hz, k TI (by simp) _ hTI, ⟨x, y, k TO (by simp) _ hTO⟩, h1.at fun o q => k i1 (by simp) o q, h2.at fun o q => k i2 (by simp) o q⟩
  · intro X hP hw hK hc i pins s σ H E I hf st hg
    subst hP hw hK
    obtain ⟨hz, hTI, ⟨x0, y0, hTO⟩, h1, h2⟩ := st
    obtain ⟨qx, qy, l1, l2⟩ := hg
    obtain ⟨its, rv, p, _⟩ := Inv.seqK I qx
    obtain ⟨its2, rv2, p2, _⟩ := Inv.seqK I qy
    have hA : X.A.in1.handled = none := by
      have q := I.ok.hd hc
      simpa using q
    have zl : z < s.heap.objs.size := Heap.lt_size hz
    have n1 := rv.length
    have n2 := rv2.length
    refine wpAny_pyNext_zipD2_item S (draws_k κ1 hA i1 a D.l1i1 its.toArray) (draws_k κ2 hA i2 b D.l2i2 its2.toArray) hz hTI hTO ⟨h1, p⟩ ⟨h2, p2⟩ (by simp; omega) (by simp; omega) ?_
    intro u u2 h' tk hu hu2 z' TO' st1 st2 hT hsz hk
    obtain ⟨x, hx, ru⟩ : ∃ x, xs[i]? = some x ∧ RelV x u := by
      obtain ⟨u', e1, e2⟩ := rv.get (List.getElem?_eq_getElem l1)
      have e3 : its[i]? = some u := by simpa using hu
      rw [e1] at e3
      obtain rfl := Option.some.inj e3
      exact ⟨_, List.getElem?_eq_getElem l1, e2⟩
    obtain ⟨y, hy, ru2⟩ : ∃ y, ys[i]? = some y ∧ RelV y u2 := by
      obtain ⟨u', e1, e2⟩ := rv2.get (List.getElem?_eq_getElem l2)
      have e3 : its2[i]? = some u2 := by simpa using hu2
      rw [e1] at e3
      obtain rfl := Option.some.inj e3
      exact ⟨_, List.getElem?_eq_getElem l2, e2⟩
    refine ⟨_, rfl, wpAny_letOwnedTupleGo_zip (s := { s with heap := h', toks := tk }) z' fun h'' z'' sb => ?_⟩
    have T2 : h''.get? s.heap.objs.size = some { cls := .type "tuple", data := .seq #[u, u2] } := (sb.2 _ (Nat.ne_of_gt zl)).trans hT
    have far : ∀ c o, c ∉ [z, TI, TO, i1, i2] → s.heap.get? c = some o → h''.get? c = some o := fun c o hb q => by
      simp only [List.mem_cons, List.not_mem_nil, or_false, not_or] at hb
      exact (sb.2 c hb.1).trans (hk c o hb.1 hb.2.2.1 hb.2.2.2.1 hb.2.2.2.2 q)
    have I1 : L2.Inv X pins σ (upd H s.heap.objs.size (.tup [x, y])) { s with heap := h'', toks := tk } :=
      I.turnedNew (t' := tk) (ch := [z, TI, TO, i1, i2]) far hf (Nat.le_refl _) ⟨by show 2 ≤ sizeLine; decide, [u, u2], .cons ru (.cons ru2 .nil), ⟨_, T2, rfl, _, rfl⟩⟩
    refine ⟨.ref s.heap.objs.size, _, I1, rfl, ⟨_, x, y, rfl, I.hok.fresh (Nat.le_refl _), rfl, hx, hy⟩, ⟨z'', ?_, ⟨u, u2, ?_⟩, ?_, ?_⟩, fun c hcm => ?_⟩
    · exact (sb.2 _ D.TIz).trans (hk _ _ D.TIz D.TITO D.TIi1 D.TIi2 hTI)
    · exact (sb.2 _ D.TOz).trans TO'
    · exact st1.1.at fun o q => (sb.2 _ D.i1z).trans q
    · exact st2.1.at fun o q => (sb.2 _ D.i2z).trans q
    · have lt : c < s.heap.objs.size := by
        have e' : c = z ∨ c = TI ∨ c = TO ∨ c = i1 ∨ c = i2 := by simpa using hcm
        rcases e' with q | q | q | q | q <;> subst q
        · exact zl
        · exact Heap.lt_size hTI
        · exact Heap.lt_size hTO
        · obtain ⟨_, e1, _⟩ := h1.obj; exact Heap.lt_size e1
        · obtain ⟨_, e2, _⟩ := h2.obj; exact Heap.lt_size e2
      rw [upd_ne (Nat.ne_of_lt lt)]
      exact (hf c hcm).1
  · intro X hP hw hK hc i pins s σ H E I hf st hg
    subst hP hw hK
    obtain ⟨hz, hTI, ⟨x0, y0, hTO⟩, h1, h2⟩ := st
    obtain ⟨qx, qy, l1, l2, l3⟩ := hg
    obtain ⟨its, rv, p, _⟩ := Inv.seqK I qx
    obtain ⟨its2, rv2, p2, _⟩ := Inv.seqK I qy
    have hA : X.A.in1.handled = none := by
      have q := I.ok.hd hc
      simpa using q
    have n1 := rv.length
    have n2 := rv2.length
    refine wpAny_pyNext_zipD2_end S (draws_k κ1 hA i1 a D.l1i1 its.toArray) (draws_k κ2 hA i2 b D.l2i2 its2.toArray) hz hTI hTO ⟨h1, p⟩ ⟨h2, p2⟩ (by simp; omega) (by simp; omega) (by simp; omega) fun h' tk hk => ?_
    refine ⟨rfl, I.turnedL (t' := tk) (ch := [z, TI, TO, i1, i2]) (fun c o hb q => ?_) hf⟩
    simp only [List.mem_cons, List.not_mem_nil, or_false, not_or] at hb
    exact hk c o hb.1 hb.2.2.1 hb.2.2.2.1 hb.2.2.2.2 q
  · intro A i s Q E st h
    exact wpAny_pyIter_zip st.1 h
def iZipS (K : PySem.W.Frag) (ta : TA) : TI := fun σ H R => ta σ H fun vs H1 => ∃ a b xs ys κ1 κ2, vs = [.ref a, .ref b] ∧ SqK κ1 K H1 a xs ∧ SqK κ2 K H1 b ys ∧ R (ItZ K κ1 κ2 a b xs ys) H1
theorem zip_made {prog : Program} {w : World} {A : Around} {E : Value → Shared → Prop} {s : Shared} {κ1 κ2 : Bool} {l1 l2 : Addr} {xs ys : Array Value} {Q : Value → Shared → Prop} (h1 : SqAtK κ1 s.heap l1 xs) (h2 : SqAtK κ2 s.heap l2 ys)
    (h : ∀ h', IsZip h' (s.heap.objs.size + 4) (s.heap.objs.size + 2) (s.heap.objs.size + 3) .none → IsPair h' (s.heap.objs.size + 2) (.ref s.heap.objs.size) (.ref (s.heap.objs.size + 1)) → IsPair h' (s.heap.objs.size + 3) .none .none →
      ItAtK κ1 h' s.heap.objs.size l1 0 → ItAtK κ2 h' (s.heap.objs.size + 1) l2 0 → (∀ c o, s.heap.get? c = some o → h'.get? c = some o) → Q (.ref (s.heap.objs.size + 4)) { s with heap := h' }) :
    wpAny (model prog w) A (call (.type "zip") [.ref l1, .ref l2]) Q E s := by
  cases κ1 <;> cases κ2
  · exact zip_begins2 (begins_list l1 xs) (begins_list l2 ys) h1 h2 fun h' a b c d e _ f => h h' a b c ⟨_, d, rfl, rfl⟩ ⟨_, e, rfl, rfl⟩ f
  · exact zip_begins2 (begins_list l1 xs) (begins_tuple l2 ys) h1 h2 fun h' a b c d e _ f => h h' a b c ⟨_, d, rfl, rfl⟩ ⟨_, e, rfl, rfl⟩ f
  · exact zip_begins2 (begins_tuple l1 xs) (begins_list l2 ys) h1 h2 fun h' a b c d e _ f => h h' a b c ⟨_, d, rfl, rfl⟩ ⟨_, e, rfl, rfl⟩ f
  · exact zip_begins2 (begins_tuple l1 xs) (begins_tuple l2 ys) h1 h2 fun h' a b c d e _ f => h h' a b c ⟨_, d, rfl, rfl⟩ ⟨_, e, rfl, rfl⟩ f
theorem pi_zipS {X : Cx} {e e2 : Expr} {ta : TA} {p pos tpos : Pos} {elts : List Expr} {kk : Nat} (hg : Gl X "zip") (hm : X.mg "zip" = none) (ha : PA X [e, e2] ta)
    (hs : starEach [e, e2] X.env = (false, eval e X.env) :: starEach [e2] X.env := by rfl) (hpl : (backTo pos (starEach [e2] X.env)).any (·.1) = false := by rfl) :
    PI X (.Tuple elts kk tpos) (.Call (.Name "zip" p) [e, e2] [] pos) (iZipS X.K ta) := by
  refine ⟨fun pins s σ H R I h => Call_ (ld_blt I hg hm PyProof.Rows.boot_zip (PyProof.Rows.callWith_type1 (thn (ha.run pos pins s σ H _ I h) ?_) hs hpl))⟩
  rintro us s1 ⟨vs, H1, I1, r1, a, b, xs, ys, κ1, κ2, rfl, kx, ky, q⟩
  obtain ⟨u1, u2, rfl, ra, rb⟩ := vals2 r1
  cases ra
  cases rb
  obtain ⟨its, rv, p1, la⟩ := Inv.seqK I1 kx
  obtain ⟨its2, rv2, p2, lb⟩ := Inv.seqK I1 ky
  refine zip_made p1 p2 fun h' hz hTI hTO h1 h2 hk => wpAny_pyIter_zip hz ?_
  refine ⟨s1.heap.objs.size + 4, _, _, _, H1, rfl, I1.kept (t' := s1.toks) hk, zip_turns (PySem.W.ktu_apart s1.heap.objs.size a b la lb), ⟨hz, hTI, ⟨_, _, hTO⟩, h1, h2⟩, fun c hcm => ?_, q⟩
  have le : s1.heap.objs.size ≤ c := by
    have e' : c = s1.heap.objs.size + 4 ∨ c = s1.heap.objs.size + 2 ∨ c = s1.heap.objs.size + 3 ∨ c = s1.heap.objs.size ∨ c = s1.heap.objs.size + 1 := by simpa using hcm
    rcases e' with z | z | z | z | z <;> rw [z] <;> first | exact Nat.le_refl _ | exact Nat.le_add_right _ _
  exact I1.fpOk le (I1.hok.fresh le)
theorem walk_zipS {K : PySem.W.Frag} {κ1 κ2 : Bool} {a b : Addr} {xs ys : List V} {n : Nat} (hn : n = min xs.length ys.length) :
    Walk (ItZ K κ1 κ2 a b xs ys) n (fun H => SqK κ1 K H a xs ∧ SqK κ2 K H b ys) (YPair (fun i => xs[i]?) (fun i => ys[i]?)) := by
  subst hn
  refine ⟨fun i _ hi q => ⟨q.1, q.2, by omega, by omega⟩, fun _ q => ⟨q.1, q.2, by omega, by omega, by omega⟩, fun i H v H' _ q y => ?_⟩
  obtain ⟨T, x, z, h1, h2, h3, h4, h5⟩ := y
  exact ⟨T, x, z, h1, h2, h3, h4, h5⟩

/-! ### comprehensions whose elements make new objects: Rel by the turn and what was made so far -/
/-- the heap without D -/
def wo (D : Addr) (H : Hp) : Hp := fun b => if b = D then none else H b
theorem wo_upd {D : Addr} {H : Hp} {o : HO} : wo D (upd H D o) = wo D H := by
  funext b
  unfold wo
  by_cases e : b = D
  · rw [if_pos e, if_pos e]
  · rw [if_neg e, if_neg e, upd_ne e]
theorem wo_same {D : Addr} {H H' : Hp} (e : Same H H') : Same (wo D H) (wo D H') := fun b o q => by
  unfold wo at q ⊢
  by_cases z : b = D
  · rw [if_pos z] at q; cases q
  · rw [if_neg z] at q ⊢; exact e _ _ q
theorem same_wo {D : Addr} {H H' : Hp} (n : H D = none) (e : Same H H') : Same H (wo D H') := fun b o q => by
  unfold wo
  rw [if_neg (ne_of_none q n)]
  exact e _ _ q
theorem wo_le {D : Addr} {H : Hp} : Same (wo D H) H := fun b o q => by
  unfold wo at q
  by_cases z : b = D
  · rw [if_pos z] at q; cases q
  · rw [if_neg z] at q; exact q
theorem wo_ne {D b : Addr} {H : Hp} (h : b ≠ D) : wo D H b = H b := if_neg h
/-- a new object beside D -/
theorem wo_new {D p : Addr} {H : Hp} {o : HO} {acc : List V} (hD : H D = some (.lst acc)) (hp : H p = none) : wo D (upd H p o) = upd (wo D H) p o := by
  have ne : p ≠ D := fun z => by rw [z, hD] at hp; cases hp
  funext b
  by_cases e : b = D
  · subst e
    rw [upd_ne ne.symm]
    exact (if_pos rfl).trans (if_pos rfl).symm
  · rw [wo_ne e]
    by_cases z : b = p
    · subst z
      rw [upd_same, upd_same]
    · rw [upd_ne z, upd_ne z, wo_ne e]
section
variable {J : It} {n : Nat} {G : Hp → Prop} {Y : Nat → Hp → V → Hp → Prop} {g : TG} {tt : TT} {te : TE} {vs : List Nat} {σ : L2.St} {H1 : Hp} {D : Addr} {Qd : Hp → Prop}
def RInv (Rel : Nat → List V → Hp → Prop) (H1 : Hp) (D : Addr) (i : Nat) (H : Hp) : Prop := Same H1 H ∧ ∃ acc, H D = some (.lst acc) ∧ acc.length ≤ i ∧ Rel i acc (wo D H)
theorem lc_rel (w : Walk J n G Y) (Rel : Nat → List V → Hp → Prop) (hD : H1 D = none) (hz : n ≤ sizeLine) (hG : ∀ H', Same H1 H' → G H') (h0 : Rel 0 [] H1) (hm : ∀ i acc A B, Same A B → Rel i acc A → Rel i acc B)
    (hs : ∀ i x acc Ha Hb, i < n → Same H1 Ha → Ha D = some (.lst acc) → Rel i acc (wo D Ha) → Y i Ha x Hb → ∀ (Yc : V → Hp → Prop) (Nc : Hp → Prop), (∀ y H4, Same Ha H4 → Rel (i + 1) (acc ++ [y]) (wo D H4) → Yc y H4) → (∀ H3, Same Ha H3 → Rel (i + 1) acc (wo D H3) → Nc H3) →
      g x (wipe σ vs) Hb fun σ2 H2 => wipe σ2 vs = wipe σ vs ∧ tt σ2 H2 fun b H3 => if b = true then te σ2 H3 Yc else Nc H3)
    (hd : ∀ acc H', Same H1 H' → H' D = some (.lst acc) → Rel n acc (wo D H') → Qd H') :
    ∃ W : Nat → Nat → Hp → Prop, (∃ m, W 0 m (upd H1 D (.lst []))) ∧ ∀ i m H, W i m H →
      (J.stop i H ∧ Qd H) ∨ (J.go i H ∧ ∃ Nx : Hp → Prop, (∀ H', Nx H' → ∃ m', m' < m ∧ W (i + 1) m' H') ∧ ∀ x H', J.yld i H x H' → g x (wipe σ vs) H' fun σ2 H2 => wipe σ2 vs = wipe σ vs ∧ tt σ2 H2 fun b H3 =>
        if b = true then te σ2 H3 fun y H4 => ∃ acc, H4 D = some (.lst acc) ∧ acc.length < sizeLine ∧ Nx (upd H4 D (.lst (acc ++ [y]))) else Nx H3) := by
  refine lc_it w (RInv Rel H1 D) ⟨same_new hD, [], upd_same, Nat.le_refl _, ?_⟩ (fun i H hi p => hG H p.1) (fun i x H H' hi ⟨s1, acc, ha, hl, hr⟩ y => ?_) (fun H ⟨s1, acc, ha, _, hr⟩ => hd acc H s1 ha hr)
  · rw [wo_upd]
    exact hm _ _ _ _ (same_wo hD (Same.refl _)) h0
  · refine hs i x acc H H' hi s1 ha hr y _ _ (fun y H4 s2 r => ?_) (fun H3 s2 r => ?_)
    · refine ⟨acc, s2 _ _ ha, by omega, ?_, acc ++ [y], upd_same, ?_, ?_⟩
      · intro b o q
        rw [upd_ne (ne_of_none q hD)]
        exact s2 _ _ (s1 _ _ q)
      · rw [List.length_append]; simp only [List.length_cons, List.length_nil]; omega
      · rw [wo_upd]; exact r
    · exact ⟨s1.trans s2, acc, s2 _ _ ha, by omega, r⟩
end
end Fp

namespace Fp
open PySem PySem.Spec PyProof.Rows L2 PySem.W
theorem dle {u d : Nat} (hu : u + 64 < cLine) (h : d ≤ 60) : u + d < cLine := by omega
theorem dle1 {u d : Nat} (hu : u + 64 < cLine) (h : d ≤ 60) : u + 1 + d < cLine := by omega
theorem dle2 {u d : Nat} (hu : u + 64 < cLine) (h : d ≤ 60) : u + 2 + d < cLine := by omega
theorem iteT2 {b : Bool} {A B : Prop} (h : b = true) (a : A) : if b = true then A else B := by subst h; exact iteT a
theorem iteF2 {b : Bool} {A B : Prop} (h : b = false) (a : B) : if b = true then A else B := by subst h; exact iteF a
section
variable {X : Cx}
/-! ### subscripts and slices of a list or a tuple -/
def rIxQ (K : PySem.W.Frag) : R2 := fun x y H Q => rIxL K x y H Q ∨ rIxT K x y H Q
theorem ix_sq : IxR X (rIxQ X.K) := ix_list.or ix_tup
theorem ixq {K : PySem.W.Frag} {H : Hp} {a : Addr} {xs : List V} {i : Int} {v : V} {Q : VK} (h : Sq K H a xs) (e : atI xs i = some v) (q : Q v H) : rIxQ K (.ref a) (.int i) H Q :=
  h.elim (fun s => .inl ⟨a, xs, i, v, rfl, rfl, s, e, q⟩) (fun s => .inr ⟨a, xs, i, v, rfl, rfl, s, e, q⟩)
theorem sl_or {r r' : V → Option Int → Option Int → Hp → VK → Prop} (h : SlR X r) (h' : SlR X r') : SlR X (fun x lo hi H Q => r x lo hi H Q ∨ r' x lo hi H Q) := by
  intro pins s σ H x v vl vu lo hi sl Q I rx hs pl pu q
  rcases q with q | q
  · exact h pins s σ H x v vl vu lo hi sl Q I rx hs pl pu q
  · exact h' pins s σ H x v vl vu lo hi sl Q I rx hs pl pu q
def rSlS (K : PySem.W.Frag) : V → Option Int → Option Int → Hp → VK → Prop := fun x lo hi H Q => rSlL K x lo hi H Q ∨ rSlA K x lo hi H Q
theorem sl_sq : SlR X (rSlS X.K) := sl_or sl_list sl_tupA
/-- a slice of a list or a tuple: something that is read as its part -/
theorem slq {K : PySem.W.Frag} {H : Hp} {a : Addr} {xs : List V} {lo hi : Option Int} {Q : VK} (h : Sq K H a xs) (q : ∀ p H', Same H H' → Sq K H' p (cutV xs lo hi) → Q (.ref p) H') : rSlS K (.ref a) lo hi H Q := by
  rcases h with h | h
  · exact .inl ⟨a, xs, rfl, h, fun p hp => q p _ (same_new hp) (sq_lst upd_same)⟩
  · refine .inr ⟨a, xs, rfl, h, fun z => q a H (Same.refl H) (.inr ?_), fun _ p hp => q p _ (same_new hp) (sq_tup upd_same)⟩
    have e : cutV xs lo hi = xs := by
      unfold cutV
      rw [z.1, z.2]; simp
    rw [e]; exact h
theorem cut_from {xs : List V} (n : Nat) : cutV xs (some (n : Int)) none = xs.drop n := by
  have e : HT.sIx xs.length 0 (some (n : Int)) = min n xs.length := by
    show (if (n : Int) < 0 then ((n : Int) + (xs.length : Int)).toNat else min (n : Int).toNat xs.length) = min n xs.length
    rw [if_neg (by omega), Int.toNat_natCast]
  unfold cutV
  rw [e, HT.sIx_none, List.take_of_length_le (by rw [List.length_drop]; omega)]
  rcases Nat.le_total n xs.length with h | h
  · rw [Nat.min_eq_left h]
  · rw [Nat.min_eq_right h, List.drop_of_length_le (Nat.le_refl _), List.drop_of_length_le h]
theorem cut_to {xs : List V} (n : Nat) : cutV xs none (some (n : Int)) = xs.take n := by
  have e : HT.sIx xs.length xs.length (some (n : Int)) = min n xs.length := by
    show (if (n : Int) < 0 then ((n : Int) + (xs.length : Int)).toNat else min (n : Int).toNat xs.length) = min n xs.length
    rw [if_neg (by omega), Int.toNat_natCast]
  have e0 : HT.sIx xs.length 0 none = 0 := rfl
  unfold cutV
  rw [e, e0, List.drop_zero, Nat.sub_zero]
  rcases Nat.le_total n xs.length with h | h
  · rw [Nat.min_eq_left h]
  · rw [Nat.min_eq_right h, List.take_of_length_le (Nat.le_refl _), List.take_of_length_le h]
/-! ### xs[i] op= e -/
theorem pget_list : PGet X (fun o i H Q => ∃ p xs k v, o = .ref p ∧ i = .int k ∧ SqL X.K H p xs ∧ 0 ≤ k ∧ xs[k.toNat]? = some v ∧ Q v H) := by
  intro pins s σ H o i ov iv Q I ro ri h
  obtain ⟨p, xs, k, v, rfl, rfl, hq, h0, he, q⟩ := h
  cases ro
  obtain ⟨t, rfl⟩ := ri
  obtain ⟨its, r, pl, hz⟩ := I.list hq
  obtain ⟨w, ew, rw'⟩ := r.get he
  have hl := r.length
  have hn := line63
  have hk := (List.getElem?_eq_some_iff.mp he).1
  exact wpAny_getItem_list (x := w) pl.isList h0 (by omega) (by simpa using ew) ⟨v, H, I, rw', q⟩
end
/-! ### truth of lists of bools, tables -/
theorem hs_bls {K : PySem.W.Frag} {H : Hp} : ∀ bs : List Bool, Hs K H (bs.map V.bl) bs
  | [] => .nil
  | b :: r => .cons (.bl b) (hs_bls r)
theorem bls_hs {K : PySem.W.Frag} {H : Hp} : ∀ {vs : List V} {bs : List Bool}, Hs K H vs bs → vs = bs.map V.bl
  | [], [], _ => rfl
  | [], _ :: _, h => by cases h
  | _ :: _, [], h => by cases h
  | v :: vs, b :: bs, h => by
    cases h with
    | cons a r =>
      have e : v = .bl b := by
        have a' : Dp K H v (.bool b) := a
        cases a'; rfl
      rw [e, bls_hs r]; rfl
theorem bls_hd {K : PySem.W.Frag} {H : Hp} {v : V} {bs : List Bool} (h : Hd K H v bs) : ∃ a, v = .ref a ∧ SqL K H a (bs.map V.bl) := by
  obtain ⟨a, vs, e, hs, r⟩ := lst_hd h
  rw [bls_hs r] at hs
  exact ⟨a, e, hs⟩
/-! ### comprehensions with two fors -/
section
variable {J : It} {n : Nat} {G : Hp → Prop} {Y : Nat → Hp → V → Hp → Prop} {g : TG} {tt : TT} {te : TE} {vs : List Nat} {σ : L2.St} {H1 : Hp} {D : Addr} {Qd : Hp → Prop}
/-- the inner loop's own reading -/
def In2 (D : Addr) (σ2 : L2.St) (vs1 : List Nat) (g1 : TG) (tt1 : TT) (te : TE) (Nx : Hp → Prop) (J1 : It) (H4 : Hp) : Prop := ∃ W1 : Nat → Nat → Hp → Prop, (∃ m, W1 0 m H4) ∧ ∀ j k H, W1 j k H →
  (J1.stop j H ∧ Nx H) ∨ (J1.go j H ∧ ∃ Nx1 : Hp → Prop, (∀ H', Nx1 H' → ∃ k', k' < k ∧ W1 (j + 1) k' H') ∧ ∀ x H', J1.yld j H x H' → g1 x (wipe σ2 vs1) H' fun σ3 H5 => wipe σ3 vs1 = wipe σ2 vs1 ∧ tt1 σ3 H5 fun b H6 =>
    if b = true then te σ3 H6 fun y H7 => ∃ acc, H7 D = some (.lst acc) ∧ acc.length < sizeLine ∧ Nx1 (upd H7 D (.lst (acc ++ [y]))) else Nx1 H6)
theorem lc2_in {σ2 : L2.St} {vs1 : List Nat} {g1 : TG} {tt1 : TT} {Nx : Hp → Prop} {H4 : Hp} {acc0 : List V} (w : Walk J n G Y) (Rel : Nat → List V → Hp → Prop) (hD : H4 D = some (.lst acc0)) (h0 : Rel 0 acc0 (wo D H4)) (hz : ∀ i acc H, i ≤ n → Rel i acc H → acc.length < sizeLine) (hG : ∀ H', Same (wo D H4) (wo D H') → G H')
    (hs : ∀ i x acc Ha Hb, i < n → Same (wo D H4) (wo D Ha) → Ha D = some (.lst acc) → Rel i acc (wo D Ha) → Y i Ha x Hb → ∀ (Yc : V → Hp → Prop) (Nc : Hp → Prop), (∀ y Hc, Same Ha Hc → Rel (i + 1) (acc ++ [y]) (wo D Hc) → Yc y Hc) → (∀ Hc, Same Ha Hc → Rel (i + 1) acc (wo D Hc) → Nc Hc) →
      g1 x (wipe σ2 vs1) Hb fun σ3 H5 => wipe σ3 vs1 = wipe σ2 vs1 ∧ tt1 σ3 H5 fun b H6 => if b = true then te σ3 H6 Yc else Nc H6)
    (hd : ∀ acc H', Same (wo D H4) (wo D H') → H' D = some (.lst acc) → Rel n acc (wo D H') → Nx H') : In2 D σ2 vs1 g1 tt1 te Nx J H4 := by
  refine ⟨fun i m H => m = n - i ∧ i ≤ n ∧ Same (wo D H4) (wo D H) ∧ ∃ acc, H D = some (.lst acc) ∧ Rel i acc (wo D H), ⟨n, by simp, Nat.zero_le _, Same.refl _, acc0, hD, h0⟩, ?_⟩
  rintro i m H ⟨rfl, hi, s1, acc, ha, hr⟩
  have q := hG H s1
  by_cases hlt : i < n
  · refine .inr ⟨w.goes i H hlt q, fun H' => i + 1 ≤ n ∧ Same (wo D H4) (wo D H') ∧ ∃ acc, H' D = some (.lst acc) ∧ Rel (i + 1) acc (wo D H'), fun H' p' => ⟨n - (i + 1), by omega, rfl, p'.1, p'.2⟩, fun x H' y => ?_⟩
    refine hs i x acc H H' hlt s1 ha hr (w.yields i H x H' hlt q y) _ _ (fun y Hc s2 r => ?_) (fun Hc s2 r => ?_)
    · refine ⟨acc, s2 _ _ ha, hz i acc _ hi hr, hlt, ?_, acc ++ [y], upd_same, ?_⟩
      · rw [wo_upd]; exact s1.trans (wo_same s2)
      · rw [wo_upd]; exact r
    · exact ⟨hlt, s1.trans (wo_same s2), acc, s2 _ _ ha, r⟩
  · have e : i = n := by omega
    subst e
    exact .inl ⟨w.stops H q, hd acc H s1 ha hr⟩
theorem lc2_rel {wi1 : TI} {vs1 : List Nat} {g1 : TG} {tt1 : TT} (w : Walk J n G Y) (Rel : Nat → List V → Hp → Prop) (hD : H1 D = none) (hG : ∀ H', Same H1 H' → G H') (h0 : Rel 0 [] H1) (hm : ∀ i acc A B, Same A B → Rel i acc A → Rel i acc B)
    (hs : ∀ i x acc Ha Hb, i < n → Same H1 Ha → Ha D = some (.lst acc) → Rel i acc (wo D Ha) → Y i Ha x Hb → ∀ Nx : Hp → Prop, (∀ acc' H', Same H1 H' → H' D = some (.lst acc') → Rel (i + 1) acc' (wo D H') → Nx H') →
      g x (wipe σ vs) Hb fun σ2 H2 => wipe σ2 vs = wipe σ vs ∧ tt σ2 H2 fun b H3 => if b = true then wi1 σ2 H3 (In2 D σ2 vs1 g1 tt1 te Nx) else Nx H3)
    (hd : ∀ acc H', Same H1 H' → H' D = some (.lst acc) → Rel n acc (wo D H') → Qd H') :
    ∃ W : Nat → Nat → Hp → Prop, (∃ m, W 0 m (upd H1 D (.lst []))) ∧ ∀ i m H, W i m H →
      (J.stop i H ∧ Qd H) ∨ (J.go i H ∧ ∃ Nx : Hp → Prop, (∀ H', Nx H' → ∃ m', m' < m ∧ W (i + 1) m' H') ∧ ∀ x H', J.yld i H x H' → g x (wipe σ vs) H' fun σ2 H2 => wipe σ2 vs = wipe σ vs ∧ tt σ2 H2 fun b H3 =>
        if b = true then wi1 σ2 H3 (In2 D σ2 vs1 g1 tt1 te Nx) else Nx H3) := by
  refine ⟨fun i m H => m = n - i ∧ i ≤ n ∧ Same H1 H ∧ ∃ acc, H D = some (.lst acc) ∧ Rel i acc (wo D H), ⟨n, by simp, Nat.zero_le _, same_new hD, [], upd_same, ?_⟩, ?_⟩
  · rw [wo_upd]
    exact hm _ _ _ _ (same_wo hD (Same.refl _)) h0
  rintro i m H ⟨rfl, hi, s1, acc, ha, hr⟩
  have q := hG H s1
  by_cases hlt : i < n
  · refine .inr ⟨w.goes i H hlt q, fun H' => i + 1 ≤ n ∧ Same H1 H' ∧ ∃ acc, H' D = some (.lst acc) ∧ Rel (i + 1) acc (wo D H'), fun H' p' => ⟨n - (i + 1), by omega, rfl, p'.1, p'.2⟩, fun x H' y => ?_⟩
    exact hs i x acc H H' hlt s1 ha hr (w.yields i H x H' hlt q y) _ fun acc' H' a b c => ⟨hlt, a, acc', b, c⟩
  · have e : i = n := by omega
    subst e
    exact .inl ⟨w.stops H q, hd acc H s1 ha hr⟩
end
/-! ### repr(..) of a truth value -/
theorem cr_reprB {X : Cx} : CallR X (.builtin "repr") (fun xs H Q => ∃ b : Bool, xs = [.bl b] ∧ Q (.str (if b then "True" else "False")) H) := by
  intro pins s σ H xs us Q I r h
  obtain ⟨b, rfl, q⟩ := h
  obtain ⟨u, rfl, ru⟩ := vals1 r
  cases ru
  exact PySem.P.repr_of_bool ⟨.str _, H, I.tok _, ⟨_, rfl⟩, q⟩
theorem cut_neg {xs : List V} (n : Nat) (h : 0 < n) : cutV xs (some (-(n : Int))) none = xs.drop (xs.length - n) := by
  have e : HT.sIx xs.length 0 (some (-(n : Int))) = xs.length - n := by
    show (if (-(n : Int)) < 0 then ((-(n : Int)) + (xs.length : Int)).toNat else min (-(n : Int)).toNat xs.length) = xs.length - n
    rw [if_pos (by omega)]; omega
  unfold cutV
  rw [e, HT.sIx_none, List.take_of_length_le (by rw [List.length_drop]; omega)]
/-! ### lists of new lists of ints -/
structure A2 {β : Type} (R : V → β → Prop) (vs : List V) (bs : List β) : Prop where
  len : vs.length = bs.length
  at_ : ∀ (i : Nat) (v : V), vs[i]? = some v → ∃ b, bs[i]? = some b ∧ R v b
section
variable {β : Type} {R S : V → β → Prop}
theorem A2.nil : A2 R [] [] := ⟨rfl, fun i v h => by cases h⟩
theorem A2.snoc {vs : List V} {bs : List β} {v : V} {b : β} (h : A2 R vs bs) (r : R v b) : A2 R (vs ++ [v]) (bs ++ [b]) := by
  refine ⟨by rw [List.length_append, List.length_append, h.len]; rfl, fun i u hu => ?_⟩
  by_cases e : i < vs.length
  · rw [List.getElem?_append_left e] at hu
    obtain ⟨b', e1, e2⟩ := h.at_ i u hu
    exact ⟨b', by rw [List.getElem?_append_left (by rw [← h.len]; exact e)]; exact e1, e2⟩
  · rw [List.getElem?_append_right (by omega)] at hu
    have z : i - vs.length = 0 := by
      have := (List.getElem?_eq_some_iff.mp hu).1
      simp only [List.length_cons, List.length_nil] at this
      omega
    rw [z] at hu
    obtain rfl := Option.some.inj hu
    exact ⟨b, by rw [List.getElem?_append_right (by rw [← h.len]; omega), ← h.len, z]; rfl, r⟩
theorem A2.mono {vs : List V} {bs : List β} (h : A2 R vs bs) (k : ∀ v b, R v b → S v b) : A2 S vs bs := ⟨h.len, fun i v e => let ⟨b, e1, e2⟩ := h.at_ i v e; ⟨b, e1, k v b e2⟩⟩
theorem A2.tail {v : V} {vs : List V} {b : β} {bs : List β} (h : A2 R (v :: vs) (b :: bs)) : R v b ∧ A2 R vs bs := by
  refine ⟨?_, by simpa using h.len, fun i u e => h.at_ (i + 1) u e⟩
  obtain ⟨b', e1, e2⟩ := h.at_ 0 v rfl
  obtain rfl : b = b' := Option.some.inj e1
  exact e2
theorem A2.cons {v : V} {vs : List V} {b : β} {bs : List β} (r : R v b) (h : A2 R vs bs) : A2 R (v :: vs) (b :: bs) := by
  refine ⟨by rw [List.length_cons, List.length_cons, h.len], fun i u e => ?_⟩
  cases i with
  | zero => obtain rfl := Option.some.inj e; exact ⟨b, rfl, r⟩
  | succ i => exact h.at_ i u e
theorem A2.app {vs ws : List V} {bs cs : List β} (h : A2 R vs bs) (g : A2 R ws cs) : A2 R (vs ++ ws) (bs ++ cs) := by
  induction vs generalizing bs with
  | nil =>
    cases bs with
    | nil => exact g
    | cons _ _ => have := h.len; cases this
  | cons v vs ih =>
    cases bs with
    | nil => have := h.len; cases this
    | cons b bs => exact .cons h.tail.1 (ih h.tail.2)
theorem A2.get {vs : List V} {bs : List β} (h : A2 R vs bs) {i : Nat} {b : β} (e : bs[i]? = some b) : ∃ v, vs[i]? = some v ∧ R v b := by
  have l := (List.getElem?_eq_some_iff.mp e).1
  have hv : vs[i]? = some (vs[i]'(by rw [h.len]; exact l)) := List.getElem?_eq_getElem _
  obtain ⟨b', e1, e2⟩ := h.at_ i _ hv
  rw [e] at e1
  obtain rfl := Option.some.inj e1
  exact ⟨_, hv, e2⟩
end
theorem a2_hs {K : PySem.W.Frag} {H : Hp} {α : Type} [DecidableEq α] [Datum α] {R : V → α → Prop} (k : ∀ v b, R v b → Hd K H v b) : ∀ {vs : List V} {bs : List α}, A2 R vs bs → Hs K H vs bs
  | [], [], _ => .nil
  | [], _ :: _, h => by have := h.len; cases this
  | _ :: _, [], h => by have := h.len; cases this
  | _ :: _, _ :: _, h => .cons (k _ _ h.tail.1) (a2_hs k h.tail.2)
/-- a list of ints that is new since H0 -/
def Rw (H0 H : Hp) (v : V) (l : List Int) : Prop := ∃ b, v = .ref b ∧ H0 b = none ∧ H b = some (.lst (l.map V.int))
theorem Rw.same {H0 H H' : Hp} {v : V} {l : List Int} (e : Same H H') (h : Rw H0 H v l) : Rw H0 H' v l := let ⟨b, a, c, d⟩ := h; ⟨b, a, c, e _ _ d⟩
theorem Rw.old {H0 G0 H : Hp} {v : V} {l : List Int} (e : Same G0 H0) (h : Rw H0 H v l) : Rw G0 H v l := let ⟨b, a, c, d⟩ := h; ⟨b, a, e.free c, d⟩
theorem Rw.hd {K : PySem.W.Frag} {H0 H : Hp} {v : V} {l : List Int} (h : Rw H0 H v l) : Hd K H v l := by
  obtain ⟨b, rfl, _, d⟩ := h
  exact hd_ints (SqL.of d)
theorem rws_hs {K : PySem.W.Frag} {H0 H : Hp} {vs : List V} {L : List (List Int)} (h : A2 (Rw H0 H) vs L) : Hs K H vs L := a2_hs (fun _ _ r => r.hd) h
end Fp

namespace Fp
open PySem PySem.Spec PyProof.Rows L2 PySem.W
/-! ### enumerate of a list or a tuple -/
abbrev eObj (it : Addr) : Obj := { cls := .type "enumerate", data := .fields #[.none, .bool false, .ref it, rawInt 0, .none, .none] }
theorem meets_enum1 {v : Value} {o : Obj} {G : Heap → Prop} (B : Begins v o G) :
    Meets (Builtin.«enumerate.__new__» ⟨[.type "enumerate", v], []⟩) (fun _ R s => G s.heap ∧ R (.ok (.ret (.ref (s.heap.push o).objs.size))) { s with heap := (s.heap.push o).push (eObj s.heap.objs.size) }) :=
  .of_wp fun prog w A R s0 hyp => by
    obtain ⟨hp0, gens0, drawn0, tok0, os0⟩ := s0
    obtain ⟨ground, fin⟩ := hyp
    have subE := sub_enumerate
    have first : ∀ {A' : Around} {E : Value → Shared → Prop} {Q : Value → Shared → Prop}, Q (.ref hp0.objs.size) ⟨hp0.push o, gens0, drawn0, tok0, os0⟩ → wpAny (model prog w) A' (pyIter v) Q E ⟨hp0, gens0, drawn0, tok0, os0⟩ :=
      fun z => B.iter prog w _ _ ⟨hp0, gens0, drawn0, tok0, os0⟩ _ ground z
    wp_walk using first
    refine wpAny_stack_any fun frames => wpAny_pure ?_
    split
    · rename_i cl _ _ _ _ _
      cases (cl == Value.type "enumerate") <;>
      · wp_walk using first
        exact ⟨_, rfl, fin⟩
    · wp_walk using first
      exact ⟨_, rfl, fin⟩
section
variable {prog : Program} {w : World} {A : Around} {E : Value → Shared → Prop} {s : Shared}
theorem enum_made {κ : Bool} {l : Addr} {xs : Array Value} {Q : Value → Shared → Prop} (h1 : SqAtK κ s.heap l xs)
    (h : ∀ h', IsEnum h' (s.heap.objs.size + 1) s.heap.objs.size 0 .none → ItAtK κ h' s.heap.objs.size l 0 → (∀ b o, s.heap.get? b = some o → h'.get? b = some o) → Q (.ref (s.heap.objs.size + 1)) { s with heap := h' }) :
    wpAny (model prog w) A (call (.type "enumerate") [.ref l]) Q E s := by
  have key : ∀ {o : Obj} {G : Heap → Prop}, Begins (.ref l) o G → G s.heap → (∀ h' : Heap, h'.get? s.heap.objs.size = some o → ItAtK κ h' s.heap.objs.size l 0) → wpAny (model prog w) A (call (.type "enumerate") [.ref l]) Q E s := by
    intro o G B hG hit
    refine callType_new F.called_enumerate (by decide) (F.typeCall_enumerate_1 _) (F.newCall_enumerate_1 _) (fun obj => F.args_object_init_2 obj _) F.entry_enumerate_new (meets_enum1 B) ⟨hG, ?_⟩
    have sz : (s.heap.push o).objs.size = s.heap.objs.size + 1 := Heap.size_push ..
    have at1 : ((s.heap.push o).push (eObj s.heap.objs.size)).get? (s.heap.objs.size + 1) = some (eObj s.heap.objs.size) := by
      have z := Heap.get?_push_size (s.heap.push o) (o := eObj s.heap.objs.size) rfl
      rw [sz] at z
      exact z
    show _ ∧ _
    rw [sz]
    exact ⟨⟨_, at1, rfl⟩, h _ at1 (hit _ (Heap.get?_push_of_some _ (Heap.get?_push_size _ B.free))) fun b o x => Heap.get?_push_of_some _ (Heap.get?_push_of_some _ x)⟩
  cases κ with
  | false => exact key (begins_list l xs) h1 fun h' e => ⟨_, e, rfl, rfl⟩
  | true => exact key (begins_tuple l xs) h1 fun h' e => ⟨_, e, rfl, rfl⟩
end
def ItN (K : PySem.W.Frag) (κ : Bool) (a : Addr) (xs : List V) : It :=
  ⟨fun i H => SqK κ K H a xs ∧ i < xs.length, fun i H v H' => ∃ T x, v = .ref T ∧ H T = none ∧ H' = upd H T (.tup [.int (i : Nat), x]) ∧ xs[i]? = some x, fun i H => SqK κ K H a xs ∧ i = xs.length⟩
def TnN (κ : Bool) (e it a : Addr) (i : Nat) (h : Heap) : Prop := (∃ old, IsEnum h e it ((i : Nat) : Int) old) ∧ ItAtK κ h it a i ∧ e ≠ it ∧ e ≠ a ∧ a ≠ it
theorem enum_turns {P : Program} {w : World} {K : PySem.W.Frag} {elts : List Expr} {kk : Nat} {tpos : Pos} {κ : Bool} {a e it : Addr} {xs : List V} :
    Turn P w K (.Tuple elts kk tpos) (ItN K κ a xs) [e, it] e (TnN κ e it a) := by
  refine ⟨by simp, ?_, ?_, ?_, ?_, ?_⟩
  · rintro i h ⟨⟨old, he⟩, hi, _⟩ b hb
    have e' : b = e ∨ b = it := by simpa using hb
    rcases e' with z | z <;> subst z
    · exact ⟨_, he, fun v q => nomatch q⟩
    · exact hi.obj
  · rintro i h h' ⟨⟨old, he⟩, hi, n1, n2, n3⟩ k
    exact ⟨⟨old, k e (by simp) _ he⟩, hi.at fun o q => k it (by simp) o q, n1, n2, n3⟩
  · intro X hP hw hK hc i pins s σ H E I hf st hg
    subst hP hw hK
    obtain ⟨⟨old, he⟩, hit, n1, n2, n3⟩ := st
    obtain ⟨qx, lx⟩ := hg
    obtain ⟨its, rv, p, _⟩ := Inv.seqK I qx
    have hA : X.A.in1.handled = none := by
      have q := I.ok.hd hc
      simpa using q
    have el : e < s.heap.objs.size := Heap.lt_size he
    have il : it < s.heap.objs.size := by obtain ⟨_, q, _⟩ := hit.obj; exact Heap.lt_size q
    have len := rv.length
    refine wpAny_pyNext_enum_itemC (draws_k κ hA it a n3 its.toArray) he ⟨hit, p⟩ (by simp; omega) n1 (by simp only [List.mem_cons, List.not_mem_nil, or_false, not_or]; exact ⟨n1, n2⟩) ?_
    intro u h' tk hu ho st' hT hsz hk
    obtain ⟨x, hx, ru⟩ : ∃ x, xs[i]? = some x ∧ RelV x u := by
      obtain ⟨u', e1, e2⟩ := rv.get (List.getElem?_eq_getElem lx)
      have e3 : its[i]? = some u := by simpa using hu
      rw [e1] at e3
      obtain rfl := Option.some.inj e3
      exact ⟨_, List.getElem?_eq_getElem lx, e2⟩
    refine ⟨_, rfl, wpAny_letOwnedTupleGo_enum (s := { s with heap := h', toks := tk + 1 }) ho fun h'' he' sb => ?_⟩
    have T2 : h''.get? s.heap.objs.size = some { cls := .type "tuple", data := .seq #[.int i tk, u] } := (sb.2 _ (Nat.ne_of_gt el)).trans hT
    have I1 : L2.Inv X pins σ (upd H s.heap.objs.size (.tup [.int (i : Nat), x])) { s with heap := h'', toks := tk + 1 } :=
      I.turnedNew (ch := [e, it]) (fun b ob hb q => (sb.2 b (fun z => hb (by simp [z]))).trans (hk b ob (fun z => hb (by simp [z])) (fun z => hb (by simp [z])) q)) hf (Nat.le_refl _)
        ⟨by show 2 ≤ sizeLine; decide, [.int i tk, u], .cons ⟨_, rfl⟩ (.cons ru .nil), ⟨_, T2, rfl, _, rfl⟩⟩
    refine ⟨.ref s.heap.objs.size, _, I1, rfl, ⟨_, x, rfl, I.hok.fresh (Nat.le_refl _), rfl, hx⟩, ⟨⟨u, ?_⟩, st'.1.at fun o q => (sb.2 it (Ne.symm n1)).trans q, n1, n2, n3⟩, fun b hb => ?_⟩
    · have e1 : ((i + 1 : Nat) : Int) = (i : Int) + 1 := by omega
      rw [e1]; exact he'
    · have lt : b < s.heap.objs.size := by
        have e' : b = e ∨ b = it := by simpa using hb
        rcases e' with z | z <;> subst z
        · exact el
        · exact il
      rw [upd_ne (Nat.ne_of_lt lt)]
      exact (hf b hb).1
  · intro X hP hw hK hc i pins s σ H E I hf st hg
    subst hP hw hK
    obtain ⟨⟨old, he⟩, hit, n1, n2, n3⟩ := st
    obtain ⟨qx, lx⟩ := hg
    obtain ⟨its, rv, p, _⟩ := Inv.seqK I qx
    have hA : X.A.in1.handled = none := by
      have q := I.ok.hd hc
      simpa using q
    have len := rv.length
    obtain ⟨f0, f1, f2, f3, f4, f5⟩ := hf it (by simp)
    have le : its.toArray.size = i := by simp; omega
    refine wpAny_pyNext_enum_endD (draws_k κ hA it a n3 its.toArray) he (by rw [le]; exact ⟨hit, p⟩) fun h' eb => ⟨rfl, I.turned (t' := s.toks) (fun b o hb q => eb b o hb q) f0 f1 f3 f4 f5⟩
  · rintro A i s Q E ⟨⟨old, he⟩, _⟩ h
    exact wpAny_pyIter_enum he h
def iEnumS (K : PySem.W.Frag) (ta : TA) : TI := fun σ H R => ta σ H fun vs H1 => ∃ a xs κ, vs = [.ref a] ∧ SqK κ K H1 a xs ∧ R (ItN K κ a xs) H1
theorem pi_enumS {X : Cx} {e : Expr} {ta : TA} {p pos tpos : Pos} {elts : List Expr} {kk : Nat} (hg : Gl X "enumerate") (hm : X.mg "enumerate" = none) (ha : PA X [e] ta) (hs : starEach [e] X.env = [(false, eval e X.env)] := by rfl) :
    PI X (.Tuple elts kk tpos) (.Call (.Name "enumerate" p) [e] [] pos) (iEnumS X.K ta) := by
  refine ⟨fun pins s σ H R I h => Call_ (ld_blt I hg hm boot_enumerate (PyProof.Rows.callWith_type1 (thn (ha.run pos pins s σ H _ I h) ?_) hs rfl))⟩
  rintro us s1 ⟨vs, H1, I1, r1, a, xs, κ, rfl, kx, q⟩
  obtain ⟨u1, rfl, ra⟩ := vals1 r1
  cases ra
  obtain ⟨its, rv, p1, la⟩ := Inv.seqK I1 kx
  refine enum_made p1 fun h' he hit hk => wpAny_pyIter_enum he ?_
  refine ⟨s1.heap.objs.size + 1, _, _, _, H1, rfl, I1.kept (t' := s1.toks) hk, enum_turns, ⟨⟨.none, he⟩, hit, Nat.succ_ne_self _, Nat.ne_of_gt (Nat.lt_succ_of_lt la), Nat.ne_of_lt la⟩, fun b hb => ?_, q⟩
  have le : s1.heap.objs.size ≤ b := by
    have e' : b = s1.heap.objs.size + 1 ∨ b = s1.heap.objs.size := by simpa using hb
    rcases e' with z | z <;> rw [z]
    · exact Nat.le_succ _
    · exact Nat.le_refl _
  exact I1.fpOk le (I1.hok.fresh le)
theorem walk_enumS {K : PySem.W.Frag} {κ : Bool} {a : Addr} {xs : List V} {n : Nat} (hn : n = xs.length) : Walk (ItN K κ a xs) n (fun H => SqK κ K H a xs) (YPair (fun i => some (.int (i : Nat))) (fun i => xs[i]?)) := by
  subst hn
  refine ⟨fun i _ hi q => ⟨q, hi⟩, fun _ q => ⟨q, rfl⟩, fun i H v H' _ q y => ?_⟩
  obtain ⟨T, x, h1, h2, h3, h4⟩ := y
  exact ⟨T, .int (i : Nat), x, h1, h2, h3, rfl, h4⟩
end Fp

namespace PyProof.Rows
open PySem PySem.Spec PySem.W
theorem collect_tupI {prog : Program} {w : World} {A : Around} {E : Value → Shared → Prop} {s : Shared} {l : Addr} {vs : List Value} {Q : List Value → Shared → Prop} (hl : s.heap.IsTuple l vs.toArray)
    (h : Q vs { s with heap := (s.heap.push (seqObj "list" #[] 0)).update s.heap.objs.size (Obj.mapSeq (· ++ vs.toArray)) }) (hsz : vs.length ≤ sizeLine) :
    wpAny (model prog w) A (collect (.ref l)) Q E s := by
  obtain ⟨o, ho, hc, n, hd⟩ := id hl
  unfold collect
  refine wpAny_bind (wpAny_runValue (codeAny_builtin entry_proto_collect' ?_))
  show wpAny _ _ (do again (.builtin "list.__iadd__" ⟨[← newList [], .ref l], []⟩)) _ _ s
  refine wpAny_bind (wpAny_newList (wpAny_pure ⟨Code.quiet_builtin _ (by decide +kernel), codeAny_builtin entry_list_iadd' ?_⟩))
  show wpAny _ _ (Builtin.List.listExtendWith (.ref s.heap.objs.size) (.ref l) (.ref s.heap.objs.size)) _ _ { s with heap := s.heap.push (seqObj "list" #[] 0) }
  unfold Builtin.List.listExtendWith
  have ho' : (s.heap.push (seqObj "list" #[] 0)).get? l = some o := Heap.get?_push_of_some _ ho
  refine wpAny_bind (wpAny_typeOf (T := "tuple") ⟨o, ho', hc⟩ ?_)
  have ht : (Value.type "tuple" == Value.type "tuple") = true := by rfl
  rw [if_pos (by rw [ht]; simp)]
  refine wpAny_bind (listItems_at ho' hd ?_)
  refine wpAny_bind (listItems_at (xs := #[]) (n := 0) (Heap.get?_push_size _ rfl) rfl ?_)
  rw [if_neg (by simp)]
  refine wpAny_bind (listUpdate_at (xs := #[]) (n := 0) (Heap.get?_push_size _ rfl) rfl ?_ (Nat.zero_le _) (by show (#[] ++ vs.toArray).size ≤ sizeLine + 1; simp only [Array.size_append, List.size_toArray, List.length_nil]; omega))
  refine wpAny_pure ?_
  show wpAny (model prog w) A (do
      let o ← load s.heap.objs.size
      match o.data with
      | .seq xs _ => pure xs.toList
      | _ => unsupported "internal:collect") Q E { s with heap := (s.heap.push (seqObj "list" #[] 0)).update s.heap.objs.size (Obj.mapSeq (· ++ vs.toArray)) }
  refine wpAny_bind (wpAny_load (get?_update_seq (Heap.get?_push_size _ rfl) _) ?_)
  show wpAny _ _ (pure ((#[] : Array Value) ++ vs.toArray).toList) Q E _
  refine wpAny_pure ?_
  simpa using h
end PyProof.Rows
namespace SrtO
open PySem PySem.Spec PyProof.Rows PySem.W
theorem sorted_ordT {prog : Program} {w : World} {A : Around} {E : Value → Shared → Prop} {s : Shared} {l : Addr} {vs : List Value} {ltv : Value → Value → Bool} {Q : Value → Shared → Prop} (O : Swo ltv) (hl : s.heap.IsTuple l vs.toArray) (hz : vs.length ≤ sizeLine)
    (hS : 2 ≤ vs.length → ∀ (h₁ : Heap) (a : Addr), h₁.get? a = some (seqObj "list" vs.toArray 0) → (∀ b o, s.heap.get? b = some o → b ≠ a ∧ h₁.get? b = some o) → SortableO prog w A.in1.in1 { s with heap := h₁ } a vs ltv)
    (h : ∀ out : List Value, Srtd ltv out → Stb ltv out vs → Q (.ref (s.heap.objs.size + 1)) { s with heap := sortedAll s.heap vs out.toArray }) :
    wpAny (model prog w) A (call (.builtin "sorted") [.ref l]) Q E s := by
  refine Calls.call_function_entry kind_sorted plain_sorted entry_sorted (args_sorted1 _) ?_
  unfold Builtin.«sorted»
  refine wpAny_bind (m := checkCount "sorted" 1 1 _) (wpAny_pure ?_)
  refine wpAny_bind (collect_tupI hl ?_ hz)
  refine wpAny_bind (wpAny_newList ?_ hz)
  have hsz : ((s.heap.push (seqObj "list" #[] 0)).update s.heap.objs.size (Obj.mapSeq (· ++ vs.toArray))).objs.size = s.heap.objs.size + 1 := by
    rw [Heap.size_update, size_push']
  have hoL : (((s.heap.push (seqObj "list" #[] 0)).update s.heap.objs.size (Obj.mapSeq (· ++ vs.toArray))).push (seqObj "list" vs.toArray 0)).get? (s.heap.objs.size + 1) = some (seqObj "list" vs.toArray 0) := by
    rw [← hsz]; exact Heap.get?_push_size _ rfl
  have keep : ∀ b o, s.heap.get? b = some o → b ≠ s.heap.objs.size + 1 ∧ (((s.heap.push (seqObj "list" #[] 0)).update s.heap.objs.size (Obj.mapSeq (· ++ vs.toArray))).push (seqObj "list" vs.toArray 0)).get? b = some o := fun b o q => by
    have hlt : b < s.heap.objs.size := Heap.lt_size q
    refine ⟨Nat.ne_of_lt (Nat.lt_succ_of_lt hlt), Heap.get?_push_of_some _ ?_⟩
    rw [Heap.get?_update_ne _ _ _ _ (Nat.ne_of_lt hlt)]
    exact Heap.get?_push_of_some _ q
  show wpAny _ _ _ _ _ { s with heap := ((s.heap.push (seqObj "list" #[] 0)).update s.heap.objs.size (Obj.mapSeq (· ++ vs.toArray))).push (seqObj "list" vs.toArray 0) }
  rw [hsz]
  refine wpAny_bind (wpAny_holding (wpAny_call_entry slot_list_sort ⟨_, hoL, rfl⟩ entry_list_sort (list_sort_ord O hoL hz (fun h2 => hS h2 _ _ hoL keep) fun out hs hb => ⟨_, rfl, ?_⟩) (args_list_sort _)))
  exact wpAny_pure ⟨_, rfl, h out hs hb⟩
end SrtO
namespace Fp
open PySem PySem.Spec PyProof.Rows L2 PySem.W
/-- sorted of ints in a list or a tuple -/
def rSortIS (K : PySem.W.Frag) : List V → Hp → VK → Prop := fun vs H Q => ∃ (a : Addr) (ns : List Int), vs = [V.ref a] ∧ Sq K H a (ns.map V.int) ∧
  ∀ (ns' : List Int) (p : Addr), ns'.Perm ns → ns'.Pairwise (· ≤ ·) → H p = none → Q (.ref p) (upd H p (.lst (ns'.map V.int)))
theorem cr_sortIS {X : Cx} : CallR X (.builtin "sorted") (rSortIS X.K) := by
  intro pins s σ H vs us Q I r h
  obtain ⟨a, ns, rfl, hs, q⟩ := h
  rcases hs with hs | hs
  · exact cr_sortedI pins s σ H [.ref a] us Q I r ⟨a, ns, rfl, hs, q⟩
  obtain ⟨its, rv, hl, hz⟩ := I.tuple hs
  rw [Vals.ref1 r]
  have hi := rv.ints
  have hz' : its.length ≤ sizeLine := by
    have := rv.length
    first | omega | exact this ▸ hz | simpa using hz
  refine SrtO.sorted_ordT SrtO.swo_int hl hz' (fun h2 h₁ a' _ _ => SrtO.ints_sortable hi h2) fun out h1 h2 => ?_
  obtain ⟨k1, k2, k3⟩ := SrtO.ints_out hi h1 h2
  obtain ⟨ep, he'⟩ := PyProof.Rows.sortedAll_at s.heap its out.toArray
  have hlen : ((out.map SrtO.iv).map V.int).length ≤ sizeLine := by
    rw [List.length_map, k2.length_eq]
    have := hi.length
    omega
  exact ⟨.ref _, upd H (s.heap.objs.size + 1) (.lst ((out.map SrtO.iv).map V.int)), I.laid (t' := s.toks) (fun _ _ => PyProof.Rows.sortedAll_old) (Nat.le_succ _) ⟨hlen, out, ep, vals_of_ints k1, he'⟩, rfl, q _ _ k2 k3 (I.hok.fresh (Nat.le_succ _))⟩
/-! ### min and max of ints in a list or a tuple -/
theorem min_tupI {prog : Program} {w : World} {A : Around} {E : Value → Shared → Prop} {s : Shared} {l : Addr} {its : List Value} {ns : List Int} {Q : Value → Shared → Prop} (hh : A.handled = none) (hl : s.heap.IsTuple l its.toArray) (hi : IntsAre its ns) (hne : 0 < ns.length)
    (h : ∀ h' tk M t', (∀ b o, s.heap.get? b = some o → h'.get? b = some o) → M ∈ ns → (∀ a, a ∈ ns → M ≤ a) → Q (.int M t') { s with heap := h', toks := tk }) : wpAny (model prog w) A (call (.builtin "min") [.ref l]) Q E s := by
  obtain ⟨xs, e⟩ := hi.allInts.items
  have hn : numsOf (intItems xs).toList = ns := by rw [← e]; exact hi.numsOf
  rw [nums_intItems] at hn
  subst hn
  rw [e] at hl
  have hsz : 0 < xs.size := by simpa using hne
  have hl0 : l < s.heap.objs.size := by obtain ⟨o, ho, _⟩ := hl; exact Heap.lt_size ho
  refine call_min_walk (wpAny_pyIter_tuple hl ?_)
  refine ⟨_, [_, l], [_], _, _, _, _, rfl, Walks.tuple (A := A.in1) hh _ l (Nat.ne_of_lt hl0) (intItems xs), ⟨⟨_, Heap.get?_push_size _ rfl, rfl, rfl⟩, hl.push _⟩, fun c hc => ?_, by simpa [intItems] using hsz, CmpOf.ints_lt (numAt xs) (fun _ _ => intItems_at), fun v h' tk hP hk => ?_⟩
  · show c < (s.heap.push _).objs.size
    rw [Heap.size_push]
    rcases List.mem_cons.mp hc with rfl | hc
    · exact Nat.lt_succ_self _
    · rw [List.mem_singleton.mp hc]; exact Nat.lt_succ_of_lt hl0
  · have kept : ∀ b o, s.heap.get? b = some o → h'.get? b = some o := fun b o eb => hk b o (fun hm => by
      rw [List.mem_singleton.mp hm] at eb
      exact Nat.lt_irrefl _ (Heap.lt_size eb)) (Heap.get?_push_of_some _ eb)
    obtain ⟨t, rfl⟩ := intItems_at (by simpa [intItems] using hP)
    obtain ⟨h1, h2⟩ := argBest_lt (numAt xs) (xs.size - 1)
    refine h h' tk _ t kept ?_ fun a ha => ?_
    · rw [numAt_eq]; exact PySem.getD_mem (by rw [List.length_map, Array.length_toList]; omega)
    · obtain ⟨j, hj, rfl⟩ := mem_getD ha
      rw [List.length_map, Array.length_toList] at hj
      rw [← numAt_eq]; exact h2 j (by omega)
def rMinS (K : PySem.W.Frag) : List V → Hp → VK → Prop := fun vs H Q => ∃ (a : Addr) (ns : List Int), vs = [V.ref a] ∧ Sq K H a (ns.map V.int) ∧ 0 < ns.length ∧ ∀ m, m ∈ ns → (∀ y, y ∈ ns → m ≤ y) → Q (.int m) H
theorem cr_minS {X : Cx} (hc : X.calm = true) : CallR X (.builtin "min") (rMinS X.K) := by
  intro pins s σ H vs us Q I r h
  obtain ⟨a, ns, rfl, hs, hne, q⟩ := h
  rcases hs with hs | hs
  · exact cr_min hc pins s σ H [.ref a] us Q I r ⟨a, ns, rfl, hs, hne, q⟩
  · obtain ⟨its, rv, hl, _⟩ := I.tuple hs
    rw [Vals.ref1 r]
    exact min_tupI (I.ok.hd hc) hl rv.ints hne fun h' tk m t' hk h1 h2 => ⟨.int _, H, I.kept hk, ⟨_, rfl⟩, q m h1 h2⟩
theorem max_tupI {prog : Program} {w : World} {A : Around} {E : Value → Shared → Prop} {s : Shared} {l : Addr} {its : List Value} {ns : List Int} {Q : Value → Shared → Prop} (hh : A.handled = none) (hl : s.heap.IsTuple l its.toArray) (hi : IntsAre its ns) (hne : 0 < ns.length)
    (h : ∀ h' tk M t', (∀ b o, s.heap.get? b = some o → h'.get? b = some o) → M ∈ ns → (∀ a, a ∈ ns → a ≤ M) → Q (.int M t') { s with heap := h', toks := tk }) : wpAny (model prog w) A (call (.builtin "max") [.ref l]) Q E s := by
  obtain ⟨xs, e⟩ := hi.allInts.items
  have hn : numsOf (intItems xs).toList = ns := by rw [← e]; exact hi.numsOf
  rw [nums_intItems] at hn
  subst hn
  rw [e] at hl
  have hsz : 0 < xs.size := by simpa using hne
  have hl0 : l < s.heap.objs.size := by obtain ⟨o, ho, _⟩ := hl; exact Heap.lt_size ho
  refine call_max_walk (wpAny_pyIter_tuple hl ?_)
  refine ⟨_, [_, l], [_], _, _, _, _, rfl, Walks.tuple (A := A.in1) hh _ l (Nat.ne_of_lt hl0) (intItems xs), ⟨⟨_, Heap.get?_push_size _ rfl, rfl, rfl⟩, hl.push _⟩, fun c hc => ?_, by simpa [intItems] using hsz, CmpOf.ints_gt (numAt xs) (fun _ _ => intItems_at), fun v h' tk hP hk => ?_⟩
  · show c < (s.heap.push _).objs.size
    rw [Heap.size_push]
    rcases List.mem_cons.mp hc with rfl | hc
    · exact Nat.lt_succ_self _
    · rw [List.mem_singleton.mp hc]; exact Nat.lt_succ_of_lt hl0
  · have kept : ∀ b o, s.heap.get? b = some o → h'.get? b = some o := fun b o eb => hk b o (fun hm => by
      rw [List.mem_singleton.mp hm] at eb
      exact Nat.lt_irrefl _ (Heap.lt_size eb)) (Heap.get?_push_of_some _ eb)
    obtain ⟨t, rfl⟩ := intItems_at (by simpa [intItems] using hP)
    obtain ⟨h1, h2⟩ := argBest_gt (numAt xs) (xs.size - 1)
    refine h h' tk _ t kept ?_ fun a ha => ?_
    · have h1' : argBest (fun i j => decide (numAt xs j < numAt xs i)) (xs.size - 1) ≤ xs.size - 1 := h1
      rw [numAt_eq]; exact PySem.getD_mem (by rw [List.length_map, Array.length_toList]; omega)
    · obtain ⟨j, hj, rfl⟩ := mem_getD ha
      rw [List.length_map, Array.length_toList] at hj
      rw [← numAt_eq]; exact h2 j (by omega)
def rMaxS (K : PySem.W.Frag) : List V → Hp → VK → Prop := fun vs H Q => ∃ (a : Addr) (ns : List Int), vs = [V.ref a] ∧ Sq K H a (ns.map V.int) ∧ 0 < ns.length ∧ ∀ m, m ∈ ns → (∀ y, y ∈ ns → y ≤ m) → Q (.int m) H
theorem cr_maxS {X : Cx} (hc : X.calm = true) : CallR X (.builtin "max") (rMaxS X.K) := by
  intro pins s σ H vs us Q I r h
  obtain ⟨a, ns, rfl, hs, hne, q⟩ := h
  rcases hs with hs | hs
  · exact cr_max hc pins s σ H [.ref a] us Q I r ⟨a, ns, rfl, hs, hne, q⟩
  · obtain ⟨its, rv, hl, _⟩ := I.tuple hs
    rw [Vals.ref1 r]
    exact max_tupI (I.ok.hd hc) hl rv.ints hne fun h' tk m t' hk h1 h2 => ⟨.int _, H, I.kept hk, ⟨_, rfl⟩, q m h1 h2⟩
end Fp

namespace Fp
open PySem PySem.Spec PyProof.Rows L2 PySem.W
section
variable {X : Cx}
/-! ### sorted, in whatever heap the items are read -/
def SrR2 {α : Type} (all : List V) (L : List α) (v : Value) (b : α) : Prop := ∃ x, x ∈ all ∧ RelV x v ∧ ∀ S : V → α → Prop, A2 S all L → S x b
theorem srt_in2 {α : Type} {all : List V} {L : List α} : ∀ {vs : List V} {its : List Value} {xs : List α}, (∀ v ∈ vs, v ∈ all) → (∀ S : V → α → Prop, A2 S all L → A2 S vs xs) → Vals vs its → vs.length = xs.length → EachIs (SrR2 all L) its xs
  | [], _, [], _, _, r, _ => by cases r; exact .nil
  | [], _, _ :: _, _, _, _, h => by cases h
  | _ :: _, _, [], _, _, _, h => by cases h
  | v :: vs, _, x :: xs, m, t, r, h => by
    cases r with
    | cons r1 r2 =>
      exact .cons ⟨v, m v List.mem_cons_self, r1, fun S g => (t S g).tail.1⟩ (srt_in2 (fun u hu => m u (List.mem_cons_of_mem _ hu)) (fun S g => (t S g).tail.2) r2 (by simpa using h))
theorem srt_out2 {α : Type} {all : List V} {L : List α} : ∀ {its : List Value} {xs : List α}, EachIs (SrR2 all L) its xs → ∃ ws, Vals ws its ∧ (∀ S : V → α → Prop, A2 S all L → A2 S ws xs) ∧ ∀ w ∈ ws, w ∈ all
  | _, _, .nil => ⟨[], .nil, fun _ _ => .nil, fun w h => by cases h⟩
  | _, _, .cons h r => by
    obtain ⟨x, m, rx, hx⟩ := h
    obtain ⟨ws, r1, r2, r3⟩ := srt_out2 r
    exact ⟨x :: ws, .cons rx r1, fun S g => .cons (hx S g) (r2 S g), fun w hw => by
      rcases List.mem_cons.mp hw with e | e
      · rw [e]; exact m
      · exact r3 w e⟩
theorem hs_a2 {α : Type} [DecidableEq α] [Datum α] {K : PySem.W.Frag} {H : Hp} {vs : List V} {L : List α} (h : Hs K H vs L) : A2 (Hd K H) vs L := ⟨h.len, fun _ _ e => h.at e⟩
def rSortH2 (α : Type) [DecidableEq α] [Datum α] (K : PySem.W.Frag) : List V → Hp → VK → Prop := fun vs H Q => ∃ (a : Addr) (xs : List V) (L : List α), vs = [V.ref a] ∧ SqL K H a xs ∧ Hs K H xs L ∧
  ∀ p ws, (∀ w ∈ ws, w ∈ xs) → (∀ S : V → α → Prop, A2 S xs L → A2 S ws (L.mergeSort leH)) → H p = none → Q (.ref p) (upd H p (.lst ws))
theorem cr_sortH2 (α : Type) [DecidableEq α] [Datum α] [Srt1 α] (hu : X.A.units + 2 + Datum.depth α < cLine) : CallR X (.builtin "sorted") (rSortH2 α X.K) := by
  intro pins s σ H vs us Q I r h
  obtain ⟨a, xs, L, rfl, hs, hL, q⟩ := h
  obtain ⟨its, rv, hl, hz⟩ := I.list hs
  rw [Vals.ref1 r]
  have el := srt_in2 (all := xs) (L := L) (fun _ m => m) (fun _ g => g) rv hL.len
  have n1 : L.length = xs.length := hL.len.symm
  have er : EachIs (fun v (b : α) => ∃ as, Reads s.heap v (Datum.toD b) as) its L := el.mono fun v b ⟨x, _, rx, hx⟩ => Dp.reads I _ x v (hx _ (hs_a2 hL)) rx
  refine sorted_data (enc := Datum.toD) hl.isList el er (AllAlike.of Srt1.like) (Sortable.others Srt1.other) (by rw [n1]; exact hz) (fun b _ => Nat.lt_of_le_of_lt (Nat.add_le_add_left (Datum.depth_le b) _) hu) fun out ho eo => ?_
  obtain ⟨ws, r1, r2, r3⟩ := srt_out2 eo
  obtain ⟨ep, he'⟩ := PyProof.Rows.sortedAll_at s.heap its out.toArray
  have hlen : ws.length ≤ sizeLine := by rw [r1.length, ho, n1]; exact hz
  exact ⟨.ref _, upd H (s.heap.objs.size + 1) (.lst ws), I.laid (t' := s.toks) (fun _ _ => PyProof.Rows.sortedAll_old) (Nat.le_succ _) ⟨hlen, out, ep, r1, he'⟩, rfl, q _ _ r3 r2 (I.hok.fresh (Nat.le_succ _))⟩
end
end Fp

namespace Fp
open PySem PySem.Spec PyProof.Rows L2
/-! ### zip of three lists or tuples -/
def YTrip (xs ys zs : Nat → Option V) : Nat → Hp → V → Hp → Prop := fun i H v H' => ∃ T x y z, v = .ref T ∧ H T = none ∧ H' = upd H T (.tup [x, y, z]) ∧ xs i = some x ∧ ys i = some y ∧ zs i = some z
def ItZ3 (K : PySem.W.Frag) (κ1 κ2 κ3 : Bool) (a b c : Addr) (xs ys zs : List V) : It :=
  ⟨fun i H => SqK κ1 K H a xs ∧ SqK κ2 K H b ys ∧ SqK κ3 K H c zs ∧ i < xs.length ∧ i < ys.length ∧ i < zs.length,
    YTrip (fun i => xs[i]?) (fun i => ys[i]?) (fun i => zs[i]?),
    fun i H => SqK κ1 K H a xs ∧ SqK κ2 K H b ys ∧ SqK κ3 K H c zs ∧ i ≤ xs.length ∧ i ≤ ys.length ∧ i ≤ zs.length ∧ (i = xs.length ∨ i = ys.length ∨ i = zs.length)⟩
def TnZ3 (κ1 κ2 κ3 : Bool) (z TI TO i1 i2 i3 a b c : Addr) (i : Nat) (h : Heap) : Prop :=
  IsZip h z TI TO .none ∧ IsTupOf3 h TI (.ref i1) (.ref i2) (.ref i3) ∧ (∃ x y u, IsTupOf3 h TO x y u) ∧ ItAtK κ1 h i1 a i ∧ ItAtK κ2 h i2 b i ∧ ItAtK κ3 h i3 c i
theorem zip3_apart (I a b c : Nat) (la : a < I) (lb : b < I) (lc : c < I) : ZipSep3 (I + 5) (I + 3) (I + 4) I (I + 1) (I + 2) [I, a] [I + 1, b] [I + 2, c] := by
  constructor <;> (try simp only [List.mem_cons, List.not_mem_nil, or_false, not_or, true_or, or_true]) <;> (try refine ⟨?_, ?_⟩) <;> refine PySem.W.neN ?_ <;> omega
theorem zip3_turns {P : Program} {w : World} {K : PySem.W.Frag} {elts : List Expr} {kk : Nat} {tpos : Pos} {κ1 κ2 κ3 : Bool} {a b c I : Addr} {xs ys zs : List V} (la : a < I) (lb : b < I) (lc : c < I) :
    Turn P w K (.Tuple elts kk tpos) (ItZ3 K κ1 κ2 κ3 a b c xs ys zs) [I + 5, I + 3, I + 4, I, I + 1, I + 2] (I + 5) (TnZ3 κ1 κ2 κ3 (I + 5) (I + 3) (I + 4) I (I + 1) (I + 2) a b c) := by
  have S := zip3_apart I a b c la lb lc
  refine ⟨by simp, ?_, ?_, ?_, ?_, ?_⟩
  · rintro i h ⟨hz, hTI, ⟨x, y, u, hTO⟩, h1, h2, h3⟩ c hc
    have e' : c = I + 5 ∨ c = I + 3 ∨ c = I + 4 ∨ c = I ∨ c = I + 1 ∨ c = I + 2 := by simpa using hc
    rcases e' with q | q | q | q | q | q <;> subst q
    · exact ⟨_, hz, fun v q => nomatch q⟩
    · exact ⟨_, hTI, fun v q => nomatch q⟩
    · exact ⟨_, hTO, fun v q => nomatch q⟩
    · exact h1.obj
    · exact h2.obj
    · exact h3.obj
  · rintro i h h' ⟨hz, hTI, ⟨x, y, u, hTO⟩, h1, h2, h3⟩ k
    exact ⟨k (I + 5) (by simp) _ hz, k (I + 3) (by simp) _ hTI, ⟨x, y, u, k (I + 4) (by simp) _ hTO⟩, h1.at fun o q => k I (by simp) o q, h2.at fun o q => k (I + 1) (by simp) o q, h3.at fun o q => k (I + 2) (by simp) o q⟩
  · intro X hP hw hK hc i pins s σ H E Iv hf st hg
    subst hP hw hK
    obtain ⟨hz, hTI, ⟨x0, y0, u0, hTO⟩, h1, h2, h3⟩ := st
    obtain ⟨qx, qy, qz, l1, l2, l3⟩ := hg
    obtain ⟨its, rv, p, _⟩ := Inv.seqK Iv qx
    obtain ⟨its2, rv2, p2, _⟩ := Inv.seqK Iv qy
    obtain ⟨its3, rv3, p3, _⟩ := Inv.seqK Iv qz
    have hA : X.A.in1.handled = none := by
      have q := Iv.ok.hd hc
      simpa using q
    have zl : I + 5 < s.heap.objs.size := Heap.lt_size hz
    have n1 := rv.length
    have n2 := rv2.length
    have n3 := rv3.length
    refine wpAny_pyNext_zipD3_item S (draws_k κ1 hA I a (PySem.W.neN (Nat.ne_of_lt la)) its.toArray) (draws_k κ2 hA (I + 1) b (PySem.W.neN (Nat.ne_of_lt (Nat.lt_succ_of_lt lb))) its2.toArray) (draws_k κ3 hA (I + 2) c (PySem.W.neN (Nat.ne_of_lt (Nat.lt_succ_of_lt (Nat.lt_succ_of_lt lc)))) its3.toArray) hz hTI hTO ⟨h1, p⟩ ⟨h2, p2⟩ ⟨h3, p3⟩ (by simp; omega) (by simp; omega) (by simp; omega) ?_
    intro u u2 u3 h' tk hu hu2 hu3 z' TO' st1 st2 st3 hT hsz hk
    obtain ⟨x, hx, ru⟩ : ∃ x, xs[i]? = some x ∧ RelV x u := by
      obtain ⟨u', e1, e2⟩ := rv.get (List.getElem?_eq_getElem l1)
      have e3 : its[i]? = some u := by simpa using hu
      rw [e1] at e3
      obtain rfl := Option.some.inj e3
      exact ⟨_, List.getElem?_eq_getElem l1, e2⟩
    obtain ⟨y, hy, ru2⟩ : ∃ y, ys[i]? = some y ∧ RelV y u2 := by
      obtain ⟨u', e1, e2⟩ := rv2.get (List.getElem?_eq_getElem l2)
      have e3 : its2[i]? = some u2 := by simpa using hu2
      rw [e1] at e3
      obtain rfl := Option.some.inj e3
      exact ⟨_, List.getElem?_eq_getElem l2, e2⟩
    obtain ⟨y3, hy3, ru3⟩ : ∃ y, zs[i]? = some y ∧ RelV y u3 := by
      obtain ⟨u', e1, e2⟩ := rv3.get (List.getElem?_eq_getElem l3)
      have e3 : its3[i]? = some u3 := by simpa using hu3
      rw [e1] at e3
      obtain rfl := Option.some.inj e3
      exact ⟨_, List.getElem?_eq_getElem l3, e2⟩
    refine ⟨_, rfl, wpAny_letOwnedTupleGo_zip (s := { s with heap := h', toks := tk }) z' fun h'' z'' sb => ?_⟩
    have T2 : h''.get? s.heap.objs.size = some { cls := .type "tuple", data := .seq #[u, u2, u3] } := (sb.2 _ (Nat.ne_of_gt zl)).trans hT
    have far : ∀ c o, c ∉ [I + 5, I + 3, I + 4, I, I + 1, I + 2] → s.heap.get? c = some o → h''.get? c = some o := fun c o hb q => by
      simp only [List.mem_cons, List.not_mem_nil, or_false, not_or] at hb
      exact (sb.2 c hb.1).trans (hk c o hb.1 hb.2.2.1 hb.2.2.2.1 hb.2.2.2.2.1 hb.2.2.2.2.2 q)
    have I1 : L2.Inv X pins σ (upd H s.heap.objs.size (.tup [x, y, y3])) { s with heap := h'', toks := tk } :=
      Iv.turnedNew (t' := tk) (ch := [I + 5, I + 3, I + 4, I, I + 1, I + 2]) far hf (Nat.le_refl _) ⟨by show 3 ≤ sizeLine; decide, [u, u2, u3], .cons ru (.cons ru2 (.cons ru3 .nil)), ⟨_, T2, rfl, _, rfl⟩⟩
    refine ⟨.ref s.heap.objs.size, _, I1, rfl, ⟨_, x, y, y3, rfl, Iv.hok.fresh (Nat.le_refl _), rfl, hx, hy, hy3⟩, ⟨z'', ?_, ⟨u, u2, u3, ?_⟩, ?_, ?_, ?_⟩, fun c hcm => ?_⟩
    · exact (sb.2 _ S.TIz).trans (hk _ _ S.TIz S.TITO S.TIi1 S.TIi2 S.TIi3 hTI)
    · exact (sb.2 _ S.TOz).trans TO'
    · exact st1.1.at fun o q => (sb.2 _ S.zi1.symm).trans q
    · exact st2.1.at fun o q => (sb.2 _ S.zi2.symm).trans q
    · exact st3.1.at fun o q => (sb.2 _ S.zi3.symm).trans q
    · have lt : c < s.heap.objs.size := by
        have e' : c = I + 5 ∨ c = I + 3 ∨ c = I + 4 ∨ c = I ∨ c = I + 1 ∨ c = I + 2 := by simpa using hcm
        have zl' : (I : Nat) + 5 < s.heap.objs.size := zl
        rcases e' with q | q | q | q | q | q <;> subst q
        · exact zl
        · exact Heap.lt_size hTI
        · exact Heap.lt_size hTO
        · obtain ⟨_, e1, _⟩ := h1.obj; exact Heap.lt_size e1
        · obtain ⟨_, e2, _⟩ := h2.obj; exact Heap.lt_size e2
        · obtain ⟨_, e2, _⟩ := h3.obj; exact Heap.lt_size e2
      rw [upd_ne (Nat.ne_of_lt lt)]
      exact (hf c hcm).1
  · intro X hP hw hK hc i pins s σ H E Iv hf st hg
    subst hP hw hK
    obtain ⟨hz, hTI, ⟨x0, y0, u0, hTO⟩, h1, h2, h3⟩ := st
    obtain ⟨qx, qy, qz, l1, l2, l3, l4⟩ := hg
    obtain ⟨its, rv, p, _⟩ := Inv.seqK Iv qx
    obtain ⟨its2, rv2, p2, _⟩ := Inv.seqK Iv qy
    obtain ⟨its3, rv3, p3, _⟩ := Inv.seqK Iv qz
    have hA : X.A.in1.handled = none := by
      have q := Iv.ok.hd hc
      simpa using q
    have n1 := rv.length
    have n2 := rv2.length
    have n3 := rv3.length
    refine wpAny_pyNext_zipD3_end S (draws_k κ1 hA I a (PySem.W.neN (Nat.ne_of_lt la)) its.toArray) (draws_k κ2 hA (I + 1) b (PySem.W.neN (Nat.ne_of_lt (Nat.lt_succ_of_lt lb))) its2.toArray) (draws_k κ3 hA (I + 2) c (PySem.W.neN (Nat.ne_of_lt (Nat.lt_succ_of_lt (Nat.lt_succ_of_lt lc)))) its3.toArray) hz hTI hTO ⟨h1, p⟩ ⟨h2, p2⟩ ⟨h3, p3⟩ (by simp; omega) (by simp; omega) (by simp; omega) (by simp; omega) fun h' tk hk => ?_
    refine ⟨rfl, Iv.turnedL (t' := tk) (ch := [I + 5, I + 3, I + 4, I, I + 1, I + 2]) (fun c o hb q => ?_) hf⟩
    simp only [List.mem_cons, List.not_mem_nil, or_false, not_or] at hb
    exact hk c o hb.1 hb.2.2.1 hb.2.2.2.1 hb.2.2.2.2.1 hb.2.2.2.2.2 q
  · intro A i s Q E st h
    exact wpAny_pyIter_zip st.1 h
def iZip3 (K : PySem.W.Frag) (ta : TA) : TI := fun σ H R => ta σ H fun vs H1 => ∃ a b c xs ys zs κ1 κ2 κ3, vs = [.ref a, .ref b, .ref c] ∧ SqK κ1 K H1 a xs ∧ SqK κ2 K H1 b ys ∧ SqK κ3 K H1 c zs ∧ R (ItZ3 K κ1 κ2 κ3 a b c xs ys zs) H1
def begK (κ : Bool) (l : Addr) : Obj := if κ = true then { cls := .type "tuple_iterator", data := .fields #[.ref l, .int 0 0] } else { cls := .type "list_iterator", data := .fields #[.ref l, .int 0 0] }
theorem begins_k (κ : Bool) (l : Addr) (its : Array Value) : Begins (.ref l) (begK κ l) fun h => SqAtK κ h l its := by
  cases κ with
  | false => exact begins_list l its
  | true => exact begins_tuple l its
theorem begK_at {κ : Bool} {h : Heap} {i l : Addr} (e : h.get? i = some (begK κ l)) : ItAtK κ h i l 0 := by
  cases κ with
  | false => exact ⟨_, e, rfl, rfl⟩
  | true => exact ⟨_, e, rfl, rfl⟩
theorem pi_zip3 {X : Cx} {e e2 e3 : Expr} {ta : TA} {p pos tpos : Pos} {elts : List Expr} {kk : Nat} (hg : Gl X "zip") (hm : X.mg "zip" = none) (ha : PA X [e, e2, e3] ta)
    (hs : starEach [e, e2, e3] X.env = (false, eval e X.env) :: starEach [e2, e3] X.env := by rfl) (hpl : (backTo pos (starEach [e2, e3] X.env)).any (·.1) = false := by rfl) :
    PI X (.Tuple elts kk tpos) (.Call (.Name "zip" p) [e, e2, e3] [] pos) (iZip3 X.K ta) := by
  refine ⟨fun pins s σ H R I h => Call_ (ld_blt I hg hm PyProof.Rows.boot_zip (PyProof.Rows.callWith_type1 (thn (ha.run pos pins s σ H _ I h) ?_) hs hpl))⟩
  rintro us s1 ⟨vs, H1, I1, r1, a, b, c, xs, ys, zs, κ1, κ2, κ3, rfl, kx, ky, kz, q⟩
  cases r1 with
  | cons ra r1 => cases r1 with
  | cons rb r1 => cases r1 with
  | cons rc r1 =>
  cases r1
  cases ra
  cases rb
  cases rc
  obtain ⟨its, rv, p1, la⟩ := Inv.seqK I1 kx
  obtain ⟨its2, rv2, p2, lb⟩ := Inv.seqK I1 ky
  obtain ⟨its3, rv3, p3, lc⟩ := Inv.seqK I1 kz
  refine zip_begins3 (begins_k κ1 a its.toArray) (begins_k κ2 b its2.toArray) (begins_k κ3 c its3.toArray) p1 p2 p3 fun h' hz hTI hTO h1 h2 h3 _ hk => wpAny_pyIter_zip hz ?_
  refine ⟨s1.heap.objs.size + 5, _, _, _, H1, rfl, I1.kept (t' := s1.toks) hk, zip3_turns la lb lc, ⟨hz, hTI, ⟨_, _, _, hTO⟩, begK_at h1, begK_at h2, begK_at h3⟩, fun c hcm => ?_, q⟩
  have le : s1.heap.objs.size ≤ c := by
    have e' : c = s1.heap.objs.size + 5 ∨ c = s1.heap.objs.size + 3 ∨ c = s1.heap.objs.size + 4 ∨ c = s1.heap.objs.size ∨ c = s1.heap.objs.size + 1 ∨ c = s1.heap.objs.size + 2 := by simpa using hcm
    rcases e' with z | z | z | z | z | z <;> rw [z] <;> first | exact Nat.le_refl _ | exact Nat.le_add_right _ _
  exact I1.fpOk le (I1.hok.fresh le)
theorem walk_zip3 {K : PySem.W.Frag} {κ1 κ2 κ3 : Bool} {a b c : Addr} {xs ys zs : List V} {n : Nat} (hn : n = min xs.length (min ys.length zs.length)) :
    Walk (ItZ3 K κ1 κ2 κ3 a b c xs ys zs) n (fun H => SqK κ1 K H a xs ∧ SqK κ2 K H b ys ∧ SqK κ3 K H c zs) (YTrip (fun i => xs[i]?) (fun i => ys[i]?) (fun i => zs[i]?)) := by
  subst hn
  exact ⟨fun i _ hi q => ⟨q.1, q.2.1, q.2.2, by omega, by omega, by omega⟩, fun _ q => ⟨q.1, q.2.1, q.2.2, by omega, by omega, by omega, by omega⟩, fun i H v H' _ q y => y⟩
end Fp

namespace Fp
open PySem PySem.Spec PyProof.Rows L2
open Builtin
open Builtin.List
/-! ### repr(..) where own instances stand within -/
theorem sub_guard {X : Cx} {n : Nat} {A : Around} (sb : L2.Sub X (n + 1) A) {id : String} {args : Args} (hd : (A.under (.builtin id args)).depth = A.depth + 1) (hu : (A.under (.builtin id args)).units = A.units + 1) (hf : (A.under (.builtin id args)).frames = A.frames) : L2.Sub X n (A.under (.builtin id args)) :=
  ⟨⟨sb.room.hd, by have := sb.room.dp; rw [hd]; omega, by have := sb.room.un; rw [hu]; omega⟩, by rw [hf]; exact sb.fr⟩
theorem depth_list_loop (A : Around) (args : Args) : (A.under (.builtin "list.__repr__.loop" args)).depth = A.depth + 1 := by
  first | rfl | simp [Around.under, Code.weight, Code.isCreation, Code.isGuard, Code.isCaller, Code.frames, Code.isFrame, guardIds]
theorem frames_list_loop (A : Around) (args : Args) : (A.under (.builtin "list.__repr__.loop" args)).frames = A.frames := by
  first | rfl | simp [Around.under, Code.envs, pushEnvs]
theorem depth_tuple_repr (A : Around) (args : Args) : (A.under (.builtin "tuple.__repr__" args)).depth = A.depth + 1 := by
  first | rfl | simp [Around.under, Code.weight, Code.isCreation, Code.isGuard, Code.isCaller, Code.frames, Code.isFrame, guardIds]
theorem frames_tuple_repr (A : Around) (args : Args) : (A.under (.builtin "tuple.__repr__" args)).frames = A.frames := by
  first | rfl | simp [Around.under, Code.envs, pushEnvs]
theorem depth_tuple_under (A : Around) (args : Args) : (A.under (.builtin "tuple.__repr__.under" args)).depth = A.depth + 1 := by
  first | rfl | simp [Around.under, Code.weight, Code.isCreation, Code.isGuard, Code.isCaller, Code.frames, Code.isFrame, guardIds]
theorem frames_tuple_under (A : Around) (args : Args) : (A.under (.builtin "tuple.__repr__.under" args)).frames = A.frames := by
  first | rfl | simp [Around.under, Code.envs, pushEnvs]

/-- which containers have how long a text -/
abbrev ClT := Addr → Nat → Prop
abbrev Grd (Cl : ClT) (g : List Code) (m : Nat) : Prop := ∀ b k, Cl b k → k ≤ m → Clear g b
/-- x is shown as t, where H0 stands -/
def RpG (X : Cx) (n : Nat) (H0 : Hp) (Cl : ClT) (x : V) (t : Str) : Prop :=
  ∀ (A : Around) (pins : List (Addr × Obj)) (s : Shared) (σ : L2.St) (H : Hp) (u : Value) (g : List Code) (base : Nat), L2.Sub X n A → A.guards = some g → Grd Cl g t.length → base + t.length ≤ sizeLine → L2.Inv X pins σ H s → Same H0 H → RelV x u →
    wpAny (model X.prog X.w) A (pyReprUnder base u) (fun r s' => r = t ∧ ∃ H', L2.Inv X pins σ H' s' ∧ Same H H') X.xe s
theorem RpG.mono {X : Cx} {n m : Nat} {H0 : Hp} {Cl : ClT} {x : V} {t : Str} (h : RpG X n H0 Cl x t) (e : n ≤ m) : RpG X m H0 Cl x t :=
  fun A pins s σ H u g base sb => h A pins s σ H u g base (sb.mono e)
theorem RpG.is {X : Cx} {n : Nat} {H0 : Hp} {Cl : ClT} {x : V} {t : Str} (h : ∀ u, RelV x u → ReprIs X.prog X.w u t) : RpG X n H0 Cl x t :=
  fun A pins s σ H u g base sb hg hcl hb I sm r => h u r base hb A X.xe s _ fun tk => ⟨rfl, H, I.tok tk, Same.refl _⟩
/-- the loop over a list's items -/
theorem rp_list_loop {X : Cx} {n : Nat} {H0 : Hp} {Cl : ClT} {a P : Addr} {xs : List V} {ts : List Str} {A : Around} {g : List Code} {base : Nat} {pins : List (Addr × Obj)} {σ : L2.St} {R : Result → Shared → Prop} (hR2 : ∀ e s, X.xe e s → R (.error e) s)
    (fn : ∀ b k k', Cl b k → Cl b k' → k = k') (ha : H0 a = some (.lst xs)) (hca : Cl a (listText ts).length) (sb : L2.Sub X (n + 1) A) (hg : A.guards = some g) (hcl : Grd Cl g (listText ts).length) (hlen : ts.length = xs.length)
    (hT : ∀ (i : Nat) x t, xs[i]? = some x → ts[i]? = some t → RpG X n H0 Cl x t) (hsz : base + (listText ts).length ≤ sizeLine) :
    ∀ (k i : Nat) (s : Shared) (H : Hp) (acc : Array Value) (c : Nat) (done : List (Str × Tok)), xs.length - i = k → i ≤ xs.length → L2.Inv X pins σ H s → Same H0 H → FpOk X pins H P →
    s.heap.get? P = some { cls := .type "list", dict := none, data := .seq acc c, slots := #[] } → acc.toList = strValues done → done.map (·.1) = ts.take i →
    (∀ s' H' u, L2.Inv X pins σ H' s' → Same H H' → R (.ok (.ret (.str (listText ts) u))) s') →
    codeAny (model X.prog X.w) A (.builtin "list.__repr__.loop" ⟨[.ref a, rawInt i, .ref P, rawInt ((base + piled (ts.take i) : Nat) : Int)], []⟩) R s := by
  have hX : (listText ts).length = (textFrom 0 "[" ts).length + 1 := by
    show (textFrom 0 "[" ts ++ "]").length = _
    rw [strLen_append]; rfl
  have hL := textFrom_len ts 0 "["
  have hsz1 : xs.length ≤ sizeLine := by
    have h1 := hL.1
    rw [if_neg (Nat.lt_irrefl 0)] at h1
    omega
  have hsz2 : ∀ t ∈ ts, t.length ≤ sizeLine := fun t ht => by
    have h2 := hL.2.1 t ht
    omega
  have hsz3 : (listText ts).length ≤ sizeLine := by omega
  have hp3 := piled_le_listText ts
  intro k
  induction k with
  | zero =>
    intro i s H acc c done hk hi I sm hf hP hacc hdone hR
    have hin : i = xs.length := by omega
    obtain ⟨_, its, na, rv, hl, he⟩ := I.lstM (sm _ _ ha)
    refine codeAny_builtin F.entry_list_repr_loop ?_
    show wpAny _ _ («list.__repr__.loop» ⟨[.ref a, .int i 0, .ref P, .int ((base + piled (ts.take i) : Nat) : Int) 0], []⟩) _ _ s
    rw [repr_loop_tree]
    refine wpAny_bind (wpAny_listItems he rfl ?_)
    have hnone : its.toArray[(i : Int).toNat]? = none := by simp [hin, hl]
    simp only [hnone]
    unfold reprEnd
    refine wpAny_bind (wpAny_listItems hP rfl ?_)
    rw [hacc, repr_fold]
    refine wpAny_bind (wpAny_pure ?_)
    have hall : done.map (·.1) = ts := by rw [hdone, hin, ← hlen, List.take_length]
    rw [hall]
    refine wpAny_bind (wpAny_mkStr (wpAny_pure ?_) hsz3)
    exact hR _ H _ (I.tok _) (Same.refl _)
  | succ k ih =>
    intro i s H acc c done hk hi I sm hf hP hacc hdone hR
    have hlt : i < xs.length := by omega
    obtain ⟨t, ht⟩ : ∃ t, ts[i]? = some t := ⟨_, List.getElem?_eq_getElem (by omega)⟩
    have hx := List.getElem?_eq_getElem hlt
    have hrep := hT i _ t hx ht
    obtain ⟨_, its, na, rv, hl, he⟩ := I.lstM (sm _ _ ha)
    obtain ⟨u, hu, ru⟩ := rv.get hx
    have hp1 := piled_take_succ ht
    have hp2 := piled_take_le ts (i + 1)
    have lt : t.length < (listText ts).length := by omega
    refine codeAny_builtin F.entry_list_repr_loop ?_
    show wpAny _ _ («list.__repr__.loop» ⟨[.ref a, .int i 0, .ref P, .int ((base + piled (ts.take i) : Nat) : Int) 0], []⟩) _ _ s
    rw [repr_loop_tree]
    refine wpAny_bind (wpAny_listItems he rfl ?_)
    have hsome : its.toArray[(i : Int).toNat]? = some u := by simpa using hu
    simp only [hsome]
    rw [Int.toNat_natCast]
    have I1 : L2.Inv X (pins ++ [(P, ({ cls := .type "list", dict := none, data := .seq acc c, slots := #[] } : Obj))]) σ H s := I.pins_of fun p hp => by
      rcases List.mem_append.mp hp with z | z
      · exact I.pin p (List.mem_append_right _ z)
      · rw [List.mem_singleton.mp z]
        exact ⟨hP, hf.1, hf.2.1, hf.2.2.1, fun v q => nomatch q⟩
    refine wpAny_bind (wpAny_holding (wpAny_mono (hrep _ (pins ++ [(P, ({ cls := .type "list", dict := none, data := .seq acc c, slots := #[] } : Obj))]) s σ H u _ (base + piled (ts.take i) + 1) (sub_guard sb (depth_list_loop _ _) (units_under_list_loop _ _) (frames_list_loop _ _)) (guards_under_guard (isGuard_list_loop _) hg)
      (fun b m hb hm => (hcl b m hb (by omega)).cons (a := a) fun e => by
        subst e
        have := fn _ _ _ hca hb
        omega) (by omega) I1 sm ru) (fun r s1 hr => ?_) (fun e s' he => hR2 e s' he)))
    obtain ⟨rfl, H1, I2, s01⟩ := hr
    have hpn := I2.pin (P, ({ cls := .type "list", dict := none, data := .seq acc c, slots := #[] } : Obj)) (List.mem_append_right _ (List.mem_append_right _ List.mem_cons_self))
    have hP1 := hpn.1
    have hP0 := hpn.2.1
    have I3 := I2.unpinned
    refine wpAny_bind (wpAny_mkStr ?_ (hsz2 _ (List.mem_of_getElem? ht)))
    refine wpAny_bind ?_
    show wpAny _ _ (updateSeq P _) _ _ _
    have hasz : acc.size ≤ sizeLine := by
      have e1 : acc.toList.length = acc.size := by simp
      have e2 : (strValues done).length = done.length := by simp [strValues]
      have e3 : done.length = (ts.take i).length := by rw [← hdone, List.length_map]
      have e4 : (ts.take i).length ≤ i := by rw [List.length_take]; omega
      rw [hacc] at e1; omega
    refine wpAny_updateSeq hP1 rfl (wpAny_pure ⟨F.quiet_list_repr_loop _, ?_⟩) hasz
    have e1 : ((i : Int) + 1) = ((i + 1 : Nat) : Int) := by omega
    have e2 : base + piled (ts.take i) + (r.length + 2) = base + piled (ts.take (i + 1)) := by omega
    rw [e1, e2]
    have hf1 : FpOk X pins H1 P := ⟨hP0, hf.2.1, hf.2.2.1, hf.2.2.2.1, hf.2.2.2.2.1, hf.2.2.2.2.2⟩
    refine ih (i + 1) _ H1 (acc.push (.str r s1.toks)) _ (done ++ [(r, s1.toks)]) (by omega) hlt ((I3.tok (s1.toks + 1)).turnedL (t' := s1.toks + 1) (ch := [P]) (fun b o hb e => (Heap.get?_update_other _ _ (fun h : P = b => hb (by simp [h]))).trans e) (fun b hb => by rw [List.mem_singleton.mp hb]; exact hf1)) (sm.trans s01) hf1
      (Heap.get?_update_self _ hP1 rfl) (by simp [hacc, strValues]) (by simp [List.take_add_one, ht, hdone]) fun s' H' u' I' sm' => ?_
    exact hR s' H' u' I' (s01.trans sm')
/-- what a call of repr's parts gives -/
abbrev RpEnd (X : Cx) (pins : List (Addr × Obj)) (σ : L2.St) (H : Hp) (t : Str) : Value → Shared → Prop := fun v s' => ∃ u, v = .str t u ∧ ∃ H', L2.Inv X pins σ H' s' ∧ Same H H'
section
variable {X : Cx} {n : Nat} {H0 : Hp} {Cl : ClT} {a : Addr} {xs : List V} {ts : List Str}
theorem rp_listAt (fn : ∀ b k k', Cl b k → Cl b k' → k = k') (ha : H0 a = some (.lst xs)) (hne : xs ≠ []) (hca : Cl a (listText ts).length) (hlen : ts.length = xs.length) (hT : ∀ (i : Nat) x t, xs[i]? = some x → ts[i]? = some t → RpG X n H0 Cl x t)
    {A : Around} {g : List Code} {base : Nat} {pins : List (Addr × Obj)} {σ : L2.St} {H : Hp} {s : Shared} (sb : L2.Sub X (n + 1) A) (hg : A.guards = some g) (hcl : Grd Cl g (listText ts).length) (hsz : base + (listText ts).length ≤ sizeLine) (I : L2.Inv X pins σ H s) (sm : Same H0 H) :
    wpAny (model X.prog X.w) A.in1 (Builtin.listReprAt base ⟨[.ref a], []⟩) (fun fin s' => match fin with | .done f => callEnd (RpEnd X pins σ H (listText ts)) X.xe (.ok f) s' | .again c' => c'.quiet = true ∧ codeAny (model X.prog X.w) A c' (callEnd (RpEnd X pins σ H (listText ts)) X.xe) s') (fun e s' => callEnd (RpEnd X pins σ H (listText ts)) X.xe (.error e) s') s := by
  obtain ⟨_, its, na, rv, hl, he⟩ := I.lstM (sm _ _ ha)
  have hc0 : Clear g a := hcl a _ hca (Nat.le_refl _)
  cases its with
  | nil => exact absurd (List.length_eq_zero_iff.mp (by simpa using hl)) hne
  | cons x l =>
    refine wpAny_list_repr_head (A := A.in1) hg (fun v rest kw hm => listSameRef_of_ne (hc0 _ _ _ _ hm)) he rfl ?_
    refine wpAny_bind (m := newList []) (wpAny_newObj_type ?_)
    refine wpAny_pure ⟨F.quiet_list_repr_loop _, ?_⟩
    have I1 := I.kept (t' := s.toks) (h' := s.heap.push { cls := .type "list", dict := none, data := .seq #[] 0, slots := #[] }) fun b o e => Heap.get?_push_of_some _ e
    refine rp_list_loop (P := s.heap.objs.size) (R := callEnd (RpEnd X pins σ H (listText ts)) X.xe) (fun e s h => h) fn ha hca sb hg hcl hlen hT hsz _ 0 _ H #[] _ [] rfl (Nat.zero_le _) I1 sm (I.fpOk (Nat.le_refl _) (I.hok.fresh (Nat.le_refl _))) (Heap.get?_push_size _ rfl) rfl (by simp) fun s' H' u I' sm' => ?_
    exact ⟨u, rfl, H', I', sm'⟩
theorem call_list_reprG (fn : ∀ b k k', Cl b k → Cl b k' → k = k') (ha : H0 a = some (.lst xs)) (hne : xs ≠ []) (hca : Cl a (listText ts).length) (hlen : ts.length = xs.length) (hT : ∀ (i : Nat) x t, xs[i]? = some x → ts[i]? = some t → RpG X n H0 Cl x t)
    {A : Around} {g : List Code} {pins : List (Addr × Obj)} {σ : L2.St} {H : Hp} {s : Shared} (sb : L2.Sub X (n + 1) A) (hg : A.guards = some g) (hcl : Grd Cl g (listText ts).length) (hsz : (listText ts).length ≤ sizeLine) (I : L2.Inv X pins σ H s) (sm : Same H0 H) :
    wpAny (model X.prog X.w) A (call (.builtin "list.__repr__") [.ref a]) (RpEnd X pins σ H (listText ts)) X.xe s := by
  obtain ⟨_, its, na, rv, hl, he⟩ := I.lstM (sm _ _ ha)
  exact wpAny_call (codeAny_call_builtin F.slot_list_repr.plain F.entry_list_repr (F.slot_list_repr.check _ _ _ _ _ _ _ _ ⟨_, he, rfl⟩ (F.args_list_repr_1 _)
    (rp_listAt (base := 0) fn ha hne hca hlen hT sb hg hcl (by omega) I sm)))
theorem RpG.list (fn : ∀ b k k', Cl b k → Cl b k' → k = k') (ha : H0 a = some (.lst xs)) (hca : Cl a (listText ts).length) (hlen : ts.length = xs.length) (hT : ∀ (i : Nat) x t, xs[i]? = some x → ts[i]? = some t → RpG X n H0 Cl x t) : RpG X (n + 1) H0 Cl (.ref a) (listText ts) := by
  intro A pins s σ H u g base sb hg hcl hsz I sm r
  cases r
  obtain ⟨_, its, na, rv, hl, he⟩ := I.lstM (sm _ _ ha)
  by_cases hne : xs = []
  · subst hne
    have e1 : ts = [] := List.length_eq_zero_iff.mp hlen
    have e2 : its = [] := List.length_eq_zero_iff.mp (by simpa using hl.symm)
    subst e1 e2
    refine wpAny_pyReprUnder_ref (by omega) (wpAny_pyReprObjUnder_list_empty ⟨_, he, rfl⟩ sb.room.units0 he rfl ⟨_, _, rfl, rfl, H, I.tok _, Same.refl _⟩)
  · refine wpAny_pyReprUnder_ref (by omega) (wpAny_pyReprObjUnder_twin (twin := "list.__repr__.under") ⟨_, he, rfl⟩ F.slot_list_repr.toG rfl sb.room.units0
      (wpAny_mono (call_twin_plain F.plain_list_repr_under F.entry_list_repr_under F.check_list_repr_under ⟨_, he, rfl⟩ F.slot_list_repr.toG (F.args_list_repr_1 _)
        (rp_listAt fn ha hne hca hlen hT sb hg hcl hsz I sm)) (fun v s' hv => ?_) fun e s' h => h))
    obtain ⟨u, rfl, q⟩ := hv
    exact ⟨⟨_, u, rfl⟩, _, u, rfl, rfl, q⟩
end
/-- an own instance -/
def spRp (Rel : Addr → Hp → Str → Prop) : Sp := fun vs H Q _ => ∃ a t, vs = [.ref a] ∧ Rel a H t ∧ ∀ H', Same H H' → Q (.str t) H'
theorem ifBoundBy_K {M : Model} {A : Around} {E : Value → Shared → Prop} {s : Shared} {K : PySem.W.Frag} {x C f : Addr} {ox : Obj} {od : Option Obj} {name : Str} {last : Value → List Value → Sem Value} {Q : Option Value → Shared → Prop} (X : K.In s.heap) (I : PySem.W.InstAt s.heap x ox C od) (hs : PySem.W.findIn K (.ref C) name = some (some (.ref f))) (hf : PySem.W.isFn K (.ref f) = true)
    (h : wpAny M A (last (.ref f) [.ref x]) (fun v => Q (some v)) E s) : wpAny M A (callSpecialIfBoundBy? last (.ref x) name) Q E s := by
  simp only [callSpecialIfBoundBy?, bindSpecialIfBound?]
  refine wpAny_holding (wpAny_bind (wpAny_bind (wpAny_bind (I.type.here ((PySem.W.looks_findIn X hs).here ?_)))))
  refine wpAny_bind (wpAny_askSetting (wpAny_ite ?_))
  have fin : wpAny M A (last (.ref f) [.ref x] >>= fun v => pure (some v)) Q E s := wpAny_bind (wpAny_mono h (fun v s' h' => wpAny_pure h') fun _ _ h' => h')
  split
  · exact wpAny_bind ((PySem.W.bind_fn X _ (beq_iff_eq.mp hf)).here (wpAny_pure (by exact fin)))
  · exact wpAny_tryCatch (wpAny_bind ((PySem.W.bind_fn X _ (beq_iff_eq.mp hf)).here (wpAny_pure (by exact fin))))
theorem call_own {X : Cx} {CX : CXT} {k : Nat} {f a : Addr} {fd : FuncData} {ps : List Str} {Rel : Addr → Hp → Str → Prop} {E : XK} {t : Str} (F : FnOk X.prog X.w X.K X.mg X.base CX k f fd ps (spRp Rel))
    (hb : Binds X.K fd ps []) (hx : Passes CX X E) {A : Around} (sb : L2.Sub X k A) {pins : List (Addr × Obj)} {σ : L2.St} {H : Hp} {s : Shared} (I : L2.Inv X pins σ H s) (hr : Rel a H t) :
    wpAny (model X.prog X.w) A (call (.ref f) [.ref a]) (RpEnd X pins σ H t) X.xe s := by
  have hsp : spRp Rel [.ref a] H (fun v H' => v = .str t ∧ Same H H') E := ⟨a, t, rfl, hr, fun H' e => ⟨rfl, e⟩⟩
  have e0 : Env0 X.prog X.w X.K X.mg X.base A X.stack s H := by
    have e := I.env0
    exact ⟨by rw [sb.fr]; exact e.frames, e.mod, e.bs, e.bsz, e.funs, e.frf, e.hok, e.bare⟩
  have hl := F.len _ _ _ _ hsp
  have r2 : Vals [V.ref a] [Value.ref a] := .cons rfl .nil
  refine wpAny_call (codeAny_mono (F.run A X.stack s H ⟨[.ref a], []⟩ [.ref a] [.ref a] _ E sb.room e0 (by
    have := hb s [.ref a] I.kIn (by simpa using hl)
    simpa using this) r2 hsp) fun r s' hq => ?_)
  cases r with
  | error e => exact hx pins σ H s e s' I hq
  | ok fl =>
    cases fl with
    | ret w =>
      obtain ⟨z, H', I', rz, ez, ex⟩ := I.after hq
      subst ez
      obtain ⟨u, rfl⟩ := rz
      exact ⟨u, rfl, H', I', ex⟩
    | next => exact False.elim hq
    | brk => exact False.elim hq
    | cont => exact False.elim hq
theorem RpG.ins {X : Cx} {CX : CXT} {k : Nat} {H0 : Hp} {Cl : ClT} {C f a dx : Addr} {fs : List (Str × V)} {fd : FuncData} {ps : List Str} {Rel : Addr → Hp → Str → Prop} {E : XK} {t : Str} (F : FnOk X.prog X.w X.K X.mg X.base CX k f fd ps (spRp Rel))
    (hs : PySem.W.findIn X.K (.ref C) "__repr__" = some (some (.ref f))) (hf : PySem.W.isFn X.K (.ref f) = true) (hb : Binds X.K fd ps []) (hx : Passes CX X E) (ha : H0 a = some (.ins C dx fs)) (hr : ∀ H, Same H0 H → Rel a H t) : RpG X k H0 Cl (.ref a) t := by
  intro A pins s σ H u g base sb hg hcl hsz I sm r
  cases r
  obtain ⟨mA, J, _⟩ := ins_get I.hok (sm _ _ ha)
  obtain ⟨od, J, _⟩ := J.look
  have KX := I.kIn
  refine wpAny_pyReprUnder_ref (by omega) ?_
  unfold pyReprObjUnder pyReprObjBy
  refine wpAny_bind (wpAny_cRoomFor sb.room.units0 ?_)
  refine wpAny_bind (wpAny_bind (J.type.here ((PySem.W.looks_findIn KX hs).here ?_)))
  show wpAny _ _ (if (some (Value.ref f)).isNone = true then _ else _) _ _ _
  rw [if_neg (by simp)]
  refine wpAny_bind (m := callSpecialIfBoundBy? _ (.ref a) (Str.ofString "__repr__")) (ifBoundBy_K KX J hs hf (wpAny_mono (call_own F hb hx sb I (hr H sm)) (fun v s' hv => ?_) fun _ _ y => y))
  obtain ⟨u, rfl, H', I', ex⟩ := hv
  refine wpAny_bind (wpAny_isInstance (T := "str") (b := true) rfl isSubtype_str_str (wpAny_pure ?_))
  exact ⟨_, u, rfl, rfl, H', I', ex⟩
theorem top_own {X : Cx} {CX : CXT} {k : Nat} {C f a dx : Addr} {fs : List (Str × V)} {fd : FuncData} {ps : List Str} {Rel : Addr → Hp → Str → Prop} {E : XK} {t : Str} (F : FnOk X.prog X.w X.K X.mg X.base CX k f fd ps (spRp Rel))
    (hs : PySem.W.findIn X.K (.ref C) "__repr__" = some (some (.ref f))) (hf : PySem.W.isFn X.K (.ref f) = true) (hb : Binds X.K fd ps []) (hx : Passes CX X E) (hroom : Room (k + 1) X.A) {pins : List (Addr × Obj)} {σ : L2.St} {H : Hp} {s : Shared} (I : L2.Inv X pins σ H s) (ha : H a = some (.ins C dx fs)) (hr : Rel a H t) :
    wpAny (model X.prog X.w) X.A (call (.builtin "repr") [.ref a]) (RpEnd X pins σ H t) X.xe s := by
  obtain ⟨mA, J, _⟩ := ins_get I.hok ha
  obtain ⟨od, J, _⟩ := J.look
  obtain ⟨m, hF⟩ := I.fr
  refine PySem.W.repr_K (by have := hroom.un; show X.A.units + 1 < cLine; omega) hF I.ok.mod.kin J hs hf (wpAny_mono (call_own F hb hx ⟨hroom.in1, rfl⟩ I hr) (fun v s' hv => ?_) fun _ _ y => y)
  obtain ⟨u, rfl, H', I', ex⟩ := hv
  exact ⟨u, rfl, H', I', ex⟩
/-! tuples -/
section
variable {X : Cx} {n : Nat} {H0 : Hp} {Cl : ClT} {a : Addr}
theorem rp_tupFold {A : Around} {g : List Code} {pins : List (Addr × Obj)} {σ : L2.St} {m : Nat} (sb : L2.Sub X n A) (hg : A.guards = some g) (hcl : Grd Cl g m) : ∀ (l : List Value) (xs : List V) (ts : List Str) (acc : Array Str) (k : Nat) (s : Shared) (H : Hp) (Q : (Array Str × Nat) → Shared → Prop), Vals xs l → ts.length = xs.length →
    (∀ (i : Nat) x t, xs[i]? = some x → ts[i]? = some t → RpG X n H0 Cl x t) → (∀ t ∈ ts, t.length ≤ m) → k + piled ts ≤ sizeLine → L2.Inv X pins σ H s → Same H0 H →
    (∀ s' H', L2.Inv X pins σ H' s' → Same H H' → Q ⟨acc ++ ts.toArray, k + piled ts⟩ s') →
    wpAny (model X.prog X.w) A (forIn l (⟨acc, k⟩ : (Array Str × Nat)) tupBody) Q X.xe s := by
  intro l
  induction l with
  | nil =>
    intro xs ts acc k s H Q rv hlen hT hm hz I sm h
    cases rv
    have e1 : ts = [] := List.length_eq_zero_iff.mp (by simpa using hlen)
    subst e1
    have h0 := h s H I (Same.refl _)
    simp only [List.forIn_nil]
    exact wpAny_pure (by simpa [piled] using h0)
  | cons u l ih =>
    intro xs ts acc k s H Q rv hlen hT hm hz I sm h
    cases rv with
    | cons ru rv =>
      rename_i x xs
      cases ts with
      | nil => simp at hlen
      | cons t ts =>
        rw [piled_cons] at hz
        rw [List.forIn_cons]
        have hlt := hm t List.mem_cons_self
        refine wpAny_bind (wpAny_bind (wpAny_mono (hT 0 x t rfl rfl A pins s σ H u g (k + 1) sb hg (fun b q hb hq => hcl b q hb (by omega)) (by omega) I sm ru) (fun r s1 hr => ?_) fun _ _ e => e))
        obtain ⟨rfl, H1, I1, s01⟩ := hr
        refine wpAny_pure ?_
        refine ih xs ts (acc.push r) (k + (r.length + 2)) s1 H1 Q rv (by simpa using hlen) (fun i x t h1 h2 => hT (i + 1) x t (by simpa using h1) (by simpa using h2)) (fun t ht => hm t (List.mem_cons_of_mem _ ht)) (by omega) I1 (sm.trans s01) fun s' H' I' sm' => ?_
        have h1 := h s' H' I' (s01.trans sm')
        have e : k + piled (r :: ts) = k + (r.length + 2) + piled ts := by rw [piled_cons]; omega
        rw [e] at h1
        simpa using h1
theorem rp_tupAt (fn : ∀ b k k', Cl b k → Cl b k' → k = k') {xs : List V} {ts : List Str} (ha : H0 a = some (.tup xs)) (hca : Cl a (tupleText ts).length) (hlen : ts.length = xs.length) (hT : ∀ (i : Nat) x t, xs[i]? = some x → ts[i]? = some t → RpG X n H0 Cl x t)
    {A : Around} {g : List Code} {base : Nat} {pins : List (Addr × Obj)} {σ : L2.St} {H : Hp} {s : Shared} {id : String} {rest : List Value} (sb : L2.Sub X n (A.under (.builtin id ⟨.ref a :: rest, []⟩))) (hcg : (Code.builtin id ⟨.ref a :: rest, []⟩).isGuard = true) (hg : A.guards = some g) (hcl : Grd Cl g (tupleText ts).length) (hsz : base + (tupleText ts).length ≤ sizeLine) (I : L2.Inv X pins σ H s) (sm : Same H0 H) :
    wpOwn (model X.prog X.w) A (.builtin id ⟨.ref a :: rest, []⟩) (Builtin.tupleReprAt base ⟨[.ref a], []⟩) (fun fin s' => match fin with | .done f => callEnd (RpEnd X pins σ H (tupleText ts)) X.xe (.ok f) s' | .again c' => c'.quiet = true ∧ codeAny (model X.prog X.w) A c' (callEnd (RpEnd X pins σ H (tupleText ts)) X.xe) s') (fun e s' => callEnd (RpEnd X pins σ H (tupleText ts)) X.xe (.error e) s') s := by
  have hc0 : Clear g a := hcl a _ hca (Nat.le_refl _)
  have hp := piled_le_tupleText ts
  have hsz0 : (tupleText ts).length ≤ sizeLine := by omega
  obtain ⟨its, rv, he, hz⟩ := I.tuple (.inl (.inl (sm _ _ ha)) : SqT X.K H a xs)
  have he' := he
  obtain ⟨o, ho, hoc, nn, hod⟩ := he'
  rw [tuple_repr_tree, tupleReprUnderWay_eq]
  refine wpOwn_bind (wpOwn_stackTailAny hg (tupGuardF_off _) (tupGuardF_pos _) ?_)
  have hn : (g.any fun c => tupGuardF (.ref a) (c, default)) = false := by
    rw [List.any_eq_false]
    intro c hcm
    rw [tupGuardF_of_clear hc0 c hcm]
    exact Bool.false_ne_true
  rw [hn]
  refine wpOwn_of_wpAny ?_
  show wpAny _ _ (tupleReprRest base (.ref a)) _ _ s
  unfold tupleReprRest Builtin.Tuple.tupleItemsOf
  refine wpAny_bind (wpAny_bind (wpAny_seqItems ho hod (wpAny_pure ?_)))
  rw [← Array.forIn_toList]
  have pm : ∀ {ts : List Str} {t : Str}, t ∈ ts → t.length + 2 ≤ piled ts := fun {ts t} ht => by
    induction ts with
    | nil => cases ht
    | cons y r ih =>
      rw [piled_cons]
      rcases List.mem_cons.mp ht with e | e
      · rw [e]; omega
      · have := ih e; omega
  refine wpAny_bind (rp_tupFold (m := (tupleText ts).length - 1) (g := .builtin id ⟨.ref a :: rest, []⟩ :: g) sb (guards_under_guard hcg hg) (fun b q hb hq => ?_) its xs ts _ _ s H _ (by simpa using rv) hlen hT (fun t ht => by have := pm ht; omega) (by omega) I sm fun s' H' I' sm' => ?_)
  · have lpos : 1 ≤ (tupleText ts).length := by
      unfold tupleText
      rw [strLen_append, strLen_append]
      have e1 : ((("(" : String) : Str)).length = 1 := rfl
      omega
    exact (hcl b q hb (by omega)).cons (a := a) fun e => by
      subst e
      have := fn _ _ _ hca hb
      omega
  refine wpAny_bind (wpAny_mkStr (wpAny_pure ?_) ?_)
  · refine ⟨s'.toks, ?_, H', I'.tok _, sm'⟩
    have lz : its.length = ts.length := by rw [hlen, rv.length]
    simp [tupleText, lz]
  · have lz : its.length = ts.length := by rw [hlen, rv.length]
    have e : (tupleText ts) = (("(" : Str) ++ Str.join ", " ts ++ (if ts.length == 1 then ",)" else ")" : String)) := rfl
    rw [e] at hsz0
    simpa [lz] using hsz0
theorem RpG.tup (fn : ∀ b k k', Cl b k → Cl b k' → k = k') {xs : List V} {ts : List Str} (ha : H0 a = some (.tup xs)) (hca : Cl a (tupleText ts).length) (hlen : ts.length = xs.length) (hT : ∀ (i : Nat) x t, xs[i]? = some x → ts[i]? = some t → RpG X n H0 Cl x t) : RpG X (n + 1) H0 Cl (.ref a) (tupleText ts) := by
  intro A pins s σ H u g base sb hg hcl hsz I sm r
  cases r
  obtain ⟨its, rv, he, hz⟩ := I.tuple (.inl (.inl (sm _ _ ha)) : SqT X.K H a xs)
  obtain ⟨o, ho, hoc, nn, hod⟩ := he
  refine wpAny_pyReprUnder_ref (by omega) (wpAny_pyReprObjUnder_twin (twin := "tuple.__repr__.under") ⟨o, ho, hoc⟩ F.slot_tuple_repr rfl sb.room.units0
    (wpAny_mono (call_twin_own (F.quiet_tuple_repr_under _) F.entry_tuple_repr_under F.check_tuple_repr_under ⟨o, ho, hoc⟩ F.slot_tuple_repr (F.args_tuple_repr_1 _)
      (rp_tupAt fn ha hca hlen hT (sub_guard sb (depth_tuple_under _ _) (units_under_tuple_repr_under _ _) (frames_tuple_under _ _)) (isGuard_tuple_repr_under _) hg hcl hsz I sm)) (fun v s' hv => ?_) fun e s' h => h))
  obtain ⟨u, rfl, q⟩ := hv
  exact ⟨⟨_, u, rfl⟩, _, u, rfl, rfl, q⟩
theorem call_tuple_reprG (fn : ∀ b k k', Cl b k → Cl b k' → k = k') {xs : List V} {ts : List Str} (ha : H0 a = some (.tup xs)) (hca : Cl a (tupleText ts).length) (hlen : ts.length = xs.length) (hT : ∀ (i : Nat) x t, xs[i]? = some x → ts[i]? = some t → RpG X n H0 Cl x t)
    {A : Around} {g : List Code} {pins : List (Addr × Obj)} {σ : L2.St} {H : Hp} {s : Shared} (sb : L2.Sub X (n + 1) A) (hg : A.guards = some g) (hcl : Grd Cl g (tupleText ts).length) (hsz : (tupleText ts).length ≤ sizeLine) (I : L2.Inv X pins σ H s) (sm : Same H0 H) :
    wpAny (model X.prog X.w) A (call (.builtin "tuple.__repr__") [.ref a]) (RpEnd X pins σ H (tupleText ts)) X.xe s := by
  obtain ⟨its, rv, he, hz⟩ := I.tuple (.inl (.inl (sm _ _ ha)) : SqT X.K H a xs)
  obtain ⟨o, ho, hoc, nn, hod⟩ := he
  exact wpAny_call (codeAny_call_builtin_own (Code.quiet_builtin _ (by decide +kernel)) F.entry_tuple_repr (F.slot_tuple_repr.check _ _ _ _ _ _ _ _ ⟨o, ho, hoc⟩ (F.args_tuple_repr_1 _)
    (rp_tupAt (base := 0) fn ha hca hlen hT (sub_guard sb (depth_tuple_repr _ _) (units_under_tuple_repr _ _) (frames_tuple_repr _ _)) (isGuard_tuple_repr _) hg hcl (by omega) I sm)))
end
/-! what is shown how -/
/-- a ratio: an instance of the class at C with these two numbers -/
def Rat2 (C : Addr) (H : Hp) (a : Addr) (p q : Int) : Prop := ∃ dx, H a = some (.ins C dx [("_top", .int p), ("_bottom", .int q)])
theorem Rat2.same {C : Addr} {H H' : Hp} {a : Addr} {p q : Int} (h : Rat2 C H a p q) (e : Same H H') : Rat2 C H' a p q := let ⟨dx, h⟩ := h; ⟨dx, e _ _ h⟩
def ratText (p q : Int) : Str := Str.ofString "Ratio(" ++ Str.ofString (toString p) ++ Str.ofString ", " ++ Str.ofString (toString q) ++ Str.ofString ")"
def dEnt (p : Int × Int) : Str := Str.ofString (toString p.1) ++ ": " ++ Str.ofString (toString p.2)
abbrev okI (i : Int) : Prop := i.natAbs.log2 < 1920
inductive Sh (C : Addr) (H : Hp) : Nat → V → Str → Prop
  | int {d : Nat} {i : Int} (h : okI i) : Sh C H d (.int i) (Str.ofString (toString i))
  | bl {d : Nat} (b : Bool) : Sh C H d (.bl b) (if b = true then Str.ofString "True" else Str.ofString "False")
  | non {d : Nat} : Sh C H d .non "None"
  | str {d : Nat} (x : Str) (h : (reprText x).length ≤ 3900) : Sh C H d (.str x) (reprText x)
  | own {d : Nat} {a : Addr} {p q : Int} : Rat2 C H a p q → okI p → okI q → Sh C H d (.ref a) (ratText p q)
  | lst {d : Nat} {a : Addr} {xs : List V} {ts : List Str} : H a = some (.lst xs) → xs.length ≤ 60 → ts.length = xs.length → (∀ (i : Nat) x t, xs[i]? = some x → ts[i]? = some t → Sh C H d x t) → Sh C H (d + 1) (.ref a) (listText ts)
  | tup {d : Nat} {a : Addr} {xs : List V} {ts : List Str} : H a = some (.tup xs) → xs.length ≤ 60 → ts.length = xs.length → (∀ (i : Nat) x t, xs[i]? = some x → ts[i]? = some t → Sh C H d x t) → Sh C H (d + 1) (.ref a) (tupleText ts)
  | dct {d : Nat} {a : Addr} {ds : List (Int × Int)} : H a = some (.dK (ds.map fun p => (.inl p.1, .int p.2))) → ds.length ≤ 60 → (∀ p ∈ ds, okI p.1 ∧ okI p.2) → Sh C H (d + 1) (.ref a) (dictText (ds.map dEnt))
theorem Sh.same {C : Addr} {H H' : Hp} {d : Nat} {x : V} {t : Str} (h : Sh C H d x t) (e : Same H H') : Sh C H' d x t := by
  induction h with
  | int h => exact .int h
  | bl b => exact .bl b
  | non => exact .non
  | str x h => exact .str x h
  | own r h1 h2 => exact .own (r.same e) h1 h2
  | lst h1 h0 h2 _ ih => exact .lst (e _ _ h1) h0 h2 ih
  | tup h1 h0 h2 _ ih => exact .tup (e _ _ h1) h0 h2 ih
  | dct h1 h0 h2 => exact .dct (e _ _ h1) h0 h2
theorem dk_inj : ∀ {ds es : List (Int × Int)}, (ds.map fun p => ((.inl p.1 : Key), V.int p.2)) = es.map (fun p => ((.inl p.1 : Key), V.int p.2)) → ds = es
  | [], [], _ => rfl
  | [], _ :: _, h => by cases h
  | _ :: _, [], h => by cases h
  | (a, b) :: ds, (c, d) :: es, h => by
    rw [List.map_cons, List.map_cons] at h
    injection h with h1 h2
    injection h1 with h3 h4
    injection h3 with h5
    injection h4 with h6
    rw [show a = c from h5, show b = d from h6, dk_inj h2]
theorem Sh.fn {C : Addr} {H : Hp} {d : Nat} {x : V} {t : Str} (h : Sh C H d x t) : ∀ {d' : Nat} {t' : Str}, Sh C H d' x t' → t = t' := by
  induction h with
  | int h => intro d' t' g; cases g; rfl
  | bl b => intro d' t' g; cases g; rfl
  | non => intro d' t' g; cases g; rfl
  | str x _ => intro d' t' g; cases g; rfl
  | own r _ _ =>
    intro d' t' g
    obtain ⟨dx, r⟩ := r
    cases g with
    | own r2 =>
      obtain ⟨dx2, r2⟩ := r2
      rw [r] at r2
      injection r2 with r2
      injection r2 with _ _ z
      injection z with z1 z2
      injection z1 with _ z3
      injection z3 with z3
      injection z2 with z2 _
      injection z2 with _ z4
      injection z4 with z4
      rw [z3, z4]
    | lst h1 => rw [r] at h1; cases h1
    | tup h1 => rw [r] at h1; cases h1
    | dct h1 => rw [r] at h1; cases h1
  | lst h1 h0 h2 h3 ih =>
    intro d' t' g
    cases g with
    | own r2 => obtain ⟨dx2, r2⟩ := r2; rw [h1] at r2; cases r2
    | lst g1 g0 g2 g3 =>
      rw [h1] at g1; cases g1
      congr 1
      refine List.ext_getElem (by rw [h2, g2]) fun i a b => ?_
      have hx := List.getElem?_eq_getElem (show i < _ from h2 ▸ a)
      exact ih i _ _ hx (List.getElem?_eq_getElem a) (g3 i _ _ hx (List.getElem?_eq_getElem b))
    | tup g1 => rw [h1] at g1; cases g1
    | dct g1 => rw [h1] at g1; cases g1
  | tup h1 h0 h2 h3 ih =>
    intro d' t' g
    cases g with
    | own r2 => obtain ⟨dx2, r2⟩ := r2; rw [h1] at r2; cases r2
    | tup g1 g0 g2 g3 =>
      rw [h1] at g1; cases g1
      congr 1
      refine List.ext_getElem (by rw [h2, g2]) fun i a b => ?_
      have hx := List.getElem?_eq_getElem (show i < _ from h2 ▸ a)
      exact ih i _ _ hx (List.getElem?_eq_getElem a) (g3 i _ _ hx (List.getElem?_eq_getElem b))
    | lst g1 => rw [h1] at g1; cases g1
    | dct g1 => rw [h1] at g1; cases g1
  | dct h1 h0 h2 =>
    intro d' t' g
    cases g with
    | own r2 => obtain ⟨dx2, r2⟩ := r2; rw [h1] at r2; cases r2
    | lst g1 => rw [h1] at g1; cases g1
    | tup g1 => rw [h1] at g1; cases g1
    | dct g1 =>
      rw [h1] at g1
      injection g1 with g1
      injection g1 with g1
      rw [dk_inj g1]
def ShCl (C : Addr) (H : Hp) : ClT := fun a m => ∃ d t, Sh C H d (.ref a) t ∧ t.length = m
theorem shcl_fn (C : Addr) (H : Hp) : ∀ b k k', ShCl C H b k → ShCl C H b k' → k = k' := fun b k k' ⟨d, t, h, e⟩ ⟨d', t', h', e'⟩ => by rw [← e, ← e', h.fn h']
/-! a dict of ints -/
theorem ents_of {P : Program} {w : World} {h₀ : Heap} : ∀ {ds : List (Int × Int)} {es : List DictEntry} {vs : List (Key × Value)}, Pairs (mixKind P w) es vs → KV (ds.map fun p => ((.inl p.1 : Key), V.int p.2)) vs → (∀ p ∈ ds, okI p.1 ∧ okI p.2) →
    ReprEntriesK P w [] h₀ 0 es (ds.map dEnt)
  | [], _, _, hp, hk, _ => by
    cases hk
    cases hp
    exact .nil
  | p :: ds, _, _, hp, hk, hb => by
    cases hk with
    | cons r hk =>
      cases hp with
      | cons k1 k2 hp =>
        obtain ⟨r1, r2⟩ := r
        obtain ⟨b1, b2⟩ := hb p List.mem_cons_self
        have k1' : keyIs _ _ = true := k1
        rw [← r1] at k1'
        rcases keyIs_shape k1' with ⟨i, t, e, e2⟩ | ⟨x, t, e, _⟩
        · obtain rfl : p.1 = i := by injection e
          obtain ⟨u, hu⟩ := (show ∃ u, _ = Value.int p.2 u from r2)
          refine .cons (k := Str.ofString (toString p.1)) (v := Str.ofString (toString p.2)) ?_ ?_ (ents_of hp hk fun q hq => hb q (List.mem_cons_of_mem _ hq))
          · rw [e2]; exact .of_is (ReprIs.int t b1) _ _ _
          · rw [k2, hu]; exact .of_is (ReprIs.int u b2) _ _ _
        · cases e
section
variable {X : Cx} {n : Nat} {H0 : Hp} {Cl : ClT} {a : Addr} {ds : List (Int × Int)}
theorem RpG.dict (ha : H0 a = some (.dK (ds.map fun p => (.inl p.1, .int p.2)))) (hca : Cl a (dictText (ds.map dEnt)).length) (hb : ∀ p ∈ ds, okI p.1 ∧ okI p.2) : RpG X (n + 1) H0 Cl (.ref a) (dictText (ds.map dEnt)) := by
  intro A pins s σ H u g base sb hg hcl hsz I sm r
  cases r
  obtain ⟨_, hsys, vs, kv, o, es, ep, he, hex, hd, _, hp, _⟩ := I.hok a _ (sm _ _ ha)
  refine wpAny_pyReprUnder_ref (by omega) (wpAny_pyReprObjUnder_dictK (as := []) (h₀ := s.heap) (d := 0) he hex.1 hd hsys (by simp) (ents_of hp kv hb) hg (fun b hb => ?_) (by have := sb.room.un; omega) (fun _ _ e => e) (fun h' u tk hk => ⟨_, u, rfl, rfl, H, I.kept (t' := tk) hk, Same.refl _⟩) hsz)
  rw [List.mem_singleton.mp hb]
  exact hcl a _ hca (Nat.le_refl _)
theorem call_dict_reprG (ha : H0 a = some (.dK (ds.map fun p => (.inl p.1, .int p.2)))) (hca : Cl a (dictText (ds.map dEnt)).length) (hb : ∀ p ∈ ds, okI p.1 ∧ okI p.2)
    {A : Around} {g : List Code} {pins : List (Addr × Obj)} {σ : L2.St} {H : Hp} {s : Shared} (sb : L2.Sub X (n + 1) A) (hg : A.guards = some g) (hcl : Grd Cl g (dictText (ds.map dEnt)).length) (hsz : (dictText (ds.map dEnt)).length ≤ sizeLine) (I : L2.Inv X pins σ H s) (sm : Same H0 H) :
    wpAny (model X.prog X.w) A (call (.builtin "dict.__repr__") [.ref a]) (RpEnd X pins σ H (dictText (ds.map dEnt))) X.xe s := by
  obtain ⟨_, hsys, vs, kv, o, es, ep, he, hex, hd, _, hp, _⟩ := I.hok a _ (sm _ _ ha)
  refine call_dict_reprK (as := []) (h₀ := s.heap) (d := 0) he hex.1 hd hsys (by simp) (ents_of hp kv hb) hg (fun b hb => ?_) (by have := sb.room.un; omega) (fun _ _ e => e) (fun h' u tk hk => ⟨u, rfl, H, I.kept (t' := tk) hk, Same.refl _⟩) hsz
  rw [List.mem_singleton.mp hb]
  exact hcl a _ hca (Nat.le_refl _)
end
/-- how the own class is shown -/
structure OwnRp (X : Cx) (C : Addr) (k : Nat) : Prop where
  go : ∀ (H0 : Hp) (Cl : ClT) (a : Addr) (p q : Int), Rat2 C H0 a p q → okI p → okI q → RpG X k H0 Cl (.ref a) (ratText p q)
  top : ∀ (pins : List (Addr × Obj)) (s : Shared) (σ : L2.St) (H : Hp) (a : Addr) (p q : Int), L2.Inv X pins σ H s → Rat2 C H a p q → okI p → okI q → wpAny (model X.prog X.w) X.A (call (.builtin "repr") [.ref a]) (RpEnd X pins σ H (ratText p q)) X.xe s
theorem Sh.rp {X : Cx} {C : Addr} {k : Nat} (O : OwnRp X C k) {H0 : Hp} {d : Nat} {x : V} {t : Str} (h : Sh C H0 d x t) : t.length ≤ sizeLine → RpG X (k + d) H0 (ShCl C H0) x t := by
  induction h with
  | @int d i h =>
    intro _
    refine RpG.is fun u r => ?_
    obtain ⟨t, rfl⟩ := r
    exact ReprIs.int t h
  | bl b =>
    intro _
    refine RpG.is fun u r => ?_
    cases r
    exact ReprIs.bool b
  | non =>
    intro _
    refine RpG.is fun u r => ?_
    cases r
    exact ReprIs.none
  | str x _ =>
    intro hz
    refine RpG.is fun u r => ?_
    obtain ⟨t, rfl⟩ := r
    exact ReprIs.str x t hz
  | own r b1 b2 => exact fun hz => (O.go _ _ _ _ _ r b1 b2).mono (Nat.le_add_right _ _)
  | @lst d a xs ts h1 h0 h2 h3 ih =>
    intro hz
    have hp := piled_le_listText ts
    refine RpG.list (shcl_fn C H0) h1 ⟨_, _, Sh.lst h1 h0 h2 h3, rfl⟩ h2 fun i x t e1 e2 => ih i x t e1 e2 ?_
    have : t.length + 2 ≤ piled ts := by
      have := piled_take_succ e2
      have := piled_take_le ts (i + 1)
      omega
    omega
  | @tup d a xs ts h1 h0 h2 h3 ih =>
    intro hz
    have hp := piled_le_tupleText ts
    refine RpG.tup (shcl_fn C H0) h1 ⟨_, _, Sh.tup h1 h0 h2 h3, rfl⟩ h2 fun i x t e1 e2 => ih i x t e1 e2 ?_
    have : t.length + 2 ≤ piled ts := by
      have := piled_take_succ e2
      have := piled_take_le ts (i + 1)
      omega
    omega
  | @dct d a ds h1 h0 h2 => exact fun _ => RpG.dict h1 ⟨d + 1, _, Sh.dct h1 h0 h2, rfl⟩ h2
theorem listText_le (ts : List Str) : (listText ts).length ≤ piled ts + 2 := by
  cases ts with
  | nil => decide
  | cons t r =>
    have h := textFrom_length_pos r 1 (("[" : Str) ++ (if (0 : Nat) > 0 then ", " else "" : String) ++ t) (Nat.succ_pos 0)
    have e : ((("[" : Str) ++ (if (0 : Nat) > 0 then ", " else "" : String) ++ t)).length = 1 + t.length := by
      rw [strLen_append, strLen_append]; rfl
    have hX : (listText (t :: r)).length = (textFrom 0 "[" (t :: r)).length + 1 := by
      show (textFrom 0 "[" (t :: r) ++ "]").length = _
      rw [strLen_append]; rfl
    have hY : (textFrom 0 "[" (t :: r)).length = (textFrom 1 (("[" : Str) ++ (if (0 : Nat) > 0 then ", " else "" : String) ++ t) r).length := rfl
    rw [hX, hY, h, e, piled_cons]; omega
theorem join_le (ts : List Str) : (Str.join ", " ts).length ≤ piled ts := by
  cases ts with
  | nil => decide
  | cons t r => have := join_length_add (t :: r) (by simp); omega
theorem tupleText_le (ts : List Str) : (tupleText ts).length ≤ piled ts + 3 := by
  have := join_le ts
  unfold tupleText
  rw [strLen_append, strLen_append]
  have e1 : ((("(" : String) : Str)).length = 1 := rfl
  have e3 : (((if ts.length == 1 then ",)" else ")" : String) : Str)).length ≤ 2 := by split <;> decide
  omega
theorem dictText_le (ts : List Str) : (dictText ts).length ≤ piled ts + 2 := by
  have := join_le ts
  unfold dictText
  rw [strLen_append, strLen_append]
  have e1 : ((("{" : String) : Str)).length = 1 := rfl
  have e2 : ((("}" : String) : Str)).length = 1 := rfl
  omega
theorem piled_all {ts : List Str} {L : Nat} (h : ∀ t ∈ ts, t.length ≤ L) : piled ts ≤ ts.length * (L + 2) := by
  induction ts with
  | nil => simp [piled]
  | cons t r ih =>
    rw [piled_cons, List.length_cons, Nat.succ_mul]
    have := h t List.mem_cons_self
    have := ih fun t ht => h t (List.mem_cons_of_mem _ ht)
    omega
def Lb : Nat → Nat
  | 0 => 3900
  | d + 1 => 60 * (Lb d + 2) + 3
theorem Lb_ge : ∀ d, 3900 ≤ Lb d
  | 0 => Nat.le_refl _
  | d + 1 => by have := Lb_ge d; show 3900 ≤ 60 * (Lb d + 2) + 3; omega
theorem int_len {i : Int} (h : okI i) : (Str.ofString (toString i)).length ≤ 1921 := int_text_len_1921 h
theorem ratText_len {p q : Int} (h1 : okI p) (h2 : okI q) : (ratText p q).length ≤ 3900 := by
  have := int_len h1
  have := int_len h2
  unfold ratText
  rw [strLen_append, strLen_append, strLen_append, strLen_append]
  have e1 : (Str.ofString "Ratio(").length = 6 := rfl
  have e2 : (Str.ofString ", ").length = 2 := rfl
  have e3 : (Str.ofString ")").length = 1 := rfl
  omega
theorem at_all {ts : List Str} {xs : List V} {L : Nat} (h2 : ts.length = xs.length) (h : ∀ (i : Nat) (x : V) (t : Str), xs[i]? = some x → ts[i]? = some t → t.length ≤ L) : ∀ t ∈ ts, t.length ≤ L := fun t ht => by
  obtain ⟨i, hi⟩ := List.getElem?_of_mem ht
  have l := (List.getElem?_eq_some_iff.mp hi).1
  exact h i _ t (List.getElem?_eq_getElem (h2 ▸ l)) hi
theorem Sh.len {C : Addr} {H : Hp} {d : Nat} {x : V} {t : Str} (h : Sh C H d x t) : t.length ≤ Lb d := by
  induction h with
  | @int d i h => exact Nat.le_trans (int_len h) (Nat.le_trans (by decide) (Lb_ge d))
  | @bl d b => exact Nat.le_trans (by cases b <;> decide) (Lb_ge d)
  | @non d => exact Nat.le_trans (by decide) (Lb_ge d)
  | @str d x h => exact Nat.le_trans h (Lb_ge d)
  | @own d a p q r h1 h2 => exact Nat.le_trans (ratText_len h1 h2) (Lb_ge d)
  | @lst d a xs ts h1 h0 h2 h3 ih =>
    have := listText_le ts
    have p := piled_all (at_all h2 ih)
    have : ts.length * (Lb d + 2) ≤ 60 * (Lb d + 2) := Nat.mul_le_mul_right _ (by omega)
    show _ ≤ 60 * (Lb d + 2) + 3
    omega
  | @tup d a xs ts h1 h0 h2 h3 ih =>
    have := tupleText_le ts
    have p := piled_all (at_all h2 ih)
    have : ts.length * (Lb d + 2) ≤ 60 * (Lb d + 2) := Nat.mul_le_mul_right _ (by omega)
    show _ ≤ 60 * (Lb d + 2) + 3
    omega
  | @dct d a ds h1 h0 h2 =>
    have := dictText_le (ds.map dEnt)
    have p := piled_all (ts := ds.map dEnt) (L := 3900) fun t ht => by
      obtain ⟨p, hp, rfl⟩ := List.mem_map.mp ht
      have := int_len (h2 p hp).1
      have := int_len (h2 p hp).2
      unfold dEnt
      rw [strLen_append, strLen_append]
      have e1 : (((": " : String) : Str)).length = 2 := rfl
      omega
    rw [List.length_map] at p
    have b := Lb_ge d
    have : ds.length * (3900 + 2) ≤ 60 * (Lb d + 2) := Nat.mul_le_mul h0 (by omega)
    show _ ≤ 60 * (Lb d + 2) + 3
    omega
theorem Sh.size {C : Addr} {H : Hp} {d : Nat} {x : V} {t : Str} (h : Sh C H d x t) (hd : d ≤ 2) : t.length ≤ sizeLine := by
  have := h.len
  have e : Lb d ≤ Lb 2 := by
    have : d = 0 ∨ d = 1 ∨ d = 2 := by omega
    rcases this with rfl | rfl | rfl <;> decide
  have : Lb 2 ≤ sizeLine := by decide
  omega
/-- repr(..) of such a value, where nothing is being shown -/
def rSh (C : Addr) : List V → Hp → VK → Prop := fun vs H Q => ∃ (x : V) (t : Str) (d : Nat), vs = [x] ∧ Sh C H d x t ∧ d ≤ 2 ∧ ∀ H', Same H H' → Q (.str t) H'
theorem cr_sh {X : Cx} {C : Addr} {k : Nat} (O : OwnRp X C k) (hr : Room (k + 8) X.A) (hg : X.A.guards = some []) : CallR X (.builtin "repr") (rSh C) := by
  intro pins s σ H xs us Q I r h
  obtain ⟨x, t, d, rfl, hsh, hd, q⟩ := h
  have hz := hsh.size hd
  obtain ⟨u, rfl, ru⟩ := r.one
  have fin : ∀ v s', RpEnd X pins σ H t v s' → EP X pins σ Q v s' := fun v s' ⟨u, e, H', I', sm⟩ => by
    subst e
    exact ⟨.str t, H', I', ⟨u, rfl⟩, q H' sm⟩
  have gr : ∀ m, Grd (ShCl C H) [] m := fun m b k _ _ => Clear.nil b
  have sb : ∀ m, m ≤ k + 7 → L2.Sub X m X.A.in1 := fun m hm => ⟨(hr.mono (show m + 1 ≤ k + 8 by omega)).in1, rfl⟩
  cases hsh with
  | @int d i h =>
    obtain ⟨t, rfl⟩ := ru
    exact PySem.P.repr_of_int h (fin _ _ ⟨_, rfl, H, I.tok _, Same.refl _⟩)
  | bl b =>
    cases ru
    exact PySem.P.repr_of_bool (fin _ _ ⟨_, rfl, H, I.tok _, Same.refl _⟩)
  | non =>
    cases ru
    exact PySem.P.repr_of_none (fin _ _ ⟨_, rfl, H, I.tok _, Same.refl _⟩)
  | str x _ =>
    obtain ⟨t, rfl⟩ := ru
    exact PySem.P.repr_of_str (fin _ _ ⟨_, rfl, H, I.tok _, Same.refl _⟩) hz
  | own r2 b1 b2 =>
    cases ru
    exact wpAny_mono (O.top pins s σ H _ _ _ I r2 b1 b2) fin fun _ _ e => e
  | @lst d a xs ts h1 h0 h2 h3 =>
    cases ru
    obtain ⟨_, its, na, rv, hl, he⟩ := I.lstM h1
    have hp := piled_le_listText ts
    have tl : ∀ (i : Nat) (t : Str), ts[i]? = some t → t.length ≤ sizeLine := fun i t e2 => by
      have := piled_take_succ e2
      have := piled_take_le ts (i + 1)
      omega
    refine call_repr_slot (by have := hr.un; omega) ⟨_, he, rfl⟩ F.slot_list_repr.toG ?_
    by_cases hne : xs = []
    · subst hne
      have e1 : ts = [] := List.length_eq_zero_iff.mp h2
      have e2 : its = [] := List.length_eq_zero_iff.mp (by simpa using hl.symm)
      subst e1 e2
      exact call_list_repr_empty ⟨_, he, rfl⟩ he rfl ⟨_, _, rfl, fin _ _ ⟨_, rfl, H, I.tok _, Same.refl _⟩⟩
    · refine wpAny_mono (call_list_reprG (n := k + d) (shcl_fn C H) h1 hne ⟨d + 1, _, Sh.lst h1 h0 h2 h3, rfl⟩ h2 (fun i x t e1 e2 => (h3 i x t e1 e2).rp O (tl i t e2)) (sb _ (by omega)) hg (gr _) hz I (Same.refl _)) (fun v s' hv => ?_) fun _ _ e => e
      obtain ⟨u, e, q⟩ := hv
      exact ⟨_, u, e, fin v s' ⟨u, e, q⟩⟩
  | @tup d a xs ts h1 h0 h2 h3 =>
    cases ru
    obtain ⟨its, rv, he, _⟩ := I.tuple (.inl (.inl h1) : SqT X.K H a xs)
    obtain ⟨o, ho, hoc, nn, hod⟩ := he
    have hp := piled_le_tupleText ts
    have tl : ∀ (i : Nat) (t : Str), ts[i]? = some t → t.length ≤ sizeLine := fun i t e2 => by
      have := piled_take_succ e2
      have := piled_take_le ts (i + 1)
      omega
    refine call_repr_slot (by have := hr.un; omega) ⟨o, ho, hoc⟩ F.slot_tuple_repr ?_
    refine wpAny_mono (call_tuple_reprG (n := k + d) (shcl_fn C H) h1 ⟨d + 1, _, Sh.tup h1 h0 h2 h3, rfl⟩ h2 (fun i x t e1 e2 => (h3 i x t e1 e2).rp O (tl i t e2)) (sb _ (by omega)) hg (gr _) hz I (Same.refl _)) (fun v s' hv => ?_) fun _ _ e => e
    obtain ⟨u, e, q⟩ := hv
    exact ⟨_, u, e, fin v s' ⟨u, e, q⟩⟩
  | @dct d a ds h1 h0 h2 =>
    cases ru
    obtain ⟨_, hsys, vs, kv, o, es, ep, he, hex, hd, _, hp, _⟩ := I.hok a _ h1
    refine call_repr_slot (by have := hr.un; omega) ⟨o, he, hex.1⟩ F.slot_dict_repr ?_
    refine wpAny_mono (call_dict_reprG (n := k + d) h1 ⟨d + 1, _, Sh.dct h1 h0 h2, rfl⟩ h2 (sb _ (by omega)) hg (gr _) hz I (Same.refl _)) (fun v s' hv => ?_) fun _ _ e => e
    obtain ⟨u, e, q⟩ := hv
    exact ⟨_, u, e, fin v s' ⟨u, e, q⟩⟩
end Fp

namespace K21
/-- the numbers that are sums of the ints that P tells -/
inductive Rch (P : Int → Prop) : Int → Prop
  | zero : Rch P 0
  | step {n c : Int} (h : P c) (r : Rch P n) : Rch P (n + c)
theorem Rch.add {P : Int → Prop} {a b : Int} (ha : Rch P a) (hb : Rch P b) : Rch P (a + b) := by
  induction hb with
  | zero => rw [Int.add_zero]; exact ha
  | step h r ih => rw [← Int.add_assoc]; exact .step h ih
theorem Rch.one {P : Int → Prop} {c : Int} (h : P c) : Rch P c := by
  have q := Rch.step h (.zero (P := P))
  rw [Int.zero_add] at q
  exact q
theorem Rch.trans {P Q : Int → Prop} (h : ∀ c, P c → Rch Q c) {n : Int} (r : Rch P n) : Rch Q n := by
  induction r with
  | zero => exact .zero
  | step hc _ ih => exact ih.add (h _ hc)
theorem Rch.mono {P Q : Int → Prop} (h : ∀ c, P c → Q c) {n : Int} (r : Rch P n) : Rch Q n := r.trans fun c hc => .one (h c hc)
theorem Rch.nonneg {P : Int → Prop} (h : ∀ c, P c → 0 < c) {n : Int} (r : Rch P n) : 0 ≤ n := by
  induction r with
  | zero => exact Int.le_refl 0
  | step hc _ ih => have := h _ hc; omega
theorem Rch.le {P : Int → Prop} (h : ∀ c, P c → 0 < c) {n : Int} (r : Rch P n) : Rch (fun c => P c ∧ c ≤ n) n := by
  induction r with
  | zero => exact .zero
  | @step n c hc r ih =>
    have h0 := Rch.nonneg h r
    have h1 := h _ hc
    exact .step ⟨hc, by omega⟩ (ih.mono fun d hd => ⟨hd.1, by omega⟩)
theorem rch_next {P : Int → Prop} (h : ∀ c, P c → 0 < c) {n : Int} (hn : 0 < n) : Rch P n ↔ ∃ c, P c ∧ c ≤ n ∧ Rch P (n - c) := by
  constructor
  · intro r
    cases r with
    | zero => omega
    | @step m c hc r =>
      have h0 := Rch.nonneg h r
      refine ⟨c, hc, by omega, ?_⟩
      rw [Int.add_sub_cancel]
      exact r
  · rintro ⟨c, hc, _, r⟩
    have q := Rch.step hc r
    rw [Int.sub_add_cancel] at q
    exact q
/-- met, as a bool -/
noncomputable def mb (cs : List Int) (n : Int) : Bool := @decide (Rch (· ∈ cs) n) (Classical.propDecidable _)
theorem mb_iff {cs : List Int} {n : Int} : mb cs n = true ↔ Rch (· ∈ cs) n := by
  unfold mb
  exact @decide_eq_true_iff _ (Classical.propDecidable _)
theorem mb_false {cs : List Int} {n : Int} : mb cs n = false ↔ ¬ Rch (· ∈ cs) n := by
  rw [← mb_iff]
  cases mb cs n <;> simp
theorem mb_congr {cs ds : List Int} {n : Int} (h : Rch (· ∈ cs) n ↔ Rch (· ∈ ds) n) : mb cs n = mb ds n := by
  cases e : mb ds n with
  | true => exact mb_iff.mpr (h.mpr (mb_iff.mp e))
  | false => exact mb_false.mpr fun z => mb_false.mp e (h.mp z)
theorem mb_zero {cs : List Int} : mb cs 0 = true := mb_iff.mpr .zero
def Pos (cs : List Int) : Prop := ∀ c ∈ cs, 0 < c
theorem mb_next {cs : List Int} (h : Pos cs) {n : Int} (hn : 0 < n) : mb cs n = cs.any fun c => decide (c ≤ n) && mb cs (n - c) := by
  cases e : (cs.any fun c => decide (c ≤ n) && mb cs (n - c)) with
  | true =>
    obtain ⟨c, hc, q⟩ := List.any_eq_true.mp e
    rw [Bool.and_eq_true, decide_eq_true_eq] at q
    exact mb_iff.mpr ((rch_next h hn).mpr ⟨c, hc, q.1, mb_iff.mp q.2⟩)
  | false =>
    refine mb_false.mpr fun r => ?_
    obtain ⟨c, hc, hl, r⟩ := (rch_next h hn).mp r
    have q := List.any_eq_false.mp e c hc
    rw [mb_iff.mpr r, decide_eq_true hl] at q
    exact q rfl
/-- the table of what is met -/
noncomputable def tb (cs : List Int) (m : Nat) : List Bool := (List.range m).map fun i : Nat => mb cs ((i : Nat) : Int)
theorem tb_len (cs : List Int) (m : Nat) : (tb cs m).length = m := by unfold tb; rw [List.length_map, List.length_range]
theorem tb_at {cs : List Int} {m i : Nat} (h : i < m) : (tb cs m)[i]? = some (mb cs (i : Int)) := by
  unfold tb
  rw [List.getElem?_map, List.getElem?_range h]; rfl
theorem tb_succ (cs : List Int) (m : Nat) : tb cs (m + 1) = tb cs m ++ [mb cs (m : Int)] := by
  unfold tb
  rw [List.range_succ, List.map_append]; rfl
theorem tb_one (cs : List Int) : tb cs 1 = [true] := by
  rw [tb_succ]
  show [] ++ [mb cs ((0 : Nat) : Int)] = [true]
  rw [show ((0 : Nat) : Int) = 0 from rfl, mb_zero]; rfl
/-! ### least counts -/
def stepL (f : List Int → Int → Bool) (found : List Int) (x : Int) : List Int := if f found x = true then found else found ++ [x]
noncomputable def lst (s : List Int) : List Int := s.foldl (stepL mb) []
structure IsL (cs R : List Int) : Prop where
  srt : R.Pairwise (· < ·)
  mem : ∀ x, x ∈ R ↔ x ∈ cs ∧ ¬ Rch (fun c => c ∈ cs ∧ c < x) x
theorem sorted_ext : ∀ {R S : List Int}, R.Pairwise (· < ·) → S.Pairwise (· < ·) → (∀ x, x ∈ R ↔ x ∈ S) → R = S
  | [], [], _, _, _ => rfl
  | [], y :: _, _, _, h => absurd ((h y).mpr List.mem_cons_self) (by simp)
  | x :: _, [], _, _, h => absurd ((h x).mp List.mem_cons_self) (by simp)
  | x :: R, y :: S, hR, hS, h => by
    obtain ⟨h1, h2⟩ := List.pairwise_cons.mp hR
    obtain ⟨h3, h4⟩ := List.pairwise_cons.mp hS
    have exy : x = y := by
      rcases List.mem_cons.mp ((h x).mp List.mem_cons_self) with e | e
      · exact e
      · rcases List.mem_cons.mp ((h y).mpr List.mem_cons_self) with e' | e'
        · exact e'.symm
        · have a := h1 _ e'
          have b := h3 _ e
          omega
    subst exy
    rw [sorted_ext h2 h4 fun z => ?_]
    constructor
    · intro hz
      rcases List.mem_cons.mp ((h z).mp (List.mem_cons_of_mem _ hz)) with e | e
      · have := h1 _ hz; omega
      · exact e
    · intro hz
      rcases List.mem_cons.mp ((h z).mpr (List.mem_cons_of_mem _ hz)) with e | e
      · have := h3 _ hz; omega
      · exact e
theorem IsL.uniq {cs R S : List Int} (a : IsL cs R) (b : IsL cs S) : R = S := sorted_ext a.srt b.srt fun x => (a.mem x).trans (b.mem x).symm
theorem IsL.congr {cs ds R : List Int} (a : IsL cs R) (h : ∀ x, x ∈ cs ↔ x ∈ ds) : IsL ds R :=
  ⟨a.srt, fun x => by
    have e : (fun c => c ∈ cs ∧ c < x) = fun c => c ∈ ds ∧ c < x := funext fun c => propext (by rw [h])
    rw [a.mem x, h, e]⟩
/-- the state of the search behind a part p of the sorted counts -/
structure Sch (cs p f : List Int) : Prop where
  srt : f.Pairwise (· < ·)
  mem : ∀ x, x ∈ f ↔ x ∈ p ∧ ¬ Rch (fun c => c ∈ cs ∧ c < x) x
  rch : ∀ n, Rch (· ∈ f) n ↔ Rch (· ∈ p) n
theorem Sch.nil {cs : List Int} : Sch cs [] [] := ⟨List.Pairwise.nil, fun x => by simp, fun n => Iff.rfl⟩
theorem Sch.turn {cs p f r : List Int} {x : Int} (hs : (p ++ x :: r).Pairwise (· ≤ ·)) (hm : ∀ c, c ∈ cs ↔ c ∈ p ++ x :: r) (S : Sch cs p f) : Sch cs (p ++ [x]) (stepL mb f x) := by
  have hp : ∀ c ∈ p, c ≤ x := fun c hc => (List.pairwise_append.mp hs).2.2 c hc x List.mem_cons_self
  have hr : ∀ c ∈ r, x ≤ c := fun c hc => (List.pairwise_cons.mp (List.pairwise_append.mp hs).2.1).1 c hc
  have hpc : ∀ c ∈ p, c ∈ cs := fun c hc => (hm c).mpr (List.mem_append_left _ hc)
  have hlow : ∀ c, c ∈ cs → c < x → c ∈ p := fun c hc hl => by
    rcases List.mem_append.mp ((hm c).mp hc) with h | h
    · exact h
    · rcases List.mem_cons.mp h with h | h
      · omega
      · have := hr c h; omega
  have hfp : ∀ c ∈ f, c ∈ p := fun c hc => ((S.mem c).mp hc).1
  have mem1 : ∀ c, c ∈ p ++ [x] ↔ c ∈ p ∨ c = x := fun c => by simp
  unfold stepL
  cases e : mb f x with
  | true =>
    rw [if_pos rfl]
    have rx : Rch (· ∈ p) x := (S.rch x).mp (mb_iff.mp e)
    refine ⟨S.srt, fun y => ?_, fun n => ?_⟩
    · rw [S.mem y, mem1]
      constructor
      · exact fun h => ⟨.inl h.1, h.2⟩
      · rintro ⟨h | h, h2⟩
        · exact ⟨h, h2⟩
        · subst h
          by_cases hy : y ∈ p
          · exact ⟨hy, h2⟩
          · refine absurd (rx.mono fun c hc => ⟨hpc c hc, ?_⟩) h2
            have := hp c hc
            have hne : c ≠ y := fun z => hy (z ▸ hc)
            omega
    · rw [S.rch n]
      constructor
      · exact fun q => q.mono fun c hc => (mem1 c).mpr (.inl hc)
      · refine fun q => q.trans fun c hc => ?_
        rcases (mem1 c).mp hc with h | h
        · exact .one h
        · rw [h]; exact rx
  | false =>
    rw [if_neg Bool.false_ne_true]
    have nx : ¬ Rch (· ∈ p) x := fun z => mb_false.mp e ((S.rch x).mpr z)
    have hxp : x ∉ p := fun z => nx (.one z)
    have mem2 : ∀ c, c ∈ f ++ [x] ↔ c ∈ f ∨ c = x := fun c => by simp
    refine ⟨?_, fun y => ?_, fun n => ?_⟩
    · refine List.pairwise_append.mpr ⟨S.srt, List.pairwise_singleton _ _, fun a ha b hb => ?_⟩
      rw [List.mem_singleton.mp hb]
      have := hp a (hfp a ha)
      have hne : a ≠ x := fun z => hxp (z ▸ hfp a ha)
      omega
    · rw [mem2, S.mem y, mem1]
      constructor
      · rintro (h | h)
        · exact ⟨.inl h.1, h.2⟩
        · subst h
          exact ⟨.inr rfl, fun z => nx (z.mono fun c hc => hlow c hc.1 hc.2)⟩
      · rintro ⟨h | h, h2⟩
        · exact .inl ⟨h, h2⟩
        · exact .inr h
    · constructor
      · refine fun q => q.mono fun c hc => (mem1 c).mpr ?_
        rcases (mem2 c).mp hc with h | h
        · exact .inl (hfp c h)
        · exact .inr h
      · refine fun q => q.trans fun c hc => ?_
        rcases (mem1 c).mp hc with h | h
        · exact ((S.rch c).mpr (.one h)).mono fun d hd => (mem2 d).mpr (.inl hd)
        · exact .one ((mem2 c).mpr (.inr h))
theorem take_split {α : Type} {l : List α} {i : Nat} {x : α} (h : l[i]? = some x) : l = l.take i ++ x :: l.drop (i + 1) := by
  obtain ⟨hi, e⟩ := List.getElem?_eq_some_iff.mp h
  subst e
  rw [← List.drop_eq_getElem_cons hi, List.take_append_drop]
theorem take_one {α : Type} {l : List α} {i : Nat} {x : α} (h : l[i]? = some x) : l.take (i + 1) = l.take i ++ [x] := by
  rw [List.take_add_one, h]; rfl
theorem lst_take {s : List Int} {i : Nat} {x : Int} (h : s[i]? = some x) : lst (s.take (i + 1)) = stepL mb (lst (s.take i)) x := by
  unfold lst
  rw [take_one h, List.foldl_append]; rfl
theorem sch_take {cs s : List Int} (hs : s.Pairwise (· ≤ ·)) (hm : ∀ c, c ∈ cs ↔ c ∈ s) : ∀ i, i ≤ s.length → Sch cs (s.take i) (lst (s.take i))
  | 0, _ => by rw [List.take_zero]; exact Sch.nil
  | i + 1, h => by
    have hx : s[i]? = some s[i] := List.getElem?_eq_getElem h
    have e := take_split hx
    rw [lst_take hx, take_one hx]
    refine Sch.turn (r := s.drop (i + 1)) ?_ ?_ (sch_take hs hm i (Nat.le_of_lt h))
    · rw [← e]; exact hs
    · rw [← e]; exact hm
theorem lst_len_le (s : List Int) : ∀ i, (lst (s.take i)).length ≤ i
  | 0 => by simp [lst]
  | i + 1 => by
    cases e : s[i]? with
    | none =>
      have h : s.length ≤ i := List.getElem?_eq_none_iff.mp e
      have q := lst_len_le s i
      rw [List.take_of_length_le h] at q
      rw [List.take_of_length_le (Nat.le_succ_of_le h)]
      omega
    | some x =>
      have q := lst_len_le s i
      rw [lst_take e]
      unfold stepL
      split
      · omega
      · rw [List.length_append, List.length_singleton]; omega
theorem lst_mem {s : List Int} : ∀ i, ∀ x ∈ lst (s.take i), x ∈ s
  | 0, x, h => by simp [lst] at h
  | i + 1, x, h => by
    cases e : s[i]? with
    | none =>
      have hl : s.length ≤ i := List.getElem?_eq_none_iff.mp e
      rw [List.take_of_length_le (Nat.le_succ_of_le hl), ← List.take_of_length_le hl] at h
      exact lst_mem i x h
    | some y =>
      rw [lst_take e] at h
      unfold stepL at h
      split at h
      · exact lst_mem i x h
      · rcases List.mem_append.mp h with h | h
        · exact lst_mem i x h
        · rw [List.mem_singleton.mp h]; exact List.mem_of_getElem? e
/-- what least counts are -/
structure IsLst (cs R : List Int) : Prop where
  isL : IsL cs R
  rch : ∀ n, Rch (· ∈ R) n ↔ Rch (· ∈ cs) n
theorem lst_is {cs s : List Int} (hs : s.Pairwise (· ≤ ·)) (hm : ∀ c, c ∈ cs ↔ c ∈ s) : IsLst cs (lst s) := by
  have S := sch_take hs hm s.length (Nat.le_refl _)
  rw [List.take_length] at S
  refine ⟨⟨S.srt, fun x => (S.mem x).trans (by rw [hm])⟩, fun n => (S.rch n).trans ?_⟩
  have e : (· ∈ s) = (· ∈ cs) := funext fun c => propext (hm c).symm
  rw [e]
theorem IsLst.self {cs R : List Int} (a : IsLst cs R) : IsL R R :=
  ⟨a.isL.srt, fun x => ⟨fun h => ⟨h, fun z => ((a.isL.mem x).mp h).2 (z.mono fun c hc => ⟨((a.isL.mem c).mp hc.1).1, hc.2⟩)⟩, fun h => h.1⟩⟩
theorem IsLst.more {cs ds R : List Int} {b : Int} (hp : Pos cs) (hb : Rch (· ∈ cs) b) (hm : ∀ x, x ∈ ds ↔ x ∈ cs ∨ x = b) (a : IsLst cs R) : IsL ds R := by
  refine ⟨a.isL.srt, fun x => ?_⟩
  rw [a.isL.mem x, hm]
  have hb' := Rch.le hp hb
  constructor
  · rintro ⟨h1, h2⟩
    refine ⟨.inl h1, fun z => h2 (z.trans fun c hc => ?_)⟩
    rcases (hm c).mp hc.1 with h | h
    · exact .one ⟨h, hc.2⟩
    · subst h
      exact hb'.mono fun d hd => ⟨hd.1, by have := hc.2; have := hd.2; omega⟩
  · rintro ⟨h1, h2⟩
    rcases h1 with h1 | h1
    · exact ⟨h1, fun z => h2 (z.mono fun c hc => ⟨(hm c).mpr (.inl hc.1), hc.2⟩)⟩
    · subst h1
      by_cases hx : x ∈ cs
      · exact ⟨hx, fun z => h2 (z.mono fun c hc => ⟨(hm c).mpr (.inl hc.1), hc.2⟩)⟩
      · refine absurd (hb'.mono fun c hc => ⟨(hm c).mpr (.inl hc.1), ?_⟩) h2
        have hne : c ≠ x := fun z => hx (z ▸ hc.1)
        have := hc.2
        omega
theorem rch_more {cs ds : List Int} {b : Int} (hb : Rch (· ∈ cs) b) (hm : ∀ x, x ∈ ds ↔ x ∈ cs ∨ x = b) (n : Int) : Rch (· ∈ ds) n ↔ Rch (· ∈ cs) n :=
  ⟨fun q => q.trans fun c hc => by
    rcases (hm c).mp hc with h | h
    · exact .one h
    · rw [h]; exact hb, fun q => q.mono fun c hc => (hm c).mpr (.inl hc)⟩
theorem rch_congr {cs ds : List Int} (hm : ∀ x, x ∈ ds ↔ x ∈ cs) (n : Int) : Rch (· ∈ ds) n ↔ Rch (· ∈ cs) n := by
  have e : (· ∈ ds) = (· ∈ cs) := funext fun c => propext (hm c)
  rw [e]
/-! ### common counts -/
def gstep (g c : Int) : Int := ((Nat.gcd g.natAbs c.natAbs : Nat) : Int)
def gl (cs : List Int) : Int := cs.foldl gstep 0
theorem gl_take {s : List Int} {i : Nat} {x : Int} (h : s[i]? = some x) : gl (s.take (i + 1)) = gstep (gl (s.take i)) x := by
  unfold gl
  rw [take_one h, List.foldl_append]; rfl
theorem gfold_nonneg : ∀ (cs : List Int) (g : Int), 0 ≤ g → 0 ≤ cs.foldl gstep g
  | [], g, h => h
  | c :: r, g, _ => gfold_nonneg r (gstep g c) (Int.natCast_nonneg _)
theorem gl_nonneg (cs : List Int) : 0 ≤ gl cs := gfold_nonneg cs 0 (Int.le_refl 0)
theorem gfold_dvd : ∀ (cs : List Int) (g : Int) (d : Nat), d ∣ (cs.foldl gstep g).natAbs ↔ d ∣ g.natAbs ∧ ∀ c ∈ cs, d ∣ c.natAbs
  | [], g, d => by simp
  | c :: r, g, d => by
    rw [List.foldl_cons, gfold_dvd r (gstep g c) d]
    unfold gstep
    rw [Int.natAbs_natCast, Nat.dvd_gcd_iff]
    constructor
    · rintro ⟨⟨h1, h2⟩, h3⟩
      exact ⟨h1, fun x hx => (List.mem_cons.mp hx).elim (fun e => e ▸ h2) (h3 x)⟩
    · rintro ⟨h1, h2⟩
      exact ⟨⟨h1, h2 c List.mem_cons_self⟩, fun x hx => h2 x (List.mem_cons_of_mem _ hx)⟩
theorem gl_dvd (cs : List Int) (d : Nat) : d ∣ (gl cs).natAbs ↔ ∀ c ∈ cs, d ∣ c.natAbs := by
  unfold gl
  rw [gfold_dvd]
  simp
theorem gl_eq {cs ds : List Int} (h : ∀ d : Nat, (∀ c ∈ cs, d ∣ c.natAbs) ↔ ∀ c ∈ ds, d ∣ c.natAbs) : gl cs = gl ds := by
  have e : (gl cs).natAbs = (gl ds).natAbs := Nat.dvd_antisymm ((gl_dvd ds _).mpr ((h _).mp ((gl_dvd cs _).mp (Nat.dvd_refl _)))) ((gl_dvd cs _).mpr ((h _).mpr ((gl_dvd ds _).mp (Nat.dvd_refl _))))
  have h1 := gl_nonneg cs
  have h2 := gl_nonneg ds
  omega
theorem rch_dvd {cs : List Int} {d : Nat} (h : ∀ c ∈ cs, d ∣ c.natAbs) {n : Int} (r : Rch (· ∈ cs) n) : d ∣ n.natAbs := by
  rw [← Int.ofNat_dvd_left] at *
  induction r with
  | zero => exact Int.dvd_zero _
  | step hc _ ih => exact Int.dvd_add ih (Int.ofNat_dvd_left.mpr (h _ hc))
theorem gl_more {cs ds : List Int} {b : Int} (hb : Rch (· ∈ cs) b) (hm : ∀ x, x ∈ ds ↔ x ∈ cs ∨ x = b) : gl ds = gl cs :=
  gl_eq fun d => ⟨fun h c hc => h c ((hm c).mpr (.inl hc)), fun h c hc => by
    rcases (hm c).mp hc with q | q
    · exact h c q
    · rw [q]; exact rch_dvd h hb⟩
theorem gl_congr {cs ds : List Int} (hm : ∀ x, x ∈ ds ↔ x ∈ cs) : gl ds = gl cs := gl_eq fun d => ⟨fun h c hc => h c ((hm c).mpr hc), fun h c hc => h c ((hm c).mp hc)⟩
end K21

namespace K21
open PySem PySem.Spec PyProof.Rows L2 Fp
def top (i : Nat) : Stmt := PySem.Challenge.pw_fromplaces_k24_any_value_as_a_way.main.body.getD i (.Pass ⟨0, 0, 0, 0⟩)
abbrev sInteger : Stmt := top 8
abbrev sCount : Stmt := top 9
abbrev sList : Stmt := top 10
abbrev sMany : Stmt := top 11
abbrev sIsCounts : Stmt := top 15
abbrev sCheck : Stmt := top 16
abbrev sTable : Stmt := top 17
abbrev sNext : Stmt := top 18
/-- what the module's names hold -/
structure Mg (mg : Str → Option Value) : Prop where
  isi : mg "isinstance" = none
  int : mg "int" = none
  bool : mg "bool" = none
  list : mg "list" = none
  tuple : mg "tuple" = none
  len : mg "len" = none
  all : mg "all" = none
  any : mg "any" = none
  range : mg "range" = none
  enum : mg "enumerate" = none
  sorted : mg "sorted" = none
  set : mg "set" = none
  repr : mg "repr" = none
  abs : mg "abs" = none
  max : mg "max" = none
  divmod : mg "divmod" = none
  gcd : mg "gcd" = some (.builtin "math.gcd")
  told : ∃ t, mg "MOST_TOLD" = some (.int 8 t)
  great : ∃ t, mg "GREATEST_TOLD" = some (.int 48 t)
/-- a value is handed back, what is tracked is as it was -/
abbrev Ret (H : Hp) (Q : VK) (v : V) : Prop := ∀ H', Same H H' → Q v H'
theorem ifF {c A B : Prop} [Decidable c] (h : ¬ c) (b : B) : if decide c = true then A else B := by rw [decide_eq_false h]; exact iteF b
theorem ifT {c A B : Prop} [Decidable c] (h : c) (a : A) : if decide c = true then A else B := by rw [decide_eq_true h]; exact iteT a
abbrev VI (ns : List Int) : List V := ns.map V.int
theorem vi_at {ns : List Int} {i : Nat} {x : V} (h : (VI ns)[i]? = some x) : ∃ n, ns[i]? = some n ∧ x = .int n := by
  rw [List.getElem?_map] at h
  cases e : ns[i]? with
  | none => rw [e] at h; cases h
  | some n => rw [e] at h; exact ⟨n, rfl, (Option.some.inj h).symm⟩
section
variable {P : Program} {w : World} {K : PySem.W.Frag} {mg : Str → Option Value} {base : Heap} {k : Nat}
/-! ### whole numbers and lists -/
def spInteger : Sp := fun vs H Q _ => ∃ i : Int, vs = [.int i] ∧ Ret H Q (.bl true)
theorem sc6 : FnScope ["value"] ["value"] (defScope sInteger) := ⟨rfl, rfl, rfl, by decide +kernel, rfl, by decide +kernel, by decide +kernel⟩
theorem d_integer (B : Bnd K mg "is_integer" sInteger) (M : Mg mg) : Def P w K mg base (k + 1) "is_integer" sInteger ["value"] spInteger := by
  refine def_of B sc6 (by rintro _ _ _ _ ⟨i, rfl, _⟩; rfl) (fun _ _ _ _ _ _ us hl => match us, hl with | [_], _ => rfl) fun f cdv A outer s H vs Q E hr h => ?_
  obtain ⟨i, rfl, q⟩ := h
  refine ⟨_, pss_one (ps_ret (pe_and (pe_callB call_isi (by rfl) M.isi (by decide +kernel) (pa_cons (pv 0) (pa_cons (pe_bltn (v := .ty "int") (by rfl) M.int (by decide +kernel) rfl) pa_nil)))
    (pe_one (pe_not (pe_callB call_isi (by rfl) M.isi (by decide +kernel) (pa_cons (pv 0) (pa_cons (pe_bltn (v := .ty "bool") (by rfl) M.bool (by decide +kernel) rfl) pa_nil))))))), ?_⟩
  refine ⟨_, rfl, _, _, _, _, true, rfl, .ty _, .base (.int i), kit_int, true, rfl, iteT ?_⟩
  exact ⟨_, rfl, _, _, _, _, false, rfl, .ty _, .base (.int i), kit_int_bool, false, rfl, q H (Same.refl H)⟩
def spCount : Sp := fun vs H Q _ => ∃ i : Int, vs = [.int i] ∧ Ret H Q (.bl (decide (0 ≤ i)))
theorem sc7 : FnScope ["value"] ["value"] (defScope sCount) := ⟨rfl, rfl, rfl, by decide +kernel, rfl, by decide +kernel, by decide +kernel⟩
theorem d_count (B : Bnd K mg "is_count" sCount) (D : Def P w K mg base k "is_integer" sInteger ["value"] spInteger) : Def P w K mg base (k + 1) "is_count" sCount ["value"] spCount := by
  refine def_of B sc7 (by rintro _ _ _ _ ⟨i, rfl, _⟩; rfl) (fun _ _ _ _ _ _ us hl => match us, hl with | [_], _ => rfl) fun f cdv A outer s H vs Q E hr h => ?_
  obtain ⟨i, rfl, q⟩ := h
  refine ⟨_, pss_one (ps_ret (pe_and (pe_d D hr (by rfl) (pa_cons (pv 0) pa_nil)) (pe_one (pe_cmpR op_ge (pv 0) pe_int (nomark _))))), ?_⟩
  exact ⟨_, rfl, i, rfl, fun H1 s1 => ⟨true, rfl, iteT ⟨_, rfl, i, 0, rfl, rfl, q H1 s1⟩⟩⟩
def spList (K : PySem.W.Frag) : Sp := fun vs H Q _ => ∃ (a : Addr) (xs : List V), vs = [.ref a] ∧ Sq K H a xs ∧ Ret H Q (.bl true)
theorem sc8 : FnScope ["value"] ["value"] (defScope sList) := ⟨rfl, rfl, rfl, by decide +kernel, rfl, by decide +kernel, by decide +kernel⟩
theorem d_list (B : Bnd K mg "is_list" sList) (M : Mg mg) : Def P w K mg base (k + 1) "is_list" sList ["value"] (spList K) := by
  refine def_of B sc8 (by rintro _ _ _ _ ⟨a, xs, rfl, _⟩; rfl) (fun _ _ _ _ _ _ us hl => match us, hl with | [_], _ => rfl) fun f cdv A outer s H vs Q E hr h => ?_
  obtain ⟨a, xs, rfl, hS, q⟩ := h
  refine ⟨_, pss_one (ps_ret (pe_callB call_isiT (by rfl) M.isi (by decide +kernel) (pa_cons (pv 0) (pa_cons (pe_tup (pa_cons (pe_bltn (v := .ty "list") (by rfl) M.list (by decide +kernel) rfl) (pa_cons (pe_bltn (v := .ty "tuple") (by rfl) M.tuple (by decide +kernel) rfl) pa_nil))) pa_nil)))), ?_⟩
  exact ⟨_, rfl, (by show 2 ≤ sizeLine; decide), fun p hp => isi_lt (hS.same (same_new hp)) upd_same (q _ (same_new hp))⟩
def spMany : Sp := fun vs H Q _ => ∃ m lo hi : Int, vs = [.int m, .int lo, .int hi] ∧ 0 ≤ m ∧ lo ≤ m ∧ m ≤ hi ∧ Ret H Q .non
theorem sc9 : FnScope ["many", "least", "most"] ["many", "least", "most"] (defScope sMany) := ⟨rfl, rfl, rfl, by decide +kernel, rfl, by decide +kernel, by decide +kernel⟩
theorem d_many (B : Bnd K mg "check_many" sMany) (D : Def P w K mg base k "is_count" sCount ["value"] spCount) : Def P w K mg base (k + 1) "check_many" sMany ["many", "least", "most"] spMany := by
  refine def_of B sc9 (by rintro _ _ _ _ ⟨m, lo, hi, rfl, _⟩; rfl) (fun _ _ _ _ _ _ us hl => match us, hl with | [_, _, _], _ => rfl) fun f cdv A outer s H vs Q E hr h => ?_
  obtain ⟨m, lo, hi, rfl, h0, h1, h2, q⟩ := h
  refine ⟨_, pss_one (ps_if (PW.pt (pw_or (pt_not (pt_val (pe_d D hr (by rfl) (pa_cons (pv 0) pa_nil)))) (pw_or (pt_cmpR op_lt (pv 0) (pv 1) (nomark _)) (pw_or1 (pt_cmpR op_gt (pv 0) (pv 2) (nomark _)))))) pss_never pss_nil), ?_⟩
  refine ⟨_, rfl, m, rfl, fun H1 s1 => ⟨_, rfl, iteNS h0 ?_⟩⟩
  refine ⟨_, rfl, _, rfl, m, lo, rfl, rfl, _, rfl, ifF (by omega) ?_⟩
  exact ⟨_, rfl, _, rfl, m, hi, rfl, rfl, _, rfl, ifF (by omega) (q H1 s1)⟩
/-! ### told counts -/
/-- told counts: 1 to 8 of them, each from 1 to 48 -/
structure Told (cs : List Int) : Prop where
  lo : 1 ≤ cs.length
  hi : cs.length ≤ 8
  each : ∀ c ∈ cs, 1 ≤ c ∧ c ≤ 48
theorem Told.pos {cs : List Int} (h : Told cs) : Pos cs := fun c hc => by have := (h.each c hc).1; omega
def spIsCounts (K : PySem.W.Frag) : Sp := fun vs H Q _ => ∃ (a : Addr) (cs : List Int), vs = [.ref a] ∧ Sq K H a (VI cs) ∧ Told cs ∧ Ret H Q (.bl true)
theorem sc18 : FnScope ["value", "one"] ["value"] (defScope sIsCounts) := ⟨rfl, rfl, rfl, by decide +kernel, rfl, by decide +kernel, by decide +kernel⟩
theorem all_true {n : Nat} : ((List.range n).filterMap fun _ => some (V.bl true)) = (List.replicate n true).map V.bl := by
  induction n with
  | zero => rfl
  | succ n ih => rw [fm_succ, ih, List.replicate_succ', List.map_append]; rfl
theorem all_rep : ∀ n : Nat, (List.replicate n true).all id = true
  | 0 => rfl
  | n + 1 => by rw [List.replicate_succ, List.all_cons, all_rep n]; rfl
theorem d_isCounts (B : Bnd K mg "is_counts" sIsCounts) (M : Mg mg) (DL : Def P w K mg base k "is_list" sList ["value"] (spList K)) (DC : Def P w K mg base k "is_count" sCount ["value"] spCount) :
    Def P w K mg base (k + 1) "is_counts" sIsCounts ["value"] (spIsCounts K) := by
  refine def_of B sc18 (by rintro _ _ _ _ ⟨a, xs, rfl, _⟩; rfl) (fun _ _ _ _ _ _ us hl => match us, hl with | [_], _ => rfl) fun f cdv A outer s H vs Q E hr h => ?_
  obtain ⟨a, cs, rfl, hS, T, q⟩ := h
  obtain ⟨t8, m8⟩ := M.told
  obtain ⟨t48, m48⟩ := M.great
  refine ⟨_, pss_cons (ps_if (PW.pt (pw_or (pt_not (pt_val (pe_d DL hr (by rfl) (pa_cons (pv 0) pa_nil)))) (pw_or (pt_cmpR op_lt (pe_callB call_len_seq (by rfl) M.len boot_len (pa_cons (pv 0) pa_nil)) pe_int (nomark _))
      (pw_or1 (pt_cmpR op_gt (pe_callB call_len_seq (by rfl) M.len boot_len (pa_cons (pv 0) pa_nil)) (pe_glob (v := .int 8) (by rfl) m8 ⟨_, rfl⟩) (nomark _)))))) pss_never pss_nil)
    (pss_one (ps_ret (pe_callB (cr_all rfl) (by rfl) M.all (by decide +kernel) (pa_cons (pe_lc (own := [("one", 1)]) (g := gName 1) (tt := tYes) rfl sc18.nd (pi_sq (pv 0)) (blkOk_by (own := [("one", 1)]) (N := ["value", "one"]) (sc := defScope sIsCounts) (by decide +kernel))
      (fun _ _ _ _ _ => pg_name (i := 1) sc18.nd rfl (Or.inl rfl)) (fun _ _ _ _ _ => pts_nil)
      (fun _ _ _ _ _ => pe_and (pe_d DC hr (by rfl) (pa_cons (pv 1) pa_nil)) (pe_one (pe_chain op_le op_le pe_int (pv 1) (pe_glob (v := .int 48) (by rfl) m48 ⟨_, rfl⟩))))) pa_nil)))), ?_⟩
  have hl : (VI cs).length = cs.length := List.length_map _
  have t1 := T.lo
  have t2 := T.hi
  refine ⟨_, rfl, a, _, rfl, hS, fun H1 s1 => ⟨true, rfl, ?_⟩⟩
  refine iteF ⟨_, rfl, a, _, rfl, hS.same s1, _, _, rfl, rfl, _, rfl, ifF (by rw [hl]; omega) ?_⟩
  refine ⟨_, rfl, a, _, rfl, hS.same s1, _, _, rfl, rfl, _, rfl, ifF (by rw [hl]; omega) ?_⟩
  dsimp only [tNext, tRet, tCB, tCons, tNil]
  refine lc_sq (xs := VI cs) (fun _ => some (.bl true)) (fun R r => ⟨_, rfl, r⟩) (hS.same s1) (by rw [hl, sizeLine_eq]; omega) (fun i x H2 hx s2 Y N y n => ?_) (fun D H2 s2 hD hD2 => ?_)
  · obtain ⟨c, hc, rfl⟩ := vi_at hx
    have hc2 := T.each c (List.mem_of_getElem? hc)
    refine ⟨rfl, _, rfl, c, rfl, fun H3 s3 => ⟨_, rfl, ifT (by omega) ?_⟩⟩
    refine ⟨_, rfl, _, _, rfl, rfl, _, rfl, ifT (by omega) ⟨_, _, rfl, rfl, ?_⟩⟩
    refine y _ _ s3 ?_
    show some (V.bl true) = some (V.bl (decide (c ≤ 48)))
    rw [decide_eq_true (show c ≤ 48 by omega)]
  · refine ⟨D, List.replicate cs.length true, rfl, SqL.of ?_, ?_⟩
    · rw [hD2, hl, all_true]
    · rw [all_rep]
      exact q H2 (s1.trans s2)
def spCheck (K : PySem.W.Frag) : Sp := fun vs H Q _ => ∃ (a : Addr) (cs : List Int), vs = [.ref a] ∧ Sq K H a (VI cs) ∧ Told cs ∧ Ret H Q .non
theorem sc19 : FnScope ["counts"] ["counts"] (defScope sCheck) := ⟨rfl, rfl, rfl, by decide +kernel, rfl, by decide +kernel, by decide +kernel⟩
theorem d_check (B : Bnd K mg "check_counts" sCheck) (D : Def P w K mg base k "is_counts" sIsCounts ["value"] (spIsCounts K)) : Def P w K mg base (k + 1) "check_counts" sCheck ["counts"] (spCheck K) := by
  refine def_of B sc19 (by rintro _ _ _ _ ⟨a, xs, rfl, _⟩; rfl) (fun _ _ _ _ _ _ us hl => match us, hl with | [_], _ => rfl) fun f cdv A outer s H vs Q E hr h => ?_
  obtain ⟨a, cs, rfl, hS, T, q⟩ := h
  refine ⟨_, pss_one (ps_if (pt_not (pt_val (pe_d D hr (by rfl) (pa_cons (pv 0) pa_nil)))) pss_never pss_nil), ?_⟩
  exact ⟨_, rfl, a, cs, rfl, hS, T, fun H1 s1 => ⟨true, rfl, iteF (q H1 s1)⟩⟩
end
section
variable {P : Program} {w : World} {K : PySem.W.Frag} {mg : Str → Option Value} {base : Heap} {k : Nat}
theorem vi_len (ns : List Int) : (VI ns).length = ns.length := List.length_map _
theorem small {n : Nat} (h : n ≤ 1000) : n < sizeLine := small1000 h
/-! ### common_count -/
def spCommon (K : PySem.W.Frag) : Sp := fun vs H Q _ => ∃ (a : Addr) (cs : List Int), vs = [.ref a] ∧ Sq K H a (VI cs) ∧ Told cs ∧ Ret H Q (.int (gl cs))
/-! ### is_next_met, met_table -/
def spNext (K : PySem.W.Frag) : Sp := fun vs H Q _ => ∃ (a t : Addr) (cs : List Int) (n : Int), vs = [.ref a, .ref t, .int n] ∧ Sq K H a (VI cs) ∧ Pos cs ∧ cs.length ≤ 1000 ∧ SqL K H t ((tb cs n.toNat).map V.bl) ∧ 1 ≤ n ∧ Ret H Q (.bl (mb cs n))
theorem sc21 : FnScope ["counts", "table", "count", "one"] ["counts", "table", "count"] (defScope sNext) := ⟨rfl, rfl, rfl, by decide +kernel, rfl, by decide +kernel, by decide +kernel⟩
theorem bls {cs : List Int} (g : Int → Bool) : (List.range (VI cs).length).filterMap (fun i => (cs[i]?).bind fun c => some (V.bl (g c))) = (cs.map g).map V.bl := by
  rw [vi_len, fm_all, List.map_map]
  induction cs with
  | nil => rfl
  | cons c r ih => rw [List.filterMap_cons, List.map_cons, ih]; rfl
theorem d_next (B : Bnd K mg "is_next_met" sNext) (M : Mg mg) : Def P w K mg base (k + 1) "is_next_met" sNext ["counts", "table", "count"] (spNext K) := by
  refine def_of B sc21 (by rintro _ _ _ _ ⟨a, t, cs, n, rfl, _⟩; rfl) (fun _ _ _ _ _ _ us hl => match us, hl with | [_, _, _], _ => rfl) fun f cdv A outer s H vs Q E hr h => ?_
  obtain ⟨a, t, cs, n, rfl, hS, hp, hz, hT, hn, q⟩ := h
  refine ⟨_, pss_one (ps_ret (pe_callB (cr_any rfl) (by rfl) M.any (by decide +kernel) (pa_cons (pe_lc (own := [("one", 3)]) (g := gName 3) (tt := tYes) rfl sc21.nd (pi_sq (pv 0)) (blkOk_by (own := [("one", 3)]) (N := ["counts", "table", "count", "one"]) (sc := defScope sNext) (by decide +kernel))
      (fun _ _ _ _ _ => pg_name (i := 3) sc21.nd rfl (Or.inl rfl)) (fun _ _ _ _ _ => pts_nil)
      (fun _ _ _ _ _ => pe_and (pe_cmpR op_le (pv 3) (pv 2) (nomark _)) (pe_one (pe_ix (r := rIxL K) ix_list (pv 1) (pe_op op_sub (pv 2) (pv 3)) (fun _ _ => rfl))))) pa_nil))), ?_⟩
  dsimp only [tNext, tRet, tCB, tCons, tNil]
  refine lc_sq (xs := VI cs) (fun i => (cs[i]?).bind fun c => some (.bl (decide (c ≤ n) && mb cs (n - c)))) (fun R r => ⟨_, rfl, r⟩) hS (by rw [vi_len]; exact Nat.le_of_lt (small hz)) (fun i x H2 hx s2 Y N y nn => ?_) (fun D H2 s2 hD hD2 => ?_)
  · obtain ⟨c, hc, rfl⟩ := vi_at hx
    have hc0 := hp c (List.mem_of_getElem? hc)
    refine ⟨rfl, _, rfl, _, rfl, c, n, rfl, rfl, decide (c ≤ n), rfl, ite2 (fun h => ?_) (fun h => ?_)⟩
    · have hle : c ≤ n := of_decide_eq_true h
      have hg : ((tb cs n.toNat).map V.bl)[(n - c).toNat]? = some (.bl (mb cs (n - c))) := by
        rw [List.getElem?_map, tb_at (by omega), show (((n - c).toNat : Nat) : Int) = n - c by omega]; rfl
      refine ⟨_, rfl, _, rfl, _, rfl, n, c, rfl, rfl, t, _, n - c, .bl (mb cs (n - c)), rfl, rfl, s2.seq hT, at_of (by omega) hg, y _ _ (Same.refl _) ?_⟩
      dsimp only
      rw [hc]
      show some (V.bl (decide (c ≤ n) && mb cs (n - c))) = _
      rw [h, Bool.true_and]
    · refine y _ _ (Same.refl _) ?_
      dsimp only
      rw [hc]
      show some (V.bl (decide (c ≤ n) && mb cs (n - c))) = _
      rw [Bool.eq_false_iff.mpr h, Bool.false_and]
  · rw [bls fun c => decide (c ≤ n) && mb cs (n - c)] at hD2
    refine ⟨D, _, rfl, SqL.of hD2, ?_⟩
    rw [List.any_map]
    have e := mb_next hp (show 0 < n by omega)
    show Q (.bl (cs.any fun c => decide (c ≤ n) && mb cs (n - c))) H2
    rw [← e]
    exact q _ s2
def spTable (K : PySem.W.Frag) : Sp := fun vs H Q _ => ∃ (a : Addr) (cs : List Int) (m : Int), vs = [.ref a, .int m] ∧ Sq K H a (VI cs) ∧ Pos cs ∧ cs.length ≤ 1000 ∧ 0 ≤ m ∧ m ≤ 900 ∧
  ∀ p H', Same H H' → H p = none → H' p = some (.lst ((tb cs (m.toNat + 1)).map V.bl)) → Q (.ref p) H'
theorem sc20 : FnScope ["counts", "many", "table", "count"] ["counts", "many"] (defScope sTable) := ⟨rfl, rfl, rfl, by decide +kernel, rfl, by decide +kernel, by decide +kernel⟩
theorem d_table (B : Bnd K mg "met_table" sTable) (M : Mg mg) (D : Def P w K mg base k "is_next_met" sNext ["counts", "table", "count"] (spNext K)) : Def P w K mg base (k + 1) "met_table" sTable ["counts", "many"] (spTable K) := by
  refine def_of B sc20 (by rintro _ _ _ _ ⟨a, cs, n, rfl, _⟩; rfl) (fun _ _ _ _ _ _ us hl => match us, hl with | [_, _], _ => rfl) fun f cdv A outer s H vs Q E hr h => ?_
  obtain ⟨a, cs, m, rfl, hS, hp, hz, h0, h1, q⟩ := h
  refine ⟨_, pss_cons (ps_set (i := 2) sc20.nd rfl (.inl rfl) (pe_lst (pa_cons pe_bl pa_nil)))
    (pss_cons (ps_for PassesOwn.never rfl (pi_range2 (by rfl) M.range (pa_cons pe_int (pa_cons (pe_op op_add (pv 1) pe_int) pa_nil))) (pg_name (i := 3) sc20.nd rfl (.inl rfl))
      (pss_one (ps_expr (pe_bm PySem.F.plainAttrs_list PySem.F.slot_list_append PySem.F.type_list_append mt_append (pv 2) (pa_cons (pe_d D hr (by rfl) (pa_cons (pv 0) (pa_cons (pv 2) (pa_cons (pv 3) pa_nil)))) pa_nil)))))
    (pss_one (ps_ret (pv 2)))), ?_⟩
  refine ⟨(by show 1 ≤ sizeLine; decide), fun p np => ?_⟩
  refine ⟨_, rfl, m, 1, rfl, rfl, 1, m + 1, rfl, ⟨by omega, by omega, by omega, by omega⟩, ?_⟩
  refine for_range (lo := 1) (n := (m + 1 - 1).toNat) (fun i σ H' => ∃ y, σ = [some (.ref a), some (.int m), some (.ref p), y] ∧ Same H H' ∧ H' p = some (.lst ((tb cs (i + 1)).map V.bl)))
    ⟨none, rfl, same_new np, by rw [upd_same, tb_one]; rfl⟩ (fun i σ' H' hi ⟨y, e, s1, hp1⟩ => ?_) (fun σ' H' ⟨y, e, s1, hp1⟩ => ?_)
  · subst e
    refine ⟨_, rfl, Or.inl ⟨rfl, _, SqL.of hp1⟩, _, rfl, _, rfl, _, rfl, a, p, cs, 1 + i, rfl, hS.same s1, hp, hz, ?_, by omega, fun H2 s2 => ?_⟩
    · rw [show (1 + (i : Int)).toNat = i + 1 by omega]
      exact SqL.of hp1
    · refine ⟨p, _, _, rfl, rfl, s2 _ _ hp1, ?_, some (.int (1 + i)), rfl, fun b o hb => ?_, ?_⟩
      · rw [List.length_map, tb_len]
        exact small (by omega)
      · rw [upd_ne (ne_of_none hb np)]
        exact s2 _ _ (s1 _ _ hb)
      · rw [upd_same, tb_succ cs (i + 1), List.map_append, show (1 + (i : Int)) = ((i + 1 : Nat) : Int) by omega]; rfl
  · subst e
    rw [show (m + 1 - 1).toNat = m.toNat by omega] at hp1
    exact ⟨_, rfl, q p H' s1 np hp1⟩
end
section
variable {P : Program} {w : World} {K : PySem.W.Frag} {mg : Str → Option Value} {base : Heap} {k : Nat}
/-! ### is_met, met -/
def spIsMet (K : PySem.W.Frag) : Sp := fun vs H Q _ => ∃ (a : Addr) (cs : List Int) (m : Int), vs = [.ref a, .int m] ∧ Sq K H a (VI cs) ∧ Told cs ∧ 0 ≤ m ∧ m ≤ 400 ∧ Ret H Q (.bl (mb cs m))
/-- the met ones up to m -/
noncomputable def metL (cs : List Int) (m : Nat) : List Int := (List.range (m + 1)).filterMap fun i : Nat => if mb cs ((i : Nat) : Int) = true then some ((i : Nat) : Int) else none
theorem metL_congr {cs ds : List Int} (h : ∀ n, mb cs n = mb ds n) (m : Nat) : metL cs m = metL ds m := by
  unfold metL
  congr 1
  funext i
  rw [h]
theorem metL_len (cs : List Int) (m : Nat) : (metL cs m).length ≤ m + 1 := fm_len _ _
theorem mem_metL {cs : List Int} {m : Nat} {x : Int} (h : x ∈ metL cs m) : mb cs x = true ∧ 0 ≤ x ∧ x ≤ m := by
  obtain ⟨i, hi, e⟩ := List.mem_filterMap.mp h
  split at e
  · rename_i hm
    have e' := Option.some.inj e
    have := List.mem_range.mp hi
    rw [← e']
    exact ⟨hm, by omega, by omega⟩
  · cases e
theorem fm_vi (f : Nat → Option Int) (n : Nat) : (List.range n).filterMap (fun i => (f i).map V.int) = VI ((List.range n).filterMap f) := by
  induction n with
  | zero => rfl
  | succ n ih =>
    rw [fm_succ, fm_succ, ih]
    cases f n <;> simp
/-! ### least_counts -/
def spLeast (K : PySem.W.Frag) : Sp := fun vs H Q _ => ∃ (a : Addr) (cs : List Int), vs = [.ref a] ∧ Sq K H a (VI cs) ∧ Told cs ∧
  ∀ p H' R, IsLst cs R → (∀ x ∈ R, x ∈ cs) → R.length ≤ 8 → Same H H' → H p = none → H' p = some (.lst (VI R)) → Q (.ref p) H'
end
abbrev sPot : Stmt := top 28
abbrev sDraw : Stmt := top 29
abbrev sPick : Stmt := top 30
abbrev sCounts : Stmt := top 31
/-- a pot: two numbers, none below 0, the second one small -/
def PotOk (H : Hp) (p : Addr) : Prop := ∃ u v : Int, H p = some (.lst [.int u, .int v]) ∧ 0 ≤ u ∧ 0 ≤ v ∧ v ≤ 2147483563
theorem PotOk.same {H H' : Hp} {p : Addr} (h : PotOk H p) (e : Same H H') : PotOk H' p := let ⟨u, v, a, b⟩ := h; ⟨u, v, e _ _ a, b⟩
section
variable {P : Program} {w : World} {K : PySem.W.Frag} {mg : Str → Option Value} {base : Heap} {k : Nat}
def spPot (K : PySem.W.Frag) : Sp := fun vs H Q _ => ∃ (a : Addr) (ns : List Int) (k : Int), vs = [.ref a, .int k] ∧ SqL K H a (VI ns) ∧ 0 ≤ k ∧ k ≤ 100 ∧ ∀ p H', Same H H' → H p = none → PotOk H' p → Q (.ref p) H'
theorem sc23 : FnScope ["_law_script", "_law_k", "_law_cell"] ["_law_script", "_law_k"] (defScope sPot) := ⟨rfl, rfl, rfl, by decide +kernel, rfl, by decide +kernel, by decide +kernel⟩
theorem d_pot (B : Bnd K mg "_law_pot" sPot) (M : Mg mg) : Def P w K mg base (k + 1) "_law_pot" sPot ["_law_script", "_law_k"] (spPot K) := by
  refine def_of B sc23 (by rintro _ _ _ _ ⟨a, ns, n, rfl, _⟩; rfl) (fun _ _ _ _ _ _ us hl => match us, hl with | [_, _], _ => rfl) fun f cdv A outer s H vs Q E hr h => ?_
  obtain ⟨a, ns, n, rfl, hS, h0, h1, q⟩ := h
  refine ⟨_, pss_cons (ps_set (i := 2) sc23.nd rfl (.inl rfl) (pe_ifExp (pt_cmpR op_lt (pv 1) (pe_callB call_len_seq (by rfl) M.len boot_len (pa_cons (pv 0) pa_nil)) (nomark _)) (pe_callB call_abs (by rfl) M.abs (by decide +kernel) (pa_cons (pe_ix ix_list (pv 0) (pv 1) (fun _ _ => rfl)) pa_nil))
      (pe_op op_add (pe_op op_mul pe_int (pv 1)) pe_int)))
    (pss_one (ps_ret (pe_lst (pa_cons (pe_callB (call_max2 rfl) (by rfl) M.max (by decide +kernel) (pa_cons pe_int (pa_cons (pe_op op_sub (pv 2) (pe_op op_pow pe_int pe_int)) pa_nil)))
      (pa_cons (pe_op op_add (pe_op op_mod (pe_callTy call_int1 (by rfl) M.int (by decide +kernel) (pa_cons (pe_op op_add (pe_op op_add (pe_op op_mul (pe_op op_mod (pe_callTy call_int1 (by rfl) M.int (by decide +kernel) (pa_cons (pv 2) pa_nil)) pe_int) pe_int) (pe_op op_mul pe_int (pv 1))) pe_int) pa_nil)) pe_int) pe_int) pa_nil))))), ?_⟩
  have l0 := vi_len ns
  refine ⟨_, rfl, _, rfl, a, _, rfl, .inl hS, _, _, rfl, rfl, _, rfl, ite2 (fun c => ?_) (fun c => ?_)⟩
  · have c' := of_decide_eq_true c
    rw [l0] at c'
    have hz : ns[n.toNat]? = some ns[n.toNat] := List.getElem?_eq_getElem (by omega)
    refine ⟨_, rfl, _, rfl, a, _, n, .int ns[n.toNat], rfl, rfl, hS, at_of (j := n.toNat) (by omega) (by rw [List.getElem?_map, hz]; rfl), _, rfl, ?_⟩
    refine ⟨_, rfl, 10, 18, rfl, rfl, ⟨by omega, by omega, by decide⟩, _, _, rfl, rfl, _, _, rfl, ?_⟩
    refine ⟨_, rfl, Or.inl ⟨_, rfl, ?_⟩⟩
    refine ⟨_, _, rfl, rfl, (by omega), _, _, rfl, rfl, .inl ⟨by omega, by omega⟩, _, rfl, _, _, rfl, rfl, .inl ⟨by omega, by omega⟩, _, _, rfl, rfl, _, _, rfl, rfl, ?_⟩
    refine Or.inl ⟨_, rfl, ?_⟩
    refine ⟨_, _, rfl, rfl, (by omega), _, _, rfl, rfl, (by show 2 ≤ sizeLine; decide), fun p hp => ?_⟩
    refine q p _ (same_new hp) hp ⟨_, _, upd_same, ?_, ?_, ?_⟩
    · split <;> omega
    · omega
    · omega
  · refine ⟨_, rfl, _, _, rfl, rfl, .inl ⟨by omega, by omega⟩, _, _, rfl, rfl, ?_⟩
    refine ⟨_, rfl, 10, 18, rfl, rfl, ⟨by omega, by omega, by decide⟩, _, _, rfl, rfl, _, _, rfl, ?_⟩
    refine ⟨_, rfl, Or.inl ⟨_, rfl, ?_⟩⟩
    refine ⟨_, _, rfl, rfl, (by omega), _, _, rfl, rfl, .inl ⟨by omega, by omega⟩, _, rfl, _, _, rfl, rfl, .inl ⟨by omega, by omega⟩, _, _, rfl, rfl, _, _, rfl, rfl, ?_⟩
    refine Or.inl ⟨_, rfl, ?_⟩
    refine ⟨_, _, rfl, rfl, (by omega), _, _, rfl, rfl, (by show 2 ≤ sizeLine; decide), fun p hp => ?_⟩
    refine q p _ (same_new hp) hp ⟨_, _, upd_same, ?_, ?_, ?_⟩
    · split <;> omega
    · omega
    · omega
/-! ### draws -/
def spDraw : Sp := fun vs H Q _ => ∃ (p : Addr) (m : Int), vs = [.ref p, .int m] ∧ PotOk H p ∧ 1 ≤ m ∧ m ≤ 1000000 ∧ ∀ d H', 0 ≤ d → d < m → PotOk H' p → Keep p H H' → Q (.int d) H'
theorem sc24 : FnScope ["_law_pot_here", "_law_many", "_law_digit"] ["_law_pot_here", "_law_many"] (defScope sDraw) := ⟨rfl, rfl, rfl, by decide +kernel, rfl, by decide +kernel, by decide +kernel⟩
theorem d_draw (B : Bnd K mg "_law_draw" sDraw) (M : Mg mg) : Def P w K mg base (k + 1) "_law_draw" sDraw ["_law_pot_here", "_law_many"] spDraw := by
  refine def_of B sc24 (by rintro _ _ _ _ ⟨a, n, rfl, _⟩; rfl) (fun _ _ _ _ _ _ us hl => match us, hl with | [_, _], _ => rfl) fun f cdv A outer s H vs Q E hr h => ?_
  obtain ⟨p, m, rfl, ⟨u, v, hp, hu, hv, hv2⟩, h1, h2, q⟩ := h
  refine ⟨_, pss_cons (ps_if (pt_cmpR op_gt (pe_ix ix_list (pv 0) pe_int (fun _ _ => rfl)) pe_int (nomark _))
      (pss_cons (ps_asg (pe_callB call_divmod (by rfl) M.divmod (by decide +kernel) (pa_cons (pe_ix ix_list (pv 0) pe_int (fun _ _ => rfl)) (pa_cons (pv 1) pa_nil))) (pg_tup rfl (pgs_cons (pg_sub (pv 0) pe_int set_list) (pgs_cons (pg_name (i := 2) sc24.nd rfl (.inl rfl)) pgs_nil))))
        (pss_one (ps_ret (pv 2)))) pss_nil)
    (pss_cons (ps_asg (pe_op op_mod (pe_callTy call_int1 (by rfl) M.int (by decide +kernel) (pa_cons (pe_op op_add (pe_op op_mul (pe_ix ix_list (pv 0) pe_int (fun _ _ => rfl)) pe_int) pe_int) pa_nil)) pe_int) (pg_sub (pv 0) pe_int set_list))
    (pss_one (ps_ret (pe_op op_mod (pe_callTy call_int1 (by rfl) M.int (by decide +kernel) (pa_cons (pe_op op_fdiv (pe_op op_mod (pe_callTy call_int1 (by rfl) M.int (by decide +kernel) (pa_cons (pe_op op_mul (pe_ix ix_list (pv 0) pe_int (fun _ _ => rfl)) (pe_ix ix_list (pv 0) pe_int (fun _ _ => rfl))) pa_nil)) pe_int) pe_int) pa_nil)) (pv 1))))), ?_⟩
  refine ⟨_, rfl, p, _, 0, .int u, rfl, rfl, SqL.of hp, rfl, u, 0, rfl, rfl, _, rfl, ite2 (fun c => ?_) (fun c => ?_)⟩
  · have c' := of_decide_eq_true c
    refine ⟨_, rfl, p, _, 0, .int u, rfl, rfl, SqL.of hp, rfl, _, rfl, u, m, rfl, ⟨by omega, by omega⟩, fun t nt => ?_⟩
    have ne : p ≠ t := ne_of_none hp nt
    refine ⟨t, _, rfl, SqT.of upd_same, rfl, _, _, rfl, _, rfl, p, _, 0, 0, rfl, rfl, by rw [upd_ne ne]; exact hp, rfl, _, _, rfl, rfl, _, rfl, ?_⟩
    refine q _ _ (Int.emod_nonneg _ (by omega)) (Int.emod_lt_of_pos _ (by omega)) ⟨u / m, v, upd_same, Int.ediv_nonneg hu (by omega), hv, hv2⟩ ?_
    exact (Keep.of (same_new nt)).trans keep_upd
  · refine ⟨_, rfl, p, _, 1, .int v, rfl, rfl, SqL.of hp, rfl, v, _, rfl, rfl, .inl ⟨by omega, by omega⟩, _, _, rfl, rfl, Or.inl ⟨_, rfl, _, _, rfl, rfl, by omega, ?_⟩⟩
    refine ⟨_, rfl, p, _, 1, 1, rfl, rfl, hp, rfl, ?_⟩
    have b0 : 0 ≤ (v * 40014 + 1109) % 2147483563 := Int.emod_nonneg _ (by omega)
    have b1 : (v * 40014 + 1109) % 2147483563 < 2147483563 := Int.emod_lt_of_pos _ (by omega)
    have hp' : (upd H p (.lst ([V.int u, V.int v].set 1 (.int ((v * 40014 + 1109) % 2147483563))))) p = some (.lst [.int u, .int ((v * 40014 + 1109) % 2147483563)]) := upd_same
    refine ⟨_, rfl, p, _, 1, _, rfl, rfl, SqL.of hp', rfl, _, rfl, p, _, 1, _, rfl, rfl, SqL.of hp', rfl, _, _, rfl, rfl, .inl ⟨by omega, by omega⟩, Or.inl ⟨_, rfl, _, _, rfl, rfl, by omega, _, _, rfl, rfl, ⟨by omega, by omega⟩, Or.inl ⟨_, rfl, ?_⟩⟩⟩
    refine ⟨_, rfl, _, m, rfl, rfl, by omega, ?_⟩
    exact q _ _ (Int.emod_nonneg _ (by omega)) (Int.emod_lt_of_pos _ (by omega)) ⟨u, _, hp', hu, b0, by omega⟩ keep_upd
def spPick : Sp := fun vs H Q _ => ∃ (p b : Addr) (xs : List V), vs = [.ref p, .ref b] ∧ PotOk H p ∧ H b = some (.lst xs) ∧ b ≠ p ∧ 1 ≤ xs.length ∧ xs.length ≤ 1000 ∧ ∀ x H', x ∈ xs → PotOk H' p → Keep p H H' → Q x H'
theorem sc25 : FnScope ["_law_pot_here", "_law_some"] ["_law_pot_here", "_law_some"] (defScope sPick) := ⟨rfl, rfl, rfl, by decide +kernel, rfl, by decide +kernel, by decide +kernel⟩
theorem d_pick (B : Bnd K mg "_law_pick" sPick) (M : Mg mg) (D : Def P w K mg base k "_law_draw" sDraw ["_law_pot_here", "_law_many"] spDraw) : Def P w K mg base (k + 1) "_law_pick" sPick ["_law_pot_here", "_law_some"] spPick := by
  refine def_of B sc25 (by rintro _ _ _ _ ⟨a, n, x, rfl, _⟩; rfl) (fun _ _ _ _ _ _ us hl => match us, hl with | [_, _], _ => rfl) fun f cdv A outer s H vs Q E hr h => ?_
  obtain ⟨p, b, xs, rfl, hp, hb, ne, l1, l2, q⟩ := h
  refine ⟨_, pss_one (ps_ret (pe_ix ix_list (pv 1) (pe_d D hr (by rfl) (pa_cons (pv 0) (pa_cons (pe_callB call_len_seq (by rfl) M.len boot_len (pa_cons (pv 1) pa_nil)) pa_nil))) (fun _ _ => rfl))), ?_⟩
  refine ⟨_, rfl, _, rfl, _, rfl, b, xs, rfl, .inl (SqL.of hb), p, _, rfl, hp, by omega, by omega, fun d H' d0 d1 hp' kp => ?_⟩
  have hd : d.toNat < xs.length := by omega
  exact ⟨b, xs, d, xs[d.toNat], rfl, rfl, SqL.of (kp _ _ ne hb), at_of (j := d.toNat) (by omega) (List.getElem?_eq_getElem hd), q _ _ (List.getElem_mem hd) hp' kp⟩
def spCounts : Sp := fun vs H Q _ => ∃ (p : Addr) (mm mo : Int), vs = [.ref p, .int mm, .int mo] ∧ PotOk H p ∧ 1 ≤ mm ∧ mm ≤ 500 ∧ 1 ≤ mo ∧ mo ≤ 1000 ∧
  ∀ r H' (cs : List Int), 1 ≤ cs.length → (cs.length : Int) ≤ mm → (∀ c ∈ cs, 1 ≤ c ∧ c ≤ mo) → PotOk H' p → Keep p H H' → H r = none → H' r = some (.lst (VI cs)) → Q (.ref r) H'
theorem sc29 : FnScope ["_law_pot_here", "_law_most_many", "_law_most", "_law_found", "_law_turn"] ["_law_pot_here", "_law_most_many", "_law_most"] (defScope sCounts) := ⟨rfl, rfl, rfl, by decide +kernel, rfl, by decide +kernel, by decide +kernel⟩
theorem d_counts (B : Bnd K mg "_law_counts" sCounts) (M : Mg mg) (D : Def P w K mg base k "_law_draw" sDraw ["_law_pot_here", "_law_many"] spDraw) : Def P w K mg base (k + 1) "_law_counts" sCounts ["_law_pot_here", "_law_most_many", "_law_most"] spCounts := by
  refine def_of B sc29 (by rintro _ _ _ _ ⟨a, n, x, rfl, _⟩; rfl) (fun _ _ _ _ _ _ us hl => match us, hl with | [_, _, _], _ => rfl) fun f cdv A outer s H vs Q E hr h => ?_
  obtain ⟨p, mm, mo, rfl, hp, l1, l2, l3, l4, q⟩ := h
  refine ⟨_, pss_cons (ps_set (i := 3) sc29.nd rfl (.inl rfl) (pe_lst pa_nil))
    (pss_cons (ps_for PassesOwn.never rfl (pi_range1 (by rfl) M.range (pa_cons (pe_op op_add pe_int (pe_d D hr (by rfl) (pa_cons (pv 0) (pa_cons (pv 1) pa_nil)))) pa_nil)) (pg_name (i := 4) sc29.nd rfl (.inl rfl))
      (pss_one (ps_expr (pe_bm PySem.F.plainAttrs_list PySem.F.slot_list_append PySem.F.type_list_append mt_append (pv 3) (pa_cons (pe_op op_add pe_int (pe_d D hr (by rfl) (pa_cons (pv 0) (pa_cons (pv 2) pa_nil)))) pa_nil)))))
    (pss_one (ps_ret (pv 3)))), ?_⟩
  refine ⟨Nat.zero_le _, fun r nr => ?_⟩
  have ne : r ≠ p := fun z => by
    obtain ⟨u, v, e, _⟩ := hp
    rw [z, e] at nr
    cases nr
  have s1 : Same H (upd H r (.lst [])) := same_new nr
  refine ⟨_, rfl, _, rfl, p, mm, rfl, hp.same s1, l1, by omega, fun d H1 d0 d1 hp1 k1 => ?_⟩
  refine ⟨1, d, rfl, rfl, 1 + d, rfl, by omega, by omega, ?_⟩
  refine for_range (lo := 0) (n := (1 + d).toNat) (fun i σ H' => ∃ (y : Option V) (cs : List Int), σ = [some (.ref p), some (.int mm), some (.int mo), some (.ref r), y] ∧ cs.length = i ∧ (∀ c ∈ cs, 1 ≤ c ∧ c ≤ mo) ∧ PotOk H' p ∧ Keep p H H' ∧ H' r = some (.lst (VI cs)))
    ⟨none, [], rfl, rfl, fun c hc => absurd hc (by simp), hp1, (Keep.of s1).trans k1, k1 _ _ ne upd_same⟩ (fun i σ' H' hi ⟨y, cs, e, el, ec, pk, kk, hr'⟩ => ?_) (fun σ' H' ⟨y, cs, e, el, ec, pk, kk, hr'⟩ => ?_)
  · subst e
    refine ⟨_, rfl, Or.inl ⟨rfl, _, SqL.of hr'⟩, _, rfl, _, rfl, p, mo, rfl, pk, l3, by omega, fun z H2 z0 z1 pk2 k2 => ?_⟩
    have hr2 := k2 _ _ ne hr'
    refine ⟨1, z, rfl, rfl, r, _, _, rfl, rfl, hr2, by rw [vi_len]; exact small (by omega), some (.int (0 + (i : Int))), cs ++ [1 + z], rfl, by rw [List.length_append, el]; rfl, fun c hc => ?_, ?_, fun b o hb ho => ?_, ?_⟩
    · rcases List.mem_append.mp hc with h | h
      · exact ec c h
      · rw [List.mem_singleton.mp h]; omega
    · obtain ⟨u, v, e, x⟩ := pk2
      exact ⟨u, v, by rw [upd_ne ne.symm]; exact e, x⟩
    · rw [upd_ne (ne_of_none ho nr)]
      exact k2 _ _ hb (kk _ _ hb ho)
    · rw [upd_same]
      unfold VI
      rw [List.map_append]; rfl
  · subst e
    exact ⟨_, rfl, q r H' cs (by omega) (by omega) ec pk kk nr hr'⟩
end
/-! ### lists of marks -/
theorem set_mid {α : Type} : ∀ (A : List α) (b x : α) (R : List α), (A ++ b :: R).set A.length x = A ++ x :: R
  | [], _, _, _ => rfl
  | a :: A, b, x, R => by
    show a :: ((A ++ b :: R).set A.length x) = a :: (A ++ x :: R)
    rw [set_mid A b x R]
/-- the marks while the number i + 1 is asked -/
noncomputable def mid (cs : List Int) (i m : Nat) (b : Bool) : List Bool := tb cs (i + 1) ++ b :: List.replicate (m - i - 1) false
theorem mid_len {cs : List Int} {i m : Nat} {b : Bool} (h : i < m) : (mid cs i m b).length = m + 1 := by
  unfold mid
  rw [List.length_append, tb_len, List.length_cons, List.length_replicate]
  omega
theorem mid_at {cs : List Int} {i m j : Nat} {b : Bool} (h : j ≤ i) : (mid cs i m b)[j]? = some (mb cs (j : Int)) := by
  unfold mid
  rw [List.getElem?_append_left (by rw [tb_len]; omega), tb_at (by omega)]
theorem mid_set {cs : List Int} {i m : Nat} {b x : Bool} : ((mid cs i m b).map V.bl).set (i + 1) (.bl x) = (mid cs i m x).map V.bl := by
  unfold mid
  have e := set_mid ((tb cs (i + 1)).map V.bl) (V.bl b) (V.bl x) ((List.replicate (m - i - 1) false).map V.bl)
  rw [List.length_map, tb_len] at e
  rw [List.map_append, List.map_append, List.map_cons, List.map_cons]
  exact e
theorem mid_start {cs : List Int} {i m : Nat} (h : i < m) : mid cs i m false = tb cs (i + 1) ++ List.replicate (m - i) false := by
  unfold mid
  rw [show m - i = (m - i - 1) + 1 by omega, List.replicate_succ]
  rw [show m - i - 1 + 1 - 1 = m - i - 1 by omega]
theorem mid_end {cs : List Int} {i m : Nat} : mid cs i m (mb cs ((i + 1 : Nat) : Int)) = tb cs (i + 1 + 1) ++ List.replicate (m - (i + 1)) false := by
  unfold mid
  rw [tb_succ cs (i + 1), List.append_assoc, show m - (i + 1) = m - i - 1 by omega]; rfl
section
variable {P : Program} {w : World} {K : PySem.W.Frag} {mg : Str → Option Value} {base : Heap} {k : Nat}
end
theorem euclid {x y : Int} (hx : 0 ≤ x) (hy : 0 < y) : Nat.gcd y.natAbs (x - x / y * y).natAbs = Nat.gcd x.natAbs y.natAbs := by
  have e : x - x / y * y = x % y := by
    have := Int.emod_add_mul_ediv x y
    rw [Int.mul_comm (x / y) y]
    omega
  rw [e]
  obtain ⟨a, rfl⟩ : ∃ n : Nat, x = n := ⟨x.toNat, by omega⟩
  obtain ⟨b, rfl⟩ : ∃ n : Nat, y = n := ⟨y.toNat, by omega⟩
  rw [← Int.natCast_emod, Int.natAbs_natCast, Int.natAbs_natCast, Int.natAbs_natCast, Nat.gcd_comm b (a % b), ← Nat.gcd_rec, Nat.gcd_comm]
theorem gl_small {cs : List Int} (h : ∀ c ∈ cs, 1 ≤ c ∧ c ≤ 48) : gl cs ≤ 48 := by
  cases cs with
  | nil => decide
  | cons c r =>
    have h1 := (gl_dvd (c :: r) (gl (c :: r)).natAbs).mp (Nat.dvd_refl _) c List.mem_cons_self
    have h2 := h c List.mem_cons_self
    have h3 := Nat.le_of_dvd (by omega) h1
    have h4 := gl_nonneg (c :: r)
    omega
section
variable {P : Program} {w : World} {K : PySem.W.Frag} {mg : Str → Option Value} {base : Heap} {k : Nat}
def spDivisor : Sp := fun vs H Q _ => ∃ x y : Int, vs = [.int x, .int y] ∧ 0 ≤ x ∧ 0 ≤ y ∧ y ≤ 1000000 ∧ Ret H Q (.int ((Nat.gcd x.natAbs y.natAbs : Nat) : Int))
end
/-! ### lists of ints as data -/
abbrev DI (ns : List Int) : PyData := .list (ns.map PyData.int)
theorem dpAll_ints {K : PySem.W.Frag} {H : Hp} : ∀ ns : List Int, DpAll K H (VI ns) (ns.map PyData.int)
  | [] => .nil
  | n :: r => .cons (.int n) (dpAll_ints r)
theorem dp_ints {K : PySem.W.Frag} {H : Hp} {a : Addr} {ns : List Int} (h : SqL K H a (VI ns)) : Dp K H (.ref a) (DI ns) := .lst h (dpAll_ints ns)
theorem di_lay : ∀ ns : List Int, PyData.canLayAll0 (ns.map PyData.int) = true
  | [] => rfl
  | n :: r => by rw [List.map_cons, PyData.canLayAll0, di_lay r]; rfl
theorem di_depthAll : ∀ ns : List Int, PyData.depthAll (ns.map PyData.int) ≤ 1
  | [] => by simp [PyData.depthAll]
  | n :: r => by
    have := di_depthAll r
    rw [List.map_cons, PyData.depthAll]
    simp only [PyData.depth]
    omega
theorem di_depth (ns : List Int) : (DI ns).depth ≤ 8 := by
  have := di_depthAll ns
  simp only [PyData.depth]
  omega
theorem di_shaped (ns : List Int) : SeqAt.shaped (DI ns) = true := by
  unfold SeqAt.shaped
  have h1 : (DI ns).canLay0 = true := by rw [PyData.canLay0]; exact di_lay ns
  have h2 := di_depth ns
  rw [h1, decide_eq_true (by omega)]; rfl
theorem di_refl (ns : List Int) : PyData.eqv (DI ns) (DI ns) = true := SeqAt.eqv_refl _ (by rw [PyData.canLay0]; exact di_lay ns)
theorem di_nil : ∀ ns : List Int, PyData.eqv (DI ns) (DI []) = ns.isEmpty
  | [] => di_refl []
  | n :: r => by rw [PyData.eqv, List.map_cons, List.map_nil]; rfl
theorem int_short : ∀ n : Nat, n < 1000 → (PyData.shown (.int (n : Int))).length ≤ 8 := by decide +kernel
theorem int_log : ∀ n : Nat, n < 1000 → n.log2 < 1920 := fun n h => by
  have h1 : n < 2 ^ 10 := by omega
  by_cases h0 : n = 0
  · subst h0; decide
  · have := (Nat.log2_lt h0).mpr h1
    omega
abbrev Sm (ns : List Int) : Prop := ∀ n ∈ ns, 0 ≤ n ∧ n < 1000
theorem di_leaves : ∀ ns : List Int, Sm ns → PyData.leavesShortAll 8 (ns.map PyData.int) = true
  | [], _ => rfl
  | n :: r, h => by
    have h1 := h n List.mem_cons_self
    rw [List.map_cons, PyData.leavesShortAll, di_leaves r fun x hx => h x (List.mem_cons_of_mem _ hx), Bool.and_true, PyData.leavesShort]
    have h2 := int_short n.toNat (by omega)
    rw [show ((n.toNat : Nat) : Int) = n by omega] at h2
    exact decide_eq_true h2
theorem di_showAll : ∀ ns : List Int, Sm ns → PyData.showableAll (ns.map PyData.int) = true
  | [], _ => rfl
  | n :: r, h => by
    have h1 := h n List.mem_cons_self
    rw [List.map_cons, PyData.showableAll, di_showAll r fun x hx => h x (List.mem_cons_of_mem _ hx), Bool.and_true, PyData.showable]
    exact decide_eq_true (int_log n.natAbs (by omega))
theorem di_dictAll : ∀ ns : List Int, PyData.hasDictAll (ns.map PyData.int) = false
  | [] => rfl
  | n :: r => by rw [List.map_cons, PyData.hasDictAll, di_dictAll r]; rfl
theorem di_bulk : ∀ ns : List Int, PyData.bulkAll (ns.map PyData.int) = ns.length
  | [] => rfl
  | n :: r => by rw [List.map_cons, PyData.bulkAll, di_bulk r, PyData.bulk, List.length_cons]; omega
/-- what repr asks of a list of small ints -/
theorem di_repr {ns : List Int} (h : Sm ns) (hz : ns.length ≤ 1000) : (DI ns).showable = true ∧ (DI ns).hasDict = false ∧ (DI ns).depth ≤ 8 ∧ (DI ns).shown.length ≤ sizeLine := by
  refine ⟨by rw [PyData.showable]; exact di_showAll ns h, by rw [PyData.hasDict]; exact di_dictAll ns, di_depth ns, PyData.shown_fits_bulk (B := 8) (by omega) (by omega) (by rw [PyData.leavesShort]; exact di_leaves ns h) ?_⟩
  rw [PyData.bulk, di_bulk]
  omega
/-- a pair of bools -/
theorem db_repr (b c : Bool) : (PyData.list [.bool b, .bool c]).showable = true ∧ (PyData.list [.bool b, .bool c]).hasDict = false ∧ (PyData.list [.bool b, .bool c]).depth ≤ 8 ∧ (PyData.list [.bool b, .bool c]).shown.length ≤ sizeLine := by
  cases b <;> cases c <;> refine ⟨by decide +kernel, by decide +kernel, by decide +kernel, ?_⟩ <;> exact Nat.le_trans (show _ ≤ 100 by decide +kernel) (by decide)
/-! ### slices -/
theorem cut_last (L : List V) (x : V) : cutV (L ++ [x]) none (some (-1)) = L := by
  have e : HT.sIx (L ++ [x]).length (L ++ [x]).length (some (-1)) = L.length := by
    show (if (-1 : Int) < 0 then ((-1 : Int) + ((L ++ [x]).length : Int)).toNat else min (-1 : Int).toNat (L ++ [x]).length) = L.length
    rw [if_pos (by decide), List.length_append, List.length_singleton]
    omega
  unfold cutV
  rw [e, HT.sIx_none, List.drop_zero, Nat.sub_zero]
  simp
/-! ### comprehensions over a list -/
section
variable {K : PySem.W.Frag} {a : Addr} {xs : List V} {g : TG} {tt : TT} {te : TE} {vs : List Nat} {σ : L2.St} {H : Hp}
theorem lc_l {Dd : Addr} {Qd : Hp → Prop} (f : Nat → Option V) (hS : SqL K H a xs) (hD : H Dd = none) (hz : xs.length ≤ sizeLine)
    (hs : ∀ i x H1, xs[i]? = some x → Same H H1 → LcTurn f g tt te vs σ i x H1 H1)
    (hd : ∀ H1, Same H H1 → H1 Dd = some (.lst ((List.range xs.length).filterMap f)) → Qd H1) : ∃ W : Nat → Nat → Hp → Prop, (∃ m, W 0 m (upd H Dd (.lst []))) ∧ ∀ i m H, W i m H →
      ((Itl K a).stop i H ∧ Qd H) ∨ ((Itl K a).go i H ∧ ∃ Nx : Hp → Prop, (∀ H', Nx H' → ∃ m', m' < m ∧ W (i + 1) m' H') ∧ ∀ x H', (Itl K a).yld i H x H' → g x (wipe σ vs) H' fun σ2 H2 => wipe σ2 vs = wipe σ vs ∧ tt σ2 H2 fun b H3 =>
        if b = true then te σ2 H3 fun y H4 => ∃ acc, H4 Dd = some (.lst acc) ∧ acc.length < sizeLine ∧ Nx (upd H4 Dd (.lst (acc ++ [y]))) else Nx H3) :=
  lc_list (xs := xs) (LcInv f H Dd) (LcInv.start hD) (fun i H1 _ p => p.1.seq hS) (fun i x H1 hx p => p.turn hD (Nat.lt_of_lt_of_le (List.getElem?_eq_some_iff.mp hx).1 hz) (Same.refl _) (hs i x H1 hx p.1)) fun H1 p => hd H1 p.1 p.2
end
theorem ints_map (c0 : List Int) (h : Int → Int) : (List.range (VI c0).length).filterMap (fun i => (c0[i]?).bind fun c => some (V.int (h c))) = VI (c0.map h) := by
  rw [vi_len, fm_all]
  unfold VI
  rw [List.map_map]
  induction c0 with
  | nil => rfl
  | cons c r ih => rw [List.filterMap_cons, List.map_cons, ih]; rfl
theorem ints_filter (c0 : List Int) (p : Int → Bool) : (List.range (VI c0).length).filterMap (fun i => (c0[i]?).bind fun c => if p c = true then some (V.int c) else none) = VI (c0.filter p) := by
  rw [vi_len, fm_all]
  induction c0 with
  | nil => rfl
  | cons c r ih =>
    rw [List.filterMap_cons, List.filter_cons, ih]
    cases e : p c <;> simp
/-! ### facts of the search with one count more -/
theorem rch_nil {n : Int} (r : Rch (fun c => c ∈ ([] : List Int)) n) : n = 0 := by
  cases r with
  | zero => rfl
  | step h _ => simp at h
theorem told_of {cs R : List Int} (T : Told cs) (h : IsLst cs R) (hm : ∀ x ∈ R, x ∈ cs) (hl : R.length ≤ 8) : Told R := by
  refine ⟨?_, hl, fun c hc => T.each c (hm c hc)⟩
  cases R with
  | nil =>
    have t1 := T.lo
    obtain ⟨c, hc⟩ : ∃ c, c ∈ cs := ⟨cs[0], List.getElem_mem (by omega)⟩
    have z := rch_nil ((h.rch c).mpr (.one hc))
    have := (T.each c hc).1
    omega
  | cons c r => rw [List.length_cons]; omega
structure More (cs ms R : List Int) : Prop where
  told : Told ms
  gl : gl ms = gl cs
  mb : ∀ n, mb ms n = mb cs n
  isL : IsL ms R
theorem more_of {cs R ex : List Int} (T : Told cs) (hl : cs.length ≤ 5) (h : IsLst cs R) (hex : ex = [] ∨ ∃ b, ex = [b] ∧ 0 < b ∧ b ≤ 48 ∧ mb cs b = true) : More cs (cs.reverse ++ ex) R := by
  have t1 := T.lo
  rcases hex with rfl | ⟨b, rfl, h0, h1, hb⟩
  · rw [List.append_nil]
    have m : ∀ x, x ∈ cs.reverse ↔ x ∈ cs := fun x => List.mem_reverse
    exact ⟨⟨by rw [List.length_reverse]; omega, by rw [List.length_reverse]; omega, fun c hc => T.each c ((m c).mp hc)⟩, gl_congr m, fun n => mb_congr (rch_congr m n), h.isL.congr fun x => (m x).symm⟩
  · have m : ∀ x, x ∈ cs.reverse ++ [b] ↔ x ∈ cs ∨ x = b := fun x => by rw [List.mem_append, List.mem_reverse, List.mem_singleton]
    have hb' := mb_iff.mp hb
    refine ⟨⟨by rw [List.length_append, List.length_reverse]; omega, by rw [List.length_append, List.length_reverse, List.length_singleton]; omega, fun c hc => ?_⟩, gl_more hb' m, fun n => mb_congr (rch_more hb' m n), h.more T.pos hb' m⟩
    rcases (m c).mp hc with q | q
    · exact T.each c q
    · omega
end K21

namespace Fp
open PySem PySem.Spec PyProof.Rows L2
/-! ### the class Ratio -/
structure RCls (K : PySem.W.Frag) (mg : Str → Option Value) (C fI fR : Addr) : Prop where
  cl : Cls K C
  nT : NoAttr K C "_top"
  nB : NoAttr K C "_bottom"
  mgC : mg "Ratio" = some (.ref C)
  make : Mk K C fI
  rpA : PySem.W.findIn K (.ref C) "__repr__" = some (some (.ref fR))
  rpF : PySem.W.isFn K (.ref fR) = true
  isA : PySem.W.findIn K (.ref C) "__class__" = some (some (.builtin "object.__class__"))
  isN : PySem.W.specialIn K (.builtin "object.__class__") "__get__" = some (some (.builtin "getset_descriptor.__get__"))
  isT : PySem.W.takesIn K (.builtin "object.__class__") = some true
  isM : PySem.W.mroIn K C (.type "object") = some true
  kI : PySem.W.kitOne K (.ref C) (.type "int") = some false
  kB : PySem.W.kitOne K (.ref C) (.type "bool") = some false
  kL : PySem.W.kitOne K (.ref C) (.type "list") = some false
  kT : PySem.W.kitOne K (.ref C) (.type "tuple") = some false
/-- behind __init__: the instance at p holds top and bottom -/
def spRI (C : Addr) : Sp := fun vs H Q _ => ∃ (p dx : Addr) (t : Int), vs = [.ref p, .int t, .int 1] ∧ H p = some (.ins C dx []) ∧ ∀ H', (∀ b o, b ≠ p → H b = some o → H' b = some o) → H' p = some (.ins C dx [("_top", .int t), ("_bottom", .int 1)]) → Q .non H'
def spRR (C : Addr) : Sp := spRp fun a H t => ∃ p q, Rat2 C H a p q ∧ okI p ∧ okI q ∧ t = ratText p q
/-- a def's facts, with defaults -/
structure RDef (P : Program) (w : World) (K : PySem.W.Frag) (mg : Str → Option Value) (base : Heap) (k : Nat) (C : Addr) : Prop where
  ex : ∃ (fI fR : Addr) (fdI fdR : FuncData), RCls K mg C fI fR ∧ FnOk P w K mg base CX0 k fI fdI ["self", "top", "bottom"] (spRI C) ∧ (∃ ds, Vals [V.int 1] ds ∧ Binds K fdI ["self", "top", "bottom"] ds) ∧
    FnOk P w K mg base CX0 k fR fdR ["self"] (spRR C) ∧ Binds K fdR ["self"] []
section
variable {X : Cx} {C : Addr} {k : Nat}
theorem RDef.own {P : Program} {w : World} {K : PySem.W.Frag} {mg : Str → Option Value} {base : Heap} (D : RDef X.prog X.w X.K X.mg X.base k C) (hr : Room (k + 1) X.A) : OwnRp X C k := by
  obtain ⟨fI, fR, fdI, fdR, R, _, _, FR, bR⟩ := D.ex
  constructor
  · intro H0 Cl a p q r b1 b2
    obtain ⟨dx, e⟩ := id r
    exact RpG.ins FR R.rpA R.rpF bR (pass0 (X := X)) e fun H sm => ⟨p, q, r.same sm, b1, b2, rfl⟩
  · intro pins s σ H a p q I r b1 b2
    obtain ⟨dx, e⟩ := id r
    exact top_own FR R.rpA R.rpF bR (pass0 (X := X)) hr I e ⟨p, q, r, b1, b2, rfl⟩
/-- Ratio(e) -/
def tRat (C : Addr) (t : TA) : TE := fun σ H Q => t σ H fun vs H1 => ∃ i : Int, vs = [.int i] ∧ ∀ a H', H1 a = none → Same H1 H' → Rat2 C H' a i 1 → Q (.ref a) H'
theorem pe_rat (D : RDef X.prog X.w X.K X.mg X.base k C) (hr : Room (k + 1) X.A) {p pos : Pos} {e : Expr} {es : List Expr} {t : TA} (hg : Gl X "Ratio") (ha : PA X (e :: es) t)
    (he : starEach (e :: es) X.env = (false, eval e X.env) :: starEach es X.env := by rfl) (hpl : (backTo pos (starEach es X.env)).any (·.1) = false := by rfl) : PE X (.Call (.Name "Ratio" p) (e :: es) [] pos) (tRat C t) := by
  obtain ⟨fI, fR, fdI, fdR, R, FI, ⟨ds, hds, bI⟩, _⟩ := D.ex
  refine ⟨fun pins s σ H Q I h => ?_⟩
  refine wpAny_Call_Name_kw (ld_glob I hg R.mgC ?_ (by decide))
  refine PySem.W.callWith_K (h₀ := X.base) I.ok.mod.kin R.make.kp (thn (ha.run pos pins s σ H _ I h) fun us s1 ⟨vs, H1, I1, r, q⟩ => ⟨I1.kIn, ?_⟩) he hpl
  refine run_make R.make FI hr bI hds (pass0 (X := X)) I1 r fun x dx nx ndx ne => ?_
  obtain ⟨i, rfl, q⟩ := q
  refine ⟨x, dx, i, rfl, upd_same, fun H' kp hx => ⟨rfl, q x H' nx (fun b o e => ?_) ⟨dx, hx⟩⟩⟩
  have n1 := ne_of_none e nx
  exact kp b o n1 (by rw [upd_ne n1, upd_ne (ne_of_none e ndx)]; exact e)
end
end Fp

namespace K21
open PySem PySem.Spec PyProof.Rows L2 Fp
section
variable {P : Program} {w : World} {K : PySem.W.Frag} {mg : Str → Option Value} {base : Heap} {k : Nat}
/-! ### the class Ratio -/
-- slots: self 0, top 1, bottom 2, shared 3
abbrev s_Ratio___init__ : Stmt := inClass (top 25) 0
abbrev N_Ratio___init__ : List Str := ["self", "top", "bottom", "shared"]
theorem sc_Ratio___init__ : FnScope N_Ratio___init__ ["self", "top", "bottom"] (defScope s_Ratio___init__) := ⟨rfl, rfl, rfl, by decide +kernel, rfl, by decide +kernel, by decide +kernel⟩
-- slots: self 0
abbrev s_Ratio___repr__ : Stmt := inClass (top 25) 19
abbrev N_Ratio___repr__ : List Str := ["self"]
theorem sc_Ratio___repr__ : FnScope N_Ratio___repr__ ["self"] (defScope s_Ratio___repr__) := ⟨rfl, rfl, rfl, by decide +kernel, rfl, by decide +kernel, by decide +kernel⟩
theorem d_rinit {C fI fR f : Addr} {fd : FuncData} (F : FunD K "__init__" "Ratio.__init__" (defArgs s_Ratio___init__) (defBody s_Ratio___init__) (defScope s_Ratio___init__) [V.int 1] [] f fd) (R : RCls K mg C fI fR) (M : Mg mg) (D_is_integer : Def P w K mg base k "is_integer" sInteger ["value"] spInteger) :
    FnOk P w K mg base CX0 (k + 1) f fd ["self", "top", "bottom"] (spRI C) := by
  refine F.ok sc_Ratio___init__ (by rintro _ _ _ _ ⟨p, dx, t, rfl, _⟩; rfl) fun cdv A outer s H vs Q E hr h => ?_
  obtain ⟨p, dx, t, rfl, hp, q⟩ := h
  refine ⟨_, pss_cons (ps_if (pt_not (pt_val (pe_d D_is_integer hr (by rfl) (pa_cons (pv 1) pa_nil)))) pss_never pss_nil)
    (pss_cons (ps_if (PW.pt (pw_or (pt_not (pt_val (pe_d D_is_integer hr (by rfl) (pa_cons (pv 2) pa_nil)))) (pw_or1 (pt_cmpR op_eq (pv 2) pe_int (nomark _))))) pss_never pss_nil)
    (pss_cons (ps_set (i := 3) sc_Ratio___init__.nd rfl (.inl rfl) (pe_callBfun cr_gcd (by rfl) M.gcd  (pa_cons (pv 1) (pa_cons (pv 2) pa_nil))))
    (C8.pss_cut (ps_if (pt_cmpR op_lt (pv 2) pe_int (nomark _))
      (pss_one (ps_set (i := 3) sc_Ratio___init__.nd rfl (.inl rfl) (pe_un un_neg (pv 3))))
      (pss_nil))
    (pss_cons (ps_fld (pv 0) (pe_op op_fdivN (pv 1) (pv 3)) rfl)
    (pss_one (ps_fld (pv 0) (pe_op op_fdivN (pv 2) (pv 3)) rfl)))))), ?_⟩
  refine ⟨_, rfl, t, rfl, fun H1 s1 => ⟨true, rfl, iteF ⟨_, rfl, 1, rfl, fun H2 s2 => ⟨true, rfl, iteF ⟨_, rfl, rfl, _, rfl, iteF2 (by decide) ?_⟩⟩⟩⟩⟩
  have hp2 := (s1.trans s2) _ _ hp
  have g1 : ((t.natAbs.gcd (Int.natAbs 1) : Nat) : Int) = 1 := by
    show ((t.natAbs.gcd 1 : Nat) : Int) = 1
    rw [Nat.gcd_one_right]; rfl
  refine ⟨_, rfl, _, rfl, t, 1, rfl, ?_⟩
  rw [g1]
  refine ⟨fun σ' H' => σ' = [some (.ref p), some (.int t), some (.int 1), some (.int 1)] ∧ H' = H2, ⟨_, rfl, 1, 0, rfl, rfl, _, rfl, iteF2 (by decide) ⟨rfl, rfl⟩⟩, ?_⟩
  rintro _ _ ⟨rfl, rfl⟩
  rename_i H2
  have f1 : putF "_top" (V.int (t.fdiv 1)) [] = ([("_top", V.int t)] : List (Str × V)) := by rw [Int.fdiv_one]; rfl
  have f2 : putF "_bottom" (V.int (Int.fdiv 1 1)) ([("_top", V.int t)] : List (Str × V)) = ([("_top", V.int t), ("_bottom", V.int 1)] : List (Str × V)) := by
    show (if ("_top" : Str) = "_bottom" then [(("_top" : Str), V.int (Int.fdiv 1 1))] else (("_top" : Str), V.int t) :: putF "_bottom" (V.int (Int.fdiv 1 1)) []) = _
    rw [if_neg (by decide +kernel)]; rfl
  refine ⟨_, rfl, _, rfl, t, 1, rfl, rfl, ⟨by omega, by omega⟩, _, rfl, p, C, dx, [], rfl, hp2, R.cl, R.nT, (by show 0 < 1000; decide), ?_⟩
  refine ⟨_, rfl, _, rfl, 1, 1, rfl, rfl, ⟨by omega, by omega⟩, _, rfl, p, C, dx, _, rfl, upd_same, R.cl, R.nB, (by rw [f1]; show 1 < 1000; decide), ?_⟩
  rw [f1, f2]
  refine q _ (fun b o nb e => ?_) upd_same
  rw [upd_ne nb, upd_ne nb]
  exact (s1.trans s2) _ _ e
theorem d_rrepr {C fI fR f : Addr} {fd : FuncData} (F : Fun K "__repr__" "Ratio.__repr__" s_Ratio___repr__ f fd) (R : RCls K mg C fI fR) : FnOk P w K mg base CX0 (k + 1) f fd ["self"] (spRR C) := by
  refine F.ok sc_Ratio___repr__ (by rintro _ _ _ _ ⟨p, t, rfl, _⟩; rfl) fun cdv A outer s H vs Q E hr h => ?_
  obtain ⟨a, t, rfl, ⟨p, q, r, b1, b2, rfl⟩, hq⟩ := h
  refine ⟨_, pss_one (ps_ret (pe_joined (.cons pe_str (.cons (pe_fmt (pe_fld (pv 0) rfl)) (.cons pe_str (.cons (pe_fmt (pe_fld (pv 0) rfl)) (.cons pe_str .nil))))))), ?_⟩
  obtain ⟨dx, e⟩ := id r
  have l1 := int_len b1
  have l2 := int_len b2
  have e1 : (Str.ofString "Ratio(").length = 6 := rfl
  have e2 : (Str.ofString ", ").length = 2 := rfl
  have e3 : (Str.ofString ")").length = 1 := rfl
  have e0 : Str.empty ++ Str.ofString "Ratio(" = Str.ofString "Ratio(" := rfl
  have big : 3900 ≤ sizeLine := by decide
  refine ⟨_, rfl, by rw [e0, e1]; omega, _, rfl, a, C, dx, _, .int p, rfl, e, R.cl, R.nT, rfl, .inr ⟨p, rfl, b1, _, rfl, ?_, _, rfl, ?_, _, rfl, a, C, dx, _, .int q, rfl, e, R.cl, R.nB, rfl, .inr ⟨q, rfl, b2, _, rfl, ?_, _, rfl, ?_, ?_⟩⟩⟩
  · rw [e0, strLen_append, e1]; omega
  · rw [e0, strLen_append, strLen_append, e1, e2]; omega
  · rw [e0, strLen_append, strLen_append, strLen_append, e1, e2]; omega
  · rw [e0, strLen_append, strLen_append, strLen_append, strLen_append, e1, e2, e3]; omega
  · exact hq H (Same.refl H)
end
end K21

namespace Fp
open PySem PySem.Spec PyProof.Rows L2
/-! ### any value -/
def isI : V → Bool
  | .int _ => true
  | _ => false
def isB : V → Bool
  | .bl _ => true
  | _ => false
def isCnt : V → Bool
  | .int i => decide (0 ≤ i)
  | _ => false
def toZ : V → Int
  | .int i => i
  | _ => 0
/-- the items of a list or a tuple -/
def itemsOf (H : Hp) : V → Option (List V)
  | .ref a => match H a with
    | some (.lst xs) => some xs
    | some (.tup xs) => some xs
    | _ => none
  | _ => none
def Sk (C : Addr) (H : Hp) (d : Nat) (x : V) : Prop := ∃ t, Sh C H d x t
theorem Sh.more {C : Addr} {H : Hp} {d : Nat} {x : V} {t : Str} (h : Sh C H d x t) : ∀ {e : Nat}, d ≤ e → Sh C H e x t := by
  induction h with
  | int h => exact fun _ => .int h
  | bl b => exact fun _ => .bl b
  | non => exact fun _ => .non
  | str x h => exact fun _ => .str x h
  | own r h1 h2 => exact fun _ => .own r h1 h2
  | lst h1 h0 h2 _ ih =>
    intro e le
    cases e with
    | zero => omega
    | succ e => exact .lst h1 h0 h2 fun i x t a b => ih i x t a b (by omega)
  | tup h1 h0 h2 _ ih =>
    intro e le
    cases e with
    | zero => omega
    | succ e => exact .tup h1 h0 h2 fun i x t a b => ih i x t a b (by omega)
  | dct h1 h0 h2 =>
    intro e le
    cases e with
    | zero => omega
    | succ e => exact .dct h1 h0 h2
section
variable {C : Addr} {H H' : Hp} {d : Nat} {x : V}
theorem Sk.same (h : Sk C H d x) (e : Same H H') : Sk C H' d x := let ⟨t, h⟩ := h; ⟨t, h.same e⟩
theorem Sk.more {e : Nat} (h : Sk C H d x) (le : d ≤ e) : Sk C H e x := let ⟨t, h⟩ := h; ⟨t, h.more le⟩
theorem Sk.int {i : Int} (h : okI i) : Sk C H d (.int i) := ⟨_, .int h⟩
theorem Sk.bl (b : Bool) : Sk C H d (.bl b) := ⟨_, .bl b⟩
theorem Sk.non : Sk C H d .non := ⟨_, .non⟩
theorem texts {xs : List V} (h : ∀ x ∈ xs, Sk C H d x) : ∃ ts : List Str, ts.length = xs.length ∧ ∀ (i : Nat) x t, xs[i]? = some x → ts[i]? = some t → Sh C H d x t := by
  induction xs with
  | nil => exact ⟨[], rfl, fun i x t h => by simp at h⟩
  | cons x xs ih =>
    obtain ⟨t, ht⟩ := h x List.mem_cons_self
    obtain ⟨ts, l, hs⟩ := ih fun y hy => h y (List.mem_cons_of_mem _ hy)
    refine ⟨t :: ts, by rw [List.length_cons, List.length_cons, l], fun i y u h1 h2 => ?_⟩
    cases i with
    | zero =>
      simp at h1 h2
      subst h1 h2
      exact ht
    | succ i => exact hs i y u (by simpa using h1) (by simpa using h2)
theorem Sk.lst {a : Addr} {xs : List V} (h : H a = some (.lst xs)) (l : xs.length ≤ 60) (hx : ∀ x ∈ xs, Sk C H d x) : Sk C H (d + 1) (.ref a) := by
  obtain ⟨ts, h1, h2⟩ := texts hx
  exact ⟨_, .lst h l h1 h2⟩
theorem Sk.tup {a : Addr} {xs : List V} (h : H a = some (.tup xs)) (l : xs.length ≤ 60) (hx : ∀ x ∈ xs, Sk C H d x) : Sk C H (d + 1) (.ref a) := by
  obtain ⟨ts, h1, h2⟩ := texts hx
  exact ⟨_, .tup h l h1 h2⟩
theorem itemsOf_same (h : Sk C H d x) (e : Same H H') : itemsOf H' x = itemsOf H x := by
  obtain ⟨t, h⟩ := h
  cases h with
  | int h => rfl
  | bl b => rfl
  | non => rfl
  | str x h => rfl
  | own r h1 h2 =>
    obtain ⟨dx, r⟩ := r
    unfold itemsOf
    simp only [r, e _ _ r]
  | lst h1 => unfold itemsOf; simp only [h1, e _ _ h1]
  | tup h1 => unfold itemsOf; simp only [h1, e _ _ h1]
  | dct h1 => unfold itemsOf; simp only [h1, e _ _ h1]
/-- a list or a tuple, or neither -/
theorem Sk.items (h : Sk C H d x) {xs : List V} (e : itemsOf H x = some xs) : ∃ a, x = .ref a ∧ (H a = some (.lst xs) ∨ H a = some (.tup xs)) ∧ xs.length ≤ 60 ∧ ∀ y ∈ xs, Sk C H d y := by
  obtain ⟨t, h⟩ := h
  cases h with
  | int h => cases e
  | bl b => cases e
  | non => cases e
  | str x h => cases e
  | own r h1 h2 =>
    obtain ⟨dx, r⟩ := r
    unfold itemsOf at e
    simp only [r] at e
    cases e
  | @lst d a ys ts h1 h0 h2 h3 =>
    unfold itemsOf at e
    simp only [h1] at e
    obtain rfl := Option.some.inj e
    refine ⟨a, rfl, .inl h1, h0, fun y hy => ?_⟩
    obtain ⟨i, hi⟩ := List.getElem?_of_mem hy
    have l := (List.getElem?_eq_some_iff.mp hi).1
    exact ⟨_, (h3 i y _ hi (List.getElem?_eq_getElem (h2 ▸ l))).more (Nat.le_succ d)⟩
  | @tup d a ys ts h1 h0 h2 h3 =>
    unfold itemsOf at e
    simp only [h1] at e
    obtain rfl := Option.some.inj e
    refine ⟨a, rfl, .inr h1, h0, fun y hy => ?_⟩
    obtain ⟨i, hi⟩ := List.getElem?_of_mem hy
    have l := (List.getElem?_eq_some_iff.mp hi).1
    exact ⟨_, (h3 i y _ hi (List.getElem?_eq_getElem (h2 ▸ l))).more (Nat.le_succ d)⟩
  | dct h1 =>
    unfold itemsOf at e
    simp only [h1] at e
    cases e
theorem kit_seqs {K : PySem.W.Frag} {t : String} (h1 : kitB t "list" = some false) (h2 : kitB t "tuple" = some false) : PySem.W.kitAny K (.type t) [.type "list", .type "tuple"] = some false :=
  kitAny_cons (kit_ty (r := false) h1) (fun _ => kitAny_cons (kit_ty (r := false) h2) (fun _ => rfl) (fun z => nomatch z)) (fun z => nomatch z)
/-- its type, and what isinstance says -/
theorem Sk.kit {K : PySem.W.Frag} {mg : Str → Option Value} {fI fR : Addr} (h : Sk C H d x) (R : RCls K mg C fI fR) :
    ∃ ty, TyX K H x ty ∧ PySem.W.kitOne K ty (.type "int") = some (isI x || isB x) ∧ PySem.W.kitOne K ty (.type "bool") = some (isB x) ∧ PySem.W.kitAny K ty [.type "list", .type "tuple"] = some (itemsOf H x).isSome := by
  obtain ⟨t, h⟩ := h
  cases h with
  | int h => exact ⟨_, .base (.int _), kit_ty (r := true) (by decide +kernel), kit_ty (r := false) (by decide +kernel), kit_seqs (by decide +kernel) (by decide +kernel)⟩
  | bl b => exact ⟨_, .base (.bl _), kit_ty (r := true) (by decide +kernel), kit_ty (r := true) (by decide +kernel), kit_seqs (by decide +kernel) (by decide +kernel)⟩
  | non => exact ⟨_, .base .non, kit_ty (r := false) (by decide +kernel), kit_ty (r := false) (by decide +kernel), kit_seqs (by decide +kernel) (by decide +kernel)⟩
  | str x h => exact ⟨_, .base (.str _), kit_ty (r := false) (by decide +kernel), kit_ty (r := false) (by decide +kernel), kit_seqs (by decide +kernel) (by decide +kernel)⟩
  | @own d a p q r h1 h2 =>
    obtain ⟨dx, r⟩ := r
    refine ⟨_, .base (.ins r R.cl R.isA R.isN R.isT R.isM), R.kI, R.kB, ?_⟩
    have e : (itemsOf H (.ref a)).isSome = false := by unfold itemsOf; simp only [r]; rfl
    rw [e]
    exact kitAny_cons R.kL (fun _ => kitAny_cons R.kT (fun _ => rfl) (fun z => nomatch z)) (fun z => nomatch z)
  | @lst d a xs ts h1 h0 h2 h3 =>
    refine ⟨_, .base (.lst h1), kit_ty (r := false) (by decide +kernel), kit_ty (r := false) (by decide +kernel), ?_⟩
    have e : (itemsOf H (.ref a)).isSome = true := by unfold itemsOf; simp only [h1]; rfl
    rw [e]
    exact kit_lt.1
  | @tup d a xs ts h1 h0 h2 h3 =>
    refine ⟨_, .base (.tup h1), kit_ty (r := false) (by decide +kernel), kit_ty (r := false) (by decide +kernel), ?_⟩
    have e : (itemsOf H (.ref a)).isSome = true := by unfold itemsOf; simp only [h1]; rfl
    rw [e]
    exact kit_lt.2
  | @dct d a ds h1 h0 h2 =>
    refine ⟨_, .base (.dK h1), kit_ty (r := false) (by decide +kernel), kit_ty (r := false) (by decide +kernel), ?_⟩
    have e : (itemsOf H (.ref a)).isSome = false := by unfold itemsOf; simp only [h1]; rfl
    rw [e]
    exact kit_seqs (by decide +kernel) (by decide +kernel)
end
end Fp

namespace K21
/-! ### ways of a number by counts -/
def dot : List Int → List Int → Int
  | x :: w, c :: cs => x * c + dot w cs
  | _, _ => 0
def IsWay (cs : List Int) (n : Int) (w : List Int) : Prop := w.length = cs.length ∧ (∀ x ∈ w, 0 ≤ x) ∧ dot w cs = n
def waysL : List Int → Int → List (List Int)
  | [], n => if n = 0 then [[]] else []
  | c :: cs, n => (List.range (n / c + 1).toNat).flatMap fun k : Nat => (waysL cs (n - (k : Int) * c)).map fun r => (k : Int) :: r
theorem waysL_cons (c : Int) (cs : List Int) (n : Int) : waysL (c :: cs) n = (List.range (n / c + 1).toNat).flatMap fun k : Nat => (waysL cs (n - (k : Int) * c)).map fun r => (k : Int) :: r := by rw [waysL]
theorem dot_nonneg : ∀ {cs w : List Int}, Pos cs → (∀ x ∈ w, 0 ≤ x) → 0 ≤ dot w cs
  | [], [], _, _ => Int.le_refl 0
  | [], _ :: _, _, _ => Int.le_refl 0
  | _ :: _, [], _, _ => Int.le_refl 0
  | c :: cs, x :: w, hp, hw => by
    have h1 := dot_nonneg (cs := cs) (w := w) (fun d hd => hp d (List.mem_cons_of_mem _ hd)) fun y hy => hw y (List.mem_cons_of_mem _ hy)
    have h2 := Int.mul_nonneg (hw x List.mem_cons_self) (Int.le_of_lt (hp c List.mem_cons_self))
    show 0 ≤ x * c + dot w cs
    omega
theorem mem_waysL : ∀ {cs : List Int} {n : Int} {w : List Int}, Pos cs → (w ∈ waysL cs n ↔ IsWay cs n w)
  | [], n, w, _ => by
    unfold waysL IsWay
    constructor
    · intro h
      by_cases e : n = 0
      · rw [if_pos e, List.mem_singleton] at h
        subst h
        exact ⟨rfl, by simp, e.symm⟩
      · rw [if_neg e] at h; cases h
    · rintro ⟨h1, _, h3⟩
      obtain rfl := List.length_eq_zero_iff.mp h1
      rw [show n = 0 from h3.symm, if_pos rfl]; simp
  | c :: cs, n, w, hp => by
    have hp2 : Pos cs := fun d hd => hp d (List.mem_cons_of_mem _ hd)
    have hc := hp c List.mem_cons_self
    unfold waysL
    rw [List.mem_flatMap]
    constructor
    · rintro ⟨k, hk, h⟩
      obtain ⟨r, hr, rfl⟩ := List.mem_map.mp h
      obtain ⟨h1, h2, h3⟩ := (mem_waysL hp2).mp hr
      refine ⟨by rw [List.length_cons, List.length_cons, h1], fun x hx => ?_, ?_⟩
      · rcases List.mem_cons.mp hx with e | e
        · rw [e]; omega
        · exact h2 x e
      · show (k : Int) * c + dot r cs = n
        omega
    · rintro ⟨h1, h2, h3⟩
      match w, h1 with
      | x :: r, h1 =>
        have hx := h2 x List.mem_cons_self
        have hr := dot_nonneg hp2 fun y hy => h2 y (List.mem_cons_of_mem _ hy)
        have h3' : x * c + dot r cs = n := h3
        have hle : x ≤ n / c := (Int.le_ediv_iff_mul_le hc).mpr (by omega)
        refine ⟨x.toNat, List.mem_range.mpr (by omega), List.mem_map.mpr ⟨r, (mem_waysL hp2).mpr ⟨by simpa using h1, fun y hy => h2 y (List.mem_cons_of_mem _ hy), ?_⟩, ?_⟩⟩
        · rw [Int.toNat_of_nonneg hx]; omega
        · rw [Int.toNat_of_nonneg hx]
theorem rch_of_way : ∀ {cs : List Int} {n : Int} {w : List Int}, IsWay cs n w → Rch (· ∈ cs) n
  | [], n, w, ⟨h1, _, h3⟩ => by
    obtain rfl := List.length_eq_zero_iff.mp h1
    rw [← h3]; exact .zero
  | c :: cs, n, [], ⟨h1, _, _⟩ => by cases h1
  | c :: cs, n, x :: w, ⟨h1, h2, h3⟩ => by
    have r := rch_of_way (cs := cs) (n := dot w cs) ⟨by simpa using h1, fun y hy => h2 y (List.mem_cons_of_mem _ hy), rfl⟩
    have hx := h2 x List.mem_cons_self
    have m : ∀ k : Nat, Rch (· ∈ c :: cs) ((k : Int) * c) := by
      intro k
      induction k with
      | zero => simp; exact .zero
      | succ k ih =>
        have := Rch.step (P := (· ∈ c :: cs)) (c := c) List.mem_cons_self ih
        rw [show ((k + 1 : Nat) : Int) * c = (k : Int) * c + c by rw [Int.natCast_add, Int.add_mul]; simp]
        exact this
    have q := m x.toNat
    rw [Int.toNat_of_nonneg hx] at q
    rw [← h3]
    exact q.add (r.mono fun d hd => List.mem_cons_of_mem _ hd)
theorem way_of_rch {cs : List Int} (hp : Pos cs) {n : Int} (r : Rch (· ∈ cs) n) : ∃ w, IsWay cs n w := by
  have put : ∀ (cs w : List Int) (c : Int), c ∈ cs → w.length = cs.length → (∀ x ∈ w, 0 ≤ x) → ∃ v, IsWay cs (dot w cs + c) v := by
    intro cs
    induction cs with
    | nil => intro w c hc; cases hc
    | cons d cs ih =>
      intro w c hc hl hw
      match w, hl with
      | x :: w, hl =>
        have hw2 : ∀ y ∈ w, 0 ≤ y := fun y hy => hw y (List.mem_cons_of_mem _ hy)
        by_cases e : c = d
        · subst e
          refine ⟨(x + 1) :: w, by simpa using hl, fun y hy => ?_, ?_⟩
          · rcases List.mem_cons.mp hy with e | e
            · have := hw x List.mem_cons_self; omega
            · exact hw2 y e
          · show (x + 1) * c + dot w cs = x * c + dot w cs + c
            rw [Int.add_mul]; omega
        · obtain ⟨v, v1, v2, v3⟩ := ih w c ((List.mem_cons.mp hc).resolve_left e) (by simpa using hl) hw2
          refine ⟨x :: v, by simpa using v1, fun y hy => ?_, ?_⟩
          · rcases List.mem_cons.mp hy with e | e
            · rw [e]; exact hw x List.mem_cons_self
            · exact v2 y e
          · show x * d + dot v cs = x * d + dot w cs + c
            omega
  induction r with
  | zero =>
    refine ⟨cs.map fun _ => 0, by simp, by simp, ?_⟩
    clear hp put
    induction cs with
    | nil => rfl
    | cons c cs ih => show 0 * c + dot (cs.map fun _ => 0) cs = 0; rw [ih]; omega
  | step hc _ ih =>
    obtain ⟨w, w1, w2, w3⟩ := ih
    rw [← w3]
    exact put cs w _ hc w1 w2
theorem waysL_nil_iff {cs : List Int} (hp : Pos cs) {n : Int} : waysL cs n = [] ↔ mb cs n = false := by
  rw [mb_false]
  constructor
  · intro h r
    obtain ⟨w, hw⟩ := way_of_rch hp r
    have := (mem_waysL hp).mpr hw
    rw [h] at this; cases this
  · intro h
    cases e : waysL cs n with
    | nil => rfl
    | cons w r => exact absurd (rch_of_way ((mem_waysL hp).mp (by rw [e]; exact List.mem_cons_self))) h
theorem waysL_none {cs : List Int} (hp : Pos cs) {n : Int} (h : mb cs n = false) : waysL cs n = [] := (waysL_nil_iff hp).mpr h
theorem waysL_some {cs : List Int} (hp : Pos cs) {n : Int} (h : mb cs n = true) : waysL cs n ≠ [] := fun z => by rw [(waysL_nil_iff hp).mp z] at h; cases h
theorem mb_nil {n : Int} : mb [] n = decide (n = 0) := by
  by_cases e : n = 0
  · subst e; rw [mb_zero]; rfl
  · rw [decide_eq_false e, mb_false]
    intro r
    cases r with
    | zero => exact e rfl
    | step h _ => cases h
/-! ### they stand sorted -/
theorem waysL_sorted : ∀ {cs : List Int} {n : Int}, (waysL cs n).Pairwise (· < ·)
  | [], n => by
    unfold waysL
    split
    · exact List.pairwise_singleton _ _
    · exact List.Pairwise.nil
  | c :: cs, n => by
    unfold waysL
    rw [List.pairwise_flatMap]
    constructor
    · intro k _
      rw [List.pairwise_map]
      exact (waysL_sorted (cs := cs)).imp fun {a b} h => List.Lex.cons h
    · refine List.pairwise_lt_range.imp fun {i j} hij => ?_
      intro x hx y hy
      obtain ⟨a, _, rfl⟩ := List.mem_map.mp hx
      obtain ⟨b, _, rfl⟩ := List.mem_map.mp hy
      exact List.Lex.rel (by omega)
/-! ### the program's own list: begun ones and what is left -/
noncomputable def fits (c : Int) (rest : List Int) (l : Int) : List Int := ((List.range (l / c + 1).toNat).filter fun k : Nat => mb rest (l - (k : Int) * c)).map fun k : Nat => (k : Int)
noncomputable def bstep (c : Int) (rest : List Int) (B : List (List Int × Int)) : List (List Int × Int) := B.flatMap fun p => (fits c rest p.2).map fun k => (p.1 ++ [k], p.2 - k * c)
noncomputable def bfold : List Int → List (List Int × Int) → List (List Int × Int)
  | [], B => B
  | c :: cs, B => bfold cs (bstep c cs B)
theorem flatMap_filter {α β : Type} (p : α → Bool) (f : α → List β) : ∀ l : List α, (∀ x ∈ l, p x = false → f x = []) → (l.filter p).flatMap f = l.flatMap f
  | [], _ => rfl
  | x :: l, h => by
    have ih := flatMap_filter p f l fun y hy => h y (List.mem_cons_of_mem _ hy)
    rw [List.flatMap_cons]
    cases e : p x with
    | true => rw [List.filter_cons_of_pos e, List.flatMap_cons, ih]
    | false => rw [List.filter_cons_of_neg (by rw [e]; exact Bool.false_ne_true), ih, h x List.mem_cons_self e]; rfl
theorem bstep_ways {c : Int} {cs : List Int} (hp : Pos (c :: cs)) (B : List (List Int × Int)) :
    (bstep c cs B).flatMap (fun p => (waysL cs p.2).map fun v => (p.1 ++ v, (0 : Int))) = B.flatMap fun p => (waysL (c :: cs) p.2).map fun v => (p.1 ++ v, (0 : Int)) := by
  have hp2 : Pos cs := fun d hd => hp d (List.mem_cons_of_mem _ hd)
  unfold bstep fits
  rw [List.flatMap_assoc]
  congr 1
  funext p
  rw [List.map_map, List.flatMap_map, flatMap_filter]
  · rw [waysL_cons, List.map_flatMap]
    congr 1
    funext k
    rw [List.map_map]
    refine List.map_congr_left fun v _ => ?_
    show (p.1 ++ [(k : Int)] ++ v, (0 : Int)) = (p.1 ++ (k : Int) :: v, 0)
    rw [List.append_assoc]; rfl
  · intro k _ h
    show (waysL cs (p.2 - (k : Int) * c)).map _ = []
    rw [waysL_none hp2 h]; rfl
theorem bstep_met {c : Int} {cs : List Int} {B : List (List Int × Int)} : ∀ p ∈ bstep c cs B, mb cs p.2 = true := by
  intro p h
  unfold bstep fits at h
  obtain ⟨q, _, h⟩ := List.mem_flatMap.mp h
  obtain ⟨k, hk, rfl⟩ := List.mem_map.mp h
  obtain ⟨j, hj, rfl⟩ := List.mem_map.mp hk
  exact (List.mem_filter.mp hj).2
theorem bfold_met : ∀ {cs : List Int} {B : List (List Int × Int)}, Pos cs → (∀ p ∈ B, mb cs p.2 = true) → bfold cs B = B.flatMap fun p => (waysL cs p.2).map fun v => (p.1 ++ v, (0 : Int))
  | [], B, _, h => by
    unfold bfold
    have e : ∀ L : List (List Int × Int), (∀ p ∈ L, mb [] p.2 = true) → L = L.flatMap fun p => (waysL [] p.2).map fun v => (p.1 ++ v, (0 : Int)) := by
      intro L
      induction L with
      | nil => intro _; rfl
      | cons p L ih =>
        intro h
        have q := h p List.mem_cons_self
        rw [mb_nil, decide_eq_true_eq] at q
        rw [List.flatMap_cons, ← ih fun r hr => h r (List.mem_cons_of_mem _ hr)]
        unfold waysL
        rw [if_pos q]
        show p :: L = [(p.1 ++ [], (0 : Int))] ++ L
        rw [List.append_nil, ← q]; rfl
    exact e B h
  | c :: cs, B, hp, _ => by
    unfold bfold
    rw [bfold_met (fun d hd => hp d (List.mem_cons_of_mem _ hd)) bstep_met, bstep_ways hp]
theorem bfold_all {c : Int} {cs : List Int} (hp : Pos (c :: cs)) (B : List (List Int × Int)) : bfold (c :: cs) B = B.flatMap fun p => (waysL (c :: cs) p.2).map fun v => (p.1 ++ v, (0 : Int)) := by
  unfold bfold
  rw [bfold_met (fun d hd => hp d (List.mem_cons_of_mem _ hd)) bstep_met, bstep_ways hp]
theorem bfold_start {cs : List Int} (hp : Pos cs) (h1 : 1 ≤ cs.length) (n : Int) : (bfold cs [([], n)]).map Prod.fst = waysL cs n := by
  match cs, h1 with
  | c :: cs, _ =>
    rw [bfold_all hp]
    simp [List.map_map, Function.comp_def]
theorem bfold_len : ∀ {cs : List Int} {B : List (List Int × Int)}, Pos cs → (∀ p ∈ B, mb cs p.2 = true) → B.length ≤ (bfold cs B).length := by
  intro cs B hp h
  rw [bfold_met hp h]
  induction B with
  | nil => simp
  | cons p B ih =>
    rw [List.flatMap_cons, List.length_append, List.length_cons]
    have h1 := ih fun q hq => h q (List.mem_cons_of_mem _ hq)
    have h2 : 1 ≤ ((waysL cs p.2).map fun v => (p.1 ++ v, (0 : Int))).length := by
      rw [List.length_map]
      exact List.length_pos_iff.mpr (waysL_some hp (h p List.mem_cons_self))
    omega
/-! ### the last way -/
theorem last_flat {α β : Type} (f : Nat → List β) : ∀ n : Nat, ((List.range n).flatMap f).getLast? = (((List.range n).filter fun k => !(f k).isEmpty).getLast?).bind fun k => (f k).getLast?
  | 0 => rfl
  | n + 1 => by
    rw [List.range_succ, List.flatMap_append, List.filter_append, List.flatMap_cons, List.flatMap_nil, List.append_nil, List.getLast?_append, List.getLast?_append]
    cases e : f n with
    | nil =>
      have e3 : List.filter (fun k => !(f k).isEmpty) [n] = [] := by simp [e]
      rw [e3]
      simpa using last_flat (α := α) f n
    | cons x r =>
      have e3 : List.filter (fun k => !(f k).isEmpty) [n] = [n] := by simp [e]
      rw [e3]
      simp only [List.getLast?_singleton, Option.some_or, Option.bind_some, e]
      cases z : (x :: r).getLast? with
      | none => rw [List.getLast?_eq_none_iff] at z; cases z
      | some y => rfl
theorem fits_last {c : Int} {cs : List Int} (hp : Pos (c :: cs)) (n : Int) : (waysL (c :: cs) n).getLast? = ((fits c cs n).getLast?).bind fun k => ((waysL cs (n - k * c)).getLast?).map fun r => k :: r := by
  have hp2 : Pos cs := fun d hd => hp d (List.mem_cons_of_mem _ hd)
  rw [waysL_cons, last_flat (α := Nat)]
  unfold fits
  have e : (fun k : Nat => !((waysL cs (n - (k : Int) * c)).map fun r => (k : Int) :: r).isEmpty) = fun k : Nat => mb cs (n - (k : Int) * c) := by
    funext k
    cases q : mb cs (n - (k : Int) * c) with
    | false => rw [waysL_none hp2 q]; rfl
    | true =>
      have := waysL_some hp2 q
      cases z : waysL cs (n - (k : Int) * c) with
      | nil => exact absurd z this
      | cons _ _ => rfl
  rw [e, List.getLast?_map]
  cases ((List.range (n / c + 1).toNat).filter fun k : Nat => mb cs (n - (k : Int) * c)).getLast? with
  | none => rfl
  | some k => simp [List.getLast?_map]
theorem fits_nil {c : Int} {cs : List Int} (hp : Pos (c :: cs)) {n : Int} (h : fits c cs n = []) : (waysL (c :: cs) n).getLast? = none := by
  rw [fits_last hp, h]; rfl
theorem fits_mem {c : Int} {cs : List Int} {n k : Int} (hc : 0 < c) (h : k ∈ fits c cs n) : 0 ≤ k ∧ 0 ≤ n - k * c ∧ mb cs (n - k * c) = true := by
  obtain ⟨j, hj, rfl⟩ := List.mem_map.mp h
  obtain ⟨h1, h2⟩ := List.mem_filter.mp hj
  have h3 := List.mem_range.mp h1
  have h4 : (j : Int) ≤ n / c := by omega
  have h5 := (Int.le_ediv_iff_mul_le hc).mp h4
  exact ⟨by omega, by omega, h2⟩
theorem fits_len (c : Int) (cs : List Int) (n : Int) : (fits c cs n).length ≤ (n / c + 1).toNat := by
  unfold fits
  rw [List.length_map]
  have := List.length_filter_le (fun k : Nat => mb cs (n - (k : Int) * c)) (List.range (n / c + 1).toNat)
  rwa [List.length_range] at this
/-! ### how many -/
def wl (cs : List Int) (n : Int) : Nat := (waysL cs n).length
theorem wl_nil (n : Int) : wl [] n = if n = 0 then 1 else 0 := by
  unfold wl waysL
  split <;> rfl
theorem wl_cons {c : Int} (hc : 0 < c) (cs : List Int) {n : Int} (hn : 0 ≤ n) : wl (c :: cs) n = wl cs n + if c ≤ n then wl (c :: cs) (n - c) else 0 := by
  unfold wl
  rw [waysL_cons, show (n / c + 1).toNat = (n / c).toNat + 1 by have := Int.ediv_nonneg hn (Int.le_of_lt hc); omega, List.range_succ_eq_map, List.flatMap_cons, List.length_append, List.length_map]
  congr 1
  · simp
  · rw [List.flatMap_map]
    by_cases e : c ≤ n
    · rw [if_pos e, waysL_cons, List.length_flatMap, List.length_flatMap]
      have d : (n - c) / c + 1 = n / c := by
        have q : n = (n - c) + 1 * c := by omega
        have z : n / c = (n - c) / c + 1 := by
          conv => lhs; rw [q]
          rw [Int.add_mul_ediv_right _ _ (by omega)]
        omega
      rw [d]
      congr 1
      refine List.map_congr_left fun k _ => ?_
      rw [List.length_map, List.length_map]
      congr 2
      show n - ((Nat.succ k : Nat) : Int) * c = n - c - (k : Int) * c
      rw [show ((Nat.succ k : Nat) : Int) = (k : Int) + 1 by omega, Int.add_mul]; omega
    · rw [if_neg e, Int.ediv_eq_zero_of_lt hn (by omega)]; rfl
theorem wl_snoc : ∀ (cs : List Int) {c : Int}, Pos cs → 0 < c → ∀ (m : Nat) (n : Int), n.toNat ≤ m → 0 ≤ n → wl (cs ++ [c]) n = wl cs n + if c ≤ n then wl (cs ++ [c]) (n - c) else 0
  | [], c, _, hc, m, n, _, hn => by
    rw [List.nil_append, wl_cons hc [] hn]
  | d :: cs, c, hp, hc, 0, n, hm, hn => by
    have hd := hp d List.mem_cons_self
    have ih := wl_snoc cs (fun d hd => hp d (List.mem_cons_of_mem _ hd)) hc 0 n hm hn
    rw [List.cons_append, wl_cons hd _ hn, wl_cons hd _ hn, ih, if_neg (show ¬ c ≤ n by omega), if_neg (show ¬ c ≤ n by omega), if_neg (show ¬ d ≤ n by omega)]
    rw [if_neg (show ¬ d ≤ n by omega)]
  | d :: cs, c, hp, hc, m + 1, n, hm, hn => by
    have hd := hp d List.mem_cons_self
    have hp2 : Pos cs := fun d hd => hp d (List.mem_cons_of_mem _ hd)
    have ih := wl_snoc cs hp2 hc (m + 1) n hm hn
    rw [List.cons_append, wl_cons hd _ hn, wl_cons hd _ hn, ih]
    by_cases h1 : d ≤ n
    · have ih1 := wl_snoc (d :: cs) hp hc m (n - d) (by omega) (by omega)
      rw [List.cons_append] at ih1
      rw [if_pos h1, if_pos h1, ih1]
      by_cases h2 : c ≤ n
      · rw [if_pos h2, if_pos h2, wl_cons hd (cs ++ [c]) (n := n - c) (by omega)]
        by_cases h3 : c ≤ n - d
        · rw [if_pos h3, if_pos (show d ≤ n - c by omega), show n - d - c = n - c - d by omega]; omega
        · rw [if_neg h3, if_neg (show ¬ d ≤ n - c by omega)]; omega
      · rw [if_neg h2, if_neg h2, if_neg (by omega)]; omega
    · rw [if_neg h1, if_neg h1]
      by_cases h2 : c ≤ n
      · rw [if_pos h2, if_pos h2, wl_cons hd (cs ++ [c]) (n := n - c) (by omega), if_neg (show ¬ d ≤ n - c by omega)]; omega
      · rw [if_neg h2, if_neg h2]
/-- a bound by how many counts and how often the least one fits -/
def wT : Nat → Nat → Nat
  | 0 => fun _ => 1
  | k + 1 => fun q => Nat.rec (wT k 0) (fun r z => wT k (r + 1) + z) q
theorem wT_mono : ∀ (k q r : Nat), q ≤ r → wT k q ≤ wT k r
  | 0, _, _, _ => Nat.le_refl 1
  | k + 1, q, 0, h => by obtain rfl : q = 0 := by omega
                         exact Nat.le_refl _
  | k + 1, q, r + 1, h => by
    rcases Nat.lt_or_ge q (r + 1) with z | z
    · have := wT_mono (k + 1) q r (by omega)
      show wT (k + 1) q ≤ wT k (r + 1) + wT (k + 1) r
      omega
    · obtain rfl : q = r + 1 := by omega
      exact Nat.le_refl _
theorem wl_one {c : Int} (hc : 0 < c) : ∀ (m : Nat) (n : Int), n.toNat ≤ m → 0 ≤ n → wl [c] n ≤ 1
  | 0, n, hm, hn => by rw [wl_cons hc _ hn, wl_nil, if_neg (show ¬ c ≤ n by omega)]; split <;> omega
  | m + 1, n, hm, hn => by
    rw [wl_cons hc _ hn, wl_nil]
    by_cases h : c ≤ n
    · rw [if_pos h, if_neg (by omega)]
      have := wl_one hc m (n - c) (by omega) (by omega)
      omega
    · rw [if_neg h]; split <;> omega
theorem wl_le {a : Int} (ha : 0 < a) : ∀ (cs : List Int), (∀ c ∈ cs, a ≤ c) → ∀ (d : Int), a ≤ d → ∀ (q : Nat) (n : Int), 0 ≤ n → n < a * ((q : Int) + 1) → wl (d :: cs) n ≤ wT cs.length q
  | [], _, d, hd, q, n, hn, _ => wl_one (by omega) n.toNat n (Nat.le_refl _) hn
  | c :: cs, hc, d, hd, q, n, hn, hq => by
    have ih := wl_le ha cs (fun x hx => hc x (List.mem_cons_of_mem _ hx)) c (hc c List.mem_cons_self)
    rw [wl_cons (by omega) _ hn]
    have h1 := ih q n hn hq
    by_cases h : d ≤ n
    · rw [if_pos h]
      match q, hq, h1 with
      | 0, hq, h1 => simp at hq; omega
      | q + 1, hq, h1 =>
        have e : a * (((q + 1 : Nat) : Int) + 1) = a * ((q : Int) + 1) + a := by rw [show ((q + 1 : Nat) : Int) + 1 = ((q : Int) + 1) + 1 by omega, Int.mul_add]; omega
        have h2 := wl_le ha (c :: cs) hc d hd q (n - d) (by omega) (by omega)
        show _ ≤ wT (cs.length) (q + 1) + wT (cs.length + 1) q
        have h2' : wl (d :: c :: cs) (n - d) ≤ wT (cs.length + 1) q := h2
        omega
    · rw [if_neg h]
      match q, h1 with
      | 0, h1 => exact h1
      | q + 1, h1 =>
        rw [Nat.add_zero]
        show _ ≤ wT (cs.length) (q + 1) + wT (cs.length + 1) q
        omega
termination_by cs _ _ _ q => (cs.length, q)
end K21

namespace K21
open Fp PySem PySem.W
theorem leH_rows : (leH : List Int → List Int → Bool) = fun p q => decide (p ≤ q) := dataLe_rows (fun b : List Int => b)
theorem dot_app : ∀ {w cs : List Int} (v ds : List Int), w.length = cs.length → dot (w ++ v) (cs ++ ds) = dot w cs + dot v ds
  | [], [], v, ds, _ => by show dot v ds = 0 + dot v ds; omega
  | [], _ :: _, _, _, h => by cases h
  | _ :: _, [], _, _, h => by cases h
  | x :: w, c :: cs, v, ds, h => by
    have ih := dot_app (w := w) (cs := cs) v ds (by simpa using h)
    show x * c + dot (w ++ v) (cs ++ ds) = x * c + dot w cs + dot v ds
    omega
theorem dot_rev : ∀ {w cs : List Int}, w.length = cs.length → dot w.reverse cs.reverse = dot w cs
  | [], [], _ => rfl
  | [], _ :: _, h => by cases h
  | _ :: _, [], h => by cases h
  | x :: w, c :: cs, h => by
    have ih := dot_rev (w := w) (cs := cs) (by simpa using h)
    rw [List.reverse_cons, List.reverse_cons, dot_app _ _ (by simpa using h), ih]
    show dot w cs + (x * c + 0) = x * c + dot w cs
    omega
theorem isWay_rev {cs w : List Int} {n : Int} : IsWay cs.reverse n w.reverse ↔ IsWay cs n w := by
  unfold IsWay
  rw [List.length_reverse, List.length_reverse]
  constructor
  · rintro ⟨a, b, c⟩
    exact ⟨a, fun x hx => b x (List.mem_reverse.mpr hx), by rw [dot_rev a] at c; exact c⟩
  · rintro ⟨a, b, c⟩
    exact ⟨a, fun x hx => b x (List.mem_reverse.mp hx), by rw [dot_rev a]; exact c⟩
theorem nodup_lt {L : List (List Int)} (hL : L.Pairwise (· < ·)) : L.Nodup := List.Pairwise.imp (S := fun a b => a ≠ b) (fun {a b} q e => by rw [e] at q; exact List.lt_irrefl b q) hL
/-- two lists of lists without doubles, sorted, with the same members -/
theorem sort_eq {L M : List (List Int)} (hL : L.Pairwise (· < ·)) (hM : M.Nodup) (h : ∀ w, w ∈ M ↔ w ∈ L) : M.mergeSort leH = L := by
  rw [leH_rows]
  have nd : L.Nodup := nodup_lt hL
  have pm : (M.mergeSort fun p q => decide (p ≤ q)).Perm L := (List.mergeSort_perm M _).trans ((List.perm_ext_iff_of_nodup hM nd).mpr h)
  refine List.Perm.eq_of_pairwise (le := fun p q : List Int => p ≤ q) (fun a b _ _ h1 h2 => List.le_antisymm h1 h2) ?_ (hL.imp fun {a b} q => List.le_of_lt q) pm
  have := List.pairwise_mergeSort (le := fun p q : List Int => decide (p ≤ q)) (fun a b c h1 h2 => ?_) (fun a b => ?_) M
  · exact this.imp fun {a b} q => of_decide_eq_true q
  · exact decide_eq_true (List.le_trans (of_decide_eq_true h1) (of_decide_eq_true h2))
  · rcases List.le_total a b with z | z
    · rw [decide_eq_true z]; rfl
    · rw [decide_eq_true z, Bool.or_true]
theorem nodup_map {α β : Type} {f : α → β} (hf : ∀ a b, f a = f b → a = b) {l : List α} (h : l.Nodup) : (l.map f).Nodup := List.pairwise_map.mpr (h.imp fun {a b} n e => n (hf a b e))
theorem ways_rev {cs : List Int} (hp : Pos cs) (n : Int) : ((waysL cs n).map List.reverse).mergeSort leH = waysL cs.reverse n := by
  refine sort_eq waysL_sorted (nodup_map (fun a b e => List.reverse_inj.mp e) (nodup_lt waysL_sorted)) fun w => ?_
  rw [mem_waysL (fun c hc => hp c (List.mem_reverse.mp hc)), List.mem_map]
  constructor
  · rintro ⟨v, hv, rfl⟩
    exact isWay_rev.mpr ((mem_waysL hp).mp hv)
  · intro h
    refine ⟨w.reverse, (mem_waysL hp).mpr (isWay_rev.mp (by rw [List.reverse_reverse]; exact h)), List.reverse_reverse w⟩
theorem wl_small {cs : List Int} {a n : Int} (ha : 0 < a) (hm : ∀ c ∈ cs, a ≤ c) (h1 : 1 ≤ cs.length) (h2 : cs.length ≤ 4) (h0 : 0 ≤ n) (hn : n ≤ 10 * a) : (waysL cs n).length ≤ 400 := by
  match cs, h1 with
  | d :: cs, _ =>
    have := wl_le ha cs (fun x hx => hm x (List.mem_cons_of_mem _ hx)) d (hm d List.mem_cons_self) 10 n h0 (by omega)
    have t : wT cs.length 10 ≤ 286 := by
      have hl : cs.length ≤ 3 := by simpa using h2
      generalize cs.length = l at hl
      have : l = 0 ∨ l = 1 ∨ l = 2 ∨ l = 3 := by omega
      rcases this with e | e | e | e <;> rw [e] <;> decide
    unfold wl at this
    omega
end K21

namespace K21
open PySem PySem.Spec PyProof.Rows L2 Fp
/-- further names of the module -/
structure Mg2 (mg : Str → Option Value) : Prop extends Mg mg where
  zip : mg "zip" = none
  min : mg "min" = none
  sum : mg "sum" = none
  str : mg "str" = none
  MOST_MANY : ∃ t, mg "MOST_MANY" = some (.int 200 t)
section
variable {P : Program} {w : World} {K : PySem.W.Frag} {mg : Str → Option Value} {base : Heap} {k : Nat}
theorem Pos.drop {cs : List Int} (h : Pos cs) (n : Nat) : Pos (cs.drop n) := fun c hc => h c (List.mem_of_mem_drop hc)
/-! ### following -/
noncomputable def follow (cs : List Int) (m : Int) : List (List Bool) := (List.range cs.length).map fun i => tb (cs.drop (i + 1)) (m.toNat + 1)
/-- a new table -/
def Rt (H0 H : Hp) (v : V) (t : List Bool) : Prop := ∃ b, v = .ref b ∧ H0 b = none ∧ H b = some (.lst (t.map V.bl))
theorem Rt.same {H0 H H' : Hp} {v : V} {t : List Bool} (e : Same H H') (h : Rt H0 H v t) : Rt H0 H' v t := let ⟨b, a, c, d⟩ := h; ⟨b, a, c, e _ _ d⟩
def sp_following (K : PySem.W.Frag) : Sp := fun vs H Q _ => ∃ (a : Addr) (cs : List Int) (m : Int), vs = [.ref a, .int m] ∧ Sq K H a (VI cs) ∧ Pos cs ∧ cs.length ≤ 8 ∧ 0 ≤ m ∧ m ≤ 900 ∧
  ∀ p H' xs, Same H H' → H p = none → H' p = some (.lst xs) → A2 (Rt H H') xs (follow cs m) → Q (.ref p) H'
theorem range_snoc {α : Type} (f : Nat → α) (i : Nat) : (List.range (i + 1)).map f = (List.range i).map f ++ [f i] := by rw [List.range_succ, List.map_append]; rfl
-- slots: counts 0, many 1, at 2; cells: counts many
abbrev s_following : Stmt := top 23
abbrev N_following : List Str := ["counts", "many", "at"]
theorem sc_following : FnScope N_following ["counts", "many"] (defScope s_following) := ⟨rfl, rfl, rfl, by decide +kernel, rfl, by decide +kernel, by decide +kernel⟩
theorem d_following (B : Bnd K mg "following" s_following) (M : Mg2 mg) (D_met_table : Def P w K mg base k "met_table" sTable ["counts", "many"] (spTable K)) : Def P w K mg base (k + 1) "following" s_following ["counts", "many"] (sp_following K) := by
  refine def_of B sc_following (by rintro _ _ _ _ ⟨a, cs, m, rfl, _⟩; rfl) (fun _ _ _ _ _ _ us hl => match us, hl with | [_, _], _ => rfl) fun f cdv A outer s H vs Q E hr h => ?_
  obtain ⟨a, cs, m, rfl, hS, hp, hl, h0, h1, q⟩ := h
  have hu := hr.units
  refine ⟨_, pss_one (ps_ret (pe_lc (own := [("at", 2)]) (g := (gName 2)) (tt := tYes) (te := (tD _ (tCons (tSl (rSlS K) (tVar 0) _ _) (tCons (tVar 1) tNil)))) rfl sc_following.nd (pi_range1 (by rfl) M.range (pa_cons (pe_callB call_len_seq (by rfl) M.len boot_len (pa_cons (pv 0) pa_nil)) pa_nil)) (blkOk_by (own := [("at", 2)]) (N := N_following) (sc := defScope s_following) (by decide +kernel)) (fun _ _ _ _ _ => pg_name (i := 2) sc_following.nd rfl (.inl rfl)) (fun _ _ _ _ _ => pts_nil) (fun _ _ _ _ _ => pe_d D_met_table hr (by rfl) (pa_cons (pe_slice (r := rSlS K) sl_sq (pv 0) (po_some (pe_op op_add (pv 2) pe_int)) po_none) (pa_cons (pv 1) pa_nil))))), ?_⟩
  have ln := vi_len cs
  refine ⟨_, rfl, a, _, rfl, hS, _, rfl, by omega, by omega, fun D hD => ?_⟩
  refine lc_rel walk_range (fun i acc H' => A2 (Rt H H') acc ((List.range i).map fun i => tb (cs.drop (i + 1)) (m.toNat + 1))) hD (by rw [Int.toNat_natCast, ln]; exact Nat.le_of_lt (small (by omega))) (fun _ _ => trivial) A2.nil (fun i acc A B e r => r.mono fun v b => Rt.same e)
    (fun i x acc Ha Hb hi s1 ha hr y Yc Nc yc nc => ?_) (fun acc H' s1 ha hr => ?_)
  · obtain ⟨rfl, rfl⟩ := y
    refine ⟨rfl, _, rfl, _, rfl, _, _, rfl, rfl, _, rfl, slq (hS.same s1) fun p H2 s2 h2 => ?_⟩
    rw [show (0 : Int) + (i : Int) + 1 = ((i + 1 : Nat) : Int) by omega, cut_from, ← List.map_drop] at h2
    refine ⟨_, rfl, p, cs.drop (i + 1), m, rfl, h2, hp.drop _, by rw [List.length_drop]; omega, h0, h1, fun p2 H3 s3 np hp2 => ?_⟩
    have ne : p2 ≠ D := fun z => by rw [z, s2 _ _ ha] at np; cases np
    refine yc _ _ (s2.trans s3) ?_
    rw [range_snoc]
    exact (hr.mono fun v b => Rt.same (wo_same (s2.trans s3))).snoc ⟨p2, rfl, (s1.trans s2).free np, by rw [wo_ne ne]; exact hp2⟩
  · rw [Int.toNat_natCast, ln] at hr
    exact q D H' acc s1 hD ha (hr.mono fun v b => Rt.same wo_le)
/-! ### a_way -/
/-- None, or a new list of ints -/
def Ow (H H' : Hp) (v : V) (o : Option (List Int)) : Prop := (o = none ∧ v = .non) ∨ ∃ wy b, o = some wy ∧ v = .ref b ∧ H b = none ∧ H' b = some (.lst (VI wy))
def sp_a_way (K : PySem.W.Frag) : Sp := fun vs H Q _ => ∃ (a : Addr) (cs : List Int) (m : Int), vs = [.ref a, .int m] ∧ Sq K H a (VI cs) ∧ Told cs ∧ 0 ≤ m ∧ m ≤ 200 ∧
  ∀ v H', Same H H' → Ow H H' v (waysL cs m).getLast? → Q v H'
theorem fits_fm (c : Int) (rest : List Int) (l : Int) (n : Nat) : ((List.range n).filterMap fun k : Nat => if mb rest (l - (k : Int) * c) = true then some (V.int (k : Int)) else none) = VI (((List.range n).filter fun k : Nat => mb rest (l - (k : Int) * c)).map fun k : Nat => (k : Int)) := by
  induction n with
  | zero => rfl
  | succ n ih =>
    rw [fm_succ, ih, List.range_succ, List.filter_append, List.map_append]
    unfold VI
    rw [List.map_append]
    congr 1
    by_cases e : mb rest (l - (n : Int) * c) = true
    · simp [e]
    · simp [e]
theorem last_ne {α : Type} {l : List α} (h : l ≠ []) : ∃ A x, l = A ++ [x] := by
  rcases List.eq_nil_or_concat l with e | ⟨A, x, e⟩
  · exact absurd e h
  · exact ⟨A, x, by rw [e, List.concat_eq_append]⟩
-- slots: counts 0, many 1, way 2, left 3, one 4, can_follow 5, fitting 6, often 7; cells: can_follow left one
abbrev s_a_way : Stmt := top 21
abbrev N_a_way : List Str := ["counts", "many", "way", "left", "one", "can_follow", "fitting", "often"]
theorem sc_a_way : FnScope N_a_way ["counts", "many"] (defScope s_a_way) := ⟨rfl, rfl, rfl, by decide +kernel, rfl, by decide +kernel, by decide +kernel⟩
theorem d_a_way (B : Bnd K mg "a_way" s_a_way) (M : Mg2 mg) (D_check_many : Def P w K mg base k "check_many" sMany ["many", "least", "most"] spMany) (D_check_counts : Def P w K mg base k "check_counts" sCheck ["counts"] (spCheck K)) (D_following : Def P w K mg base k "following" s_following ["counts", "many"] (sp_following K)) : Def P w K mg base (k + 1) "a_way" s_a_way ["counts", "many"] (sp_a_way K) := by
  refine def_of B sc_a_way (by rintro _ _ _ _ ⟨a, cs, m, rfl, _⟩; rfl) (fun _ _ _ _ _ _ us hl => match us, hl with | [_, _], _ => rfl) fun f cdv A outer s H vs Q E hr h => ?_
  obtain ⟨a, cs, m, rfl, hS, T, h0, h1, q⟩ := h
  have hu := hr.units
  obtain ⟨t_MOST_MANY, m_MOST_MANY⟩ := M.MOST_MANY
  refine ⟨_, pss_cons (ps_expr (pe_d D_check_counts hr (by rfl) (pa_cons (pv 0) pa_nil)))
    (pss_cons (ps_expr (pe_d D_check_many hr (by rfl) (pa_cons (pv 1) (pa_cons pe_int (pa_cons (pe_glob (v := .int 200) (by rfl) m_MOST_MANY ⟨_, rfl⟩) pa_nil)))))
    (pss_cons (ps_asg (pe_tup (pa_cons (pe_lst pa_nil) (pa_cons (pv 1) pa_nil))) (pg_tup rfl (pgs_cons (pg_name (i := 2) sc_a_way.nd rfl (.inl rfl)) (pgs_cons (pg_name (i := 3) sc_a_way.nd rfl (.inr rfl)) pgs_nil))))
    (pss_cons (ps_for PassesOwn.never rfl (pi_zipS (by rfl) M.zip (pa_cons (pv 0) (pa_cons (pe_d D_following hr (by rfl) (pa_cons (pv 0) (pa_cons (pv 1) pa_nil))) pa_nil))) (pg_tup rfl (pgs_cons (pg_name (i := 4) sc_a_way.nd rfl (.inr rfl)) (pgs_cons (pg_name (i := 5) sc_a_way.nd rfl (.inr rfl)) pgs_nil)))
      (pss_cons (ps_setLc (i := 6) (own := [("often", 7)]) (g := (gName 7)) (tt := (tB (tOp (rIxL K) (tVar 5) (tOp _ (tVar 3) (tOp _ (tVar 7) (tVar 4)))))) (te := (tVar 7)) rfl sc_a_way.nd rfl rfl (sw_true rfl rfl rfl (by decide +kernel)) (pi_range1 (by rfl) M.range (pa_cons (pe_op op_add (pe_op op_fdivN (pv 3) (pv 4)) pe_int) pa_nil)) (blkOk_by (own := [("often", 7)]) (N := N_a_way) (sc := defScope s_a_way) (by decide +kernel)) (fun _ _ _ _ _ => pg_name (i := 7) sc_a_way.nd rfl (.inl rfl)) (fun _ _ _ _ _ => pts_one (pt_val (pe_ix (r := rIxL K) ix_list (pv 5) (pe_op op_sub (pv 3) (pe_op op_mul (pv 7) (pv 4))) (fun _ _ => rfl)))) (fun _ _ _ _ _ => pv 7))
      (C8.pss_cut (ps_if (pt_not (pt_truth (pv 6) (by intro _; rfl)))
        (pss_one (ps_ret pe_non))
        (pss_nil))
      (pss_cons (ps_expr (pe_bm PySem.F.plainAttrs_list PySem.F.slot_list_append PySem.F.type_list_append mt_append (pv 2) (pa_cons (pe_ix (r := rIxL K) ix_list (pv 6) (pe_un un_neg pe_int) (fun _ _ => rfl)) pa_nil)))
      (pss_one (ps_set (i := 3) sc_a_way.nd rfl (.inr rfl) (pe_op op_sub (pv 3) (pe_op op_mul (pe_ix (r := rIxL K) ix_list (pv 6) (pe_un un_neg pe_int) (fun _ _ => rfl)) (pv 4)))))))))
    (pss_one (ps_ret (pv 2)))))), ?_⟩
  have t1 := T.lo
  have t2 := T.hi
  refine ⟨_, rfl, a, cs, rfl, hS, T, fun H1 s1 => ?_⟩
  refine ⟨_, rfl, m, 0, 200, rfl, h0, h0, h1, fun H2 s2 => ?_⟩
  have s12 := s1.trans s2
  refine ⟨by show 0 ≤ sizeLine; decide, fun b0 nb0 => ⟨_, rfl, by show 2 ≤ sizeLine; decide, fun t0 nt0 => ⟨t0, _, rfl, SqT.of upd_same, rfl, _, _, rfl, _, _, rfl, rfl, ?_⟩⟩⟩
  have s4 := (same_new (o := .lst []) nb0).trans (same_new (o := .tup [.ref b0, .int m]) nt0)
  have s14 := s12.trans s4
  refine ⟨_, rfl, _, rfl, _, rfl, a, cs, m, rfl, hS.same s14, T.pos, t2, h0, by omega, fun F H6 fs s6 nF hF hfs => ?_⟩
  have s16 := s14.trans s6
  have lf : fs.length = cs.length := by rw [hfs.len]; unfold follow; rw [List.length_map, List.length_range]
  have hW0 : (upd (upd H2 b0 (.lst [])) t0 (.tup [.ref b0, .int m])) b0 = some (.lst []) := by rw [upd_ne (ne_of_none upd_same nt0), upd_same]
  have nW : H b0 = none := s12.free nb0
  have neF : F ≠ b0 := fun z => by rw [z, hW0] at nF; cases nF
  have sW : Same H (wo b0 H6) := same_wo nW s16
  obtain ⟨κ1, k0⟩ := sqk_of hS
  have hF' : wo b0 H6 F = some (.lst fs) := by rw [wo_ne neF]; exact hF
  refine ⟨a, F, VI cs, fs, κ1, false, rfl, k0.same s16, sqk_lst hF, ?_⟩
  have lc := vi_len cs
  have hn : cs.length = min (VI cs).length fs.length := by rw [lc, lf]; omega
  have pos := T.pos
  refine for_it (walk_zipS hn) (fun i σ H' => ∃ (wy : List Int) (l : Int) (y1 y2 y3 : Option V), σ = [some (.ref a), some (.int m), some (.ref b0), some (.int l), y1, y2, y3, none] ∧ Same (wo b0 H6) H' ∧ H' b0 = some (.lst (VI wy)) ∧ wy.length = i ∧ 0 ≤ l ∧ l ≤ m ∧
      (1 ≤ i → mb (cs.drop i) l = true) ∧ (waysL cs m).getLast? = ((waysL (cs.drop i) l).getLast?).map (wy ++ ·)) ⟨[], m, none, none, none, rfl, wo_le, s6 _ _ hW0, rfl, h0, Int.le_refl m, fun z => absurd z (by decide), by simp⟩
    (fun i σ' H' _ ⟨wy, l, y1, y2, y3, e, s7, _⟩ => ⟨k0.same (sW.trans s7), sqk_lst (s7 _ _ hF')⟩)
    (fun i x σ' H' H'' hi ⟨wy, l, y1, y2, y3, e, s7, hw, lw, l0, l1, mt, gl⟩ hy => ?_) (fun σ' H' ⟨wy, l, y1, y2, y3, e, s7, hw, lw, l0, l1, mt, gl⟩ => ?_)
  · subst e
    obtain ⟨Tt, x1, x2, rfl, nT, rfl, hx1, hx2⟩ := hy
    obtain ⟨c, hc, rfl⟩ := vi_at hx1
    obtain ⟨tbl, ht, x2, rfl, nx2, hx3⟩ := hfs.at_ _ _ hx2
    have s8 : Same H' (upd H' Tt (.tup [.int c, .ref x2])) := same_new nT
    have c0 := T.each c (List.mem_of_getElem? hc)
    have ht2 : tbl = tb (cs.drop (i + 1)) (m.toNat + 1) := by
      unfold follow at ht
      rw [List.getElem?_map, List.getElem?_range hi] at ht
      exact (Option.some.inj ht).symm
    subst ht2
    have ne2 : x2 ≠ b0 := fun z => by rw [z, hW0] at nx2; cases nx2
    have hx4 := s8 _ _ (s7 _ _ (show wo b0 H6 x2 = _ by rw [wo_ne ne2]; exact hx3))
    have dr : cs.drop i = c :: cs.drop (i + 1) := by
      rw [← List.getElem_cons_drop (by rw [← lc]; exact (List.getElem?_eq_some_iff.mp hx1).1)]
      congr 1
      exact (List.getElem?_eq_some_iff.mp hc).2
    have hpd : Pos (c :: cs.drop (i + 1)) := by rw [← dr]; exact pos.drop _
    rw [dr] at gl
    have lm : l / c ≤ l := Int.ediv_le_self c l0
    have ld : 0 ≤ l / c := Int.ediv_nonneg l0 (by omega)
    have fd : l.fdiv c = l / c := Int.fdiv_eq_ediv_of_nonneg l (by omega)
    refine ⟨Tt, _, rfl, SqT.of upd_same, rfl, _, _, rfl, _, _, rfl, rfl, ?_⟩
    refine ⟨_, rfl, _, rfl, l, c, rfl, rfl, ⟨by omega, by omega⟩, _, _, rfl, rfl, _, rfl, by rw [fd]; omega, by rw [fd]; omega, fun D hD => ?_⟩
    rw [fd]
    refine lc_rg (fun k : Nat => if mb (cs.drop (i + 1)) (l - (k : Int) * c) = true then some (V.int (k : Int)) else none) hD (by rw [sizeLine_eq]; omega) (fun k Hc hk sc Yc Nc yc nc => ?_) (fun Hc sc hDl => ?_)
    · have hk2 : (k : Int) ≤ l / c := by omega
      have kc := (Int.le_ediv_iff_mul_le (show 0 < c by omega)).mp hk2
      have kz : 0 ≤ (k : Int) * c := Int.mul_nonneg (by omega) (by omega)
      have hat : atI ((tb (cs.drop (i + 1)) (m.toNat + 1)).map V.bl) (l - (k : Int) * c) = some (.bl (mb (cs.drop (i + 1)) (l - (k : Int) * c))) := by
        refine at_of (j := (l - (k : Int) * c).toNat) (by omega) ?_
        rw [List.getElem?_map, tb_at (by omega), Int.toNat_of_nonneg (by omega)]; rfl
      show gName 7 (.int (0 + (k : Int))) _ _ _
      rw [show (0 : Int) + (k : Int) = (k : Int) by omega]
      refine ⟨rfl, _, rfl, _, rfl, _, rfl, _, rfl, _, _, rfl, rfl, .inl ⟨by omega, by omega⟩, _, _, rfl, rfl, x2, _, _, _, rfl, rfl, SqL.of (sc _ _ hx4), hat, _, rfl, ?_⟩
      dsimp only at yc nc
      cases em : mb (cs.drop (i + 1)) (l - (k : Int) * c) with
      | false =>
        rw [if_neg (by rw [em]; exact Bool.false_ne_true)] at nc
        exact iteF (nc Hc (Same.refl _) rfl)
      | true =>
        rw [if_pos em] at yc
        exact iteT ⟨_, rfl, yc _ _ (Same.refl _) rfl⟩
    · have hfit : Hc D = some (.lst (VI (fits c (cs.drop (i + 1)) l))) := by rw [hDl, fits_fm]; rfl
      have s9 := s7.trans (s8.trans sc)
      have hw9 := (s8.trans sc) _ _ hw
      refine ⟨fun σ2 H2' => σ2 = [some (.ref a), some (.int m), some (.ref b0), some (.int l), some (.int c), some (.ref x2), some (.ref D), none] ∧ H2' = Hc ∧ fits c (cs.drop (i + 1)) l ≠ [], ?_, ?_⟩
      · refine ⟨_, rfl, _, .inl ⟨_, SqL.of hfit, rfl⟩, ?_⟩
        by_cases e : fits c (cs.drop (i + 1)) l = []
        · refine iteT2 (by rw [e]; rfl) (q _ _ (sW.trans s9) (.inl ⟨?_, rfl⟩))
          rw [gl, fits_nil hpd e]
          try rfl
        · refine iteF2 (by cases q : fits c (cs.drop (i + 1)) l with | nil => exact absurd q e | cons _ _ => rfl) ⟨rfl, rfl, e⟩
      · rintro σ2 H2' ⟨rfl, rfl, e⟩
        obtain ⟨A, z, ez⟩ := last_ne e
        have fz := fits_mem (show 0 < c by omega) (show z ∈ fits c (cs.drop (i + 1)) l by rw [ez]; simp)
        have hat : atI (VI (fits c (cs.drop (i + 1)) l)) (-1) = some (.int z) := by rw [ez]; unfold VI; rw [List.map_append]; exact atI_last _ _
        have zb : z ≤ 200 := by
          have z1 : z * 1 ≤ z * c := Int.mul_le_mul_of_nonneg_left c0.1 fz.1
          omega
        have zz : 0 ≤ z * c := Int.mul_nonneg fz.1 (by omega)
        have nD : D ≠ b0 := fun q => by rw [q, s8 _ _ hw] at hD; cases hD
        refine ⟨_, rfl, .inl ⟨rfl, _, SqL.of hw9⟩, _, rfl, _, rfl, D, _, _, _, rfl, rfl, SqL.of hfit, hat, b0, _, _, rfl, rfl, hw9, by rw [vi_len, lw, sizeLine_eq]; omega, ?_⟩
        refine ⟨_, rfl, _, rfl, _, rfl, D, _, _, _, rfl, rfl, SqL.of (by rw [upd_ne nD]; exact hfit), hat, _, rfl, z, c, rfl, rfl, .inl ⟨by omega, by omega⟩, _, _, rfl, rfl, ?_⟩
        refine ⟨wy ++ [z], l - z * c, some (.int c), some (.ref x2), some (.ref D), rfl, ?_, ?_, by rw [List.length_append, lw]; rfl, fz.2.1, by omega, fun _ => fz.2.2, ?_⟩
        · intro b o q
          have nb : b ≠ b0 := fun w => by rw [w] at q; unfold wo at q; rw [if_pos rfl] at q; cases q
          rw [upd_ne nb]
          exact s9 _ _ q
        · rw [upd_same]; unfold VI; rw [List.map_append]; rfl
        · rw [gl, fits_last hpd, ez, List.getLast?_append]
          simp only [List.getLast?_singleton, Option.some_or, Option.bind_some, Option.map_map]
          congr 1
          funext r
          simp
  · subst e
    have m1 := mt (by omega)
    rw [List.drop_length, mb_nil, decide_eq_true_eq] at m1
    refine ⟨_, rfl, q _ _ (sW.trans s7) (.inr ⟨wy, b0, ?_, rfl, nW, hw⟩)⟩
    rw [gl, List.drop_length]
    unfold waysL
    rw [if_pos m1]
    simp
end
end K21

namespace K21
open PySem PySem.Spec PyProof.Rows L2 Fp
section
variable {P : Program} {w : World} {K : PySem.W.Frag} {mg : Str → Option Value} {base : Heap} {k : Nat} {C fI fR : Addr}
def prods (w cs : List Int) : List Int := List.zipWith (· * ·) w cs
theorem prods_sum : ∀ (w cs : List Int), (prods w cs).sum = dot w cs
  | [], _ => by simp [prods, dot]
  | _ :: _, [] => by simp [prods, dot]
  | x :: w, c :: cs => by
    show x * c + (prods w cs).sum = x * c + dot w cs
    rw [prods_sum w cs]
theorem prods_at {w cs : List Int} {i : Nat} {x c : Int} (h1 : w[i]? = some x) (h2 : cs[i]? = some c) : (prods w cs)[i]? = some (x * c) := by
  unfold prods
  rw [List.getElem?_zipWith, h1, h2]
def isWayV (H : Hp) (x : V) (cs : List Int) (n : Int) : Bool := match itemsOf H x with
  | none => false
  | some xs => decide (xs.length = cs.length) && (xs.all isCnt && decide (dot (xs.map toZ) cs = n))
theorem fm_idxn {xs : List V} (g : V → V) : ∀ n, n ≤ xs.length → (List.range n).filterMap (fun i => (xs[i]?).map g) = (xs.take n).map g
  | 0, _ => by simp
  | n + 1, h => by
    have hn := List.getElem?_eq_getElem (show n < xs.length by omega)
    rw [fm_succ, fm_idxn g n (by omega), take_one hn, List.map_append, hn]; rfl
theorem fm_idx (xs : List V) (g : V → V := fun v => V.bl (isCnt v)) : (List.range xs.length).filterMap (fun i => (xs[i]?).map g) = xs.map g := by
  rw [fm_idxn g xs.length (Nat.le_refl _), List.take_length]
theorem wayV {H : Hp} {x : V} {cs : List Int} {n : Int} {xs : List V} (e : itemsOf H x = some xs) (l : xs.length = cs.length) (a : xs.all isCnt = true) : isWayV H x cs n = decide (dot (xs.map toZ) cs = n) := by
  unfold isWayV
  rw [e]
  simp [l, a]
def spIntegerX (C : Addr) : Sp := fun vs H Q _ => ∃ x d, vs = [x] ∧ Sk C H d x ∧ Ret H Q (.bl (isI x))
def spCountX (C : Addr) : Sp := fun vs H Q _ => ∃ x d, vs = [x] ∧ Sk C H d x ∧ Ret H Q (.bl (isCnt x))
def spListX (C : Addr) : Sp := fun vs H Q _ => ∃ x d, vs = [x] ∧ Sk C H d x ∧ Ret H Q (.bl (itemsOf H x).isSome)
def sp_is_way (K : PySem.W.Frag) (C : Addr) : Sp := fun vs H Q _ => ∃ (a : Addr) (cs : List Int) (m : Int) (x : V) (d : Nat), vs = [.ref a, .int m, x] ∧ Sq K H a (VI cs) ∧ Told cs ∧ 0 ≤ m ∧ m ≤ 200 ∧ Sk C H d x ∧ Ret H Q (.bl (isWayV H x cs m))
def sp_law_seen (K : PySem.W.Frag) (C : Addr) : Sp := fun vs H Q _ => ∃ (a : Addr) (cs : List Int) (m : Int) (x : V) (d : Nat), vs = [.ref a, .int m, x] ∧ Sq K H a (VI cs) ∧ Told cs ∧ 0 ≤ m ∧ m ≤ 200 ∧ Sk C H d x ∧ Ret H Q (.bl (isWayV H x cs m))
-- slots: value 0; cells: 
abbrev N_is_integer : List Str := ["value"]
theorem sc_is_integer : FnScope N_is_integer ["value"] (defScope sInteger) := ⟨rfl, rfl, rfl, by decide +kernel, rfl, by decide +kernel, by decide +kernel⟩
theorem d_is_integer (B : Bnd K mg "is_integer" sInteger) (M : Mg2 mg) (R : RCls K mg C fI fR)  : Def P w K mg base (k + 1) "is_integer" sInteger ["value"] (spIntegerX C) := by
  refine def_of B sc_is_integer (by rintro _ _ _ _ ⟨x, d, rfl, _⟩; rfl) (fun _ _ _ _ _ _ us hl => match us, hl with | [_], _ => rfl) fun f cdv A outer s H vs Q E hr h => ?_
  obtain ⟨x, d, rfl, hx, q⟩ := h
  have hu := hr.units
  refine ⟨_, pss_one (ps_ret (pe_and (pe_callB call_isi (by rfl) M.isi (by decide +kernel) (pa_cons (pv 0) (pa_cons (pe_bltn (v := .ty "int") (by rfl) M.int (by decide +kernel) rfl) pa_nil))) (pe_one (pe_not (pe_callB call_isi (by rfl) M.isi (by decide +kernel) (pa_cons (pv 0) (pa_cons (pe_bltn (v := .ty "bool") (by rfl) M.bool (by decide +kernel) rfl) pa_nil))))))), ?_⟩
  obtain ⟨ty, t1, t2, t3, _⟩ := hx.kit R
  refine ⟨_, rfl, x, _, ty, _, isI x || isB x, rfl, .ty _, t1, t2, (isI x || isB x), rfl, ?_⟩
  cases e : (isI x || isB x) with
  | false =>
    have e1 : isI x = false := (Bool.or_eq_false_iff.mp e).1
    rw [e1] at q
    exact iteF (q H (Same.refl H))
  | true =>
    refine iteT ⟨_, rfl, x, _, ty, _, isB x, rfl, .ty _, t1, t3, isB x, rfl, ?_⟩
    have e2 : (!isB x) = isI x := by cases x <;> simp_all [isI, isB]
    rw [e2]
    exact q H (Same.refl H)
-- slots: value 0; cells: 
abbrev N_is_count : List Str := ["value"]
theorem sc_is_count : FnScope N_is_count ["value"] (defScope sCount) := ⟨rfl, rfl, rfl, by decide +kernel, rfl, by decide +kernel, by decide +kernel⟩
theorem d_is_count (B : Bnd K mg "is_count" sCount) (M : Mg2 mg) (R : RCls K mg C fI fR) (D_is_integer : Def P w K mg base k "is_integer" sInteger ["value"] (spIntegerX C)) : Def P w K mg base (k + 1) "is_count" sCount ["value"] (spCountX C) := by
  refine def_of B sc_is_count (by rintro _ _ _ _ ⟨x, d, rfl, _⟩; rfl) (fun _ _ _ _ _ _ us hl => match us, hl with | [_], _ => rfl) fun f cdv A outer s H vs Q E hr h => ?_
  obtain ⟨x, d, rfl, hx, q⟩ := h
  have hu := hr.units
  refine ⟨_, pss_one (ps_ret (pe_and (pe_d D_is_integer hr (by rfl) (pa_cons (pv 0) pa_nil)) (pe_one (pe_cmpR op_ge (pv 0) pe_int (nomark _))))), ?_⟩
  refine ⟨_, rfl, x, d, rfl, hx, fun H1 s1 => ⟨isI x, rfl, ?_⟩⟩
  cases x with
  | int i => exact iteT ⟨_, rfl, i, 0, rfl, rfl, q H1 s1⟩
  | _ => exact iteF (q H1 s1)
-- slots: value 0; cells: 
abbrev N_is_list : List Str := ["value"]
theorem sc_is_list : FnScope N_is_list ["value"] (defScope sList) := ⟨rfl, rfl, rfl, by decide +kernel, rfl, by decide +kernel, by decide +kernel⟩
theorem d_is_list (B : Bnd K mg "is_list" sList) (M : Mg2 mg) (R : RCls K mg C fI fR)  : Def P w K mg base (k + 1) "is_list" sList ["value"] (spListX C) := by
  refine def_of B sc_is_list (by rintro _ _ _ _ ⟨x, d, rfl, _⟩; rfl) (fun _ _ _ _ _ _ us hl => match us, hl with | [_], _ => rfl) fun f cdv A outer s H vs Q E hr h => ?_
  obtain ⟨x, d, rfl, hx, q⟩ := h
  have hu := hr.units
  refine ⟨_, pss_one (ps_ret (pe_callB call_isiT (by rfl) M.isi (by decide +kernel) (pa_cons (pv 0) (pa_cons (pe_tup (pa_cons (pe_bltn (v := .ty "list") (by rfl) M.list (by decide +kernel) rfl) (pa_cons (pe_bltn (v := .ty "tuple") (by rfl) M.tuple (by decide +kernel) rfl) pa_nil))) pa_nil)))), ?_⟩
  refine ⟨_, rfl, (by show 2 ≤ sizeLine; decide), fun p np => ?_⟩
  have sp := same_new (o := .tup [V.ty "list", V.ty "tuple"]) np
  obtain ⟨ty, t1, _, _, t4⟩ := (hx.same sp).kit R
  rw [itemsOf_same hx sp] at t4
  exact ⟨x, p, _, ty, _, _, rfl, upd_same, .cons (.ty _) (.cons (.ty _) .nil), t1, t4, q _ sp⟩
-- slots: counts 0, many 1, value 2, often 3, one 4; cells: 
abbrev s_is_way : Stmt := top 22
abbrev N_is_way : List Str := ["counts", "many", "value", "often", "one"]
theorem sc_is_way : FnScope N_is_way ["counts", "many", "value"] (defScope s_is_way) := ⟨rfl, rfl, rfl, by decide +kernel, rfl, by decide +kernel, by decide +kernel⟩
theorem d_is_way (B : Bnd K mg "is_way" s_is_way) (M : Mg2 mg) (R : RCls K mg C fI fR) (D_is_count : Def P w K mg base k "is_count" sCount ["value"] (spCountX C)) (D_is_list : Def P w K mg base k "is_list" sList ["value"] (spListX C)) (D_check_many : Def P w K mg base k "check_many" sMany ["many", "least", "most"] spMany) (D_check_counts : Def P w K mg base k "check_counts" sCheck ["counts"] (spCheck K)) : Def P w K mg base (k + 1) "is_way" s_is_way ["counts", "many", "value"] (sp_is_way K C) := by
  refine def_of B sc_is_way (by rintro _ _ _ _ ⟨a, cs, m, x, d, rfl, _⟩; rfl) (fun _ _ _ _ _ _ us hl => match us, hl with | [_, _, _], _ => rfl) fun f cdv A outer s H vs Q E hr h => ?_
  obtain ⟨a, cs, m, x, d, rfl, hS, T, h0, h1, hx, q⟩ := h
  have hu := hr.units
  obtain ⟨t_MOST_MANY, m_MOST_MANY⟩ := M.MOST_MANY
  refine ⟨_, pss_cons (ps_expr (pe_d D_check_counts hr (by rfl) (pa_cons (pv 0) pa_nil)))
    (pss_cons (ps_expr (pe_d D_check_many hr (by rfl) (pa_cons (pv 1) (pa_cons pe_int (pa_cons (pe_glob (v := .int 200) (by rfl) m_MOST_MANY ⟨_, rfl⟩) pa_nil)))))
    (C8.pss_cut (ps_if (PW.pt (pw_or (pt_not (pt_val (pe_d D_is_list hr (by rfl) (pa_cons (pv 2) pa_nil)))) (pw_or (pt_cmpR op_ne (pe_callB call_len_seq (by rfl) M.len boot_len (pa_cons (pv 2) pa_nil)) (pe_callB call_len_seq (by rfl) M.len boot_len (pa_cons (pv 0) pa_nil)) (nomark _)) (pw_or1 (pt_not (pt_val (pe_callB (cr_all rfl) (by rfl) M.all boot_all (pa_cons (pe_lc (own := [("often", 3)]) (g := (gName 3)) (tt := tYes) (te := (tD _ (tCons (tVar 3) tNil))) rfl sc_is_way.nd (pi_sq (pv 2)) (blkOk_by (own := [("often", 3)]) (N := N_is_way) (sc := defScope s_is_way) (by decide +kernel)) (fun _ _ _ _ _ => pg_name (i := 3) sc_is_way.nd rfl (.inl rfl)) (fun _ _ _ _ _ => pts_nil) (fun _ _ _ _ _ => pe_d D_is_count hr (by rfl) (pa_cons (pv 3) pa_nil))) pa_nil))))))))
      (pss_one (ps_ret pe_bl))
      (pss_nil))
    (pss_one (ps_ret (pe_cmpR op_eq (pe_callB (cr_sum rfl) (by rfl) M.sum boot_sum (pa_cons (pe_lc (own := [("often", 3), ("one", 4)]) (g := (gTup K 2 (gCons (gName 3) (gCons (gName 4) gNil)))) (tt := tYes) (te := (tOp _ (tVar 3) (tVar 4))) rfl sc_is_way.nd (pi_zipS (by rfl) M.zip (pa_cons (pv 2) (pa_cons (pv 0) pa_nil))) (blkOk_by (own := [("often", 3), ("one", 4)]) (N := N_is_way) (sc := defScope s_is_way) (by decide +kernel)) (fun _ _ _ _ _ => pg_tup rfl (pgs_cons (pg_name (i := 3) sc_is_way.nd rfl (.inl rfl)) (pgs_cons (pg_name (i := 4) sc_is_way.nd rfl (.inl rfl)) pgs_nil))) (fun _ _ _ _ _ => pts_nil) (fun _ _ _ _ _ => pe_op op_mul (pv 3) (pv 4))) pa_nil)) (pv 1) (nomark _)))))), ?_⟩
  have t1 := T.lo
  have t2 := T.hi
  have lc := vi_len cs
  refine ⟨_, rfl, a, cs, rfl, hS, T, fun H1 s1 => ?_⟩
  refine ⟨_, rfl, m, 0, 200, rfl, h0, h0, h1, fun H2 s2 => ?_⟩
  have s12 := s1.trans s2
  refine ⟨fun σ' H' => ∃ xs, σ' = [some (.ref a), some (.int m), some x, none, none] ∧ Same H H' ∧ itemsOf H x = some xs ∧ xs.length = cs.length ∧ xs.all isCnt = true, ?_, ?_⟩
  · refine ⟨_, rfl, x, d, rfl, hx.same s12, fun H3 s3 => ?_⟩
    have s13 := s12.trans s3
    rw [itemsOf_same hx s12]
    have no : isWayV H x cs m = false → ∀ H', Same H H' → Q (.bl false) H' := fun z H' sm => by
      rw [← z]; exact q H' sm
    cases e : itemsOf H x with
    | none => exact ⟨false, rfl, iteT (iteT (no (by unfold isWayV; rw [e]) _ s13))⟩
    | some xs =>
      obtain ⟨b, rfl, hb, l60, hys⟩ := hx.items e
      have hB : Sq K H b xs := hb.elim (fun z => .inl (SqL.of z)) (fun z => .inr (SqT.of z))
      refine ⟨true, rfl, iteF ⟨_, rfl, b, xs, rfl, hB.same s13, _, rfl, a, _, rfl, hS.same s13, rfl, _, rfl, ite2 (fun z => ?_) (fun z => ?_)⟩⟩
      · have ne : xs.length ≠ cs.length := fun y => by rw [lc, y] at z; simp at z
        exact iteT (no (by unfold isWayV; rw [e]; simp [ne]) _ s13)
      have lx : xs.length = cs.length := by
        by_cases y : xs.length = cs.length
        · exact y
        · exact absurd (by rw [lc]; simp only [V.int.injEq, Int.natCast_inj]; simp [y]) z
      dsimp only [tNot, tB, tCB, tCons, tNil]
      refine lc_sq (xs := xs) (fun i => (xs[i]?).map fun v => V.bl (isCnt v)) (fun R r => ⟨_, rfl, r⟩) (hB.same s13) (by rw [sizeLine_eq]; omega) (fun i y H4 hy s4 Y N yy nn => ?_) (fun D H4 s4 hD hD2 => ?_)
      · exact ⟨rfl, _, rfl, y, d, rfl, (hys y (List.mem_of_getElem? hy)).same (s13.trans s4), fun H5 s5 => yy _ _ s5 (by show (xs[i]?).map _ = _; rw [hy]; rfl)⟩
      rw [fm_idx xs, show (xs.map fun v => V.bl (isCnt v)) = (xs.map isCnt).map V.bl by rw [List.map_map]; rfl] at hD2
      have al : (xs.map isCnt).all id = xs.all isCnt := by rw [List.all_map]; rfl
      have s14 := s13.trans s4
      refine ⟨D, xs.map isCnt, rfl, SqL.of hD2, _, rfl, ?_⟩
      rw [al]
      cases ax : xs.all isCnt with
      | false => exact iteT (no (by unfold isWayV; rw [e]; simp [ax]) _ s14)
      | true => exact iteF ⟨xs, rfl, s14, rfl, lx, ax⟩
  rintro _ H3 ⟨xs, rfl, s3, e, lx, ax⟩
  obtain ⟨b, rfl, hb, l60, hys⟩ := hx.items e
  have hB : Sq K H b xs := hb.elim (fun z => .inl (SqL.of z)) (fun z => .inr (SqT.of z))
  have xi : ∀ (i : Nat) (v : V), xs[i]? = some v → ∃ n, v = .int n ∧ (xs.map toZ)[i]? = some n := fun i v hv => by
    have c := (List.all_eq_true.mp ax) v (List.mem_of_getElem? hv)
    cases v with
    | int n => exact ⟨n, rfl, by rw [List.getElem?_map, hv]; rfl⟩
    | _ => cases c
  have lz : (xs.map toZ).length = cs.length := by rw [List.length_map, lx]
  obtain ⟨κ1, k1⟩ := sqk_of (hB.same s3)
  obtain ⟨κ2, k2⟩ := sqk_of (hS.same s3)
  refine ⟨_, rfl, _, rfl, b, a, xs, VI cs, κ1, κ2, rfl, k1, k2, fun D2 hD3 => ?_⟩
  refine lc_rel (walk_zipS (n := cs.length) (by rw [lx, lc]; omega)) (fun i acc Hh => acc = VI ((prods (xs.map toZ) cs).take i)) hD3 (by rw [sizeLine_eq]; omega) (fun Hh sh => ⟨k1.same sh, k2.same sh⟩) (by rfl) (fun i acc A B e r => r) (fun i x acc Ha Hb hi sa ha hr hy Yc Nc yc nc => ?_) (fun acc Hh sh ha hr => ?_)
  · obtain ⟨Tt, x1, x2, rfl, nT, rfl, hx1, hx2⟩ := hy
    obtain ⟨c1, rfl, hc1⟩ := xi i x1 hx1
    obtain ⟨c2, hc2, rfl⟩ := vi_at hx2
    have c0 := T.each c2 (List.mem_of_getElem? hc2)
    refine ⟨Tt, _, rfl, SqT.of upd_same, rfl, _, _, rfl, _, _, rfl, rfl, rfl, _, rfl, _, rfl, _, _, rfl, rfl, .inr ⟨by omega, by omega⟩, yc _ _ (same_new nT) ?_⟩
    rw [hr, take_one (prods_at hc1 hc2)]
    unfold VI
    rw [List.map_append]; rfl
  · have lp : (prods (xs.map toZ) cs).length = cs.length := by unfold prods; rw [List.length_zipWith, lz, Nat.min_self]
    have hr2 : acc = VI (prods (xs.map toZ) cs) := by rw [hr, ← lp, List.take_length]
    subst hr2
    refine ⟨D2, prods (xs.map toZ) cs, rfl, SqL.of ha, _, rfl, rfl, ?_⟩
    rw [prods_sum]
    have ed : decide (V.int (dot (xs.map toZ) cs) = V.int m) = isWayV H (.ref b) cs m := by
      rw [wayV e lx ax]
      by_cases z : dot (xs.map toZ) cs = m
      · rw [z]; simp
      · rw [decide_eq_false z, decide_eq_false fun w => z (V.int.inj w)]
    rw [ed]
    exact q Hh (s3.trans sh)
end
end K21

namespace Fp
open PySem PySem.Spec PyProof.Rows L2
/-- the heap without some objects -/
def wos (S : List Addr) (H : Hp) : Hp := fun b => if b ∈ S then none else H b
theorem wos_ne {S : List Addr} {b : Addr} {H : Hp} (h : b ∉ S) : wos S H b = H b := if_neg h
theorem wos_some {S : List Addr} {b : Addr} {H : Hp} {o : HO} : wos S H b = some o ↔ b ∉ S ∧ H b = some o := by
  unfold wos
  by_cases h : b ∈ S
  · rw [if_pos h]; exact ⟨fun z => (by cases z), fun z => absurd h z.1⟩
  · rw [if_neg h]; exact ⟨fun z => ⟨h, z⟩, fun z => z.2⟩
theorem wos_same {S : List Addr} {H H' : Hp} (e : Same H H') : Same (wos S H) (wos S H') := fun b o q => by
  obtain ⟨h1, h2⟩ := wos_some.mp q
  exact wos_some.mpr ⟨h1, e _ _ h2⟩
theorem wos_le {S : List Addr} {H : Hp} : Same (wos S H) H := fun b o q => (wos_some.mp q).2
def Kn (S : List Addr) (H : Hp) : Prop := ∀ s ∈ S, H s ≠ none
theorem Kn.same {S : List Addr} {H H' : Hp} (h : Kn S H) (e : Same H H') : Kn S H' := fun s hs z => by
  cases q : H s with
  | none => exact h s hs q
  | some o => rw [e _ _ q] at z; cases z
theorem Kn.new {S : List Addr} {H : Hp} {a : Addr} (h : Kn S H) (na : H a = none) : a ∉ S := fun hs => h a hs na
theorem wos_sub {S T : List Addr} {H : Hp} (h : ∀ b, b ∈ T → b ∈ S ∨ H b = none) : Same (wos S H) (wos T H) := fun b o q => by
  obtain ⟨h1, h2⟩ := wos_some.mp q
  exact wos_some.mpr ⟨fun z => (h b z).elim h1 fun e => (by rw [e] at h2; cases h2), h2⟩
/-! ### what an expression makes, if it only makes -/
def Gv (t : TE) (σ : L2.St) (H : Hp) (φ : V → Hp → Prop) : Prop := ∀ Q : VK, (∀ v H', Same H H' → φ v H' → Q v H') → t σ H Q
def GvA (t : TA) (σ : L2.St) (H : Hp) (φ : List V → Hp → Prop) : Prop := ∀ Q : List V → Hp → Prop, (∀ vs H', Same H H' → φ vs H' → Q vs H') → t σ H Q
section
variable {C : Addr} {S : List Addr} {K : PySem.W.Frag} {σ : L2.St} {H : Hp} {d e n m : Nat} {t t1 t2 : TE} {ts : TA}
abbrev GvS (C : Addr) (S : List Addr) (d : Nat) (t : TE) (σ : L2.St) (H : Hp) : Prop := Gv t σ H fun v H' => Sk C (wos S H') d v
abbrev GvSA (C : Addr) (S : List Addr) (d n : Nat) (t : TA) (σ : L2.St) (H : Hp) : Prop := GvA t σ H fun vs H' => vs.length = n ∧ ∀ v ∈ vs, Sk C (wos S H') d v
def LsV (C : Addr) (S : List Addr) (d n : Nat) (v : V) (H : Hp) : Prop := ∃ a ys, v = .ref a ∧ a ∉ S ∧ H a = some (.lst ys) ∧ ys.length ≤ n ∧ ∀ y ∈ ys, Sk C (wos S H) d y
abbrev GvL (C : Addr) (S : List Addr) (d n : Nat) (t : TE) (σ : L2.St) (H : Hp) : Prop := Gv t σ H fun v H' => LsV C S d n v H'
theorem LsV.same {v : V} {H' : Hp} (h : LsV C S d n v H) (s : Same H H') : LsV C S d n v H' := let ⟨a, ys, e1, e2, e3, e4, e5⟩ := h; ⟨a, ys, e1, e2, s _ _ e3, e4, fun y hy => (e5 y hy).same (wos_same s)⟩
theorem LsV.sk {v : V} (h : LsV C S d n v H) (hn : n ≤ 60) : Sk C (wos S H) (d + 1) v := by
  obtain ⟨a, ys, rfl, e2, e3, e4, e5⟩ := h
  exact Sk.lst (by rw [wos_ne e2]; exact e3) (by omega) e5
theorem LsV.more {v : V} (h : LsV C S d n v H) (hd : d ≤ e) (hn : n ≤ m) : LsV C S e m v H := let ⟨a, ys, e1, e2, e3, e4, e5⟩ := h; ⟨a, ys, e1, e2, e3, by omega, fun y hy => (e5 y hy).more hd⟩
theorem Gv.imp {φ ψ : V → Hp → Prop} (h : Gv t σ H φ) (k : ∀ v H', Same H H' → φ v H' → ψ v H') : Gv t σ H ψ := fun Q q => h Q fun v H' s f => q v H' s (k v H' s f)
theorem GvL.s (h : GvL C S d n t σ H) (hn : n ≤ 60) : GvS C S (d + 1) t σ H := Gv.imp h fun v H' s f => f.sk hn
theorem gvs_c {v : V} (h : ∀ H', Sk C H' d v) : GvS C S d (tC v) σ H := fun Q q => q v H (Same.refl _) (h _)
theorem gv_nil : GvSA C S d 0 tNil σ H := fun Q q => q [] H (Same.refl _) ⟨rfl, fun v h => by cases h⟩
theorem gv_cons (h1 : GvS C S d t σ H) (h2 : ∀ H1, Same H H1 → GvSA C S d n ts σ H1) : GvSA C S d (n + 1) (tCons t ts) σ H := fun Q q =>
  h1 _ fun v H1 s1 f1 => h2 H1 s1 _ fun vs H2 s2 f2 => q (v :: vs) H2 (s1.trans s2) ⟨by rw [List.length_cons, f2.1], fun x hx => by
    rcases List.mem_cons.mp hx with z | z
    · rw [z]; exact f1.same (wos_same s2)
    · exact f2.2 x z⟩
theorem gvl_lst (hp : Kn S H) (hn : n ≤ 1000) (h : GvSA C S d n ts σ H) : GvL C S d n (tLst ts) σ H := fun Q q =>
  h _ fun vs H1 s1 f1 => ⟨by rw [f1.1, sizeLine_eq]; omega, fun a na => by
    have np : a ∉ S := (hp.same s1).new na
    exact q _ _ (s1.trans (same_new na)) ⟨a, vs, rfl, np, upd_same, by rw [f1.1]; exact Nat.le_refl _, fun y hy => (f1.2 y hy).same (wos_same (same_new na))⟩⟩
theorem gvl_cat (hp : Kn S H) (hn : n + m ≤ 1000) (h1 : GvL C S d n t1 σ H) (h2 : ∀ H1, Same H H1 → GvL C S d m t2 σ H1) : GvL C S d (n + m) (tOp rCat t1 t2) σ H := fun Q q =>
  h1 _ fun v H1 s1 f1 => h2 H1 s1 _ fun u H2 s2 f2 => by
    obtain ⟨a, ys, rfl, e2, e3, e4, e5⟩ := f1.same s2
    obtain ⟨b, zs, rfl, g2, g3, g4, g5⟩ := f2
    refine ⟨a, b, ys, zs, rfl, rfl, e3, g3, by rw [sizeLine_eq]; omega, fun c nc => ?_⟩
    have s12 := s1.trans s2
    have np : c ∉ S := (hp.same s12).new nc
    exact q _ _ (s12.trans (same_new nc)) ⟨c, ys ++ zs, rfl, np, upd_same, by rw [List.length_append]; omega, fun y hy => by
      rcases List.mem_append.mp hy with z | z
      · exact (e5 y z).same (wos_same (same_new nc))
      · exact (g5 y z).same (wos_same (same_new nc))⟩
/-- a slice of a list that stands at the slot i -/
theorem gvl_sl {i : Nat} {W : Addr} {xs : List V} {lo hi : Option Int} {tlo thi : TO} (hv : ∀ H Q, Q (.ref W) H → tVar i σ H Q) (hlo : ∀ H (Q : Option Int → Hp → Prop), Q lo H → tlo σ H Q) (hhi : ∀ H (Q : Option Int → Hp → Prop), Q hi H → thi σ H Q) (hW : H W = some (.lst xs)) (hp : Kn S H)
    (hx : ∀ x ∈ xs, Sk C (wos S H) d x) (hn : xs.length ≤ n) : GvL C S d n (tSl (rSlL K) (tVar i) tlo thi) σ H := fun Q q =>
  hv _ _ (hlo _ _ (hhi _ _ ⟨W, xs, rfl, SqL.of hW, fun c nc => by
    have np : c ∉ S := hp.new nc
    refine q _ _ (same_new nc) ⟨c, _, rfl, np, upd_same, ?_, fun y hy => (hx y ?_).same (wos_same (same_new nc))⟩
    · exact Nat.le_trans (cutV_length _ _ _) hn
    · unfold cutV at hy
      exact List.mem_of_mem_drop (List.mem_of_mem_take hy)⟩))
theorem hv_of {i : Nat} {v : V} (h : σ[i]? = some (some v)) : ∀ H Q, Q v H → tVar i σ H Q := fun H Q q => ⟨v, h, q⟩
theorem hno : ∀ H (Q : Option Int → Hp → Prop), Q none H → tNoPart σ H Q := fun H Q q => q
theorem hpart {j : Nat} {s : Int} (h : σ[j]? = some (some (.int s))) : ∀ H (Q : Option Int → Hp → Prop), Q (some s) H → tPart (tVar j) σ H Q := fun H Q q => ⟨_, h, s, rfl, q⟩
theorem hpart1 {j : Nat} {s : Int} (h : σ[j]? = some (some (.int s))) : ∀ H (Q : Option Int → Hp → Prop), Q (some (s + 1)) H → tPart (tOp (rI0 fun i j => V.int (i + j)) (tVar j) (tC (V.int 1))) σ H Q := fun H Q q => ⟨_, h, s, 1, rfl, rfl, s + 1, rfl, q⟩
theorem gvs_var {i : Nat} {v : V} (h : σ[i]? = some (some v)) (hs : Sk C (wos S H) d v) : GvS C S d (tVar i) σ H := fun Q q => ⟨v, h, q v H (Same.refl _) hs⟩
theorem gvs_tup1 (hp : Kn S H) (h : GvS C S d t σ H) : GvS C S (d + 1) (tTup (tCons t tNil)) σ H := fun Q q =>
  h _ fun v H1 s1 f1 => ⟨by show 1 ≤ sizeLine; decide, fun a na => by
    have np : a ∉ S := (hp.same s1).new na
    refine q _ _ (s1.trans (same_new na)) (Sk.tup (xs := [v]) (by rw [wos_ne np]; exact upd_same) (by simp) fun y hy => ?_)
    rw [List.mem_singleton.mp hy]
    exact f1.same (wos_same (same_new na))⟩
/-- a new list, its items shown without it -/
theorem gvl_lstW (hp : Kn S H) (hn : n ≤ 1000) (h : GvSA C S d n ts σ H) : Gv (tLst ts) σ H fun v H' => ∃ a ys, v = .ref a ∧ H a = none ∧ a ∉ S ∧ H' a = some (.lst ys) ∧ ys.length = n ∧ ∀ y ∈ ys, Sk C (wos (a :: S) H') d y := fun Q q =>
  h _ fun vs H1 s1 f1 => ⟨by rw [f1.1, sizeLine_eq]; omega, fun a na => by
    have np : a ∉ S := (hp.same s1).new na
    refine q _ _ (s1.trans (same_new na)) ⟨a, vs, rfl, s1.free na, np, upd_same, f1.1, fun y hy => (f1.2 y hy).same ?_⟩
    refine (wos_sub (T := a :: S) fun b hb => ?_).trans (wos_same (same_new na))
    rcases List.mem_cons.mp hb with z | z
    · exact .inr (z ▸ na)
    · exact .inl z⟩
/-- a comprehension over a list of ints, its elements ints or bools -/
theorem gvl_lc {g : TG} {te : TE} {vs : List Nat} {W : Addr} {ns : List Int} {i : Nat} (hv : σ[i]? = some (some (.ref W))) (hW : H W = some (.lst (ns.map V.int))) (hp : Kn S H) (hn : ns.length ≤ n) (h60 : n ≤ 60)
    (hs : ∀ (j : Nat) (x : Int) (H1 : Hp) (Yc : VK) (Nc : Hp → Prop), ns[j]? = some x → (∀ y, (∀ G, Sk C G d y) → Yc y H1) → g (.int x) (wipe σ vs) H1 fun σ2 H2 => wipe σ2 vs = wipe σ vs ∧ tYes σ2 H2 fun b H3 => if b = true then te σ2 H3 Yc else Nc H3) :
    GvL C S d n (tLc (iList K (tVar i)) g tYes te vs) σ H := fun Q q =>
  ⟨_, hv, W, rfl, ⟨_, SqL.of hW⟩, fun D hD => by
    refine lc_rel (walk_list (K := K) (a := W) (xs := ns.map V.int)) (fun i acc Hh => acc.length ≤ i ∧ ∀ y ∈ acc, ∀ G, Sk C G d y) hD (by rw [List.length_map, sizeLine_eq]; omega) (fun Hh sh => SqL.of (sh _ _ hW)) ⟨Nat.le_refl _, fun y hy => by cases hy⟩ (fun i acc A B e r => r)
      (fun j v acc Ha Hb hj sa ha hr hy Yc Nc yc nc => ?_) (fun acc H1 s1 hD1 hr => ?_)
    · obtain ⟨rfl, hx⟩ := hy
      rw [List.getElem?_map] at hx
      obtain ⟨x, hx', rfl⟩ := Option.map_eq_some_iff.mp hx
      exact hs j x Hb Yc Nc hx' fun y hy => yc y Hb (Same.refl _) ⟨by rw [List.length_append]; have := hr.1; simp only [List.length_cons, List.length_nil]; omega, fun u hu => by
        rcases List.mem_append.mp hu with w | w
        · exact hr.2 u w
        · rw [List.mem_singleton.mp w]; exact hy⟩
    · rw [List.length_map] at hr
      exact q _ _ s1 ⟨D, acc, rfl, hp.new hD, hD1, by omega, fun y hy => hr.2 y hy _⟩⟩
theorem ch_ofString (s : String) : ∀ c ∈ (Str.ofString s).cps.toList, c < 16 ^ 8 := fun c hc => by
  rw [congrFun Str.ofString_eq_byList s] at hc
  unfold Str.ofStringByList at hc
  simp only [List.mem_map] at hc
  obtain ⟨ch, _, rfl⟩ := hc
  have := ch.val.toNat_lt
  show ch.val.toNat < 16 ^ 8
  omega
theorem rt_int {i : Int} (h : i.natAbs < 10 ^ 30) : (reprText (Str.ofString (toString i))).length ≤ 3900 := by
  have l := StrLaws.reprText_len (Str.ofString (toString i)) (ch_ofString _)
  have := PySem.int_text_length_le10 (a := i) (k := 30) (by omega) h
  have e : (Str.ofString (toString i)).length = (toString i).length := by
    rw [congrFun Str.ofString_eq_byList]
    unfold Str.ofStringByList Str.length
    simp
    try first | rfl | exact String.length_toList
  omega
theorem okI_small {i : Int} (h : i.natAbs < 10 ^ 30) : okI i := by
  show i.natAbs.log2 < 1920
  by_cases z : i.natAbs = 0
  · rw [z]; decide
  · refine (Nat.log2_lt z).mpr (Nat.lt_of_lt_of_le h ?_)
    exact Nat.le_trans (by decide : 10 ^ 30 ≤ 2 ^ 100) (Nat.pow_le_pow_right (by omega) (by omega))
theorem wos_upd {a : Addr} {o : HO} (h : a ∈ S) : wos S (upd H a o) = wos S H := by
  funext b
  unfold wos
  by_cases z : b ∈ S
  · rw [if_pos z, if_pos z]
  · rw [if_neg z, if_neg z, upd_ne (fun (e : b = a) => z (e ▸ h))]
theorem seq_asg {g : TG} {B : TS} {D : Ends} {φ : V → Hp → Prop} (h : Gv t σ H φ) (k : ∀ v H', Same H H' → φ v H' → g v σ H' fun σ2 H2 => B D σ2 H2) : tSeq (tAsg t g) B D σ H := h _ fun v H' s f => k v H' s f
theorem ret_gv {D : Ends} {φ : V → Hp → Prop} (h : Gv t σ H φ) (k : ∀ v H', Same H H' → φ v H' → D.rt v H') : tRet t D σ H := h _ fun v H' s f => k v H' s f
theorem seq_ext {B : TS} {D : Ends} {φ : V → Hp → Prop} {i : Nat} {f : Addr} {fs : List V} (hi : σ[i]? = some (some (.ref f))) (hf : H f = some (.lst fs)) (h : Gv t σ H φ)
    (k : ∀ v H', Same H H' → φ v H' → ∃ g gs, v = .ref g ∧ H' g = some (.lst gs) ∧ fs.length + gs.length ≤ 1000 ∧ B D σ (upd H' f (.lst (fs ++ gs)))) : tSeq (tDrop (tBM K "list" rExtend (tVar i) (tCons t tNil))) B D σ H :=
  ⟨_, hi, Or.inl ⟨rfl, _, SqL.of hf⟩, h _ fun v H' s ph => by
    obtain ⟨g, gs, rfl, hg, hz, q⟩ := k v H' s ph
    exact ⟨f, g, fs, gs, rfl, rfl, s _ _ hf, hg, by rw [sizeLine_eq]; omega, q⟩⟩
end
end Fp

namespace Fp
open PySem PySem.Spec PyProof.Rows L2
/-! ### str(..) of data, and more that only makes -/
theorem cr_strD {X : Cx} (hu : X.A.units + 64 < cLine) (hg : X.A.guards = some []) : CallR X (.type "str") (rRepr X.K) := by
  intro pins s σ H xs us Q I r h
  obtain ⟨a, d, rfl, hd, h1, h2, h3, h4, q⟩ := h
  rw [Vals.ref1 r]
  obtain ⟨as, hr⟩ := Dp.reads I d _ (.ref a) hd rfl
  refine str_of_reads hr h1 (fun z => by rw [h2] at z; cases z) hg (by omega) (fun _ _ e => e) (fun h' u tk k => ?_) h4
  exact ⟨.str d.shown, H, I.kept (t' := tk) k, ⟨u, rfl⟩, q⟩
def ChOk (x : Str) : Prop := ∀ c ∈ x.cps.toList, c < 16 ^ 8
theorem ChOk.app {x y : Str} (h1 : ChOk x) (h2 : ChOk y) : ChOk (x ++ y) := fun c hc => by
  have e : (x ++ y).cps.toList = x.cps.toList ++ y.cps.toList := by
    show (x.cps ++ y.cps).toList = _
    exact Array.toList_append
  rw [e] at hc
  exact (List.mem_append.mp hc).elim (h1 c) (h2 c)
theorem ChOk.of (s : String) : ChOk (Str.ofString s) := ch_ofString s
theorem ChOk.from : ∀ (ts : List Str) (k : Nat) (acc : Str), ChOk acc → (∀ t ∈ ts, ChOk t) → ChOk (textFrom k acc ts)
  | [], _, acc, h, _ => h
  | t :: ts, k, acc, h, g => ChOk.from ts (k + 1) _ ((h.app (ChOk.of _)).app (g t List.mem_cons_self)) fun x hx => g x (List.mem_cons_of_mem _ hx)
theorem ChOk.list {ts : List Str} (h : ∀ t ∈ ts, ChOk t) : ChOk (listText ts) := (ChOk.from ts 0 _ (ChOk.of "[") h).app (ChOk.of "]")
theorem ChOk.ints : ∀ ns : List Int, ∀ t ∈ PyData.shownAll (ns.map PyData.int), ChOk t
  | [], t, h => by simp only [List.map_nil, PyData.shownAll] at h; exact nomatch h
  | n :: r, t, h => by
    simp only [List.map_cons, PyData.shownAll] at h
    rcases List.mem_cons.mp h with z | z
    · rw [z]; simp only [PyData.shown]; exact ChOk.of _
    · exact ChOk.ints r t z
theorem shown_ints (ns : List Int) : ChOk (PyData.shown (.list (ns.map PyData.int))) := by
  simp only [PyData.shown]
  exact ChOk.list (ChOk.ints ns)
section
variable {C : Addr} {S : List Addr} {K : PySem.W.Frag} {σ : L2.St} {H : Hp} {d e n m : Nat} {t t1 t2 : TE} {ts : TA}
theorem gvl_rev {i : Nat} {W : Addr} {xs : List V} (hv : σ[i]? = some (some (.ref W))) (hW : SqL K H W xs) (hp : Kn S H) (hx : ∀ x ∈ xs, Sk C (wos S H) d x) (hn : xs.length ≤ n) : GvL C S d n (tRevL K (tVar i)) σ H := fun Q q =>
  ⟨_, hv, W, xs, rfl, hW, fun c nc => by
    have np : c ∉ S := hp.new nc
    exact q _ _ (same_new nc) ⟨c, _, rfl, np, upd_same, by rw [List.length_reverse]; exact hn, fun y hy => (hx y (List.mem_reverse.mp hy)).same (wos_same (same_new nc))⟩⟩
abbrev Hi (t : TE) (σ : L2.St) (H : Hp) (z : Int) : Prop := ∀ Q : VK, Q (.int z) H → t σ H Q
theorem gvl_rep {z : Nat} (hp : Kn S H) (h1 : GvL C S d 1 t1 σ H) (h2 : ∀ H1, Same H H1 → Hi t2 σ H1 (z : Int)) (hz : z ≤ n) (hn : n ≤ 60) : GvL C S d n (tOp rRep t1 t2) σ H := fun Q q =>
  h1 _ fun v H1 s1 f1 => h2 H1 s1 _ (by
    obtain ⟨a, ys, rfl, e2, e3, e4, e5⟩ := f1
    refine ⟨a, (z : Int), ys, rfl, rfl, e3, by omega, by omega, ?_, fun c nc => ?_⟩
    · rw [Int.toNat_natCast, sizeLine_eq]
      have := Nat.mul_le_mul e4 hz
      omega
    have np : c ∉ S := (hp.same s1).new nc
    refine q _ _ (s1.trans (same_new nc)) ⟨c, _, rfl, np, upd_same, ?_, fun y hy => ?_⟩
    · rw [Int.toNat_natCast, List.length_flatten, List.map_replicate, List.sum_replicate_nat]
      have := Nat.mul_le_mul hz e4
      omega
    · obtain ⟨l, hl, hy2⟩ := List.mem_flatten.mp hy
      rw [(List.mem_replicate.mp hl).2] at hy2
      exact (e5 y hy2).same (wos_same (same_new nc)))
theorem gvs_dict0 (hp : Kn S H) : GvS C S (d + 1) tDNewK σ H := fun Q q => fun c nc => by
  have np : c ∉ S := hp.new nc
  exact q _ _ (same_new nc) ⟨_, Sh.dct (ds := []) (by rw [wos_ne np]; exact upd_same) (by simp) (fun p hp => by cases hp)⟩
theorem gvs_disp1 {tk tv : TE} {k v : Int} (hp : Kn S H) (hk : ∀ H1, Same H H1 → Hi tk σ H1 k) (hv : ∀ H1, Same H H1 → Hi tv σ H1 v) (ok : okI k) (ov : okI v) : GvS C S (d + 1) (tDisp [(tk, tv)]) σ H := fun Q q => fun c nc => by
  have np : c ∉ S := hp.new nc
  have s1 := same_new (o := .dK []) nc
  refine hk _ s1 _ (hv _ s1 _ ⟨upd_same, [(.inl k, .int v)], rfl, by simp, ?_⟩)
  rw [show mergeK [] [((Sum.inl k : L2.Key), V.int v)] = [((Sum.inl k : L2.Key), V.int v)] from rfl]
  refine q _ _ (fun b o e => ?_) ⟨_, Sh.dct (ds := [(k, v)]) (by rw [wos_ne np]; exact upd_same) (by simp) (fun p hp => by rw [List.mem_singleton.mp hp]; exact ⟨ok, ov⟩)⟩
  have nb := ne_of_none e nc
  rw [upd_ne nb, upd_ne nb]; exact e
theorem gvs_rat {z : Int} (hp : Kn S H) (ht : Hi t σ H z) (oz : okI z) : GvS C S d (tRat C (tCons t tNil)) σ H := fun Q q =>
  ht _ ⟨z, rfl, fun a H' na sm r => q _ H' sm ⟨_, .own (by
    obtain ⟨dx, r⟩ := r
    exact ⟨dx, by rw [wos_ne (hp.new na)]; exact r⟩) oz (by decide)⟩⟩
theorem gvs_int {z : Int} (ht : Hi t σ H z) (oz : okI z) : GvS C S d t σ H := fun Q q => ht _ (q _ _ (Same.refl _) (Sk.int oz))
theorem gvs_tup {n : Nat} (hp : Kn S H) (hn : n ≤ 60) (h : GvSA C S d n ts σ H) : GvS C S (d + 1) (tTup ts) σ H := fun Q q =>
  h _ fun vs H1 s1 f1 => ⟨by rw [f1.1, sizeLine_eq]; omega, fun a na => by
    have np : a ∉ S := (hp.same s1).new na
    exact q _ _ (s1.trans (same_new na)) (Sk.tup (xs := vs) (by rw [wos_ne np]; exact upd_same) (by rw [f1.1]; exact hn) fun y hy => (f1.2 y hy).same (wos_same (same_new na)))⟩
theorem gvs_more (h : GvS C S d t σ H) (le : d ≤ e) : GvS C S e t σ H := Gv.imp h fun v H' _ z => z.more le
/-! ### lists whose items need no heap -/
abbrev GvP (P : V → Prop) (S : List Addr) (n : Nat) (t : TE) (σ : L2.St) (H : Hp) : Prop := Gv t σ H fun v H' => ∃ a ys, v = .ref a ∧ a ∉ S ∧ H' a = some (.lst ys) ∧ ys.length ≤ n ∧ ∀ y ∈ ys, P y
variable {P : V → Prop}
theorem gvp_cat (hp : Kn S H) (hn : n + m ≤ 1000) (h1 : GvP P S n t1 σ H) (h2 : ∀ H1, Same H H1 → GvP P S m t2 σ H1) : GvP P S (n + m) (tOp rCat t1 t2) σ H := fun Q q =>
  h1 _ fun v H1 s1 f1 => h2 H1 s1 _ fun u H2 s2 f2 => by
    obtain ⟨a, ys, rfl, e2, e3, e4, e5⟩ := f1
    obtain ⟨b, zs, rfl, g2, g3, g4, g5⟩ := f2
    refine ⟨a, b, ys, zs, rfl, rfl, s2 _ _ e3, g3, by rw [sizeLine_eq]; omega, fun c nc => ?_⟩
    have s12 := s1.trans s2
    have np : c ∉ S := (hp.same s12).new nc
    exact q _ _ (s12.trans (same_new nc)) ⟨c, ys ++ zs, rfl, np, upd_same, by rw [List.length_append]; omega, fun y hy => by
      rcases List.mem_append.mp hy with z | z
      · exact e5 y z
      · exact g5 y z⟩
theorem gvp_sl {i : Nat} {W : Addr} {xs : List V} {lo hi : Option Int} {tlo thi : TO} (hv : ∀ H Q, Q (.ref W) H → tVar i σ H Q) (hlo : ∀ H (Q : Option Int → Hp → Prop), Q lo H → tlo σ H Q) (hhi : ∀ H (Q : Option Int → Hp → Prop), Q hi H → thi σ H Q) (hW : H W = some (.lst xs)) (hp : Kn S H)
    (hx : ∀ x ∈ xs, P x) (hn : xs.length ≤ n) : GvP P S n (tSl (rSlL K) (tVar i) tlo thi) σ H := fun Q q =>
  hv _ _ (hlo _ _ (hhi _ _ ⟨W, xs, rfl, SqL.of hW, fun c nc => by
    have np : c ∉ S := hp.new nc
    refine q _ _ (same_new nc) ⟨c, _, rfl, np, upd_same, ?_, fun y hy => hx y ?_⟩
    · exact Nat.le_trans (cutV_length _ _ _) hn
    · unfold cutV at hy
      exact List.mem_of_mem_drop (List.mem_of_mem_take hy)⟩))
theorem gvp_lst2 {z1 z2 : Int} (hp : Kn S H) (h1 : Hi t1 σ H z1) (h2 : Hi t2 σ H z2) (p1 : P (.int z1)) (p2 : P (.int z2)) : GvP P S 2 (tLst (tCons t1 (tCons t2 tNil))) σ H := fun Q q =>
  h1 _ (h2 _ ⟨by show 2 ≤ sizeLine; decide, fun a na => q _ _ (same_new na) ⟨a, _, rfl, hp.new na, upd_same, Nat.le_refl 2, fun y hy => by
    simp only [List.mem_cons, List.not_mem_nil, or_false] at hy
    rcases hy with z | z <;> rw [z] <;> assumption⟩⟩)
theorem ext_one {D : Ends} {φ : V → Hp → Prop} {i : Nat} {f : Addr} {fs : List V} (hi : σ[i]? = some (some (.ref f))) (hf : H f = some (.lst fs)) (h : Gv t σ H φ)
    (k : ∀ v H', Same H H' → φ v H' → ∃ g gs, v = .ref g ∧ H' g = some (.lst gs) ∧ fs.length + gs.length ≤ 1000 ∧ D.nx σ (upd H' f (.lst (fs ++ gs)))) : tDrop (tBM K "list" rExtend (tVar i) (tCons t tNil)) D σ H :=
  ⟨_, hi, Or.inl ⟨rfl, _, SqL.of hf⟩, h _ fun v H' s ph => by
    obtain ⟨g, gs, rfl, hg, hz, q⟩ := k v H' s ph
    exact ⟨f, g, fs, gs, rfl, rfl, s _ _ hf, hg, by rw [sizeLine_eq]; omega, q⟩⟩
end
end Fp

namespace K21
open PySem PySem.Spec PyProof.Rows L2 Fp
section
variable {P : Program} {w : World} {K : PySem.W.Frag} {mg : Str → Option Value} {base : Heap} {k : Nat} {C fI fR : Addr}
-- slots: _law_value 0; cells: 
abbrev s_law_is_count : Stmt := top 32
abbrev N_law_is_count : List Str := ["_law_value"]
theorem sc_law_is_count : FnScope N_law_is_count ["_law_value"] (defScope s_law_is_count) := ⟨rfl, rfl, rfl, by decide +kernel, rfl, by decide +kernel, by decide +kernel⟩
theorem d_law_is_count (B : Bnd K mg "_law_is_count" s_law_is_count) (M : Mg2 mg) (R : RCls K mg C fI fR)  : Def P w K mg base (k + 1) "_law_is_count" s_law_is_count ["_law_value"] (spCountX C) := by
  refine def_of B sc_law_is_count (by rintro _ _ _ _ ⟨x, d, rfl, _⟩; rfl) (fun _ _ _ _ _ _ us hl => match us, hl with | [_], _ => rfl) fun f cdv A outer s H vs Q E hr h => ?_
  obtain ⟨x, d, rfl, hx, q⟩ := h
  have hu := hr.units
  refine ⟨_, pss_one (ps_ret (pe_and (pe_callB call_isi (by rfl) M.isi (by decide +kernel) (pa_cons (pv 0) (pa_cons (pe_bltn (v := .ty "int") (by rfl) M.int (by decide +kernel) rfl) pa_nil))) (pe_and (pe_not (pe_callB call_isi (by rfl) M.isi (by decide +kernel) (pa_cons (pv 0) (pa_cons (pe_bltn (v := .ty "bool") (by rfl) M.bool (by decide +kernel) rfl) pa_nil)))) (pe_one (pe_cmpR op_ge (pv 0) pe_int (nomark _)))))), ?_⟩
  obtain ⟨ty, t1, t2, t3, _⟩ := hx.kit R
  refine ⟨_, rfl, x, _, ty, _, isI x || isB x, rfl, .ty _, t1, t2, (isI x || isB x), rfl, ?_⟩
  cases x with
  | int i => exact iteT ⟨_, rfl, .int i, _, ty, _, false, rfl, .ty _, t1, t3, false, rfl, true, rfl, iteT ⟨_, rfl, i, 0, rfl, rfl, q H (Same.refl H)⟩⟩
  | bl b => exact iteT ⟨_, rfl, .bl b, _, ty, _, true, rfl, .ty _, t1, t3, true, rfl, false, rfl, iteF (q H (Same.refl H))⟩
  | _ => exact iteF (q H (Same.refl H))
-- slots: _law_counts_here 0, _law_many 1, _law_value 2, _law_entry 3, _law_count 4; cells: 
abbrev s_law_seen : Stmt := top 33
abbrev N_law_seen : List Str := ["_law_counts_here", "_law_many", "_law_value", "_law_entry", "_law_count"]
theorem sc_law_seen : FnScope N_law_seen ["_law_counts_here", "_law_many", "_law_value"] (defScope s_law_seen) := ⟨rfl, rfl, rfl, by decide +kernel, rfl, by decide +kernel, by decide +kernel⟩
theorem d_law_seen (B : Bnd K mg "_law_seen" s_law_seen) (M : Mg2 mg) (R : RCls K mg C fI fR) (D_law_is_count : Def P w K mg base k "_law_is_count" s_law_is_count ["_law_value"] (spCountX C)) : Def P w K mg base (k + 1) "_law_seen" s_law_seen ["_law_counts_here", "_law_many", "_law_value"] (sp_law_seen K C) := by
  refine def_of B sc_law_seen (by rintro _ _ _ _ ⟨a, cs, m, x, d, rfl, _⟩; rfl) (fun _ _ _ _ _ _ us hl => match us, hl with | [_, _, _], _ => rfl) fun f cdv A outer s H vs Q E hr h => ?_
  obtain ⟨a, cs, m, x, d, rfl, hS, T, h0, h1, hx, q⟩ := h
  have hu := hr.units
  refine ⟨_, C8.pss_cut (ps_if (PW.pt (pw_or (pt_not (pt_val (pe_callB call_isiT (by rfl) M.isi (by decide +kernel) (pa_cons (pv 2) (pa_cons (pe_tup (pa_cons (pe_bltn (v := .ty "list") (by rfl) M.list (by decide +kernel) rfl) (pa_cons (pe_bltn (v := .ty "tuple") (by rfl) M.tuple (by decide +kernel) rfl) pa_nil))) pa_nil))))) (pw_or (pt_cmpR op_ne (pe_callB call_len_seq (by rfl) M.len boot_len (pa_cons (pv 2) pa_nil)) (pe_callB call_len_seq (by rfl) M.len boot_len (pa_cons (pv 0) pa_nil)) (nomark _)) (pw_or1 (pt_not (pt_val (pe_callB (cr_all rfl) (by rfl) M.all boot_all (pa_cons (pe_lc (own := [("_law_entry", 3)]) (g := (gName 3)) (tt := tYes) (te := (tD _ (tCons (tVar 3) tNil))) rfl sc_law_seen.nd (pi_sq (pv 2)) (blkOk_by (own := [("_law_entry", 3)]) (N := N_law_seen) (sc := defScope s_law_seen) (by decide +kernel)) (fun _ _ _ _ _ => pg_name (i := 3) sc_law_seen.nd rfl (.inl rfl)) (fun _ _ _ _ _ => pts_nil) (fun _ _ _ _ _ => pe_d D_law_is_count hr (by rfl) (pa_cons (pv 3) pa_nil))) pa_nil))))))))
      (pss_one (ps_ret pe_bl))
      (pss_nil))
    (pss_one (ps_ret (pe_cmpR op_eq (pe_callB (cr_sum rfl) (by rfl) M.sum boot_sum (pa_cons (pe_lc (own := [("_law_entry", 3), ("_law_count", 4)]) (g := (gTup K 2 (gCons (gName 3) (gCons (gName 4) gNil)))) (tt := tYes) (te := (tOp _ (tVar 3) (tVar 4))) rfl sc_law_seen.nd (pi_zipS (by rfl) M.zip (pa_cons (pv 2) (pa_cons (pv 0) pa_nil))) (blkOk_by (own := [("_law_entry", 3), ("_law_count", 4)]) (N := N_law_seen) (sc := defScope s_law_seen) (by decide +kernel)) (fun _ _ _ _ _ => pg_tup rfl (pgs_cons (pg_name (i := 3) sc_law_seen.nd rfl (.inl rfl)) (pgs_cons (pg_name (i := 4) sc_law_seen.nd rfl (.inl rfl)) pgs_nil))) (fun _ _ _ _ _ => pts_nil) (fun _ _ _ _ _ => pe_op op_mul (pv 3) (pv 4))) pa_nil)) (pv 1) (nomark _)))), ?_⟩
  have t1 := T.lo
  have t2 := T.hi
  have lc := vi_len cs
  refine ⟨fun σ' H' => ∃ xs, σ' = [some (.ref a), some (.int m), some x, none, none] ∧ Same H H' ∧ itemsOf H x = some xs ∧ xs.length = cs.length ∧ xs.all isCnt = true, ?_, ?_⟩
  · refine ⟨_, rfl, (by show 2 ≤ sizeLine; decide), fun p np => ?_⟩
    have s13 := same_new (o := .tup [V.ty "list", V.ty "tuple"]) np
    obtain ⟨ty, t1, _, _, t4⟩ := (hx.same s13).kit R
    rw [itemsOf_same hx s13] at t4
    refine ⟨x, p, _, ty, _, _, rfl, upd_same, .cons (.ty _) (.cons (.ty _) .nil), t1, t4, ?_⟩
    have no : isWayV H x cs m = false → ∀ H', Same H H' → Q (.bl false) H' := fun z H' sm => by
      rw [← z]; exact q H' sm
    cases e : itemsOf H x with
    | none => exact ⟨false, rfl, iteT (iteT (no (by unfold isWayV; rw [e]) _ s13))⟩
    | some xs =>
      obtain ⟨b, rfl, hb, l60, hys⟩ := hx.items e
      have hB : Sq K H b xs := hb.elim (fun z => .inl (SqL.of z)) (fun z => .inr (SqT.of z))
      refine ⟨true, rfl, iteF ⟨_, rfl, b, xs, rfl, hB.same s13, _, rfl, a, _, rfl, hS.same s13, rfl, _, rfl, ite2 (fun z => ?_) (fun z => ?_)⟩⟩
      · have ne : xs.length ≠ cs.length := fun y => by rw [lc, y] at z; simp at z
        exact iteT (no (by unfold isWayV; rw [e]; simp [ne]) _ s13)
      have lx : xs.length = cs.length := by
        by_cases y : xs.length = cs.length
        · exact y
        · exact absurd (by rw [lc]; simp only [V.int.injEq, Int.natCast_inj]; simp [y]) z
      dsimp only [tNot, tB, tCB, tCons, tNil]
      refine lc_sq (xs := xs) (fun i => (xs[i]?).map fun v => V.bl (isCnt v)) (fun R r => ⟨_, rfl, r⟩) (hB.same s13) (by rw [sizeLine_eq]; omega) (fun i y H4 hy s4 Y N yy nn => ?_) (fun D H4 s4 hD hD2 => ?_)
      · exact ⟨rfl, _, rfl, y, d, rfl, (hys y (List.mem_of_getElem? hy)).same (s13.trans s4), fun H5 s5 => yy _ _ s5 (by show (xs[i]?).map _ = _; rw [hy]; rfl)⟩
      rw [fm_idx xs, show (xs.map fun v => V.bl (isCnt v)) = (xs.map isCnt).map V.bl by rw [List.map_map]; rfl] at hD2
      have al : (xs.map isCnt).all id = xs.all isCnt := by rw [List.all_map]; rfl
      have s14 := s13.trans s4
      refine ⟨D, xs.map isCnt, rfl, SqL.of hD2, _, rfl, ?_⟩
      rw [al]
      cases ax : xs.all isCnt with
      | false => exact iteT (no (by unfold isWayV; rw [e]; simp [ax]) _ s14)
      | true => exact iteF ⟨xs, rfl, s14, rfl, lx, ax⟩
  rintro _ H3 ⟨xs, rfl, s3, e, lx, ax⟩
  obtain ⟨b, rfl, hb, l60, hys⟩ := hx.items e
  have hB : Sq K H b xs := hb.elim (fun z => .inl (SqL.of z)) (fun z => .inr (SqT.of z))
  have xi : ∀ (i : Nat) (v : V), xs[i]? = some v → ∃ n, v = .int n ∧ (xs.map toZ)[i]? = some n := fun i v hv => by
    have c := (List.all_eq_true.mp ax) v (List.mem_of_getElem? hv)
    cases v with
    | int n => exact ⟨n, rfl, by rw [List.getElem?_map, hv]; rfl⟩
    | _ => cases c
  have lz : (xs.map toZ).length = cs.length := by rw [List.length_map, lx]
  obtain ⟨κ1, k1⟩ := sqk_of (hB.same s3)
  obtain ⟨κ2, k2⟩ := sqk_of (hS.same s3)
  refine ⟨_, rfl, _, rfl, b, a, xs, VI cs, κ1, κ2, rfl, k1, k2, fun D2 hD3 => ?_⟩
  refine lc_rel (walk_zipS (n := cs.length) (by rw [lx, lc]; omega)) (fun i acc Hh => acc = VI ((prods (xs.map toZ) cs).take i)) hD3 (by rw [sizeLine_eq]; omega) (fun Hh sh => ⟨k1.same sh, k2.same sh⟩) (by rfl) (fun i acc A B e r => r) (fun i x acc Ha Hb hi sa ha hr hy Yc Nc yc nc => ?_) (fun acc Hh sh ha hr => ?_)
  · obtain ⟨Tt, x1, x2, rfl, nT, rfl, hx1, hx2⟩ := hy
    obtain ⟨c1, rfl, hc1⟩ := xi i x1 hx1
    obtain ⟨c2, hc2, rfl⟩ := vi_at hx2
    have c0 := T.each c2 (List.mem_of_getElem? hc2)
    refine ⟨Tt, _, rfl, SqT.of upd_same, rfl, _, _, rfl, _, _, rfl, rfl, rfl, _, rfl, _, rfl, _, _, rfl, rfl, .inr ⟨by omega, by omega⟩, yc _ _ (same_new nT) ?_⟩
    rw [hr, take_one (prods_at hc1 hc2)]
    unfold VI
    rw [List.map_append]; rfl
  · have lp : (prods (xs.map toZ) cs).length = cs.length := by unfold prods; rw [List.length_zipWith, lz, Nat.min_self]
    have hr2 : acc = VI (prods (xs.map toZ) cs) := by rw [hr, ← lp, List.take_length]
    subst hr2
    refine ⟨D2, prods (xs.map toZ) cs, rfl, SqL.of ha, _, rfl, rfl, ?_⟩
    rw [prods_sum]
    have ed : decide (V.int (dot (xs.map toZ) cs) = V.int m) = isWayV H (.ref b) cs m := by
      rw [wayV e lx ax]
      by_cases z : dot (xs.map toZ) cs = m
      · rw [z]; simp
      · rw [decide_eq_false z, decide_eq_false fun w => z (V.int.inj w)]
    rw [ed]
    exact q Hh (s3.trans sh)
def sp_law_bent (K : PySem.W.Frag) (C : Addr) : Sp := fun vs H Q _ => ∃ (p W : Addr) (wy : List Int) (S : List Addr), vs = [.ref p, .ref W] ∧ PotOk H p ∧ p ∈ S ∧ W ∉ S ∧ Kn S H ∧ H W = some (.lst (VI wy)) ∧ 1 ≤ wy.length ∧ wy.length ≤ 8 ∧ (∀ x ∈ wy, 0 ≤ x ∧ x ≤ 1000) ∧
  ∀ a H' xs, PotOk H' p → Keep p H H' → a ∉ S → H' a = some (.lst xs) → xs.length ≤ 12 → (∀ x ∈ xs, Sk C (wos S H') 2 x) → Q (.ref a) H'
theorem Kn.keep {S : List Addr} {H H' : Hp} {p : Addr} (h : Kn S H) (k : Keep p H H') (hp : PotOk H' p) : Kn S H' := fun s hs z => by
  by_cases e : s = p
  · obtain ⟨u, v, g, _⟩ := hp
    rw [e, g] at z; cases z
  · cases q : H s with
    | none => exact h s hs q
    | some o => rw [k _ _ e q] at z; cases z
theorem pot_ne {H : Hp} {p b : Addr} (h : PotOk H p) (n : H b = none) : b ≠ p := fun z => by
  obtain ⟨u, v, e, _⟩ := h
  rw [z, e] at n; cases n
section
variable {S : List Addr} {σ : L2.St} {H : Hp} {s : Int} {W : Addr} {wy : List Int} {te : TE}
theorem wy_sk (wb : ∀ x ∈ wy, 0 ≤ x ∧ x ≤ 1000) (G : Hp) : ∀ v ∈ VI wy, Sk C G 0 v := fun v hv => by
  obtain ⟨x, hx, rfl⟩ := List.mem_map.mp hv
  have := wb x hx
  exact Sk.int (okI_small (by omega))
theorem bent3 (h1 : σ[1]? = some (some (.ref W))) (h2 : σ[2]? = some (some (.int s))) (hW : H W = some (.lst (VI wy))) (kn : Kn S H) (l8 : wy.length ≤ 8) (wb : ∀ x ∈ wy, 0 ≤ x ∧ x ≤ 1000) (he : ∀ H1, Same H H1 → GvS C S 0 te σ H1) :
    GvS C S 1 (tOp rCat (tOp rCat (tSl (rSlL K) (tVar 1) tNoPart (tPart (tVar 2))) (tLst (tCons te tNil))) (tSl (rSlL K) (tVar 1) (tPart (tOp (rI0 fun i j => V.int (i + j)) (tVar 2) (tC (V.int 1)))) tNoPart)) σ H :=
  GvL.s (n := 8 + 1 + 8) (gvl_cat kn (by omega) (gvl_cat kn (by omega) (gvl_sl (hv_of h1) hno (hpart h2) hW kn (wy_sk wb _) (by rw [vi_len]; exact l8)) (fun H1 s1 => gvl_lst (kn.same s1) (by omega) (gv_cons (he H1 s1) fun _ _ => gv_nil)))
    (fun H1 s1 => gvl_sl (hv_of h1) (hpart1 h2) hno (s1 _ _ hW) (kn.same s1) (wy_sk wb _) (by rw [vi_len]; exact l8))) (by omega)
theorem bent3b (h1 : σ[1]? = some (some (.ref W))) (h2 : σ[2]? = some (some (.int s))) (hW : H W = some (.lst (VI wy))) (kn : Kn S H) (l8 : wy.length ≤ 8) (wb : ∀ x ∈ wy, 0 ≤ x ∧ x ≤ 1000) (he : ∀ H1, Same H H1 → GvS C S 0 te σ H1) :
    GvS C S 1 (tOp rCat (tOp rCat (tSl (rSlL K) (tVar 1) tNoPart (tPart (tVar 2))) (tLst (tCons te tNil))) (tSl (rSlL K) (tVar 1) (tPart (tVar 2)) tNoPart)) σ H :=
  GvL.s (n := 8 + 1 + 8) (gvl_cat kn (by omega) (gvl_cat kn (by omega) (gvl_sl (hv_of h1) hno (hpart h2) hW kn (wy_sk wb _) (by rw [vi_len]; exact l8)) (fun H1 s1 => gvl_lst (kn.same s1) (by omega) (gv_cons (he H1 s1) fun _ _ => gv_nil)))
    (fun H1 s1 => gvl_sl (hv_of h1) (hpart h2) hno (s1 _ _ hW) (kn.same s1) (wy_sk wb _) (by rw [vi_len]; exact l8))) (by omega)
theorem bent2 (h1 : σ[1]? = some (some (.ref W))) (h2 : σ[2]? = some (some (.int s))) (hW : H W = some (.lst (VI wy))) (kn : Kn S H) (l8 : wy.length ≤ 8) (wb : ∀ x ∈ wy, 0 ≤ x ∧ x ≤ 1000) :
    GvS C S 1 (tOp rCat (tSl (rSlL K) (tVar 1) tNoPart (tPart (tVar 2))) (tSl (rSlL K) (tVar 1) (tPart (tOp (rI0 fun i j => V.int (i + j)) (tVar 2) (tC (V.int 1)))) tNoPart)) σ H :=
  GvL.s (n := 8 + 8) (gvl_cat kn (by omega) (gvl_sl (hv_of h1) hno (hpart h2) hW kn (wy_sk wb _) (by rw [vi_len]; exact l8))
    (fun H1 s1 => gvl_sl (hv_of h1) (hpart1 h2) hno (s1 _ _ hW) (kn.same s1) (wy_sk wb _) (by rw [vi_len]; exact l8))) (by omega)
end
theorem PotOk.kn {H : Hp} {p : Addr} (h : PotOk H p) : Kn [p] H := fun s hs z => by
  obtain ⟨u, v, e, _⟩ := h
  rw [List.mem_singleton.mp hs, e] at z; cases z
-- slots: _law_pot_here 0, _law_way 1, _law_spot 2, _law_change 3, _law_found 4, _law_entry 5; cells: 
abbrev s_law_bent : Stmt := top 34
abbrev N_law_bent : List Str := ["_law_pot_here", "_law_way", "_law_spot", "_law_change", "_law_found", "_law_entry"]
theorem sc_law_bent : FnScope N_law_bent ["_law_pot_here", "_law_way"] (defScope s_law_bent) := ⟨rfl, rfl, rfl, by decide +kernel, rfl, by decide +kernel, by decide +kernel⟩
theorem d_law_bent (B : Bnd K mg "_law_bent" s_law_bent) (M : Mg2 mg) (R : RCls K mg C fI fR) {kr : Nat} (RD : RDef P w K mg base kr C) (hk : kr + 8 ≤ k) (D_law_draw : Def P w K mg base k "_law_draw" sDraw ["_law_pot_here", "_law_many"] spDraw) (D_law_pick : Def P w K mg base k "_law_pick" sPick ["_law_pot_here", "_law_some"] spPick) : Def P w K mg base (k + 1) "_law_bent" s_law_bent ["_law_pot_here", "_law_way"] (sp_law_bent K C) := by
  refine def_of B sc_law_bent (by rintro _ _ _ _ ⟨p, W, wy, S, rfl, _⟩; rfl) (fun _ _ _ _ _ _ us hl => match us, hl with | [_, _], _ => rfl) fun f cdv A outer s H vs Q E hr h => ?_
  obtain ⟨p, W, wy, S, rfl, hp, pS, nWS, kS, hW, l1, l8, wb, q⟩ := h
  have hu := hr.units
  refine ⟨_, pss_cons (ps_par (i := 2) (j := 3) rfl sc_law_bent.nd rfl rfl (by decide) rfl rfl (pa_cons (pe_d D_law_draw hr (by rfl) (pa_cons (pv 0) (pa_cons (pe_callB call_len_seq (by rfl) M.len boot_len (pa_cons (pv 1) pa_nil)) pa_nil))) (pa_cons (pe_d D_law_pick hr (by rfl) (pa_cons (pv 0) (pa_cons (pe_lst (pa_cons pe_int (pa_cons (pe_un un_neg pe_int) (pa_cons pe_int pa_nil)))) pa_nil))) pa_nil)) (by rfl))
    (pss_cons (ps_set (i := 4) sc_law_bent.nd rfl (.inl rfl) (pe_lst (pa_cons (pe_op op_cat (pe_op op_cat (pe_slice (r := rSlL K) sl_list (pv 1) po_none (po_some (pv 2))) (pe_lst (pa_cons (pe_op op_add (pe_ix (r := rIxL K) ix_list (pv 1) (pv 2) (fun _ _ => rfl)) (pv 3)) pa_nil))) (pe_slice (r := rSlL K) sl_list (pv 1) (po_some (pe_op op_add (pv 2) pe_int)) po_none)) (pa_cons (pe_op op_cat (pe_slice (r := rSlL K) sl_list (pv 1) po_none (po_some (pv 2))) (pe_slice (r := rSlL K) sl_list (pv 1) (po_some (pe_op op_add (pv 2) pe_int)) po_none)) (pa_cons (pe_op op_cat (pe_op op_cat (pe_slice (r := rSlL K) sl_list (pv 1) po_none (po_some (pv 2))) (pe_lst (pa_cons pe_int pa_nil))) (pe_slice (r := rSlL K) sl_list (pv 1) (po_some (pv 2)) po_none)) pa_nil)))))
    (pss_cons (ps_expr (pe_bm PySem.F.plainAttrs_list PySem.F.slot_list_extend PySem.F.type_list_extend mt_extend (pv 4) (pa_cons (pe_lst (pa_cons (pe_op op_cat (pe_op op_cat (pe_slice (r := rSlL K) sl_list (pv 1) po_none (po_some (pv 2))) (pe_lst (pa_cons (pe_rat RD (hr.mono (by omega)) (by rfl) (pa_cons (pe_ix (r := rIxL K) ix_list (pv 1) (pv 2) (fun _ _ => rfl)) pa_nil)) pa_nil))) (pe_slice (r := rSlL K) sl_list (pv 1) (po_some (pe_op op_add (pv 2) pe_int)) po_none)) (pa_cons (pe_op op_cat (pe_op op_cat (pe_slice (r := rSlL K) sl_list (pv 1) po_none (po_some (pv 2))) (pe_lst (pa_cons pe_non pa_nil))) (pe_slice (r := rSlL K) sl_list (pv 1) (po_some (pe_op op_add (pv 2) pe_int)) po_none)) (pa_cons (pe_op op_cat (pe_op op_cat (pe_slice (r := rSlL K) sl_list (pv 1) po_none (po_some (pv 2))) (pe_lst (pa_cons (pe_callTy call_str_int (by rfl) M.str (by decide +kernel) (pa_cons (pe_ix (r := rIxL K) ix_list (pv 1) (pv 2) (fun _ _ => rfl)) pa_nil)) pa_nil))) (pe_slice (r := rSlL K) sl_list (pv 1) (po_some (pe_op op_add (pv 2) pe_int)) po_none)) pa_nil)))) pa_nil)))
    (pss_one (ps_ret (pe_op op_cat (pv 4) (pe_lst (pa_cons (pe_lc (own := [("_law_entry", 5)]) (g := (gName 5)) (tt := tYes) (te := (tIf (tTest (tOp _ (tVar 5) (tC (.int 2)))) (tCB _ (tCons (tVar 5) tNil)) (tVar 5))) rfl sc_law_bent.nd (pi_list (pv 1)) (blkOk_by (own := [("_law_entry", 5)]) (N := N_law_bent) (sc := defScope s_law_bent) (by decide +kernel)) (fun _ _ _ _ _ => pg_name (i := 5) sc_law_bent.nd rfl (.inl rfl)) (fun _ _ _ _ _ => pts_nil) (fun _ _ _ _ _ => pe_ifExp (pt_cmpR op_lt (pv 5) pe_int (nomark _)) (pe_callTy call_bool1 (by rfl) M.bool (by decide +kernel) (pa_cons (pv 5) pa_nil)) (pv 5))) (pa_cons (pe_lc (own := [("_law_entry", 5)]) (g := (gName 5)) (tt := tYes) (te := (tOp _ (tC (.int 0)) (tVar 5))) rfl sc_law_bent.nd (pi_list (pv 1)) (blkOk_by (own := [("_law_entry", 5)]) (N := N_law_bent) (sc := defScope s_law_bent) (by decide +kernel)) (fun _ _ _ _ _ => pg_name (i := 5) sc_law_bent.nd rfl (.inl rfl)) (fun _ _ _ _ _ => pts_nil) (fun _ _ _ _ _ => pe_op op_sub pe_int (pv 5))) (pa_cons (pe_lst (pa_cons (pv 1) pa_nil)) (pa_cons (pe_tup (pa_cons (pe_callTy call_tuple_of (by rfl) M.tuple (by decide +kernel) (pa_cons (pv 1) pa_nil)) pa_nil)) pa_nil)))))))))), ?_⟩
  have nWp : W ≠ p := fun z => nWS (z ▸ pS)
  have lv := vi_len wy
  refine ⟨_, rfl, _, rfl, W, _, rfl, .inl (SqL.of hW), p, _, rfl, hp, by omega, by omega, fun s H1 s0 s1 hp1 k1 => ?_⟩
  have hW1 := k1 _ _ nWp hW
  refine ⟨_, rfl, 1, rfl, (by show 3 ≤ sizeLine; decide), fun b nb => ?_⟩
  have sb := same_new (o := .lst [V.int 1, V.int (-1), V.int 2]) nb
  have nbp : b ≠ p := pot_ne hp1 nb
  refine ⟨p, b, _, rfl, hp1.same sb, upd_same, nbp, (by decide), (by decide), fun c H3 hc hp3 k3 => ⟨_, _, rfl, ?_⟩⟩
  obtain ⟨c, rfl, cb⟩ : ∃ z : Int, c = .int z ∧ -1 ≤ z ∧ z ≤ 2 := by
    simp only [List.mem_cons, List.not_mem_nil, or_false] at hc
    rcases hc with z | z | z
    · exact ⟨1, z, by omega, by omega⟩
    · exact ⟨-1, z, by omega, by omega⟩
    · exact ⟨2, z, by omega, by omega⟩
  have hW3 := k3 _ _ nWp (sb _ _ hW1)
  have k03 : Keep p H H3 := k1.trans ((Keep.of sb).trans k3)
  have kn : Kn S H3 := Kn.keep kS k03 hp3
  have sl : s.toNat < wy.length := by omega
  obtain ⟨x, hx⟩ : ∃ x, wy[s.toNat]? = some x := ⟨_, List.getElem?_eq_getElem sl⟩
  have xb := wb x (List.mem_of_getElem? hx)
  have ax : atI (VI wy) s = some (.int x) := at_of (j := s.toNat) (by omega) (by rw [List.getElem?_map, hx]; rfl)
  have A1 : ∀ H4, Same H3 H4 → GvS C S 0 (tOp (rI0 fun i j => V.int (i + j)) (tOp (rIxL K) (tVar 1) (tVar 2)) (tVar 3)) [some (.ref p), some (.ref W), some (.int s), some (.int c), none, none] H4 := fun H4 s4 Q q =>
    ⟨_, rfl, _, rfl, W, _, s, _, rfl, rfl, SqL.of (s4 _ _ hW3), ax, _, rfl, x, c, rfl, rfl, q _ _ (Same.refl _) (Sk.int (okI_small (by omega)))⟩
  have A := gvl_lstW (C := C) (S := S) (d := 1) (n := 3) kn (by omega) (gv_cons (bent3 (K := K) rfl rfl hW3 kn l8 wb A1) fun H4 s4 => gv_cons (bent2 (K := K) rfl rfl (s4 _ _ hW3) (kn.same s4) l8 wb) fun H5 s5 => gv_cons (bent3b (K := K) (te := tC (V.int 0)) rfl rfl (s5 _ _ (s4 _ _ hW3)) ((kn.same s4).same s5) l8 wb fun H6 s6 => gvs_c fun _ => Sk.int (by decide)) fun _ _ => gv_nil)
  show tSeq _ _ _ _ _
  refine seq_asg A fun v H4 s4 f4 => ?_
  obtain ⟨f, fs, rfl, nf, npf, hf, lf, hfs⟩ := f4
  have hW4 := s4 _ _ hW3
  have kn4 : Kn (f :: S) H4 := fun z hz => by
    rcases List.mem_cons.mp hz with e | e
    · rw [e, hf]; exact fun z => by cases z
    · exact kn.same s4 z e
  have okx : okI x := okI_small (by omega)
  have A2 : ∀ H5, Same H4 H5 → GvS C (f :: S) 0 (tRat C (tCons (tOp (rIxL K) (tVar 1) (tVar 2)) tNil)) [some (.ref p), some (.ref W), some (.int s), some (.int c), some (.ref f), none] H5 := fun H5 s5 Q q =>
    ⟨_, rfl, _, rfl, W, _, s, _, rfl, rfl, SqL.of (s5 _ _ hW4), ax, x, rfl, fun a H' na sm r => q _ H' sm ⟨_, .own (by
      obtain ⟨dx, r⟩ := r
      exact ⟨dx, by rw [wos_ne ((kn4.same s5).new na)]; exact r⟩) okx (by decide)⟩⟩
  have A4 : ∀ H5, Same H4 H5 → GvS C (f :: S) 0 (tCB (fun xs H Q => ∃ i, xs = [V.int i] ∧ i.natAbs.log2 < 1920 ∧ Q (V.str (Str.ofString (toString i))) H) (tCons (tOp (rIxL K) (tVar 1) (tVar 2)) tNil)) [some (.ref p), some (.ref W), some (.int s), some (.int c), some (.ref f), none] H5 := fun H5 s5 Q q =>
    ⟨_, rfl, _, rfl, W, _, s, _, rfl, rfl, SqL.of (s5 _ _ hW4), ax, x, rfl, okx, q _ _ (Same.refl _) ⟨_, .str _ (rt_int (by omega))⟩⟩
  have B := gvl_lst (C := C) (S := f :: S) (d := 1) (n := 3) kn4 (by omega) (gv_cons (bent3 (K := K) rfl rfl hW4 kn4 l8 wb A2) fun H5 s5 => gv_cons (bent3 (K := K) (te := tC V.non) rfl rfl (s5 _ _ hW4) (kn4.same s5) l8 wb fun H6 s6 => gvs_c fun _ => Sk.non) fun H6 s6 => gv_cons (bent3 (K := K) rfl rfl (s6 _ _ (s5 _ _ hW4)) ((kn4.same s5).same s6) l8 wb fun H7 s7 => A4 H7 ((s5.trans s6).trans s7)) fun _ _ => gv_nil)
  show tSeq (tDrop _) _ _ [some (.ref p), some (.ref W), some (.int s), some (.int c), some (.ref f), none] H4
  refine seq_ext rfl hf B fun v H5 s5 f5 => ?_
  obtain ⟨g, gs, rfl, npg, hg, lg, hgs⟩ := f5
  refine ⟨g, gs, rfl, hg, by omega, ?_⟩
  have fS : f ∈ f :: S := List.mem_cons_self
  have hp6 : PotOk (upd H5 f (.lst (fs ++ gs))) p := by
    obtain ⟨u, v, e, r⟩ := hp3.same (s4.trans s5)
    exact ⟨u, v, by rw [upd_ne (fun (e : p = f) => npf (e ▸ pS))]; exact e, r⟩
  have hW6 : (upd H5 f (.lst (fs ++ gs))) W = some (.lst (VI wy)) := by
    rw [upd_ne (ne_of_none hW3 nf)]; exact s5 _ _ hW4
  have k06 : Keep p H (upd H5 f (.lst (fs ++ gs))) := fun b o nb e => by
    have h3 := k03 b o nb e
    rw [upd_ne (ne_of_none h3 nf)]; exact s5 _ _ (s4 _ _ h3)
  have sub : Same (wos (f :: S) H5) (wos S (upd H5 f (.lst (fs ++ gs)))) := by
    have e : wos (f :: S) (upd H5 f (.lst (fs ++ gs))) = wos (f :: S) H5 := wos_upd fS
    rw [← e]
    exact wos_sub fun b hb => .inl (List.mem_cons_of_mem _ hb)
  have items : ∀ y ∈ fs ++ gs, Sk C (wos S (upd H5 f (.lst (fs ++ gs)))) 1 y := fun y hy => by
    rcases List.mem_append.mp hy with z | z
    · exact ((hfs y z).same (wos_same s5)).same sub
    · exact (hgs y z).same sub
  have hf6 : (upd H5 f (.lst (fs ++ gs))) f = some (.lst (fs ++ gs)) := upd_same
  generalize upd H5 f (.lst (fs ++ gs)) = H6 at hp6 hW6 k06 items hf6 sub
  have kn6 : Kn S H6 := Kn.keep kS k06 hp6
  have npf2 : f ∉ S := npf
  have kc : ∀ H7, Same H6 H7 → H7 W = some (.lst (VI wy)) := fun H7 s7 => s7 _ _ hW6
  refine ret_gv (φ := fun v H' => LsV C S 2 (6 + 4) v H') ?_ ?_
  · refine gvl_cat kn6 (by omega) ?_ ?_
    · exact fun Q q => ⟨_, rfl, q _ _ (Same.refl _) ⟨f, _, rfl, npf2, hf6, by rw [List.length_append]; omega, fun y hy => (items y hy).more (by omega)⟩⟩
    · intro H7 s7
      refine gvl_lst (kn6.same s7) (by omega) (gv_cons ?_ fun H8 s8 => gv_cons ?_ fun H9 s9 => gv_cons ?_ fun H10 s10 => gv_cons ?_ fun _ _ => gv_nil)
      · refine Gv.imp (GvL.s (d := 0) (n := 8) (gvl_lc (ns := wy) rfl (kc _ s7) (kn6.same s7) l8 (by omega) fun j x H1 Yc Nc hx yc => ?_) (by omega)) fun v H' _ z => z.more (by omega)
        have xb := wb x (List.mem_of_getElem? hx)
        refine ⟨rfl, _, rfl, x, 2, rfl, rfl, _, rfl, ite2 (fun z => ?_) (fun z => ?_)⟩
        · exact ⟨_, rfl, .inl ⟨x, rfl, yc _ fun G => Sk.bl _⟩⟩
        · exact ⟨_, rfl, yc _ fun G => Sk.int (okI_small (by omega))⟩
      · refine Gv.imp (GvL.s (d := 0) (n := 8) (gvl_lc (ns := wy) rfl (kc _ (s7.trans s8)) ((kn6.same s7).same s8) l8 (by omega) fun j x H1 Yc Nc hx yc => ?_) (by omega)) fun v H' _ z => z.more (by omega)
        have xb := wb x (List.mem_of_getElem? hx)
        exact ⟨rfl, _, rfl, 0, x, rfl, rfl, yc _ fun G => Sk.int (okI_small (by omega))⟩
      · have s9' := (s7.trans s8).trans s9
        refine GvL.s (d := 1) (n := 1) (gvl_lst (kn6.same s9') (by omega) (gv_cons (gvs_var rfl (Sk.lst (d := 0) (xs := VI wy) (by rw [wos_ne nWS]; exact kc _ s9') (by omega) (wy_sk wb _))) fun _ _ => gv_nil)) (by omega)
      · have s10' := ((s7.trans s8).trans s9).trans s10
        refine gvs_tup1 (kn6.same s10') fun Q q => ⟨_, rfl, W, _, rfl, .inl ⟨SqL.of (kc _ s10'), fun l nl => q _ _ (same_new nl) (Sk.tup (xs := VI wy) (by rw [wos_ne ((kn6.same s10').new nl)]; exact upd_same) (by omega) (wy_sk wb _))⟩⟩
  · rintro v H7 s7 ⟨a, ys, rfl, na, ha, la, hys⟩
    exact q a H7 ys (hp6.same s7) (k06.trans (Keep.of s7)) na ha (by omega) hys
end
end K21

namespace K21
open PySem PySem.Spec PyProof.Rows L2 Fp
section
variable {P : Program} {w : World} {K : PySem.W.Frag} {mg : Str → Option Value} {base : Heap} {k : Nat} {C fI fR : Addr}
theorem dot_le : ∀ {cs v : List Int}, (∀ x ∈ v, 0 ≤ x ∧ x < 4) → (∀ c ∈ cs, 1 ≤ c ∧ c ≤ 9) → dot v cs ≤ 27 * (cs.length : Int)
  | [], [], _, _ => by simp [dot]
  | [], _ :: _, _, _ => by simp [dot]
  | _ :: _, [], _, _ => by simp only [dot]; omega
  | c :: cs, x :: v, hv, hc => by
    have h1 := dot_le (cs := cs) (v := v) (fun y hy => hv y (List.mem_cons_of_mem _ hy)) fun d hd => hc d (List.mem_cons_of_mem _ hd)
    have hx := hv x List.mem_cons_self
    have hd := hc c List.mem_cons_self
    have h2 : x * c ≤ 3 * 9 := Int.mul_le_mul (by omega) hd.2 (by omega) (by omega)
    show x * c + dot v cs ≤ _
    rw [List.length_cons]
    omega
theorem mem_le_dot : ∀ {cs v : List Int} {x : Int}, Pos cs → v.length = cs.length → (∀ y ∈ v, 0 ≤ y) → x ∈ v → x ≤ dot v cs
  | [], [], _, _, _, _, h => by cases h
  | [], _ :: _, _, _, h, _, _ => by cases h
  | _ :: _, [], _, _, h, _, _ => by cases h
  | c :: cs, y :: v, x, hp, l, hv, h => by
    have hp2 : Pos cs := fun d hd => hp d (List.mem_cons_of_mem _ hd)
    have hv2 : ∀ z ∈ v, 0 ≤ z := fun z hz => hv z (List.mem_cons_of_mem _ hz)
    have c0 := hp c List.mem_cons_self
    have y0 := hv y List.mem_cons_self
    have d0 := dot_nonneg hp2 hv2
    show x ≤ y * c + dot v cs
    rcases List.mem_cons.mp h with e | e
    · have : y * 1 ≤ y * c := Int.mul_le_mul_of_nonneg_left (by omega) y0
      omega
    · have := mem_le_dot hp2 (by simpa using l) hv2 e
      have := Int.mul_nonneg y0 (Int.le_of_lt c0)
      omega
theorem sk_ints {S : List Addr} {H : Hp} {W : Addr} {ws : List Int} {d : Nat} (hW : H W = some (.lst (VI ws))) (nW : W ∉ S) (l : ws.length ≤ 60) (wb : ∀ x ∈ ws, x.natAbs < 1000) : Sk C (wos S H) (d + 1) (.ref W) :=
  Sk.lst (by rw [wos_ne nW]; exact hW) (by rw [vi_len]; exact l) fun v hv => by
    obtain ⟨x, hx, rfl⟩ := List.mem_map.mp hv
    have := wb x hx
    exact Sk.int (okI_small (by omega))
theorem vi_sk {G : Hp} {ws : List Int} {d : Nat} (wb : ∀ x ∈ ws, x.natAbs < 1000) : ∀ v ∈ VI ws, Sk C G d v := fun v hv => by
  obtain ⟨x, hx, rfl⟩ := List.mem_map.mp hv
  have := wb x hx
  exact Sk.int (okI_small (by omega))
theorem wos_keep {S : List Addr} {H H' : Hp} {p : Addr} (pS : p ∈ S) (k : Keep p H H') : Same (wos S H) (wos S H') := fun b o e => by
  obtain ⟨h1, h2⟩ := wos_some.mp e
  exact wos_some.mpr ⟨h1, k b o (fun z => h1 (z ▸ pS)) h2⟩
theorem ints_of {P : Int → Prop} : ∀ {ys : List V}, (∀ y ∈ ys, ∃ z, y = .int z ∧ P z) → ∃ zs : List Int, ys = VI zs ∧ ∀ z ∈ zs, P z
  | [], _ => ⟨[], rfl, fun z h => by cases h⟩
  | y :: ys, h => by
    obtain ⟨z, rfl, hz⟩ := h y List.mem_cons_self
    obtain ⟨zs, rfl, hs⟩ := ints_of fun x hx => h x (List.mem_cons_of_mem _ hx)
    exact ⟨z :: zs, rfl, fun x hx => by
      rcases List.mem_cons.mp hx with e | e
      · rw [e]; exact hz
      · exact hs x e⟩
theorem isWayV_same {H H' : Hp} {d : Nat} {x : V} {cs : List Int} {m : Int} (h : Sk C H d x) (e : Same H H') : isWayV H' x cs m = isWayV H x cs m := by
  unfold isWayV
  rw [itemsOf_same h e]
structure Nes (p Cn W F : Addr) (H : Hp) : Prop where
  Fp : F ≠ p
  Cp : Cn ≠ p
  Wp : W ≠ p
  FC : F ≠ Cn
  FW : F ≠ W
  nF : H F = none
structure Stg (C p Cn W F : Addr) (cs st : List Int) (n : Nat) (fs : List V) (H H' : Hp) : Prop where
  kp : Keep p H H'
  pot : PotOk H' p
  hC : H' Cn = some (.lst (VI cs))
  hW : H' W = some (.lst (VI st))
  hF : H' F = some (.lst fs)
  ln : fs.length ≤ n
  it : ∀ y ∈ fs, Sk C (wos [F, p] H') 2 y
section
variable {p Cn W F : Addr} {cs st : List Int} {n m : Nat} {fs gs : List V} {H H1 H2 : Hp}
theorem Stg.kn (h : Stg C p Cn W F cs st n fs H H1) : Kn [F, p] H1 := fun s hs z => by
  simp only [List.mem_cons, List.not_mem_nil, or_false] at hs
  rcases hs with e | e
  · rw [e, h.hF] at z; cases z
  · obtain ⟨u, v, g, _⟩ := h.pot
    rw [e, g] at z; cases z
theorem Stg.same (h : Stg C p Cn W F cs st n fs H H1) (s : Same H1 H2) : Stg C p Cn W F cs st n fs H H2 :=
  ⟨h.kp.trans (Keep.of s), h.pot.same s, s _ _ h.hC, s _ _ h.hW, s _ _ h.hF, h.ln, fun y hy => (h.it y hy).same (wos_same s)⟩
theorem Stg.keep (h : Stg C p Cn W F cs st n fs H H1) (N : Nes p Cn W F H) (k : Keep p H1 H2) (hp : PotOk H2 p) : Stg C p Cn W F cs st n fs H H2 :=
  ⟨h.kp.trans k, hp, k _ _ N.Cp h.hC, k _ _ N.Wp h.hW, k _ _ N.Fp h.hF, h.ln, fun y hy => (h.it y hy).same (wos_keep (by simp) k)⟩
theorem Stg.ext (h : Stg C p Cn W F cs st n fs H H1) (N : Nes p Cn W F H) (lg : gs.length ≤ m) (hg : ∀ y ∈ gs, Sk C (wos [F, p] H1) 2 y) : Stg C p Cn W F cs st (n + m) (fs ++ gs) H (upd H1 F (.lst (fs ++ gs))) := by
  refine ⟨fun b o nb e => ?_, ?_, ?_, ?_, upd_same, by rw [List.length_append]; have := h.ln; omega, fun y hy => ?_⟩
  · rw [upd_ne (ne_of_none e N.nF)]; exact h.kp b o nb e
  · obtain ⟨u, v, e, r⟩ := h.pot
    exact ⟨u, v, by rw [upd_ne N.Fp.symm]; exact e, r⟩
  · rw [upd_ne N.FC.symm]; exact h.hC
  · rw [upd_ne N.FW.symm]; exact h.hW
  · rw [wos_upd (by simp)]
    exact (List.mem_append.mp hy).elim (h.it y) (hg y)
end
def sp_law_right (K : PySem.W.Frag) : Sp := fun vs H Q _ => ∃ p : Addr, vs = [.ref p] ∧ PotOk H p ∧ ∀ H', Keep p H H' → Q (.bl true) H'
-- slots: _law_pot_here 0, _law_counts_here 1, _law_start 2, _law_count 3, _law_many 4, _law_last 5, _law_some 6, _law_spot 7, _law_moved 8, _law_number 9, _law_value 10, _law_shown 11, _law_told 12, _law_entry 13; cells: 
abbrev s_law_right : Stmt := top 35
theorem bk_is_way_0_value_many_counts : BindK 0 3 true "is_way" s_is_way ["counts", "many", "value"] ["value", "many", "counts"] := fun _ _ _ _ _ _ us ws hu hw => match us, ws, hu, hw with | [], [_, _, _], _, _ => rfl
abbrev N_law_right : List Str := ["_law_pot_here", "_law_counts_here", "_law_start", "_law_count", "_law_many", "_law_last", "_law_some", "_law_spot", "_law_moved", "_law_number", "_law_value", "_law_shown", "_law_told", "_law_entry"]
theorem sc_law_right : FnScope N_law_right ["_law_pot_here"] (defScope s_law_right) := ⟨rfl, rfl, rfl, by decide +kernel, rfl, by decide +kernel, by decide +kernel⟩
theorem d_law_right (B : Bnd K mg "_law_right" s_law_right) (M : Mg2 mg) (R : RCls K mg C fI fR) {kr : Nat} (RD : RDef P w K mg base kr C) (hk : kr + 8 ≤ k) (D_a_way : Def P w K mg base k "a_way" s_a_way ["counts", "many"] (sp_a_way K)) (D_is_way : Def P w K mg base k "is_way" s_is_way ["counts", "many", "value"] (sp_is_way K C)) (D_law_draw : Def P w K mg base k "_law_draw" sDraw ["_law_pot_here", "_law_many"] spDraw) (D_law_counts : Def P w K mg base k "_law_counts" sCounts ["_law_pot_here", "_law_most_many", "_law_most"] spCounts) (D_law_seen : Def P w K mg base k "_law_seen" s_law_seen ["_law_counts_here", "_law_many", "_law_value"] (sp_law_seen K C)) (D_law_bent : Def P w K mg base k "_law_bent" s_law_bent ["_law_pot_here", "_law_way"] (sp_law_bent K C)) : DefG P w K mg base (k + 1) "_law_right" s_law_right ["_law_pot_here"] (sp_law_right K) := by
  refine defG_of B sc_law_right (by rintro _ _ _ _ ⟨p, rfl, _⟩; rfl) (fun _ _ _ _ _ _ us hl => match us, hl with | [_], _ => rfl) fun f cdv A outer s H vs Q E hgd hr h => ?_
  obtain ⟨p, rfl, hp, q⟩ := h
  have hu := hr.units
  have hg2 : (A.deeper (envOfC "_law_right" (defScope s_law_right) s.heap.objs.size f cdv)).guards = some [] := hgd
  refine ⟨_, pss_cons (ps_par (i := 1) (j := 2) rfl sc_law_right.nd rfl rfl (by decide) rfl rfl (pa_cons (pe_d D_law_counts hr (by rfl) (pa_cons (pv 0) (pa_cons pe_int (pa_cons pe_int pa_nil)))) (pa_cons (pe_lst pa_nil) pa_nil)) (by rfl))
    (pss_cons (ps_for PassesOwn.never rfl (pi_list (pv 1)) (pg_name (i := 3) sc_law_right.nd rfl (.inl rfl))
      (pss_one (ps_expr (pe_bm PySem.F.plainAttrs_list PySem.F.slot_list_append PySem.F.type_list_append mt_append (pv 2) (pa_cons (pe_d D_law_draw hr (by rfl) (pa_cons (pv 0) (pa_cons pe_int pa_nil))) pa_nil)))))
    (pss_cons (ps_set (i := 4) sc_law_right.nd rfl (.inl rfl) (pe_callB (cr_sum rfl) (by rfl) M.sum boot_sum (pa_cons (pe_lc (own := [("_law_entry", 13), ("_law_count", 3)]) (g := (gTup K 2 (gCons (gName 13) (gCons (gName 3) gNil)))) (tt := tYes) (te := (tOp _ (tVar 13) (tVar 3))) rfl sc_law_right.nd (pi_zipS (by rfl) M.zip (pa_cons (pv 2) (pa_cons (pv 1) pa_nil))) (blkOk_by (own := [("_law_entry", 13), ("_law_count", 3)]) (N := N_law_right) (sc := defScope s_law_right) (by decide +kernel)) (fun _ _ _ _ _ => pg_tup rfl (pgs_cons (pg_name (i := 13) sc_law_right.nd rfl (.inl rfl)) (pgs_cons (pg_name (i := 3) sc_law_right.nd rfl (.inl rfl)) pgs_nil))) (fun _ _ _ _ _ => pts_nil) (fun _ _ _ _ _ => pe_op op_mul (pv 13) (pv 3))) pa_nil)))
    (pss_cons (ps_set (i := 5) sc_law_right.nd rfl (.inl rfl) (pe_d D_a_way hr (by rfl) (pa_cons (pv 1) (pa_cons (pv 4) pa_nil))))
    (pss_cons (ps_set (i := 6) sc_law_right.nd rfl (.inl rfl) (pe_lst (pa_cons (pv 2) (pa_cons (pe_callTy call_tuple_of (by rfl) M.tuple (by decide +kernel) (pa_cons (pv 2) pa_nil)) (pa_cons (pv 5) (pa_cons (pe_revL (pv 2)) (pa_cons (pe_revL (pv 5)) (pa_cons (pe_op op_rep (pe_lst (pa_cons pe_int pa_nil)) (pe_callB call_len_seq (by rfl) M.len boot_len (pa_cons (pv 1) pa_nil))) (pa_cons (pe_lst (pa_cons (pv 4) pa_nil)) (pa_cons (pe_tup (pa_cons (pv 4) pa_nil)) (pa_cons (pe_op op_rep (pe_lst (pa_cons pe_int pa_nil)) (pe_callB call_len_seq (by rfl) M.len boot_len (pa_cons (pv 1) pa_nil))) pa_nil)))))))))))
    (C8.pss_cut (ps_if (pt_cmpR op_gt (pe_callB call_len_seq (by rfl) M.len boot_len (pa_cons (pv 1) pa_nil)) pe_int (nomark _))
      (pss_cons (ps_set (i := 7) sc_law_right.nd rfl (.inl rfl) (pe_d D_law_draw hr (by rfl) (pa_cons (pv 0) (pa_cons (pe_op op_sub (pe_callB call_len_seq (by rfl) M.len boot_len (pa_cons (pv 1) pa_nil)) pe_int) pa_nil))))
      (pss_cons (ps_set (i := 8) sc_law_right.nd rfl (.inl rfl) (pe_op op_cat (pe_op op_cat (pe_slice (r := rSlL K) sl_list (pv 2) po_none (po_some (pv 7))) (pe_lst (pa_cons (pe_op op_add (pe_ix (r := rIxL K) ix_list (pv 2) (pv 7) (fun _ _ => rfl)) (pe_ix (r := rIxL K) ix_list (pv 1) (pe_op op_add (pv 7) pe_int) (fun _ _ => rfl))) (pa_cons (pe_op op_sub (pe_ix (r := rIxL K) ix_list (pv 2) (pe_op op_add (pv 7) pe_int) (fun _ _ => rfl)) (pe_ix (r := rIxL K) ix_list (pv 1) (pv 7) (fun _ _ => rfl))) pa_nil)))) (pe_slice (r := rSlL K) sl_list (pv 2) (po_some (pe_op op_add (pv 7) pe_int)) po_none)))
      (pss_one (ps_expr (pe_bm PySem.F.plainAttrs_list PySem.F.slot_list_extend PySem.F.type_list_extend mt_extend (pv 6) (pa_cons (pe_lst (pa_cons (pv 8) (pa_cons (pe_lc (own := [("_law_entry", 13)]) (g := (gName 13)) (tt := tYes) (te := (tIf (tTest (tOp _ (tVar 13) (tC (.int 0)))) (tVar 13) (tC (.int 0)))) rfl sc_law_right.nd (pi_list (pv 8)) (blkOk_by (own := [("_law_entry", 13)]) (N := N_law_right) (sc := defScope s_law_right) (by decide +kernel)) (fun _ _ _ _ _ => pg_name (i := 13) sc_law_right.nd rfl (.inl rfl)) (fun _ _ _ _ _ => pts_nil) (fun _ _ _ _ _ => pe_ifExp (pt_cmpR op_ge (pv 13) pe_int (nomark _)) (pv 13) pe_int)) pa_nil))) pa_nil))))))
      (pss_nil))
    (pss_cons (ps_expr (pe_bm PySem.F.plainAttrs_list PySem.F.slot_list_extend PySem.F.type_list_extend mt_extend (pv 6) (pa_cons (pe_d D_law_bent hr (by rfl) (pa_cons (pv 0) (pa_cons (pv 2) pa_nil))) pa_nil)))
    (pss_cons (ps_expr (pe_bm PySem.F.plainAttrs_list PySem.F.slot_list_extend PySem.F.type_list_extend mt_extend (pv 6) (pa_cons (pe_lst (pa_cons pe_non (pa_cons pe_bl (pa_cons pe_int (pa_cons (pv 4) (pa_cons pe_str (pa_cons (pe_callTy (cr_strD hu hg2) (by rfl) M.str (by decide +kernel) (pa_cons (pv 2) pa_nil)) (pa_cons (pe_lst pa_nil) (pa_cons (pe_tup pa_nil) (pa_cons pe_dnewK (pa_cons (pe_disp (pps_cons pe_int (pe_ix (r := rIxL K) ix_list (pv 2) pe_int (fun _ _ => rfl)) pps_nil) rfl rfl (List.cons_ne_nil _ _) (by decide)) (pa_cons (pe_rat RD (hr.mono (by omega)) (by rfl) (pa_cons (pv 4) pa_nil)) (pa_cons (pe_op op_rep (pe_lst (pa_cons pe_non pa_nil)) (pe_callB call_len_seq (by rfl) M.len boot_len (pa_cons (pv 1) pa_nil))) (pa_cons (pe_op op_rep (pe_lst (pa_cons (pe_op op_pow pe_int pe_int) pa_nil)) (pe_callB call_len_seq (by rfl) M.len boot_len (pa_cons (pv 1) pa_nil))) pa_nil)))))))))))))) pa_nil)))
    (pss_cons (ps_for PassesOwn.never rfl (pi_enumS (by rfl) M.enum (pa_cons (pv 6) pa_nil)) (pg_tup rfl (pgs_cons (pg_name (i := 9) sc_law_right.nd rfl (.inl rfl)) (pgs_cons (pg_name (i := 10) sc_law_right.nd rfl (.inl rfl)) pgs_nil)))
      (pss_cons (ps_set (i := 11) sc_law_right.nd rfl (.inl rfl) (pe_callB (cr_sh (RDef.own (P := P) (w := w) (K := K) (mg := mg) (base := base) RD (hr.mono (by omega))) (hr.mono (by omega)) hg2) (by rfl) M.repr (by decide +kernel) (pa_cons (pv 10) pa_nil)))
      (pss_cons (ps_set (i := 12) sc_law_right.nd rfl (.inl rfl) (pe_ifExp (pt_cmpR op_eq (pe_op op_mul (pe_op op_fdiv (pv 9) pe_int) pe_int) (pv 9) (nomark _)) (pe_d D_is_way hr (by rfl) (pa_cons (pv 1) (pa_cons (pv 4) (pa_cons (pv 10) pa_nil)))) (pe_dk0 D_is_way hr (by rfl) 3 true ["value", "many", "counts"] bk_is_way_0_value_many_counts (pk_cons (pv 10) (pk_cons (pv 4) (pk_cons (pe_callTy call_tuple_of (by rfl) M.tuple (by decide +kernel) (pa_cons (pv 1) pa_nil)) pk_nil))))))
      (pss_one (ps_if (PW.pt (pw_or (pt_cmpR op_ne (pe_callB cr_reprB (by rfl) M.repr (by decide +kernel) (pa_cons (pv 12) pa_nil)) (pe_callB cr_reprB (by rfl) M.repr (by decide +kernel) (pa_cons (pe_d D_law_seen hr (by rfl) (pa_cons (pv 1) (pa_cons (pv 4) (pa_cons (pv 10) pa_nil)))) pa_nil)) (nomark _)) (pw_or1 (pt_cmpR op_ne (pe_callB (cr_sh (RDef.own (P := P) (w := w) (K := K) (mg := mg) (base := base) RD (hr.mono (by omega))) (hr.mono (by omega)) hg2) (by rfl) M.repr (by decide +kernel) (pa_cons (pv 10) pa_nil)) (pv 11) (nomark _)))))
        (pss_one (ps_ret pe_bl))
        (pss_nil))))))
    (pss_one (ps_ret (pe_and (pe_cmpR op_isBl (pe_d D_is_way hr (by rfl) (pa_cons (pv 1) (pa_cons (pv 4) (pa_cons (pv 2) pa_nil)))) pe_bl (nomark _)) (pe_one (pe_cmpR op_isBl (pe_d D_is_way hr (by rfl) (pa_cons (pe_lst (pa_cons pe_int pa_nil)) (pa_cons pe_int (pa_cons (pe_lst (pa_cons pe_bl pa_nil)) pa_nil)))) pe_bl (nomark _)))))))))))))), ?_⟩
  refine ⟨_, rfl, p, 4, 9, rfl, hp, by omega, by omega, by omega, by omega, fun Cn H1 cs l1 l2 ec hp1 k1 nC hC => ?_⟩
  refine ⟨Nat.zero_le _, fun W nW => ⟨_, _, rfl, ?_⟩⟩
  have nCp : Cn ≠ p := fun z => by
    obtain ⟨u, v, e, _⟩ := hp
    rw [z, e] at nC; cases nC
  have nWp : W ≠ p := pot_ne hp1 nW
  have nWC : W ≠ Cn := fun z => by rw [z, hC] at nW; cases nW
  have s1 := same_new (o := .lst []) nW
  have T : Told cs := ⟨l1, by omega, fun c hc => by have := ec c hc; omega⟩
  refine ⟨_, rfl, Cn, rfl, ⟨_, SqL.of (s1 _ _ hC)⟩, ?_⟩
  refine for_list (xs := VI cs) (fun i σ H' => ∃ (st : List Int) (y3 : Option V), σ = [some (.ref p), some (.ref Cn), some (.ref W), y3, none, none, none, none, none, none, none, none, none, none] ∧ Keep p H H' ∧ PotOk H' p ∧ H' Cn = some (.lst (VI cs)) ∧ H' W = some (.lst (VI st)) ∧ st.length = i ∧ ∀ x ∈ st, 0 ≤ x ∧ x < 4)
    ⟨[], none, rfl, k1.trans (Keep.of s1), hp1.same s1, s1 _ _ hC, upd_same, rfl, fun x hx => by cases hx⟩ (fun i σ' H' _ ⟨_, _, _, _, _, e, _⟩ => SqL.of e) (fun i x σ' H' hx ⟨st, y3, e, k2, hp2, hC2, hW2, ls, sb⟩ => ?_) (fun σ' H' ⟨st, y3, e, k2, hp2, hC2, hW2, ls, sb⟩ => ?_)
  · subst e
    obtain ⟨c, hc, rfl⟩ := vi_at hx
    have il : i < cs.length := (List.getElem?_eq_some_iff.mp hc).1
    refine ⟨_, rfl, Or.inl ⟨rfl, _, SqL.of hW2⟩, _, rfl, p, 4, rfl, hp2, by omega, by omega, fun d H3 d0 d1 hp3 k3 => ?_⟩
    refine ⟨W, _, _, rfl, rfl, k3 _ _ nWp hW2, by rw [vi_len]; exact small (by omega), st ++ [d], some (.int c), rfl, ?_, ?_, ?_, ?_, by rw [List.length_append, ls]; rfl, fun x hx => ?_⟩
    · intro b o nb hb
      have hb1 := k1 _ _ nb hb
      rw [upd_ne (ne_of_none hb1 nW)]
      exact k3 _ _ nb (k2 _ _ nb hb)
    · obtain ⟨u, v, e1, e2⟩ := hp3
      exact ⟨u, v, by rw [upd_ne nWp.symm]; exact e1, e2⟩
    · rw [upd_ne nWC.symm]; exact k3 _ _ nCp hC2
    · rw [upd_same]; unfold VI; rw [List.map_append]; rfl
    · rcases List.mem_append.mp hx with z | z
      · exact sb x z
      · rw [List.mem_singleton.mp z]; exact ⟨d0, d1⟩
  subst e
  rw [vi_len] at ls
  obtain ⟨κ1, kk1⟩ := sqk_of (K := K) (.inl (SqL.of hW2) : Sq K H' W (VI st))
  obtain ⟨κ2, kk2⟩ := sqk_of (K := K) (.inl (SqL.of hC2) : Sq K H' Cn (VI cs))
  refine ⟨_, rfl, _, rfl, W, Cn, VI st, VI cs, κ1, κ2, rfl, kk1, kk2, fun D2 hD3 => ?_⟩
  refine lc_rel (walk_zipS (n := cs.length) (by rw [vi_len, vi_len, ls, Nat.min_self])) (fun i acc Hh => acc = VI ((prods st cs).take i)) hD3 (by rw [sizeLine_eq]; omega) (fun Hh sh => ⟨kk1.same sh, kk2.same sh⟩) (by rfl) (fun i acc A B e r => r) (fun i x acc Ha Hb hi sa ha hr hy Yc Nc yc nc => ?_) (fun acc H3 s3 ha hr => ?_)
  · obtain ⟨Tt, x1, x2, rfl, nT, rfl, hx1, hx2⟩ := hy
    obtain ⟨c1, hc1, rfl⟩ := vi_at hx1
    obtain ⟨c2, hc2, rfl⟩ := vi_at hx2
    have c0 := ec c2 (List.mem_of_getElem? hc2)
    have d0 := sb c1 (List.mem_of_getElem? hc1)
    refine ⟨Tt, _, rfl, SqT.of upd_same, rfl, _, _, rfl, _, _, rfl, rfl, rfl, _, rfl, _, rfl, _, _, rfl, rfl, .inr ⟨by omega, by omega⟩, yc _ _ (same_new nT) ?_⟩
    rw [hr, take_one (prods_at hc1 hc2)]
    unfold VI
    rw [List.map_append]; rfl
  have lp : (prods st cs).length = cs.length := by unfold prods; rw [List.length_zipWith, ls, Nat.min_self]
  have hr2 : acc = VI (prods st cs) := by rw [hr, ← lp, List.take_length]
  subst hr2
  refine ⟨D2, prods st cs, rfl, SqL.of ha, ?_⟩
  rw [prods_sum]
  have pos := T.pos
  have m0 : 0 ≤ dot st cs := dot_nonneg pos fun x hx => (sb x hx).1
  have m1 : dot st cs ≤ 200 := by have := dot_le sb ec; omega
  have isw : IsWay cs (dot st cs) st := ⟨ls, fun x hx => (sb x hx).1, rfl⟩
  generalize hm : dot st cs = m at m0 m1 isw
  have hC3 := s3 _ _ hC2
  have hW3 := s3 _ _ hW2
  refine ⟨_, rfl, _, rfl, Cn, cs, m, rfl, .inl (SqL.of hC3), T, m0, m1, fun v H4 s4 ow => ?_⟩
  obtain ⟨o1, o2⟩ | ⟨wy, b, ow1, rfl, nb, hb⟩ := ow
  · exact absurd ((mem_waysL pos).mpr isw) (by rw [List.getLast?_eq_none_iff.mp o1]; exact List.not_mem_nil)
  have iw := (mem_waysL pos).mp (List.mem_of_getLast? ow1)
  have wb : ∀ x ∈ wy, 0 ≤ x ∧ x ≤ 200 := fun x hx => ⟨iw.2.1 x hx, by have := mem_le_dot pos iw.1 iw.2.1 hx; rw [iw.2.2] at this; omega⟩
  have hC4 := s4 _ _ hC3
  have hW4 := s4 _ _ hW3
  have hp4 := (hp2.same s3).same s4
  have k4 : Keep p H H4 := k2.trans (Keep.of (s3.trans s4))
  have nbp : b ≠ p := pot_ne (hp2.same s3) nb
  clear hD3 s3 hC3 hW3 hC2 hW2 kk1 kk2 hp2 k2 s1
  have lw : wy.length = cs.length := iw.1
  have kn4 : Kn [p] H4 := hp4.kn
  have nWS : W ∉ [p] := by simpa using nWp
  have nbS : b ∉ [p] := by simpa using nbp
  have stb : ∀ x ∈ st, x.natAbs < 1000 := fun x hx => by have := sb x hx; omega
  have wyb : ∀ x ∈ wy, x.natAbs < 1000 := fun x hx => by have := wb x hx; omega
  have om : okI m := okI_small (by omega)
  have skW : ∀ Hn, Same H4 Hn → ∀ d, Sk C (wos [p] Hn) (d + 1) (.ref W) := fun Hn sn d => sk_ints (sn _ _ hW4) nWS (by omega) stb
  have skb : ∀ Hn, Same H4 Hn → ∀ d, Sk C (wos [p] Hn) (d + 1) (.ref b) := fun Hn sn d => sk_ints (sn _ _ hb) nbS (by omega) wyb
  unfold gName
  dsimp only [List.set]
  show tSeq (tAsg _ (gName 6)) _ _ [some (.ref p), some (.ref Cn), some (.ref W), y3, some (.int m), some (.ref b), none, none, none, none, none, none, none, none] H4
  refine seq_asg (φ := fun v H' => ∃ a ys, v = .ref a ∧ H4 a = none ∧ a ∉ [p] ∧ H' a = some (.lst ys) ∧ ys.length = 9 ∧ ∀ y ∈ ys, Sk C (wos (a :: [p]) H') 2 y) ?_ ?_
  · refine gvl_lstW kn4 (by omega) ?_
    refine gv_cons (gvs_var rfl (skW _ (Same.refl _) 1)) fun H5 s5 => ?_
    refine gv_cons (fun Q q => ⟨_, rfl, W, _, rfl, .inl ⟨SqL.of (s5 _ _ hW4), fun l nl => q _ _ (same_new nl) (Sk.tup (d := 1) (xs := VI st) (by rw [wos_ne ((kn4.same s5).new nl)]; exact upd_same) (by rw [vi_len]; omega) (vi_sk stb))⟩⟩) fun H6 s6 => ?_
    have s56 := s5.trans s6
    refine gv_cons (gvs_var rfl (skb _ s56 1)) fun H7 s7 => ?_
    have s57 := s56.trans s7
    refine gv_cons (GvL.s (d := 1) (n := 4) (gvl_rev rfl (SqL.of (s57 _ _ hW4)) (kn4.same s57) (vi_sk stb) (by rw [vi_len]; omega)) (by omega)) fun H8 s8 => ?_
    have s58 := s57.trans s8
    refine gv_cons (GvL.s (d := 1) (n := 4) (gvl_rev rfl (SqL.of (s58 _ _ hb)) (kn4.same s58) (vi_sk wyb) (by rw [vi_len]; omega)) (by omega)) fun H9 s9 => ?_
    have s59 := s58.trans s9
    refine gv_cons (GvL.s (d := 1) (n := 4) (gvl_rep (z := cs.length) (kn4.same s59) (gvl_lst (kn4.same s59) (by omega) (gv_cons (gvs_c fun _ => Sk.int (by decide)) fun _ _ => gv_nil)) (fun Hn sn Q q => ⟨_, rfl, Cn, VI cs, rfl, .inl (SqL.of ((s59.trans sn) _ _ hC4)), by rw [vi_len]; exact q⟩) (by omega) (by omega)) (by omega)) fun H10 s10 => ?_
    have s510 := s59.trans s10
    refine gv_cons (GvL.s (d := 1) (n := 1) (gvl_lst (kn4.same s510) (by omega) (gv_cons (gvs_var rfl (Sk.int om)) fun _ _ => gv_nil)) (by omega)) fun H11 s11 => ?_
    have s511 := s510.trans s11
    refine gv_cons (gvs_tup1 (kn4.same s511) (gvs_var rfl (Sk.int om))) fun H12 s12 => ?_
    have s512 := s511.trans s12
    exact gv_cons (GvL.s (d := 1) (n := 4) (gvl_rep (z := cs.length) (kn4.same s512) (gvl_lst (kn4.same s512) (by omega) (gv_cons (gvs_c fun _ => Sk.int (by decide)) fun _ _ => gv_nil)) (fun Hn sn Q q => ⟨_, rfl, Cn, VI cs, rfl, .inl (SqL.of ((s512.trans sn) _ _ hC4)), by rw [vi_len]; exact q⟩) (by omega) (by omega)) (by omega)) fun H13 s13 => gv_nil
  rintro v H5 s5 ⟨F, f0, rfl, nF, nFp, hF, lf, hf0⟩
  have N : Nes p Cn W F H := ⟨by simpa using nFp, nCp, nWp, fun z => by rw [z, hC4] at nF; (cases nF), fun z => by rw [z, hW4] at nF; (cases nF), by
    cases e : H F with
    | none => rfl
    | some o => rw [k4 F o (by simpa using nFp) e] at nF; cases nF⟩
  have G5 : Stg C p Cn W F cs st 9 f0 H H5 := ⟨k4.trans (Keep.of s5), hp4.same s5, s5 _ _ hC4, s5 _ _ hW4, hF, by omega, hf0⟩
  refine ⟨fun σ' H' => ∃ (y7 y8 : Option V) (fs : List V), σ' = [some (.ref p), some (.ref Cn), some (.ref W), y3, some (.int m), some (.ref b), some (.ref F), y7, y8, none, none, none, none, none] ∧ Stg C p Cn W F cs st 11 fs H H', ?_, ?_⟩
  · refine ⟨_, rfl, Cn, _, rfl, .inl (SqL.of G5.hC), _, _, rfl, rfl, _, rfl, ite2 (fun z => ?_) (fun z => ?_)⟩
    · rw [vi_len] at z
      have z2 : (1 : Int) < ((cs.length : Nat) : Int) := of_decide_eq_true z
      refine ⟨_, rfl, _, rfl, Cn, _, rfl, .inl (SqL.of G5.hC), _, _, rfl, rfl, p, _, rfl, G5.pot, by rw [vi_len]; omega, by rw [vi_len]; omega, fun s H6 s0 s1 hp6 k6 => ?_⟩
      rw [vi_len] at s1
      have G6 := G5.keep N k6 hp6
      clear G5
      dsimp only [List.set]
      show tSeq (tAsg _ _) _ _ [some (.ref p), some (.ref Cn), some (.ref W), y3, some (.int m), some (.ref b), some (.ref F), some (.int s), none, none, none, none, none, none] H6
      refine seq_asg (φ := fun v H' => ∃ a ys, v = .ref a ∧ a ∉ [F, p] ∧ H' a = some (.lst ys) ∧ ys.length ≤ 4 + 2 + 4 ∧ ∀ y ∈ ys, ∃ z : Int, y = .int z ∧ z.natAbs < 1000) ?_ ?_
      · obtain ⟨x0, hx0⟩ : ∃ x, st[s.toNat]? = some x := ⟨_, List.getElem?_eq_getElem (by omega)⟩
        obtain ⟨x1, hx1⟩ : ∃ x, st[s.toNat + 1]? = some x := ⟨_, List.getElem?_eq_getElem (by omega)⟩
        obtain ⟨c0, hc0⟩ : ∃ x, cs[s.toNat]? = some x := ⟨_, List.getElem?_eq_getElem (by omega)⟩
        obtain ⟨c1, hc1⟩ : ∃ x, cs[s.toNat + 1]? = some x := ⟨_, List.getElem?_eq_getElem (by omega)⟩
        have bx0 := sb x0 (List.mem_of_getElem? hx0)
        have bx1 := sb x1 (List.mem_of_getElem? hx1)
        have bc0 := ec c0 (List.mem_of_getElem? hc0)
        have bc1 := ec c1 (List.mem_of_getElem? hc1)
        have a0 : atI (VI st) s = some (.int x0) := at_of (j := s.toNat) (by omega) (by rw [List.getElem?_map, hx0]; rfl)
        have a1 : atI (VI st) (s + 1) = some (.int x1) := at_of (j := s.toNat + 1) (by omega) (by rw [List.getElem?_map, hx1]; rfl)
        have d0 : atI (VI cs) s = some (.int c0) := at_of (j := s.toNat) (by omega) (by rw [List.getElem?_map, hc0]; rfl)
        have d1 : atI (VI cs) (s + 1) = some (.int c1) := at_of (j := s.toNat + 1) (by omega) (by rw [List.getElem?_map, hc1]; rfl)
        have stP : ∀ y ∈ VI st, ∃ z : Int, y = .int z ∧ z.natAbs < 1000 := fun y hy => by
          obtain ⟨x, hx, rfl⟩ := List.mem_map.mp hy
          exact ⟨x, rfl, stb x hx⟩
        refine gvp_cat G6.kn (by omega) (gvp_cat G6.kn (by omega) (gvp_sl (W := W) (hv_of rfl) hno (hpart rfl) G6.hW G6.kn stP (by rw [vi_len]; omega)) fun Ha sa => ?_) fun Ha sa => ?_
        · have Ga := G6.same sa
          refine gvp_lst2 (z1 := x0 + c1) (z2 := x1 - c0) Ga.kn (fun Q q => ?_) (fun Q q => ?_) ⟨_, rfl, by omega⟩ ⟨_, rfl, by omega⟩
          · exact ⟨_, rfl, _, rfl, W, _, s, _, rfl, rfl, SqL.of Ga.hW, a0, _, rfl, _, rfl, s, 1, rfl, rfl, Cn, _, s + 1, _, rfl, rfl, SqL.of Ga.hC, d1, x0, c1, rfl, rfl, q⟩
          · exact ⟨_, rfl, _, rfl, s, 1, rfl, rfl, W, _, s + 1, _, rfl, rfl, SqL.of Ga.hW, a1, _, rfl, _, rfl, Cn, _, s, _, rfl, rfl, SqL.of Ga.hC, d0, x1, c0, rfl, rfl, q⟩
        · have Ga := G6.same sa
          exact gvp_sl (W := W) (hv_of rfl) (fun H Q q => ⟨_, rfl, s, 2, rfl, rfl, s + 2, rfl, q⟩) hno Ga.hW Ga.kn stP (by rw [vi_len]; omega)
      rintro v H7 s7 ⟨M, ms, rfl, nM, hM, lm, hms⟩
      obtain ⟨zs, rfl, hz⟩ := ints_of hms
      rw [vi_len] at lm
      have G7 := G6.same s7
      dsimp only [List.set]
      show tDrop _ _ [some (.ref p), some (.ref Cn), some (.ref W), y3, some (.int m), some (.ref b), some (.ref F), some (.int s), some (.ref M), none, none, none, none, none] H7
      refine ext_one (φ := fun v H' => LsV C [F, p] 2 2 v H') rfl G7.hF ?_ ?_
      · refine gvl_lst G7.kn (by omega) (gv_cons (gvs_var rfl (sk_ints (d := 1) hM nM (by omega) hz)) fun H8 s8 => gv_cons (GvL.s (d := 1) (n := 10) (gvl_lc (ns := zs) rfl (s8 _ _ hM) (G7.kn.same s8) (by omega) (by omega) fun j x H1 Yc Nc hx yc => ?_) (by omega)) fun _ _ => gv_nil)
        have xb := hz x (List.mem_of_getElem? hx)
        refine ⟨rfl, _, rfl, x, 0, rfl, rfl, _, rfl, ite2 (fun z => ?_) (fun z => ?_)⟩
        · exact ⟨_, rfl, yc _ fun G => Sk.int (okI_small (by omega))⟩
        · exact yc _ fun G => Sk.int (by decide)
      rintro v H8 s8 ⟨g, gs, rfl, ng, hg, lg, hgs⟩
      have G8 := G7.same s8
      have l8 := G8.ln
      refine ⟨g, gs, rfl, hg, by omega, some (.int s), some (.ref M), f0 ++ gs, rfl, ?_⟩
      exact Stg.ext (n := 9) (m := 2) G8 N lg hgs
    · exact ⟨none, none, f0, rfl, G5.kp, G5.pot, G5.hC, G5.hW, G5.hF, by omega, G5.it⟩
  rintro _ H6 ⟨y7, y8, fs, rfl, G6⟩
  have lst4 : st.length ≤ 4 := by omega
  have wb8 : ∀ x ∈ st, 0 ≤ x ∧ x ≤ 1000 := fun x hx => by have := sb x hx; omega
  refine ⟨_, rfl, Or.inl ⟨rfl, _, SqL.of G6.hF⟩, _, rfl, _, rfl, p, W, st, [F, p], rfl, G6.pot, by simp, by simp [N.FW.symm, N.Wp], G6.kn, G6.hW, by omega, by omega, wb8, fun g H7 gs hp7 k7 ng hg lg hgs => ?_⟩
  have G7 := G6.keep N k7 hp7
  have l7 := G7.ln
  refine ⟨F, g, fs, gs, rfl, rfl, G7.hF, hg, by rw [sizeLine_eq]; omega, ?_⟩
  have G8 := Stg.ext (n := 11) (m := 12) G7 N lg hgs
  generalize fs ++ gs = fs8, upd H7 F (.lst (fs ++ gs)) = H8 at G8
  clear G7 hg hgs l7 ng k7 hp7 G6
  dsimp only
  show tSeq (tDrop _) _ _ [some (.ref p), some (.ref Cn), some (.ref W), y3, some (.int m), some (.ref b), some (.ref F), y7, y8, none, none, none, none, none] H8
  refine seq_ext (φ := fun v H' => LsV C [F, p] 2 13 v H') rfl G8.hF ?_ ?_
  · have om2 : ∀ Hn, Hi (tVar 4) [some (.ref p), some (.ref Cn), some (.ref W), y3, some (.int m), some (.ref b), some (.ref F), y7, y8, none, none, none, none, none] Hn m := fun Hn Q q => ⟨_, rfl, q⟩
    refine gvl_lst G8.kn (by omega) ?_
    refine gv_cons (gvs_c fun _ => Sk.non) fun H11 s11 => ?_
    refine gv_cons (gvs_c fun _ => Sk.bl _) fun H12 s12 => ?_
    refine gv_cons (gvs_c fun _ => Sk.int (by decide)) fun H13 s13 => ?_
    refine gv_cons (gvs_var rfl (Sk.int om)) fun H14 s14 => ?_
    refine gv_cons (gvs_c fun _ => ⟨_, .str _ (by decide +kernel)⟩) fun H15 s15 => ?_
    have GA := G8.same ((((s11.trans s12).trans s13).trans s14).trans s15)
    refine gv_cons (fun Q q => ?_) fun H16 s16 => ?_
    · have dr := di_repr (ns := st) (fun x hx => by have := sb x hx; omega) (by omega)
      have hl := PyData.shown_le_bulk 8 (by omega) (DI st) (by rw [PyData.leavesShort]; exact di_leaves st fun x hx => by have := sb x hx; omega)
      have hb2 : (DI st).bulk = st.length := by rw [PyData.bulk, di_bulk]
      have hl2 := StrLaws.reprText_len (DI st).shown (shown_ints st)
      exact ⟨_, rfl, W, DI st, rfl, dp_ints (SqL.of GA.hW), dr.1, dr.2.1, dr.2.2.1, dr.2.2.2, q _ _ (Same.refl _) ⟨_, .str _ (by omega)⟩⟩
    have GB := GA.same s16
    refine gv_cons (GvL.s (d := 1) (n := 0) (gvl_lst GB.kn (by omega) gv_nil) (by omega)) fun H17 s17 => ?_
    have GC := GB.same s17
    refine gv_cons (gvs_tup (d := 1) (n := 0) GC.kn (by omega) gv_nil) fun H18 s18 => ?_
    have GD := GC.same s18
    refine gv_cons (gvs_dict0 GD.kn) fun H19 s19 => ?_
    have GE := GD.same s19
    obtain ⟨x0, hx0⟩ : ∃ x, st[0]? = some x := ⟨_, List.getElem?_eq_getElem (by omega)⟩
    have bx0 := sb x0 (List.mem_of_getElem? hx0)
    refine gv_cons (gvs_disp1 (k := 0) (v := x0) GE.kn (fun Hn sn Q q => q) (fun Hn sn Q q => ⟨_, rfl, W, _, 0, _, rfl, rfl, SqL.of (sn _ _ GE.hW), at_of (j := 0) rfl (by rw [List.getElem?_map, hx0]; rfl), q⟩) (by decide) (okI_small (by omega))) fun H20 s20 => ?_
    have GF := GE.same s20
    refine gv_cons (gvs_rat GF.kn (om2 _) om) fun H21 s21 => ?_
    have GG := GF.same s21
    refine gv_cons (GvL.s (d := 1) (n := 4) (gvl_rep (z := cs.length) GG.kn (gvl_lst GG.kn (by omega) (gv_cons (gvs_c fun _ => Sk.non) fun _ _ => gv_nil)) (fun Hn sn Q q => ⟨_, rfl, Cn, VI cs, rfl, .inl (SqL.of (sn _ _ GG.hC)), by rw [vi_len]; exact q⟩) (by omega) (by omega)) (by omega)) fun H22 s22 => ?_
    have GI := GG.same s22
    exact gv_cons (GvL.s (d := 1) (n := 4) (gvl_rep (z := cs.length) GI.kn (gvl_lst GI.kn (by omega) (gv_cons (gvs_int (z := 10 ^ 20) (fun Q q => ⟨10, 20, rfl, rfl, ⟨by decide, by decide, by decide⟩, q⟩) (by decide)) fun _ _ => gv_nil)) (fun Hn sn Q q => ⟨_, rfl, Cn, VI cs, rfl, .inl (SqL.of (sn _ _ GI.hC)), by rw [vi_len]; exact q⟩) (by omega) (by omega)) (by omega)) fun _ _ => gv_nil
  rintro v H9 s9 ⟨g9, gs9, rfl, ng9, hg9, lg9, hgs9⟩
  have G9 := G8.same s9
  have l9 := G9.ln
  refine ⟨g9, gs9, rfl, hg9, by omega, ?_⟩
  have G10 := Stg.ext (n := 23) (m := 13) G9 N lg9 hgs9
  generalize fs8 ++ gs9 = xs, upd H9 F (.lst (fs8 ++ gs9)) = H10 at G10
  clear G9 hg9 hgs9 l9 ng9 s9 G8
  refine ⟨_, rfl, F, xs, false, rfl, sqk_lst G10.hF, ?_⟩
  refine for_it (walk_enumS (n := xs.length) rfl) (fun i σ H' => ∃ (y9 y10 y11 y12 : Option V), σ = [some (.ref p), some (.ref Cn), some (.ref W), y3, some (.int m), some (.ref b), some (.ref F), y7, y8, y9, y10, y11, y12, none] ∧ Same H10 H') ⟨none, none, none, none, rfl, Same.refl _⟩
    (fun i σ' H' _ ⟨_, _, _, _, _, s⟩ => sqk_lst (s _ _ G10.hF)) (fun i x σ' H1 H2 hi pv y => ?_) (fun σ' H1 pv => ?_)
  · obtain ⟨y9, y10, y11, y12, rfl, s1⟩ := pv
    obtain ⟨Tt, x1, x2, rfl, nT, rfl, hx1, hx2⟩ := y
    obtain rfl := Option.some.inj hx1
    have s2 : Same H10 (upd H1 Tt (.tup [.int (i : Nat), x2])) := s1.trans (same_new nT)
    have sx : Sk C H10 2 x2 := (G10.it x2 (List.mem_of_getElem? hx2)).same wos_le
    obtain ⟨t, ht⟩ := id sx
    refine ⟨Tt, _, rfl, SqT.of upd_same, rfl, _, _, rfl, _, _, rfl, rfl, ?_⟩
    refine ⟨_, rfl, x2, t, 2, rfl, ht.same s2, by omega, fun H3 s3 => ?_⟩
    have s13 := s2.trans s3
    refine ⟨_, rfl, _, _, rfl, rfl, ⟨by omega, by omega⟩, _, _, rfl, rfl, .inr ⟨by omega, by omega⟩, _, rfl, rfl, _, rfl, ite2 (fun z => ?_) (fun z => ?_)⟩
    · refine ⟨_, rfl, _, rfl, _, rfl, Cn, cs, m, x2, 2, rfl, .inl (SqL.of (s13 _ _ G10.hC)), T, m0, m1, sx.same s13, fun H4 s4 => ?_⟩
      have s14 := s13.trans s4
      rw [isWayV_same sx s13]
      clear z s4
      refine ⟨_, rfl, _, rfl, _, rfl, _, rfl, _, rfl, Cn, cs, m, x2, 2, rfl, .inl (SqL.of (s14 _ _ G10.hC)), T, m0, m1, sx.same s14, fun H5 s5 => ?_⟩
      have s15 := s14.trans s5
      rw [isWayV_same sx s14]
      refine ⟨_, rfl, rfl, _, rfl, iteF2 (by simp) ⟨_, rfl, x2, t, 2, rfl, ht.same s15, by omega, fun H6 s6 => ⟨_, rfl, rfl, _, rfl, iteF2 (by simp) ⟨_, _, _, _, rfl, s15.trans s6⟩⟩⟩⟩
    · refine ⟨_, rfl, _, rfl, _, rfl, Cn, _, rfl, .inl ⟨SqL.of (s13 _ _ G10.hC), fun l nl => ⟨rfl, rfl, l, cs, m, x2, 2, rfl, .inr (SqT.of upd_same), T, m0, m1, sx.same (s13.trans (same_new nl)), fun H4 s4 => ?_⟩⟩⟩
      have s14 := (s13.trans (same_new nl)).trans s4
      rw [isWayV_same sx (s13.trans (same_new nl))]
      clear z s4
      refine ⟨_, rfl, _, rfl, _, rfl, _, rfl, _, rfl, Cn, cs, m, x2, 2, rfl, .inl (SqL.of (s14 _ _ G10.hC)), T, m0, m1, sx.same s14, fun H5 s5 => ?_⟩
      have s15 := s14.trans s5
      rw [isWayV_same sx s14]
      refine ⟨_, rfl, rfl, _, rfl, iteF2 (by simp) ⟨_, rfl, x2, t, 2, rfl, ht.same s15, by omega, fun H6 s6 => ⟨_, rfl, rfl, _, rfl, iteF2 (by simp) ⟨_, _, _, _, rfl, s15.trans s6⟩⟩⟩⟩
  obtain ⟨y9, y10, y11, y12, rfl, s1⟩ := pv
  have G1 := G10.same s1
  have wv : isWayV H1 (.ref W) cs m = true := by
    have e : itemsOf H1 (.ref W) = some (VI st) := by unfold itemsOf; simp only [G1.hW]
    have a : (VI st).all isCnt = true := List.all_eq_true.mpr fun v hv => by
      obtain ⟨x, hx, rfl⟩ := List.mem_map.mp hv
      exact decide_eq_true (sb x hx).1
    have mz : (VI st).map toZ = st := by
      unfold VI
      rw [List.map_map]
      exact (List.map_congr_left fun x _ => rfl).trans (List.map_id _)
    rw [wayV e (by rw [vi_len]; exact ls) a, mz, hm]
    exact decide_eq_true rfl
  have skW1 : Sk C H1 1 (.ref W) := (sk_ints (C := C) (S := []) (d := 0) G1.hW (by simp) (by omega) stb).same wos_le
  refine ⟨_, rfl, _, rfl, _, rfl, Cn, cs, m, .ref W, 1, rfl, .inl (SqL.of G1.hC), T, m0, m1, skW1, fun H2 s2 => ?_⟩
  rw [wv]
  refine ⟨true, true, rfl, rfl, _, rfl, iteT2 rfl ?_⟩
  refine ⟨by show 1 ≤ sizeLine; decide, fun a na => ⟨by show 1 ≤ sizeLine; decide, fun a2 na2 => ?_⟩⟩
  have ha : (upd (upd H2 a (.lst [V.int 1])) a2 (.lst [V.bl true])) a = some (.lst (VI [1])) := by rw [upd_ne (ne_of_none upd_same na2)]; exact upd_same
  refine ⟨a, [1], 1, .ref a2, 1, rfl, .inl (SqL.of ha), ⟨by decide, by decide, by decide⟩, by decide, by decide, Sk.lst (xs := [V.bl true]) upd_same (by simp) (fun y hy => by rw [List.mem_singleton.mp hy]; exact Sk.bl _), fun H5 s5 => ?_⟩
  have wv2 : isWayV (upd (upd H2 a (.lst [V.int 1])) a2 (.lst [V.bl true])) (.ref a2) [1] 1 = false := by
    have e : itemsOf (upd (upd H2 a (.lst [V.int 1])) a2 (.lst [V.bl true])) (.ref a2) = some [V.bl true] := by unfold itemsOf; simp only [upd_same]
    unfold isWayV
    rw [e]; rfl
  rw [wv2]
  refine ⟨false, false, rfl, rfl, ?_⟩
  refine q H5 ((G1.kp.trans (Keep.of s2)).trans (Keep.of (((same_new na).trans (same_new na2)).trans s5)))
end
end K21

namespace K21
open PySem PySem.Spec PyProof.Rows L2 Fp
section
variable {P : Program} {w : World} {K : PySem.W.Frag} {mg : Str → Option Value} {base : Heap} {k : Nat}
def spLaw (K : PySem.W.Frag) : Sp := fun vs H Q _ => ∃ (a : Addr) (ns : List Int), vs = [.ref a] ∧ SqL K H a (VI ns) ∧ ns.length ≤ 63 ∧ ∀ H', Q (.bl true) H'
abbrev sLaw : Stmt := top 36
theorem sc_law : FnScope ["_law_script", "_law_k"] ["_law_script"] (defScope sLaw) := ⟨rfl, rfl, rfl, by decide +kernel, rfl, by decide +kernel, by decide +kernel⟩
theorem d_law (B : Bnd K mg "law" sLaw) (M : Mg2 mg) (DP : Def P w K mg base k "_law_pot" sPot ["_law_script", "_law_k"] (spPot K)) (DR : DefG P w K mg base k "_law_right" s_law_right ["_law_pot_here"] (sp_law_right K)) : DefG P w K mg base (k + 1) "law" sLaw ["_law_script"] (spLaw K) := by
  refine defG_of B sc_law (by rintro _ _ _ _ ⟨a, ns, rfl, _⟩; rfl) (fun _ _ _ _ _ _ us hl => match us, hl with | [_], _ => rfl) fun f cdv A outer s H vs Q E hgd hr h => ?_
  obtain ⟨a, ns, rfl, hS, hl, q⟩ := h
  have hg2 : (A.deeper (envOfC "law" (defScope sLaw) s.heap.objs.size f cdv)).guards = some [] := hgd
  refine ⟨_, pss_one (ps_ret (pe_callB (cr_all rfl) (by rfl) M.all (by decide +kernel) (pa_cons (pe_lc (own := [("_law_k", 1)]) (g := gName 1) (tt := tYes) rfl sc_law.nd
      (pi_range1 (by rfl) M.range (pa_cons (pe_callB (call_max2 rfl) (by rfl) M.max (by decide +kernel) (pa_cons pe_int (pa_cons (pe_callB (call_min2 rfl) (by rfl) M.min (by decide +kernel) (pa_cons pe_int (pa_cons (pe_callB call_len_seq (by rfl) M.len boot_len (pa_cons (pv 0) pa_nil)) pa_nil))) pa_nil))) pa_nil))
      (blkOk_by (own := [("_law_k", 1)]) (N := ["_law_script", "_law_k"]) (sc := defScope sLaw) (by decide +kernel)) (fun _ _ _ _ _ => pg_name (i := 1) sc_law.nd rfl (Or.inl rfl)) (fun _ _ _ _ _ => pts_nil)
      (fun _ _ _ _ _ => pe_dG DR hg2 hr (by rfl) (pa_cons (pe_d DP hr (by rfl) (pa_cons (pv 0) (pa_cons (pv 1) pa_nil))) pa_nil))) pa_nil))), ?_⟩
  have ln := vi_len ns
  refine ⟨_, rfl, a, _, rfl, .inl hS, 2, _, rfl, 1, _, rfl, _, rfl, ?_, ?_, fun D nD => ?_⟩
  · split <;> split <;> omega
  · split <;> split <;> omega
  generalize hn : (if (if (((VI ns).length : Int)) < 2 then (((VI ns).length : Int)) else 2) > 1 then (if (((VI ns).length : Int)) < 2 then (((VI ns).length : Int)) else 2) else (1 : Int)) = n
  have hn2 : n ≤ 2 := by rw [← hn]; split <;> split <;> omega
  refine lc_rg (lo := 0) (n := n.toNat) (fun _ => some (.bl true)) nD (Nat.le_of_lt (small (by omega))) (fun i H1 hi s1 Y N y nn => ?_) (fun H1 s1 hD1 => ?_)
  · refine ⟨rfl, _, rfl, _, rfl, a, ns, 0 + (i : Int), rfl, s1.seq hS, by omega, by omega, fun p H2 s2 np hp => ⟨p, rfl, hp, fun H3 k3 => ?_⟩⟩
    exact y _ _ (fun b o hb => k3 _ _ (ne_of_none hb np) (s2 _ _ hb)) rfl
  · rw [all_true] at hD1
    refine ⟨D, List.replicate n.toNat true, rfl, SqL.of hD1, ?_⟩
    rw [all_rep]
    exact q _
end
theorem bnd {K : PySem.W.Frag} {h : Heap} {mg : Str → Option Value} (X : K.In h) (G : h.Ns mainGlobals mg) {x : Str} {st : Stmt} {f : Addr} {oc kV dc pm cd ct : Value} {od an : Option Addr} {sl : Array (Option Value)} (a : PySem.W.nsIn K mainGlobals x = some (some (.ref f)))
    (l : K.lookup f = some ⟨oc, od, .func (PySem.W.fnOf x x (defArgs st) (defBody st) (defScope st) .none kV dc pm an cd ct), sl⟩) (c : PySem.W.codeIn K cd x = true) (k : PySem.W.keepIn K (.ref f) = true) : Bnd K mg x st :=
  ⟨f, _, PySem.W.mg_of X G a, fun_mk (st := st) l c k⟩
theorem cls_mk {K : PySem.W.Frag} {h : Heap} {mg : Str → Option Value} (X : K.In h) (G : h.Ns mainGlobals mg) {C fI fR T : Addr} {od1 an1 od2 an2 odT : Option Addr} {sl1 sl2 slT : Array (Option Value)} {oc1 kV1 dc1 pm1 cd1 ct1 oc2 kV2 dc2 pm2 cd2 ct2 ocT : Value} {n : Nat} {tk : Tok}
    (aC : PySem.W.nsIn K mainGlobals "Ratio" = some (some (.ref C)))
    (pg : PySem.W.plainGet K C Str.empty = true) (hd : PySem.W.hasDictIn K C = true) (po : PySem.W.plainOver K C = true) (sa : PySem.W.findIn K (.ref C) "__setattr__" = some (some (.builtin "object.__setattr__")))
    (nT : PySem.W.findIn K (.ref C) "_top" = some none) (nB : PySem.W.findIn K (.ref C) "_bottom" = some none) (mk : PySem.W.makesIn K C = true) (kc : PySem.W.keepIn K (.ref C) = true)
    (a1 : PySem.W.findIn K (.ref C) "__init__" = some (some (.ref fI))) (i1 : PySem.W.isFn K (.ref fI) = true) (a2 : PySem.W.findIn K (.ref C) "__repr__" = some (some (.ref fR))) (i2 : PySem.W.isFn K (.ref fR) = true)
    (isA : PySem.W.findIn K (.ref C) "__class__" = some (some (.builtin "object.__class__"))) (isN : PySem.W.specialIn K (.builtin "object.__class__") "__get__" = some (some (.builtin "getset_descriptor.__get__"))) (isT : PySem.W.takesIn K (.builtin "object.__class__") = some true)
    (isM : PySem.W.mroIn K C (.type "object") = some true) (kI : PySem.W.kitOne K (.ref C) (.type "int") = some false) (kB : PySem.W.kitOne K (.ref C) (.type "bool") = some false) (kL : PySem.W.kitOne K (.ref C) (.type "list") = some false) (kT : PySem.W.kitOne K (.ref C) (.type "tuple") = some false)
    (l1 : K.lookup fI = some ⟨oc1, od1, .func (PySem.W.fnOf "__init__" "Ratio.__init__" (defArgs s_Ratio___init__) (defBody s_Ratio___init__) (defScope s_Ratio___init__) (.ref T) kV1 dc1 pm1 an1 cd1 ct1), sl1⟩) (c1 : PySem.W.codeIn K cd1 "Ratio.__init__" = true) (k1 : PySem.W.keepIn K (.ref fI) = true)
    (lT : K.lookup T = some ⟨ocT, odT, .seq #[.int 1 tk] n, slT⟩)
    (l2 : K.lookup fR = some ⟨oc2, od2, .func (PySem.W.fnOf "__repr__" "Ratio.__repr__" (defArgs s_Ratio___repr__) (defBody s_Ratio___repr__) (defScope s_Ratio___repr__) .none kV2 dc2 pm2 an2 cd2 ct2), sl2⟩) (c2 : PySem.W.codeIn K cd2 "Ratio.__repr__" = true) (k2 : PySem.W.keepIn K (.ref fR) = true) :
    ∃ (C fI fR : Addr) (fdI fdR : FuncData), RCls K mg C fI fR ∧ FunD K "__init__" "Ratio.__init__" (defArgs s_Ratio___init__) (defBody s_Ratio___init__) (defScope s_Ratio___init__) [V.int 1] [] fI fdI ∧ Fun K "__repr__" "Ratio.__repr__" s_Ratio___repr__ fR fdR :=
  ⟨C, fI, fR, _, _, ⟨⟨pg, hd, po, sa⟩, nT, nB, PySem.W.mg_of X G aC, ⟨mk, a1, i1, kc⟩, a2, i2, isA, isN, isT, isM, kI, kB, kL, kT⟩,
    ⟨⟨oc1, od1, .ref T, kV1, dc1, pm1, an1, cd1, ct1, sl1, rfl, l1, c1, .inr ⟨List.cons_ne_nil _ _, T, _, [.int 1 tk], n, rfl, lT, rfl, .cons ⟨tk, rfl⟩ .nil⟩, .inl rfl⟩, k1⟩, fun_mk (st := s_Ratio___repr__) l2 c2 k2⟩
structure All (K : PySem.W.Frag) (mg : Str → Option Value) : Prop where
  g : Mg2 mg
  R : ∃ (C fI fR : Addr) (fdI fdR : FuncData), RCls K mg C fI fR ∧ FunD K "__init__" "Ratio.__init__" (defArgs s_Ratio___init__) (defBody s_Ratio___init__) (defScope s_Ratio___init__) [V.int 1] [] fI fdI ∧ Fun K "__repr__" "Ratio.__repr__" s_Ratio___repr__ fR fdR
  b8 : Bnd K mg "is_integer" sInteger
  b9 : Bnd K mg "is_count" sCount
  b10 : Bnd K mg "is_list" sList
  b11 : Bnd K mg "check_many" sMany
  b15 : Bnd K mg "is_counts" sIsCounts
  b16 : Bnd K mg "check_counts" sCheck
  b17 : Bnd K mg "met_table" sTable
  b18 : Bnd K mg "is_next_met" sNext
  b21 : Bnd K mg "a_way" s_a_way
  b22 : Bnd K mg "is_way" s_is_way
  b23 : Bnd K mg "following" s_following
  b28 : Bnd K mg "_law_pot" sPot
  b29 : Bnd K mg "_law_draw" sDraw
  b30 : Bnd K mg "_law_pick" sPick
  b31 : Bnd K mg "_law_counts" sCounts
  b32 : Bnd K mg "_law_is_count" s_law_is_count
  b33 : Bnd K mg "_law_seen" s_law_seen
  b34 : Bnd K mg "_law_bent" s_law_bent
  b35 : Bnd K mg "_law_right" s_law_right
  b36 : Bnd K mg "law" sLaw
theorem all_law {P : Program} {w : World} {K : PySem.W.Frag} {mg : Str → Option Value} {base : Heap} (A : All K mg) : DefG P w K mg base 13 "law" sLaw ["_law_script"] (spLaw K) := by
  obtain ⟨C, fI, fR, fdI, fdR, R, FI, FR⟩ := A.R
  have bI := FI.binds1 (ps := ["self", "top", "bottom"]) 2 0 (List.cons_ne_nil _ _) rfl fun T kV doc pm an cdv ct us its hu hi => match us, its, hu, hi with | [_, _], [_], _, _ => ⟨_, rfl, rfl⟩
  have bR := FR.binds (ps := ["self"]) fun _ _ _ _ _ _ us hl => match us, hl with | [_], _ => rfl
  have D_is_integer : Def P w K mg base 1 _ _ _ _ := d_integer (k := 0) A.b8 A.g.toMg 
  have D_is_count : Def P w K mg base 2 _ _ _ _ := d_count (k := 1) A.b9  D_is_integer
  have D_check_many : Def P w K mg base 3 _ _ _ _ := d_many (k := 2) A.b11  D_is_count
  have D_is_list : Def P w K mg base 1 _ _ _ _ := d_list (k := 0) A.b10 A.g.toMg 
  have D_is_counts : Def P w K mg base 3 _ _ _ _ := d_isCounts (k := 2) A.b15 A.g.toMg (D_is_list.mono (by omega)) D_is_count
  have D_check_counts : Def P w K mg base 4 _ _ _ _ := d_check (k := 3) A.b16  D_is_counts
  have D_is_next_met : Def P w K mg base 1 _ _ _ _ := d_next (k := 0) A.b18 A.g.toMg 
  have D_met_table : Def P w K mg base 2 _ _ _ _ := d_table (k := 1) A.b17 A.g.toMg D_is_next_met
  have D_following : Def P w K mg base 3 _ _ _ _ := d_following (k := 2) A.b23 A.g D_met_table
  have D_a_way : Def P w K mg base 5 _ _ _ _ := d_a_way (k := 4) A.b21 A.g (D_check_many.mono (by omega)) D_check_counts (D_following.mono (by omega))
  have RD : RDef P w K mg base 2 C := ⟨fI, fR, fdI, fdR, R, d_rinit (k := 1) FI R A.g.toMg D_is_integer, bI, d_rrepr (k := 1) FR R, bR⟩
  have X_is_integer : Def P w K mg base 1 _ _ _ _ := d_is_integer (k := 0) A.b8 A.g R
  have X_is_count : Def P w K mg base 2 _ _ _ _ := d_is_count (k := 1) A.b9 A.g R X_is_integer
  have X_is_list : Def P w K mg base 1 _ _ _ _ := d_is_list (k := 0) A.b10 A.g R
  have D_is_way : Def P w K mg base 5 _ _ _ _ := d_is_way (k := 4) A.b22 A.g R (X_is_count.mono (by omega)) (X_is_list.mono (by omega)) (D_check_many.mono (by omega)) D_check_counts
  have L_draw : Def P w K mg base 1 _ _ _ _ := d_draw (k := 0) A.b29 A.g.toMg 
  have L_counts : Def P w K mg base 2 _ _ _ _ := d_counts (k := 1) A.b31 A.g.toMg L_draw
  have L_is_count : Def P w K mg base 1 _ _ _ _ := d_law_is_count (k := 0) A.b32 A.g R 
  have L_seen : Def P w K mg base 2 _ _ _ _ := d_law_seen (k := 1) A.b33 A.g R L_is_count
  have L_pick : Def P w K mg base 2 _ _ _ _ := d_pick (k := 1) A.b30 A.g.toMg L_draw
  have L_bent : Def P w K mg base 11 _ _ _ _ := d_law_bent (k := 10) A.b34 A.g R RD (by omega) (L_draw.mono (by omega)) (L_pick.mono (by omega))
  have L_right : DefG P w K mg base 12 _ _ _ _ := d_law_right (k := 11) A.b35 A.g R RD (by omega) (D_a_way.mono (by omega)) (D_is_way.mono (by omega)) (L_draw.mono (by omega)) (L_counts.mono (by omega)) (L_seen.mono (by omega)) L_bent
  have L_pot : Def P w K mg base 1 _ _ _ _ := d_pot (k := 0) A.b28 A.g.toMg 
  exact d_law (k := 12) A.b36 A.g (L_pot.mono (by omega)) L_right
theorem mg_int {K : PySem.W.Frag} {h : Heap} {mg : Str → Option Value} {x : Str} {z : Int} {t : Tok} (X : K.In h) (G : h.Ns mainGlobals mg) (a : PySem.W.nsIn K mainGlobals x = some (some (.int z t))) : ∃ t, mg x = some (.int z t) := ⟨t, PySem.W.mg_of X G a⟩
theorem fun_fd {K : PySem.W.Frag} {x : Str} {st : Stmt} {f : Addr} {fd fd' : FuncData} (a : Fun K x x st f fd) (b : Fun K x x st f fd') : fd = fd' := by
  obtain ⟨_, _, _, _, _, _, _, _, _, _, l1, _⟩ := a.ex
  obtain ⟨_, _, _, _, _, _, _, _, _, _, l2, _⟩ := b.ex
  rw [l1] at l2
  cases l2
  rfl
theorem fin {l : PySem.W.OpenLaw} {w : World} {K : PySem.W.Frag} {mg : Str → Option Value} {fa : Addr} (hfa : mg "law" = some (.ref fa)) (A : All K mg) :
    ∃ fd : FuncData, (∀ (s : Shared) (v : Value), BindsTo s fd ⟨[v], []⟩ [("_law_script", v)]) ∧ ∀ base : Heap, K.In base → base.Ns mainGlobals mg → FnG l.prog w K mg base CX0 13 fa fd ["_law_script"] (spLaw K) := by
  obtain ⟨f, fd, hm, F⟩ := A.b36.ex
  obtain rfl : f = fa := by
    rw [hfa] at hm
    cases hm
    rfl
  refine ⟨fd, fun s v => ?_, fun base _ _ => ?_⟩
  · obtain ⟨_, _, _, _, _, _, _, _, _, rfl, _⟩ := F.ex
    exact .of_eq rfl
  · obtain ⟨f', fd', hm', F', _, ok⟩ := (all_law (P := l.prog) (w := w) (base := base) A).ex
    obtain rfl : f = f' := by
      rw [hm] at hm'
      cases hm'
      rfl
    rw [fun_fd F F']
    exact ok
end K21
open PySem PySem.W PyProof.Rows
set_option maxRecDepth 100000 in
set_option maxHeartbeats 0 in
theorem PySem.Challenge.cw_fromplaces_k24_any_value_as_a_way_holds : PySem.Challenge.rw_fromplaces_k24_any_value_as_a_way.Holds := by
  w_on; o_law; k_head; (case hw => w_witness2)
  k_fill
  refine Fp.walk_ofG (l := PySem.Challenge.rw_fromplaces_k24_any_value_as_a_way) (n := 63) (k := 13) (x := "_law_script") (sp := K21.spLaw) rfl (by decide) rfl ⟨rfl, by decide, by decide⟩ (fun w h Y => PySem.W.kIn_of Y) ?F (fun K H a ns hl _ hS => ⟨a, ns, rfl, hS, hl, fun _ => rfl⟩)
  case F =>
    intro w mg fa h KX G hmg
    refine' K21.fin hmg ?_
    refine' ⟨⟨⟨?_, ?_, ?_, ?_, ?_, ?_, ?_, ?_, ?_, ?_, ?_, ?_, ?_, ?_, ?_, ?_, ?_, ?_, ?_⟩, ?_, ?_, ?_, ?_, ?_⟩, ?R, ?_, ?_, ?_, ?_, ?_, ?_, ?_, ?_, ?_, ?_, ?_, ?_, ?_, ?_, ?_, ?_, ?_, ?_, ?_, ?_⟩
    (case R => (refine' K21.cls_mk KX G ?aC ?pg ?hd ?po ?sa ?nT ?nB ?mk ?kc ?a1 ?i1 ?a2 ?i2 ?isA ?isN ?isT ?isM ?kI ?kB ?kL ?kT ?l1 ?c1 ?k1 ?lT ?l2 ?c2 ?k2); (case aC => k_is); (case pg => k_is); (case hd => k_is); (case po => k_is); (case sa => k_is); (case nT => k_is); (case nB => k_is); (case mk => k_is); (case kc => k_is); (case a1 => k_is); (case i1 => k_is); (case a2 => k_is); (case i2 => k_is); (case isA => k_is); (case isN => k_is); (case isT => k_is); (case isM => k_is); (case kI => kit_is); (case kB => kit_is); (case kL => kit_is); (case kT => kit_is); (case l1 => k_is); (case c1 => k_is); (case k1 => k_is); (case lT => k_is); (case l2 => k_is); (case c2 => k_is); (case k2 => k_is))
    (refine' PySem.W.mg_none_of KX G ?a; (case a => k_is))
    (refine' PySem.W.mg_none_of KX G ?a; (case a => k_is))
    (refine' PySem.W.mg_none_of KX G ?a; (case a => k_is))
    (refine' PySem.W.mg_none_of KX G ?a; (case a => k_is))
    (refine' PySem.W.mg_none_of KX G ?a; (case a => k_is))
    (refine' PySem.W.mg_none_of KX G ?a; (case a => k_is))
    (refine' PySem.W.mg_none_of KX G ?a; (case a => k_is))
    (refine' PySem.W.mg_none_of KX G ?a; (case a => k_is))
    (refine' PySem.W.mg_none_of KX G ?a; (case a => k_is))
    (refine' PySem.W.mg_none_of KX G ?a; (case a => k_is))
    (refine' PySem.W.mg_none_of KX G ?a; (case a => k_is))
    (refine' PySem.W.mg_none_of KX G ?a; (case a => k_is))
    (refine' PySem.W.mg_none_of KX G ?a; (case a => k_is))
    (refine' PySem.W.mg_none_of KX G ?a; (case a => k_is))
    (refine' PySem.W.mg_none_of KX G ?a; (case a => k_is))
    (refine' PySem.W.mg_none_of KX G ?a; (case a => k_is))
    (refine' PySem.W.mg_of KX G ?a; (case a => k_is))
    (refine' K21.mg_int KX G ?a; (case a => k_is))
    (refine' K21.mg_int KX G ?a; (case a => k_is))
    (refine' PySem.W.mg_none_of KX G ?a; (case a => k_is))
    (refine' PySem.W.mg_none_of KX G ?a; (case a => k_is))
    (refine' PySem.W.mg_none_of KX G ?a; (case a => k_is))
    (refine' PySem.W.mg_none_of KX G ?a; (case a => k_is))
    (refine' K21.mg_int KX G ?a; (case a => k_is))
    all_goals (refine' K21.bnd KX G ?a ?l ?c ?k; (case a => k_is); (case l => k_is); (case c => k_is); (case k => k_is))
