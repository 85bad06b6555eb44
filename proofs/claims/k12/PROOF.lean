import PyProof.Rows.All
import Wide.All
import OpenK.AllK
import Wide.FinOn
import HandS.ForMost
import HandS.IsInst
import HandS.Gcd
import HandS.Style
import HandS.SetFor
import HandS.Strs
import PyProof.ReprRoads
import KE.Datum
import KE.SortData
import KE.GoesMore
import KE.GoesZip
import HandS.Walk
import HandS.TupAny
import HandS.Star
import HandS.Deep
import HandS.Codes
import HandS.Conv
import KE.GoesEnum
import HandS.SortInts
import HandS.OwnEq
import HandS.Property
import PyProof.ReprNest
import PyProof.ReprReads
import PyProof.Rows.RegStrFacts
import KE.KOpsOwn
import PyProof.ReprBulk
import HandS.FStr
import HandS.Defaults
import OpenK.KMeth
import PyProof.NeKinds
import HandS.Wide
import KE.KMathGC
import KE.RegKIsAll
import PySem.Challenge.RW_fromplaces_k12_whole_reckoned_and_worths
set_option Elab.async false
set_option linter.all false
set_option maxRecDepth 100000
set_option maxHeartbeats 8000000
namespace Fp
open PySem PySem.Spec PyProof.Rows L2

/-! ### heaps -/
theorem same_new {H : Hp} {p : Addr} {o : HO} (h : H p = none) : Same H (upd H p o) := fun b u q => by rw [upd_ne (ne_of_none q h)]; exact q
theorem same_sqT {K : PySem.W.Frag} {H H' : Hp} {a : Addr} {xs : List V} (e : Same H H') (h : SqT K H a xs) : SqT K H' a xs := by
  rcases h with (h | ⟨o, h⟩) | h
  · exact Or.inl (Or.inl (e _ _ h))
  · exact Or.inl (Or.inr ⟨o, e _ _ h⟩)
  · exact Or.inr h
/-- a list or a tuple that is read -/
def Sq (K : PySem.W.Frag) (H : Hp) (a : Addr) (xs : List V) : Prop := SqL K H a xs ∨ SqT K H a xs
theorem Sq.same {K : PySem.W.Frag} {H H' : Hp} {a : Addr} {xs : List V} (h : Sq K H a xs) (e : Same H H') : Sq K H' a xs := h.imp (fun q => e.seq q) (fun q => same_sqT e q)
theorem sq_lst {K : PySem.W.Frag} {H : Hp} {a : Addr} {xs : List V} (h : H a = some (.lst xs)) : Sq K H a xs := Or.inl (SqL.of h)
theorem sq_tup {K : PySem.W.Frag} {H : Hp} {a : Addr} {xs : List V} (h : H a = some (.tup xs)) : Sq K H a xs := Or.inr (SqT.of h)
/-- all but p as it was -/
def Keep (p : Addr) (H H' : Hp) : Prop := ∀ b o, b ≠ p → H b = some o → H' b = some o
theorem Keep.refl (p : Addr) (H : Hp) : Keep p H H := fun _ _ _ h => h
theorem Keep.trans {p : Addr} {H H1 H2 : Hp} (a : Keep p H H1) (b : Keep p H1 H2) : Keep p H H2 := fun c o n h => b c o n (a c o n h)
theorem Keep.of {p : Addr} {H H' : Hp} (a : Same H H') : Keep p H H' := fun c o _ h => a c o h
theorem keep_upd {p : Addr} {H : Hp} {o : HO} : Keep p H (upd H p o) := fun b u n q => by rw [upd_ne n]; exact q

/-! ### what is walked: a list or a tuple -/
section
variable {X : Cx} {tg : Expr}
theorem pi_or {l : Expr} {w1 w2 : TI} (h1 : PI X tg l w1) (h2 : PI X tg l w2) : PI X tg l (fun σ H R => w1 σ H R ∨ w2 σ H R) :=
  ⟨fun pins s σ H R I h => h.elim (fun q => h1.run pins s σ H R I q) (fun q => h2.run pins s σ H R I q)⟩
def iSq (K : PySem.W.Frag) (tl : TE) : TI := fun σ H R => iList K tl σ H R ∨ iTup K tl σ H R
theorem pi_sq {l : Expr} {tl : TE} (hl : PE X l tl) : PI X tg l (iSq X.K tl) := pi_or (pi_list hl) (pi_tup hl)
end
section
variable {K : PySem.W.Frag} {tl : TE} {a : Addr} {xs : List V} {g : TG} {tt : TT} {te : TE} {vs : List Nat} {σ : L2.St} {H : Hp} {Q : VK} {tb : TS} {D : Ends}
/-- for x in a list or a tuple that stood at H0 and stands still -/
theorem for_sq {H0 : Hp} (Pv : Nat → L2.St → Hp → Prop) (hv : ∀ R : V → Hp → Prop, R (.ref a) H → tl σ H R) (hS : Sq K H0 a xs) (e0 : Same H0 H) (h0 : Pv 0 σ H) (hl : ∀ i σ' H', Pv i σ' H' → Same H0 H')
    (hs : ∀ i x σ H, xs[i]? = some x → Pv i σ H → g x σ H fun σ2 H2 => tb { D with nx := Pv (i + 1), ct := Pv (i + 1), bk := D.nx } σ2 H2) (hd : ∀ σ H, Pv xs.length σ H → D.nx σ H) : tFor (iSq K tl) g tb D σ H := by
  rcases hS with hS | hS
  · exact Or.inl (hv _ ⟨a, rfl, ⟨xs, e0.seq hS⟩, for_list (xs := xs) Pv h0 (fun i σ' H' _ p => (hl i σ' H' p).seq hS) hs hd⟩)
  · exact Or.inr (hv _ ⟨a, rfl, ⟨xs, same_sqT e0 hS⟩, for_tup (xs := xs) Pv h0 (fun i σ' H' _ p => same_sqT (hl i σ' H' p) hS) hs hd⟩)

/-! ### comprehensions whose elements leave what is tracked as it was: index i yields f i (or is left out) -/
theorem fm_succ {α : Type} (f : Nat → Option α) (i : Nat) : (List.range (i + 1)).filterMap f = (List.range i).filterMap f ++ (match f i with | some y => [y] | none => []) := by
  rw [List.range_succ, List.filterMap_append]
  cases e : f i <;> simp [e]
theorem fm_len {α : Type} (f : Nat → Option α) (n : Nat) : ((List.range n).filterMap f).length ≤ n := by
  have q := List.length_filterMap_le f (List.range n)
  rw [List.length_range] at q
  exact q
/-- the part of a reading that a turn of such a comprehension is -/
def LcTurn (f : Nat → Option V) (g : TG) (tt : TT) (te : TE) (vs : List Nat) (σ : L2.St) (i : Nat) (x : V) (H0 H1 : Hp) : Prop :=
  ∀ (Y : V → Hp → Prop) (N : Hp → Prop), (∀ y H2, Same H0 H2 → f i = some y → Y y H2) → (∀ H2, Same H0 H2 → f i = none → N H2) →
    g x (wipe σ vs) H1 fun σ2 H2 => wipe σ2 vs = wipe σ vs ∧ tt σ2 H2 fun b H3 => if b = true then te σ2 H3 Y else N H3
/-- the invariant -/
def LcInv (f : Nat → Option V) (H : Hp) (Dd : Addr) (i : Nat) (H1 : Hp) : Prop := Same H H1 ∧ H1 Dd = some (.lst ((List.range i).filterMap f))
theorem LcInv.start {f : Nat → Option V} {Dd : Addr} (hD : H Dd = none) : LcInv f H Dd 0 (upd H Dd (.lst [])) := ⟨same_new hD, by rw [upd_same]; rfl⟩
theorem LcInv.turn {f : Nat → Option V} {Dd : Addr} (hD : H Dd = none) {i : Nat} (hz : i < sizeLine) {x : V} {H1 H0 : Hp} (h : LcInv f H Dd i H1) (h0 : Same H1 H0) (t : LcTurn f g tt te vs σ i x H1 H0) :
    g x (wipe σ vs) H0 fun σ2 H2 => wipe σ2 vs = wipe σ vs ∧ tt σ2 H2 fun b H3 =>
      if b = true then te σ2 H3 fun y H4 => ∃ acc, H4 Dd = some (.lst acc) ∧ acc.length < sizeLine ∧ LcInv f H Dd (i + 1) (upd H4 Dd (.lst (acc ++ [y]))) else LcInv f H Dd (i + 1) H3 := by
  refine t _ _ (fun y H2 sm e => ?_) fun H2 sm e => ?_
  · refine ⟨_, sm _ _ h.2, Nat.lt_of_le_of_lt (fm_len f i) hz, fun b o q => ?_, ?_⟩
    · rw [upd_ne (ne_of_none q hD)]
      exact sm _ _ (h.1 _ _ q)
    · rw [upd_same, fm_succ, e]
  · refine ⟨fun b o q => sm _ _ (h.1 _ _ q), ?_⟩
    rw [sm _ _ h.2, fm_succ, e, List.append_nil]
theorem lc_sq (f : Nat → Option V) (hv : ∀ R : V → Hp → Prop, R (.ref a) H → tl σ H R) (hS : Sq K H a xs) (hz : xs.length ≤ sizeLine)
    (hs : ∀ i x H1, xs[i]? = some x → Same H H1 → LcTurn f g tt te vs σ i x H1 H1)
    (hd : ∀ Dd H1, Same H H1 → H Dd = none → H1 Dd = some (.lst ((List.range xs.length).filterMap f)) → Q (.ref Dd) H1) : tLc (iSq K tl) g tt te vs σ H Q := by
  have hi : ∀ {i : Nat} {x : V}, xs[i]? = some x → i < sizeLine := fun {i x} e => Nat.lt_of_lt_of_le (List.getElem?_eq_some_iff.mp e).1 hz
  rcases hS with hS | hS
  · exact Or.inl (hv _ ⟨a, rfl, ⟨xs, hS⟩, fun Dd hD => lc_list (xs := xs) (LcInv f H Dd) (LcInv.start hD) (fun i H1 _ p => p.1.seq hS)
      (fun i x H1 hx p => p.turn hD (hi hx) (Same.refl _) (hs i x H1 hx p.1)) fun H1 p => hd Dd H1 p.1 hD p.2⟩)
  · exact Or.inr (hv _ ⟨a, rfl, ⟨xs, hS⟩, fun Dd hD => lc_tup (xs := xs) (LcInv f H Dd) (LcInv.start hD) (fun i H1 _ p => same_sqT p.1 hS)
      (fun i x H1 hx p => p.turn hD (hi hx) (Same.refl _) (hs i x H1 hx p.1)) fun H1 p => hd Dd H1 p.1 hD p.2⟩)
/-- over a range: ahead of it stand the range's own words -/
theorem lc_rg {lo : Int} {n : Nat} {Dd : Addr} {Qd : Hp → Prop} (f : Nat → Option V) (hD : H Dd = none) (hz : n ≤ sizeLine)
    (hs : ∀ i H1, i < n → Same H H1 → LcTurn f g tt te vs σ i (.int (lo + i)) H1 H1)
    (hd : ∀ H1, Same H H1 → H1 Dd = some (.lst ((List.range n).filterMap f)) → Qd H1) : ∃ W : Nat → Nat → Hp → Prop, (∃ m, W 0 m (upd H Dd (.lst []))) ∧ ∀ i m H, W i m H →
      ((Itr lo n).stop i H ∧ Qd H) ∨ ((Itr lo n).go i H ∧ ∃ Nx : Hp → Prop, (∀ H', Nx H' → ∃ m', m' < m ∧ W (i + 1) m' H') ∧ ∀ x H', (Itr lo n).yld i H x H' → g x (wipe σ vs) H' fun σ2 H2 => wipe σ2 vs = wipe σ vs ∧ tt σ2 H2 fun b H3 =>
        if b = true then te σ2 H3 fun y H4 => ∃ acc, H4 Dd = some (.lst acc) ∧ acc.length < sizeLine ∧ Nx (upd H4 Dd (.lst (acc ++ [y]))) else Nx H3) :=
  lc_range (lo := lo) (n := n) (LcInv f H Dd) (LcInv.start hD) (fun i H1 hi p => p.turn hD (Nat.lt_of_lt_of_le hi hz) (Same.refl _) (hs i H1 hi p.1)) fun H1 p => hd H1 p.1 p.2
/-- over enumerate of a list -/
theorem lc_en {Dd : Addr} {Qd : Hp → Prop} (f : Nat → Option V) (hS : SqL K H a xs) (hD : H Dd = none) (hz : xs.length ≤ sizeLine)
    (hs : ∀ i x H1 T, xs[i]? = some x → Same H H1 → H1 T = none → LcTurn f g tt te vs σ i (.ref T) H1 (upd H1 T (.tup [.int (i : Nat), x])))
    (hd : ∀ H1, Same H H1 → H1 Dd = some (.lst ((List.range xs.length).filterMap f)) → Qd H1) : ∃ W : Nat → Nat → Hp → Prop, (∃ m, W 0 m (upd H Dd (.lst []))) ∧ ∀ i m H, W i m H →
      ((Ite K a).stop i H ∧ Qd H) ∨ ((Ite K a).go i H ∧ ∃ Nx : Hp → Prop, (∀ H', Nx H' → ∃ m', m' < m ∧ W (i + 1) m' H') ∧ ∀ x H', (Ite K a).yld i H x H' → g x (wipe σ vs) H' fun σ2 H2 => wipe σ2 vs = wipe σ vs ∧ tt σ2 H2 fun b H3 =>
        if b = true then te σ2 H3 fun y H4 => ∃ acc, H4 Dd = some (.lst acc) ∧ acc.length < sizeLine ∧ Nx (upd H4 Dd (.lst (acc ++ [y]))) else Nx H3) := by
  refine ⟨fun i m H1 => m = xs.length - i ∧ i ≤ xs.length ∧ LcInv f H Dd i H1, ⟨xs.length, rfl, Nat.zero_le _, LcInv.start hD⟩, ?_⟩
  rintro i m H1 ⟨rfl, hi, p⟩
  have q : SqL K H1 a xs := p.1.seq hS
  by_cases hlt : i < xs.length
  · have hx : xs[i]? = some xs[i] := List.getElem?_eq_getElem hlt
    refine Or.inr ⟨⟨xs, xs[i], q, hx⟩, LcInv f H Dd (i + 1), fun H' p' => ⟨xs.length - (i + 1), by omega, rfl, hlt, p'⟩, ?_⟩
    rintro v H' ⟨T, x, rfl, hT, rfl, hy⟩
    have ex : x = xs[i] := Option.some.inj ((hy xs q).symm.trans hx)
    subst ex
    exact p.turn hD (Nat.lt_of_lt_of_le hlt hz) (same_new hT) (hs i _ H1 T hx p.1 hT)
  · have e : i = xs.length := by omega
    subst e
    exact Or.inl ⟨⟨xs, q, Nat.le_refl _⟩, hd H1 p.1 p.2⟩
end
/-- from an index to the items -/
theorem fm_take {α : Type} (xs : List α) (h : α → Option V) : ∀ n, (List.range n).filterMap (fun i => (xs[i]?).bind h) = (xs.take n).filterMap h
  | 0 => by rw [List.take_zero]; rfl
  | n + 1 => by
    rw [fm_succ, fm_take xs h n, List.take_add_one, List.filterMap_append]
    cases e : xs[n]? with
    | none => rfl
    | some x =>
      cases e2 : h x <;> simp [e2]
theorem fm_all {α : Type} (xs : List α) (h : α → Option V) : (List.range xs.length).filterMap (fun i => (xs[i]?).bind h) = xs.filterMap h := by
  rw [fm_take, List.take_length]
end Fp

namespace Fp
open PySem PySem.Spec PyProof.Rows L2

/-! ### isinstance(x, (list, tuple)) -/
theorem tyx_of {K : PySem.W.Frag} {H : Hp} {a : Addr} {xs : List V} (h : Sq K H a xs) : TyX K H (.ref a) (.type "list") ∨ TyX K H (.ref a) (.type "tuple") := by
  rcases h with ((h | ⟨o, h⟩) | ⟨o, its, n, hk, hc, _⟩) | ((h | ⟨o, h⟩) | ⟨o, its, n, hk, hc, _⟩)
  · exact Or.inl (.base (.lst h))
  · exact Or.inl (.base (.frz h))
  · exact Or.inl (.kList hk hc)
  · exact Or.inr (.base (.tup h))
  · exact Or.inr (.fTuple h)
  · exact Or.inr (.kTuple hk hc)
theorem kit_lt {K : PySem.W.Frag} : PySem.W.kitAny K (.type "list") [.type "list", .type "tuple"] = some true ∧ PySem.W.kitAny K (.type "tuple") [.type "list", .type "tuple"] = some true := by
  refine ⟨kitAny_cons (kit_ty (r := true) (by decide +kernel)) (fun z => nomatch z) (fun _ => rfl), ?_⟩
  exact kitAny_cons (kit_ty (r := false) (by decide +kernel)) (fun _ => kitAny_cons (kit_ty (r := true) (by decide +kernel)) (fun z => nomatch z) (fun _ => rfl)) (fun z => nomatch z)
theorem isi_lt {K : PySem.W.Frag} {H : Hp} {a tp : Addr} {xs : List V} {Q : VK} (h : Sq K H a xs) (ht : H tp = some (.tup [.ty "list", .ty "tuple"])) (q : Q (.bl true) H) : rIsiT K [.ref a, .ref tp] H Q := by
  rcases tyx_of h with t | t
  · exact ⟨_, tp, _, _, _, true, rfl, ht, .cons (.ty _) (.cons (.ty _) .nil), t, kit_lt.1, q⟩
  · exact ⟨_, tp, _, _, _, true, rfl, ht, .cons (.ty _) (.cons (.ty _) .nil), t, kit_lt.2, q⟩
theorem kit_int {K : PySem.W.Frag} : PySem.W.kitOne K (.type "int") (.type "int") = some true := kit_ty (by decide +kernel)
theorem kit_int_bool {K : PySem.W.Frag} : PySem.W.kitOne K (.type "int") (.type "bool") = some false := kit_ty (by decide +kernel)
theorem isi_int {K : PySem.W.Frag} {H : Hp} {i : Int} {Q : VK} (q : Q (.bl true) H) : rIsi K [.int i, .ty "int"] H Q := ⟨_, _, _, _, true, rfl, .ty _, .base (.int i), kit_int, q⟩
theorem isi_bool {K : PySem.W.Frag} {H : Hp} {i : Int} {Q : VK} (q : Q (.bl false) H) : rIsi K [.int i, .ty "bool"] H Q := ⟨_, _, _, _, false, rfl, .ty _, .base (.int i), kit_int_bool, q⟩

/-! ### len of a list or a tuple -/
theorem len_sq {K : PySem.W.Frag} {H : Hp} {a : Addr} {xs : List V} {Q : VK} (h : Sq K H a xs) (q : Q (.int xs.length) H) : ∃ p ys, [V.ref a] = [.ref p] ∧ (SqL K H p ys ∨ SqT K H p ys) ∧ Q (.int ys.length) H := ⟨a, xs, rfl, h, q⟩

/-! ### set(..) of a list or a tuple of ints -/
abbrev eset (w : World) : Obj := { cls := .type "set", dict := none, data := .set #[] 0 (.fresh 0 0 (!w.params.followText "set-order")) }
section
variable {P : Program} {w : World} {A : Around} {E : Value → Shared → Prop} {s : Shared}
theorem call_set_lstI {l : Addr} {xs : Array Value} (ns : List Int) {Q : Value → Shared → Prop} (hh : A.handled = none) (hl : s.heap.IsList l xs) (hi : IntsAre xs.toList ns) (hb : ns.length + 1 < scanBound)
    (q : ∀ (h' : Heap) (tk c : Nat), SetR w h' s.heap.objs.size (fun j => decide (j ∈ ns)) c → c ≤ ns.length → (∀ b o, s.heap.get? b = some o → h'.get? b = some o) → Q (.ref s.heap.objs.size) { s with heap := h', toks := tk }) :
    wpAny (model P w) A (call (.type "set") [.ref l]) Q E s := by
  have sz : xs.size = ns.length := by have z := IntsAre.length hi; rw [Array.length_toList] at z; exact z
  obtain ⟨c0, tl0, mro0⟩ := F.called_set.mro
  have f1 := F.called_set.made
  have f2 := F.called_set.sub
  have f3 := F.called_set.notType
  have f4 := F.called_set.canCreate
  have f5 := F.typeCall_set_1 (.ref l)
  refine wpAny_call (codeAny_of_tree (wpAny_pure ⟨Code.quiet_builtin _ (by decide +kernel), codeAny_builtin F.entry_type_call ?_⟩))
  rw [Around.under_plain (weight_type_call_type "set" [.ref l] []) rfl]
  repeat (any_goals (first | assumption | wp_step))
  refine codeAny_mono (code_set_led1 (.ref l) (E := E) (Q₁ := fun ob sb => ob = .ref s.heap.objs.size ∧ sb = { s with heap := s.heap.push (eset w) }) ⟨rfl, rfl⟩) ?_
  rintro (e | fl) s1 hr
  · exact hr
  cases fl with
  | next => exact hr.elim
  | brk => exact hr.elim
  | cont => exact hr.elim
  | ret ob =>
    obtain ⟨rfl, rfl⟩ := hr
    have g0 : (s.heap.push (eset w)).get? s.heap.objs.size = some (eset w) := Heap.get?_push_size _ rfl
    have gT : Shared.TypeIs { s with heap := s.heap.push (eset w) } (.ref s.heap.objs.size) "set" := ⟨_, g0, rfl⟩
    have i1 := F.called_set.init.lookup
    have i2 := F.called_set.init.bind (.ref s.heap.objs.size)
    repeat (any_goals (first | assumption | wp_step))
    refine codeAny_mono (codeAny_call_builtin (R := wants (fun r sb => r = .none ∧ ∃ h' tk c, sb = { s with heap := h', toks := tk } ∧ SetR w h' s.heap.objs.size (fun j => decide (j ∈ ns)) c ∧ c ≤ ns.length ∧
        (∀ b o, s.heap.get? b = some o → h'.get? b = some o)) E) F.called_set.init.plain F.entry_set_init (check_set_init_1 gT ?_)) ?_
    · obtain ⟨⟨ocls, odict, odata, oslots⟩, hol, hcl, nl, hdl⟩ := hl
      simp only at hcl hdl
      subst hcl; subst hdl
      have hl0 : l < s.heap.objs.size := Heap.lt_size hol
      have hol1 : (s.heap.push (eset w)).get? l = some { cls := .type "list", dict := odict, data := .seq xs nl, slots := oslots } := Heap.get?_push_of_some _ hol
      have hl1 : (s.heap.push (eset w)).IsList l xs := ⟨_, hol1, rfl, nl, rfl⟩
      have u1 := F.sub_list_set
      have u2 := F.sub_list_frozenset
      have u3 : (Value.type "list" == Value.type "dict") = false := by decide
      unfold Builtin.«set.__init__» noKeywords Builtin.Frozenset.updateFrom
      generalize hPI : pyIter = PI
      wp_walk
      subst hPI
      refine wpAny_pyIter_list hl1 ?_
      refine wpAny_bind (wpAny_runValue ?_)
      have z1 : (s.heap.push (eset w)).objs.size = s.heap.objs.size + 1 := Heap.size_push ..
      have n1 : l ≠ (s.heap.push (eset w)).objs.size := Nat.ne_of_lt (by rw [z1]; exact Nat.lt_succ_of_lt hl0)
      have n2 : s.heap.objs.size ∉ [(s.heap.push (eset w)).objs.size, l] := by
        simp only [List.mem_cons, List.not_mem_nil, or_false, not_or]
        exact ⟨Nat.ne_of_lt (by rw [z1]; exact Nat.lt_succ_self _), Nat.ne_of_gt hl0⟩
      have it : ∀ (i : Nat) (v : Value), xs[i]? = some v → ∃ k t, ns[i]? = some k ∧ v = .int k t := fun i v hv => by
        have hlt : i < ns.length := by rw [← sz]; exact (Array.getElem?_eq_some_iff.mp hv).1
        obtain ⟨t, e⟩ := PyProof.Rows.IntsAre.int_at hi i v (by rw [Array.getElem?_toList]; exact hv)
        refine ⟨ns[i], t, List.getElem?_eq_getElem hlt, e.trans ?_⟩
        rw [List.getD_eq_getElem?_getD, List.getElem?_eq_getElem hlt]; rfl
      have hA3 : A.in1.in1.in1.handled = none := by simp [hh]
      refine set_update_ints ((Walks.list hA3 _ l n1 xs).toS) s.heap.objs.size n2 ns sz hb it (xs.size - 0) 0 _ (by omega) (Nat.zero_le _) ⟨⟨_, Heap.get?_push_size _ rfl, rfl, rfl⟩, (hl1.push _)⟩ ?_ ?_
      · exact ⟨0, Nat.le_refl 0, setR_new_at (Heap.get?_push_of_some _ g0)⟩
      · rintro ⟨h', g2, d', tk', os'⟩ c' hm hc' hS'
        obtain rfl : g2 = s.gens := hm.gens
        obtain rfl : d' = s.drawn := hm.drawn
        obtain rfl : os' = s.os := hm.os
        rw [sz] at hc'
        refine wpAny_pure (wpAny_pure ⟨rfl, h', tk', c', rfl, hS', hc', fun b o e => ?_⟩)
        have hb0 : b < s.heap.objs.size := Heap.lt_size e
        refine hm.heap b o ?_ (Heap.get?_push_of_some _ (Heap.get?_push_of_some _ e))
        simp only [List.mem_cons, List.not_mem_nil, or_false, not_or]
        exact ⟨Nat.ne_of_lt hb0, Nat.ne_of_lt (by rw [z1]; exact Nat.lt_succ_of_lt hb0)⟩
    · rintro (e | f2) s2 hr2
      · exact hr2
      cases f2 with
      | next => exact hr2.elim
      | brk => exact hr2.elim
      | cont => exact hr2.elim
      | ret r =>
        obtain ⟨rfl, h', tk, c', rfl, hS', hc', hk'⟩ := hr2
        repeat (any_goals (first | assumption | wp_step))
        exact q _ _ _ hS' hc' hk'
end
end Fp

namespace Fp
open PySem PySem.Spec PyProof.Rows L2

/-! ### repr(..) of data, where nothing is being shown -/
def rRepr (K : PySem.W.Frag) : List V → Hp → VK → Prop := fun vs H Q => ∃ (a : Addr) (d : PyData), vs = [.ref a] ∧ Dp K H (.ref a) d ∧ d.showable = true ∧ d.hasDict = false ∧ d.depth ≤ 8 ∧ d.shown.length ≤ sizeLine ∧ Q (.str d.shown) H
theorem cr_repr {X : Cx} (hu : X.A.units + 64 < cLine) (hg : X.A.guards = some []) : CallR X (.builtin "repr") (rRepr X.K) := by
  intro pins s σ H xs us Q I r h
  obtain ⟨a, d, rfl, hd, h1, h2, h3, h4, q⟩ := h
  rw [Vals.ref1 r]
  obtain ⟨as, hr⟩ := Dp.reads I d _ (.ref a) hd rfl
  refine repr_of_reads' hr h1 (fun z => by rw [h2] at z; cases z) hg (by omega) (fun _ _ e => e) (fun h' u tk k => ?_) h4
  exact ⟨.str d.shown, H, I.kept (t' := tk) k, ⟨u, rfl⟩, q⟩

/-! ### defs that are called where nothing is being shown -/
structure FnG (P : Program) (w : World) (K : PySem.W.Frag) (mg : Str → Option Value) (base : Heap) (CX : CXT) (k : Nat) (f : Addr) (fd : FuncData) (ps : List Str) (sp : Sp) : Prop where
  len : ∀ vs H Q E, sp vs H Q E → vs.length = ps.length
  go : ∀ (A : Around) (outer : List Env) (s : Shared) (H : Hp) (args : Args) (us : List Value) (vs : List V) (Q : VK) (E : XK), A.guards = some [] → Room k A → Env0 P w K mg base A outer s H → BindsTo s fd args (ps.zip us) → Vals vs us → sp vs H Q E →
    codeAny (model P w) A (.call (.ref f) args) (CR CX outer P w H s Q E) s
section
variable {P : Program} {w : World} {K : PySem.W.Frag} {mg : Str → Option Value} {base : Heap} {CX : CXT} {k : Nat} {f : Addr}
theorem fnG_of {name qual : Str} {params : Arguments} {body : List Stmt} {scope : Scope} {dV kV doc pm cdv ct oc : Value} {an od : Option Addr} {osl : Array (Option Value)} {N ps : List Str} {sp : Sp}
    (lk : K.lookup f = some ⟨oc, od, .func (PySem.W.fnOf name qual params body scope dV kV doc pm an cdv ct), osl⟩) (hcd : PySem.W.codeIn K cdv qual = true) (S : FnScope N ps scope) (len : ∀ vs H Q E, sp vs H Q E → vs.length = ps.length)
    (hb : ∀ (A : Around) (outer : List Env) (s : Shared) (H : Hp) (vs : List V) (Q : VK) (E : XK), A.guards = some [] → Room k (A.deeper (envOfC qual scope s.heap.objs.size f cdv)) → sp vs H Q E →
      ∃ t, PSs (cxOf CX P w K mg base N qual scope f cdv A outer s H E) body t ∧ t { nx := fun _ H1 => Q .non H1, rt := Q } (start N vs) H) :
    FnG P w K mg base CX (k + 1) f (PySem.W.fnOf name qual params body scope dV kV doc pm an cdv ct) ps sp := by
  constructor
  · exact len
  intro A outer s H args us vs Q E hgd hr e0 hbd rv hsp
  have z := len _ _ _ _ hsp
  have KX : K.In s.heap := e0.mod.kin.keeps (fun b o e => (e0.bs b o e).1)
  have nl : s.heap.NoLimit := e0.mod.nolimit.keeps (fun b o e => (e0.bs b o e).1)
  have par : ∀ y ∈ ps.zip us, scope.names.lookup y.1 = some .local ∨ (scope.names.lookup y.1 = some .cell ∧ ((cellsFrom (s.heap.objs.size + 1) scope.names []).lookup y.1).isSome = true) := by
    rintro ⟨n, v⟩ hy
    exact (S.par n (List.of_mem_zip hy).1).imp id fun q => ⟨q, PySem.W.cellsFrom_some _ _ _ (.inl q)⟩
  refine codeAny_call_function hr.depth (KX _ _ lk) rfl S.co S.gen rfl (PySem.W.codeRec_of KX hcd) (hbd _ _ _ _ (wpAny_newFunctionEnv_cells S.kind par ?_))
  rintro env rfl s1 x
  refine ⟨nl.keeps x.toInCall.keep, codeAny_func ?_⟩
  obtain ⟨t, ht, hq⟩ := hb A outer s H vs Q E hgd (hr.deeper _) hsp
  have I := inv_start (CX := CX) (cd := cdv) (f := f) (E := E) S hr.hd e0 z rv x
  refine wpAny_mono (ht.run [] s1 (start N vs) H _ I hq) ?_ (fun e s' h => h)
  rintro (_ | _ | _ | u) s' h
  · obtain ⟨σ', H', J, q⟩ := h
    exact ⟨.non, H', J.os, J.bare, J.base, J.hok, rfl, q⟩
  · obtain ⟨_, _, _, q⟩ := h
    exact q.elim
  · obtain ⟨_, _, _, q⟩ := h
    exact q.elim
  · obtain ⟨v, σ', H', J, r, q⟩ := h
    exact ⟨v, H', J.os, J.bare, J.base, J.hok, r, q⟩
/-- the rule for such a def -/
theorem fun_okG {x qual : Str} {st : Stmt} {fd : FuncData} {N ps : List Str} {sp : Sp} (F : Fun K x qual st f fd) (S : FnScope N ps (defScope st)) (len : ∀ vs H Q E, sp vs H Q E → vs.length = ps.length)
    (hb : ∀ (cdv : Value) (A : Around) (outer : List Env) (s : Shared) (H : Hp) (vs : List V) (Q : VK) (E : XK), A.guards = some [] → Room k (A.deeper (envOfC qual (defScope st) s.heap.objs.size f cdv)) → sp vs H Q E →
      ∃ t, PSs (cxOf CX0 P w K mg base N qual (defScope st) f cdv A outer s H E).nox (defBody st) t ∧ t { nx := fun _ H' => Q .non H', rt := Q } (start N vs) H) : FnG P w K mg base CX0 (k + 1) f fd ps sp := by
  obtain ⟨oc, od, kV, doc, pm, an, cdv, ct, osl, rfl, lk, hcd⟩ := F.ex
  refine fnG_of lk hcd S len fun A outer s H vs Q E hg hr hsp => ?_
  obtain ⟨t, h, q⟩ := hb cdv A outer s H vs Q E hg hr hsp
  exact ⟨t, h.nox, q⟩
end
section
variable {X : Cx} {CX : CXT} {k : Nat} {f : Addr} {fd : FuncData} {ps : List Str} {sp : Sp} {E : XK} {x : Str} {p pos : Pos} {e : Expr} {es : List Expr} {t : TA}
theorem pe_callG (F : FnG X.prog X.w X.K X.mg X.base CX k f fd ps sp) (hgd : X.A.guards = some []) (hr : Room k X.A) (hg : Gl X x) (hm : X.mg x = some (.ref f)) (hk : PySem.W.keepIn X.K (.ref f) = true) (hb : Binds X.K fd ps []) (hx : Passes CX X E)
    (ha : PA X (e :: es) t) (hdb : (x == ("__debug__" : Str)) = false := by decide) (he : starEach (e :: es) X.env = (false, eval e X.env) :: starEach es X.env := by rfl) (hpl : (backTo pos (starEach es X.env)).any (·.1) = false := by rfl) :
    PE X (.Call (.Name x p) (e :: es) [] pos) (fun σ H Q => t σ H fun vs H1 => sp vs H1 Q E) := by
  constructor
  intro pins s σ H Q I h
  refine wpAny_Call_Name_kw (ld_glob I hg hm (PySem.W.callWith_K (h₀ := X.base) I.ok.mod.kin hk (thn (ha.run pos pins s σ H _ I h) ?_) he hpl) hdb)
  rintro us s1 ⟨vs, H1, I1, r, q⟩
  refine ⟨I1.kIn, ?_⟩
  have hl : us.length = ps.length := by rw [← r.length]; exact F.len _ _ _ _ q
  have hb' : BindsTo s1 fd ⟨us, []⟩ (ps.zip us) := by
    have z := hb s1 us I1.kIn (by rw [List.append_nil]; exact hl)
    rw [List.append_nil] at z
    exact z
  refine wpAny_call (codeAny_mono (F.go X.A X.stack s1 H1 ⟨us, []⟩ us vs Q E hgd hr I1.env0 hb' r q) ?_)
  rintro (e | fl) s' hq
  · exact hx pins σ H1 s1 e s' I1 hq
  · cases fl with
    | ret u => exact I1.after hq
    | next => exact hq.elim
    | brk => exact hq.elim
    | cont => exact hq.elim
end
end Fp

namespace Fp
open PySem PySem.Spec PyProof.Rows L2

/-! ### the law's own call, by FnG -/
theorem only_base {P : Program} {w : World} {K : PySem.W.Frag} {mg mb : Str → Option Value} {a : Addr} {s : Shared} {vs : List Value} {H : Hp} (KX : K.In s.heap) (hns : s.heap.Ns mainGlobals mg) (hb : s.heap.Ns builtinsNs mb)
    (hbb : ∀ x : Str, x ≠ "__name__" → mb x = bootBuiltins x) (hlim : s.heap.NoLimit) (hgen : s.gens = #[]) (ha : s.heap.get? a = some { cls := .type "list", data := .seq vs.toArray }) (hok : HOk P w H s.heap)
    (hA : ∀ b, H b ≠ none → b = a) (hK : H a ≠ none → K.lookup a = none) : K.In (hidT s.heap H) ∧ (hidT s.heap H).Ns mainGlobals mg ∧ Env0 P w K mg (hidT s.heap H) callerA [] s H := by
  have fr : ∀ {b : Addr}, b ≠ a → H b = none := fun {b} n => by
    cases q : H b with
    | none => rfl
    | some u => exact absurd (hA b fun z => by rw [q] at z; cases z) n
  have dn : ∀ {b : Addr} {m : Str → Option Value}, s.heap.Ns b m → (hidT s.heap H).Ns b m := fun {b m} ⟨o, es, ep, e, d, r⟩ => by
    refine ⟨o, es, ep, hidT_get e (fr fun z => ?_), d, r⟩
    subst z
    obtain rfl := Option.some.inj (e.symm.trans ha)
    cases (show Data.seq vs.toArray _ = Data.dict es ep from d)
  have k0 : K.In (hidT s.heap H) := fun b o e => by
    by_cases z : H b = none
    · exact hidT_get (KX b o e) z
    · have eb := hA b z
      subst eb
      rw [hK z] at e
      cases e
  obtain ⟨mc, l1, l2⟩ := hlim
  exact ⟨k0, dn hns, ⟨rfl, ⟨k0, dn hns, ⟨mb, dn hb, hbb⟩, ⟨mc, dn l1, l2⟩⟩, fun b o e => of_hidT e, Nat.le_of_eq (hidT_size _ _), trivial, fun b z => absurd (show b ∈ ([] : List Addr) from z) (by simp), hok, .of_eq hgen⟩⟩
theorem law_callG {P : Program} {w : World} {K : PySem.W.Frag} {mg mb : Str → Option Value} {CX : CXT} {k : Nat} {fa a : Addr} {fd : FuncData} {x : Str} {sp : Sp} {s : Shared} {vs : List Value} {ns : List Int}
    (KX : K.In s.heap) (hns : s.heap.Ns mainGlobals mg) (hb : s.heap.Ns builtinsNs mb) (hbb : ∀ x : Str, x ≠ "__name__" → mb x = bootBuiltins x) (hlim : s.heap.NoLimit) (hgen : s.gens = #[])
    (ha : s.heap.get? a = some { cls := .type "list", data := .seq vs.toArray }) (hi : IntsAre vs ns) (hl : ns.length ≤ sizeLine) (hr : Room k callerA)
    (F : ∀ base : Heap, K.In base → base.Ns mainGlobals mg → FnG P w K mg base CX k fa fd [x] sp) (hbind : ∀ (s : Shared) (u : Value), BindsTo s fd ⟨[u], []⟩ [(x, u)])
    (hsp : ∀ H : Hp, Only H → SqL K H a (ns.map V.int) → sp [.ref a] H (fun v _ => v = .bl true) fun _ _ _ => False) (hCX : ∀ H e s', CX [] H s (fun _ _ _ => False) e s' → False) :
    codeAny (model P w) callerA (.call (.ref fa) ⟨[.ref a], []⟩) (fun r s' => r = .ok (.ret (.bool true)) ∧ OldK s.heap s'.heap ∧ s'.os = s.os ∧ AllBare s'.gens) s := by
  have rv := vals_ints hi
  have core : ∀ H : Hp, Only H → SqL K H a (ns.map V.int) → HOk P w H s.heap → (∀ b, H b ≠ none → b = a) → (H a ≠ none → K.lookup a = none) →
      codeAny (model P w) callerA (.call (.ref fa) ⟨[.ref a], []⟩) (fun r s' => r = .ok (.ret (.bool true)) ∧ OldK s.heap s'.heap ∧ s'.os = s.os ∧ AllBare s'.gens) s := by
    intro H hO hS hok hA hK
    obtain ⟨k0, n0, e0⟩ := only_base (P := P) (w := w) KX hns hb hbb hlim hgen ha hok hA hK
    refine codeAny_mono ((F _ k0 n0).go callerA [] s H ⟨[.ref a], []⟩ [.ref a] [.ref a] _ _ rfl hr e0 (hbind s (.ref a)) (.cons rfl .nil) (hsp H hO hS)) ?_
    rintro (e | fl) s' h
    · exact (hCX H e s' h).elim
    cases fl with
    | next => exact h.elim
    | brk => exact h.elim
    | cont => exact h.elim
    | ret u =>
      obtain ⟨v, H', os, bare, un, hok', r, q⟩ := h
      obtain rfl : v = .bl true := q
      obtain rfl : u = Value.bool true := r
      refine ⟨rfl, OldK.of_keep fun b o e => ?_, os, bare⟩
      rcases hO b with z | ⟨ob, xs, z⟩
      · exact un.keep b o e z (fun z => absurd (show b ∈ ([] : List Addr) from z) (by simp)) (by simp)
      · obtain ⟨e1, _⟩ := hok b _ z
        obtain ⟨e2, _⟩ := hok' b _ (un.frzs b ob _ z)
        exact e2.trans (e1.symm.trans e)
  cases hk : K.lookup a with
  | some o =>
    obtain rfl := Option.some.inj ((KX a o hk).symm.trans ha)
    exact core (fun _ => none) (fun _ => .inl rfl) (.inr ⟨_, vs.toArray, _, hk, rfl, rfl, rfl, by rw [List.size_toArray, hi.length]; exact hl, by simpa using rv⟩) (fun b u z => by cases (show (none : Option HO) = some u from z)) (fun b z => absurd rfl z) (fun z => absurd rfl z)
  | none =>
    have up : ∀ {b : Addr} {u : HO}, (fun c => if c = a then some (HO.frz { cls := .type "list", data := .seq vs.toArray } (.lst (ns.map V.int))) else none) b = some u → b = a ∧ u = HO.frz { cls := .type "list", data := .seq vs.toArray } (.lst (ns.map V.int)) := fun {b u} z => by
      by_cases hb : b = a
      · exact ⟨hb, (Option.some.inj ((if_pos hb).symm.trans z)).symm⟩
      · cases (if_neg hb).symm.trans z
    refine core (fun c => if c = a then some (HO.frz { cls := .type "list", data := .seq vs.toArray } (.lst (ns.map V.int))) else none) (fun b => ?_) (.inl (.inr ⟨_, if_pos rfl⟩)) (fun b u z => ?_) (fun b z => ?_) (fun _ => hk)
    · by_cases hb : b = a
      · exact .inr ⟨_, _, if_pos hb⟩
      · exact .inl (if_neg hb)
    · obtain ⟨rfl, rfl⟩ := up z
      exact ⟨ha, by rw [List.length_map]; exact hl, vs, _, rv, ha⟩
    · by_cases hb : b = a
      · exact hb
      · exact absurd (if_neg hb) z
theorem walk_ofG {l : PySem.W.OpenLaw} {n k : Nat} {q : Program} {loose : List Str} {XP : (Str → Option Value) → Heap → Prop} {YP : World → Heap → Prop} {d : DefRec} {K : Params → PySem.W.Frag} {sp : PySem.W.Frag → Sp} {x : Str}
    (hn : l.most = some n) (hn2 : n ≤ sizeLine) (hdf : d.params.defaults = []) (hr : Room k callerA) (hY : ∀ (w : World) (h : Heap), YP w h → (K w.params).In h)
    (F : ∀ (w : World) (mg : Str → Option Value) (fa : Addr) (h : Heap), (K w.params).In h → h.Ns mainGlobals mg → mg d.name = some (.ref fa) →
      ∃ fd : FuncData, (∀ (s : Shared) (u : Value), BindsTo s fd ⟨[u], []⟩ [(x, u)]) ∧ ∀ base : Heap, (K w.params).In base → base.Ns mainGlobals mg → FnG l.prog w (K w.params) mg base CX0 k fa fd [x] (sp (K w.params)))
    (hsp : ∀ (K : PySem.W.Frag) (H : Hp) (a : Addr) (ns : List Int), ns.length ≤ n → Only H → SqL K H a (ns.map V.int) → sp K [.ref a] H (fun v _ => v = .bl true) fun _ _ _ => False) :
    PySem.W.WalkO q loose XP YP l.row.toRowW d [] (fun f vs => PySem.call f vs) := by
  refine Att.attach_call hn hdf ?_
  intro w s₀ s₁ mg mb fa o pm cd doc a vs ns G Y ho hd hcd hmg hobj hints hlen hg
  have KX := hY w _ Y
  obtain ⟨fd, hb, hF⟩ := F w mg fa _ KX G.T.g hmg
  exact law_callG KX G.T.g G.T.b G.T.builtins G.T.nolimit hg hobj hints (Nat.le_trans hlen hn2) hr hF hb (fun H hO hS => hsp (K w.params) H a ns hlen hO hS) (fun H e s' h => h.elim)
end Fp

namespace Fp
open PySem PySem.Spec PyProof.Rows L2

/-- the def that stands at the module's name x -/
structure Bnd (K : PySem.W.Frag) (mg : Str → Option Value) (x : Str) (st : Stmt) : Prop where
  ex : ∃ (f : Addr) (fd : FuncData), mg x = some (.ref f) ∧ Fun K x x st f fd
/-- the def at the module's name x keeps its promise -/
structure Def (P : Program) (w : World) (K : PySem.W.Frag) (mg : Str → Option Value) (base : Heap) (k : Nat) (x : Str) (st : Stmt) (ps : List Str) (sp : Sp) : Prop where
  ex : ∃ (f : Addr) (fd : FuncData), mg x = some (.ref f) ∧ Fun K x x st f fd ∧ Binds K fd ps [] ∧ FnOk P w K mg base CX0 k f fd ps sp
structure DefG (P : Program) (w : World) (K : PySem.W.Frag) (mg : Str → Option Value) (base : Heap) (k : Nat) (x : Str) (st : Stmt) (ps : List Str) (sp : Sp) : Prop where
  ex : ∃ (f : Addr) (fd : FuncData), mg x = some (.ref f) ∧ Fun K x x st f fd ∧ Binds K fd ps [] ∧ FnG P w K mg base CX0 k f fd ps sp
/-- how a def without defaults binds -/
abbrev Bind (x : Str) (st : Stmt) (ps : List Str) : Prop := ∀ (kV doc pm : Value) (an : Option Addr) (cdv ct : Value) (us : List Value), us.length = ps.length → bindArgs (PySem.W.fnOf x x (defArgs st) (defBody st) (defScope st) .none kV doc pm an cdv ct) ⟨us, []⟩ = pure (ps.zip us)
section
variable {P : Program} {w : World} {K : PySem.W.Frag} {mg : Str → Option Value} {base : Heap} {k : Nat} {x : Str} {st : Stmt} {N ps : List Str} {sp : Sp}
theorem Def.mono {j : Nat} (D : Def P w K mg base k x st ps sp) (h : k ≤ j) : Def P w K mg base j x st ps sp := by
  obtain ⟨f, fd, a, b, c, d⟩ := D.ex
  exact ⟨f, fd, a, b, c, d.mono h⟩
theorem def_of (B : Bnd K mg x st) (S : FnScope N ps (defScope st)) (len : ∀ vs H Q E, sp vs H Q E → vs.length = ps.length) (hbi : Bind x st ps)
    (hb : ∀ (f : Addr) (cdv : Value) (A : Around) (outer : List Env) (s : Shared) (H : Hp) (vs : List V) (Q : VK) (E : XK), Room k (A.deeper (envOfC x (defScope st) s.heap.objs.size f cdv)) → sp vs H Q E →
      ∃ t, PSs (cxOf CX0 P w K mg base N x (defScope st) f cdv A outer s H E).nox (defBody st) t ∧ t { nx := fun _ H' => Q .non H', rt := Q } (start N vs) H) : Def P w K mg base (k + 1) x st ps sp := by
  obtain ⟨f, fd, hm, F⟩ := B.ex
  exact ⟨f, fd, hm, F, F.binds hbi, F.ok S len (hb f)⟩
theorem defG_of (B : Bnd K mg x st) (S : FnScope N ps (defScope st)) (len : ∀ vs H Q E, sp vs H Q E → vs.length = ps.length) (hbi : Bind x st ps)
    (hb : ∀ (f : Addr) (cdv : Value) (A : Around) (outer : List Env) (s : Shared) (H : Hp) (vs : List V) (Q : VK) (E : XK), A.guards = some [] → Room k (A.deeper (envOfC x (defScope st) s.heap.objs.size f cdv)) → sp vs H Q E →
      ∃ t, PSs (cxOf CX0 P w K mg base N x (defScope st) f cdv A outer s H E).nox (defBody st) t ∧ t { nx := fun _ H' => Q .non H', rt := Q } (start N vs) H) : DefG P w K mg base (k + 1) x st ps sp := by
  obtain ⟨f, fd, hm, F⟩ := B.ex
  exact ⟨f, fd, hm, F, F.binds hbi, fun_okG F S len (hb f)⟩
end
def tD (sp : Sp) (t : TA) : TE := fun σ H Q => t σ H fun vs H1 => sp vs H1 Q E0
def tDK (n m : Nat) (b : Bool) (sp : Sp) (t tk : TA) : TE := fun σ H Q => t σ H fun vs H1 => tk σ H1 fun zs H2 => vs.length = n ∧ zs.length = m ∧ sp (vs ++ if b = true then zs.reverse else zs) H2 Q E0
/-- how a def without defaults binds n values by place and m by the names ks (b: turned about) -/
abbrev BindK (n m : Nat) (b : Bool) (x : Str) (st : Stmt) (ps ks : List Str) : Prop := ∀ (kV doc pm : Value) (an : Option Addr) (cdv ct : Value) (us ws : List Value), us.length = n → ws.length = m →
  bindArgs (PySem.W.fnOf x x (defArgs st) (defBody st) (defScope st) .none kV doc pm an cdv ct) ⟨us, ks.zip ws⟩ = pure (ps.zip (us ++ if b = true then ws.reverse else ws))
section
variable {X : Cx} {k : Nat} {x : Str} {st : Stmt} {ps ks : List Str} {sp : Sp} {p pos : Pos} {e : Expr} {es : List Expr} {t tk : TA} {kws : List Keyword} {n m : Nat} {b : Bool}
/-- f(e, ..) -/
theorem pe_d (D : Def X.prog X.w X.K X.mg X.base k x st ps sp) (hr : Room k X.A) (hg : Gl X x) (ha : PA X (e :: es) t)
    (hdb : (x == ("__debug__" : Str)) = false := by decide) (he : starEach (e :: es) X.env = (false, eval e X.env) :: starEach es X.env := by rfl) (hpl : (backTo pos (starEach es X.env)).any (·.1) = false := by rfl) :
    PE X (.Call (.Name x p) (e :: es) [] pos) (tD sp t) := by
  obtain ⟨f, fd, hm, F, hb, ok⟩ := D.ex
  have q := pe_call (p := p) ok hr hg hm F.kp hb .nil (pass0 (X := X)) ha hdb he hpl
  have z : tCall sp [] E0 t = tD sp t := by
    funext σ H Q
    unfold tCall tD
    simp only [List.append_nil]
  rw [z] at q
  exact q
theorem pe_dG (D : DefG X.prog X.w X.K X.mg X.base k x st ps sp) (hgd : X.A.guards = some []) (hr : Room k X.A) (hg : Gl X x) (ha : PA X (e :: es) t)
    (hdb : (x == ("__debug__" : Str)) = false := by decide) (he : starEach (e :: es) X.env = (false, eval e X.env) :: starEach es X.env := by rfl) (hpl : (backTo pos (starEach es X.env)).any (·.1) = false := by rfl) :
    PE X (.Call (.Name x p) (e :: es) [] pos) (tD sp t) := by
  obtain ⟨f, fd, hm, F, hb, ok⟩ := D.ex
  exact pe_callG (p := p) ok hgd hr hg hm F.kp hb (pass0 (X := X)) ha hdb he hpl
theorem run_dk {pins : List (Addr × Obj)} {σ : L2.St} {H : Hp} {s : Shared} {Q : VK} {us ws : List Value} {vs zs : List V} {f : Addr} {fd : FuncData} (F : Fun X.K x x st f fd) (ok : FnOk X.prog X.w X.K X.mg X.base CX0 k f fd ps sp) (hr : Room k X.A)
    (hb : BindK n m b x st ps ks) (I : Inv X pins σ H s) (r : Vals vs us) (rz : Vals zs ws) (hn : vs.length = n) (hm : zs.length = m) (h : sp (vs ++ if b = true then zs.reverse else zs) H Q E0) :
    wpAny (model X.prog X.w) X.A (call (.ref f) us (ks.zip ws)) (EP X pins σ Q) X.xe s := by
  obtain ⟨oc, od, kV, doc, pm, an, cdv, ct, osl, efd, lk, hcd⟩ := F.ex
  have rr : Vals (vs ++ if b = true then zs.reverse else zs) (us ++ if b = true then ws.reverse else ws) := by
    refine r.append ?_
    cases b with
    | true => rw [if_pos rfl, if_pos rfl]; exact rz.reverse
    | false => rw [if_neg Bool.false_ne_true, if_neg Bool.false_ne_true]; exact rz
  have hbd : BindsTo s fd ⟨us, ks.zip ws⟩ (ps.zip (us ++ if b = true then ws.reverse else ws)) := by
    rw [efd]
    exact .of_eq (hb kV doc pm an cdv ct us ws (r.length.symm.trans hn) (rz.length.symm.trans hm))
  refine wpAny_call (codeAny_mono (ok.run X.A X.stack s H ⟨us, ks.zip ws⟩ _ _ Q E0 hr I.env0 hbd rr h) ?_)
  rintro (e | fl) s' hq
  · exact pass0 (X := X) pins σ H s e s' I hq
  · cases fl with
    | ret u => exact I.after hq
    | next => exact hq.elim
    | brk => exact hq.elim
    | cont => exact hq.elim
/-- f(e, .., k = v, ..) -/
theorem pe_dk (D : Def X.prog X.w X.K X.mg X.base k x st ps sp) (hr : Room k X.A) (hg : Gl X x) (n m : Nat) (b : Bool) (ks : List Str) (hb : BindK n m b x st ps ks) (ha : PA X (e :: es) t) (hkw : PK X kws tk)
    (hks : (backToKw pos (keywordEach kws X.env)).filterMap (·.1) = ks := by rfl) (hall : (backToKw pos (keywordEach kws X.env)).all (·.1.isSome) = true := by rfl) (hdb : (x == ("__debug__" : Str)) = false := by decide)
    (he : starEach (e :: es) X.env = (false, eval e X.env) :: starEach es X.env := by rfl) (hpl : ((backTo pos (starEach (e :: es) X.env)).any (·.1) || (backToKw pos (keywordEach kws X.env)).any (·.1.isNone)) = false := by rfl) :
    PE X (.Call (.Name x p) (e :: es) kws pos) (tDK n m b sp t tk) := by
  obtain ⟨f, fd, hm, F, _, ok⟩ := D.ex
  constructor
  intro pins s σ H Q I h
  refine wpAny_Call_Name_kw (ld_glob I hg hm (PySem.W.callWith_KW (h₀ := X.base) I.ok.mod.kin F.kp hall (thn (ha.run pos pins s σ H _ I h) ?_) hpl he) hdb)
  rintro us s1 ⟨vs, H1, I1, r, q⟩
  refine thn (hkw.run pos pins s1 σ H1 _ I1 q) ?_
  rintro ws s2 ⟨zs, H2, I2, rz, q2⟩
  refine ⟨I2.kIn, ?_⟩
  rw [hks]
  exact run_dk F ok hr hb I2 r rz q2.1 q2.2.1 q2.2.2
/-- f(k = v, ..) -/
theorem pe_dk0 (D : Def X.prog X.w X.K X.mg X.base k x st ps sp) (hr : Room k X.A) (hg : Gl X x) (m : Nat) (b : Bool) (ks : List Str) (hb : BindK 0 m b x st ps ks) (hkw : PK X kws tk)
    (hks : (backToKw pos (keywordEach kws X.env)).filterMap (·.1) = ks := by rfl) (hall : (backToKw pos (keywordEach kws X.env)).all (·.1.isSome) = true := by rfl) (hdb : (x == ("__debug__" : Str)) = false := by decide)
    (hpl : ((backTo pos (starEach [] X.env)).any (·.1) || (backToKw pos (keywordEach kws X.env)).any (·.1.isNone)) = false := by rfl) :
    PE X (.Call (.Name x p) [] kws pos) (tDK 0 m b sp tNil tk) := by
  obtain ⟨f, fd, hm, F, _, ok⟩ := D.ex
  constructor
  intro pins s σ H Q I h
  refine wpAny_Call_Name_kw (ld_glob I hg hm (PySem.W.callWith_KW0 (h₀ := X.base) I.ok.mod.kin F.kp hall (thn (hkw.run pos pins s σ H _ I h) ?_) hpl) hdb)
  rintro ws s2 ⟨zs, H2, I2, rz, q2⟩
  refine ⟨I2.kIn, ?_⟩
  rw [hks]
  exact run_dk F ok hr hb I2 .nil rz q2.1 q2.2.1 q2.2.2
end
/-- sorted(set(..)) and set(..) -/
def rSetI (K : PySem.W.Frag) (w : World) : List V → Hp → VK → Prop := fun vs H Q => ∃ (a : Addr) (ns : List Int), vs = [.ref a] ∧ Sq K H a (ns.map V.int) ∧ ns.length ≤ 60 ∧
  ∀ (p : Addr) (n : Nat), n ≤ ns.length → H p = none → Q (.ref p) (upd H p (SetO w p (fun j => decide (j ∈ ns)) n))
theorem cr_setI {X : Cx} (hc : X.calm = true) : CallR X (.type "set") (rSetI X.K X.w) := by
  intro pins s σ H vs us Q I r h
  obtain ⟨a, ns, rfl, hS, hz, q⟩ := h
  rw [Vals.ref1 r]
  have hb : ns.length + 1 < scanBound := by unfold scanBound; omega
  have fin : ∀ (h' : Heap) (tk c : Nat), SetR X.w h' s.heap.objs.size (fun j => decide (j ∈ ns)) c → c ≤ ns.length → (∀ b o, s.heap.get? b = some o → h'.get? b = some o) → EP X pins σ Q (.ref s.heap.objs.size) { s with heap := h', toks := tk } :=
    fun h' tk c R hc k => ⟨.ref s.heap.objs.size, _, I.laid (t' := tk) k (Nat.le_refl _) (setO_new R), rfl, q _ c hc (I.hok.fresh (Nat.le_refl _))⟩
  rcases hS with hS | hS
  · obtain ⟨its, rv, pl, _⟩ := I.list hS
    exact call_set_lstI ns (I.ok.hd hc) pl.isList (by simpa using Vals.ints rv) hb fin
  · obtain ⟨its, rv, pl, _⟩ := I.tuple hS
    exact call_set_tupI ns (I.ok.hd hc) pl (by simpa using Vals.ints rv) hb fin
end Fp

namespace Fp
open PySem PySem.Spec PyProof.Rows L2 PySem.W

/-! ### data by a Lean type -/
section
variable {K : PySem.W.Frag} {H H' : Hp}
mutual
theorem dp_same (e : Same H H') : ∀ (d : PyData) (v : V), Dp K H v d → Dp K H' v d
  | .none, _, h => by cases h; exact .non
  | .bool _, _, h => by cases h; exact .bl _
  | .int _, _, h => by cases h; exact .int _
  | .str _, _, h => by cases h; exact .str _
  | .list ds, _, h => by
    cases h with
    | lst a b => exact .lst (e.seq a) (dpAll_same e ds _ b)
  | .tuple ds, _, h => by
    cases h with
    | tup a b => exact .tup (same_sqT e a) (dpAll_same e ds _ b)
  | .dict _, _, h => by cases h
theorem dpAll_same (e : Same H H') : ∀ (ds : List PyData) (vs : List V), DpAll K H vs ds → DpAll K H' vs ds
  | [], _, h => by cases h; exact .nil
  | d :: ds, _, h => by
    cases h with
    | cons a b => exact .cons (dp_same e d _ a) (dpAll_same e ds _ b)
end
theorem dpAll_len : ∀ {vs : List V} {ds : List PyData}, DpAll K H vs ds → vs.length = ds.length
  | _, _, .nil => rfl
  | _, _, .cons _ b => congrArg (· + 1) (dpAll_len b)
theorem dpAll_app : ∀ {vs ws : List V} {ds es : List PyData}, DpAll K H vs ds → DpAll K H ws es → DpAll K H (vs ++ ws) (ds ++ es)
  | _, _, _, _, .nil, b => b
  | _, _, _, _, .cons a r, b => .cons a (dpAll_app r b)
theorem dpAll_at : ∀ {vs : List V} {ds : List PyData}, DpAll K H vs ds → ∀ {i : Nat} {v : V}, vs[i]? = some v → ∃ d, ds[i]? = some d ∧ Dp K H v d
  | _, _, .nil, i, v, h => by cases h
  | _, _, .cons a r, 0, v, h => by obtain rfl := Option.some.inj h; exact ⟨_, rfl, a⟩
  | _, _, .cons a r, i + 1, v, h => dpAll_at r (i := i) h
theorem dpAll_get : ∀ {vs : List V} {ds : List PyData}, DpAll K H vs ds → ∀ {i : Nat} {d : PyData}, ds[i]? = some d → ∃ v, vs[i]? = some v ∧ Dp K H v d
  | _, _, .nil, i, v, h => by cases h
  | _, _, .cons a r, 0, v, h => by obtain rfl := Option.some.inj h; exact ⟨_, rfl, a⟩
  | _, _, .cons a r, i + 1, v, h => dpAll_get r (i := i) h
theorem dpAll_rev : ∀ {vs : List V} {ds : List PyData}, DpAll K H vs ds → DpAll K H vs.reverse ds.reverse
  | _, _, .nil => .nil
  | _, _, .cons a r => by
    rw [List.reverse_cons, List.reverse_cons]
    exact dpAll_app (dpAll_rev r) (.cons a .nil)
theorem dpAll_take : ∀ {vs : List V} {ds : List PyData}, DpAll K H vs ds → ∀ n, DpAll K H (vs.take n) (ds.take n)
  | _, _, .nil, n => by rw [List.take_nil, List.take_nil]; exact .nil
  | _, _, .cons a r, 0 => .nil
  | _, _, .cons a r, n + 1 => .cons a (dpAll_take r n)
theorem dpAll_drop : ∀ {vs : List V} {ds : List PyData}, DpAll K H vs ds → ∀ n, DpAll K H (vs.drop n) (ds.drop n)
  | _, _, .nil, n => by rw [List.drop_nil, List.drop_nil]; exact .nil
  | _, _, .cons a r, 0 => .cons a r
  | _, _, .cons a r, n + 1 => dpAll_drop r n
theorem dpAll_ints : ∀ ns : List Int, DpAll K H (ns.map V.int) (ns.map Datum.toD)
  | [] => .nil
  | n :: r => .cons (.int n) (dpAll_ints r)
theorem ints_dpAll : ∀ {vs : List V} {ns : List Int}, DpAll K H vs (ns.map Datum.toD) → vs = ns.map V.int
  | [], [], _ => rfl
  | [], _ :: _, h => by cases h
  | _ :: _, [], h => by cases h
  | v :: vs, n :: ns, h => by
    cases h with
    | cons a r =>
      have e : v = .int n := by
        have a' : Dp K H v (.int n) := a
        cases a'; rfl
      rw [e, ints_dpAll r]; rfl
section
variable {α β : Type} [DecidableEq α] [Datum α] [DecidableEq β] [Datum β]
/-- v holds x -/
abbrev Hd (K : PySem.W.Frag) (H : Hp) (v : V) (x : α) : Prop := Dp K H v (Datum.toD x)
/-- the values hold the items -/
abbrev Hs (K : PySem.W.Frag) (H : Hp) (vs : List V) (xs : List α) : Prop := DpAll K H vs (xs.map Datum.toD)
theorem Hd.same {v : V} {x : α} (h : Hd K H v x) (e : Same H H') : Hd K H' v x := dp_same e _ _ h
theorem Hs.same {vs : List V} {xs : List α} (h : Hs K H vs xs) (e : Same H H') : Hs K H' vs xs := dpAll_same e _ _ h
theorem hd_lst {a : Addr} {vs : List V} {xs : List α} (h : SqL K H a vs) (r : Hs K H vs xs) : Hd K H (.ref a) xs := Dp.lst h r
theorem hd_pair {a : Addr} {u v : V} {x : α} {y : β} (h : SqT K H a [u, v]) (r : Hd K H u x) (q : Hd K H v y) : Hd K H (.ref a) (x, y) := Dp.tup h (.cons r (.cons q .nil))
theorem hd_int (i : Int) : Hd K H (.int i) i := .int i
theorem lst_hd {v : V} {xs : List α} (h : Hd K H v xs) : ∃ a vs, v = .ref a ∧ SqL K H a vs ∧ Hs K H vs xs := by
  have h' : Dp K H v (.list (xs.map Datum.toD)) := h
  cases h' with
  | lst a b => exact ⟨_, _, rfl, a, b⟩
theorem pair_hd {v : V} {p : α × β} (h : Hd K H v p) : ∃ a x y, v = .ref a ∧ SqT K H a [x, y] ∧ Hd K H x p.1 ∧ Hd K H y p.2 := by
  have h' : Dp K H v (.tuple [Datum.toD p.1, Datum.toD p.2]) := h
  cases h' with
  | tup a b =>
    cases b with
    | cons b1 b2 =>
      cases b2 with
      | cons b2 b3 =>
        cases b3
        exact ⟨_, _, _, rfl, a, b1, b2⟩
theorem hd_ints {a : Addr} {ns : List Int} (h : SqL K H a (ns.map V.int)) : Hd K H (.ref a) ns := hd_lst h (dpAll_ints ns)
theorem ints_hd {v : V} {ns : List Int} (h : Hd K H v ns) : ∃ a, v = .ref a ∧ SqL K H a (ns.map V.int) := by
  obtain ⟨a, vs, e, hs, r⟩ := lst_hd h
  rw [ints_dpAll r] at hs
  exact ⟨a, e, hs⟩
theorem int_hd {v : V} {n : Int} (h : Hd K H v n) : v = .int n := by
  have h' : Dp K H v (.int n) := h
  cases h'; rfl
theorem Hs.len {vs : List V} {xs : List α} (h : Hs K H vs xs) : vs.length = xs.length := by rw [dpAll_len h, List.length_map]
theorem Hs.at {vs : List V} {xs : List α} (h : Hs K H vs xs) {i : Nat} {v : V} (e : vs[i]? = some v) : ∃ x, xs[i]? = some x ∧ Hd K H v x := by
  obtain ⟨d, e2, hd⟩ := dpAll_at h e
  rw [List.getElem?_map] at e2
  cases q : xs[i]? with
  | none => rw [q] at e2; cases e2
  | some x =>
    rw [q] at e2
    obtain rfl : Datum.toD x = d := Option.some.inj e2
    exact ⟨x, rfl, hd⟩
theorem Hs.get {vs : List V} {xs : List α} (h : Hs K H vs xs) {i : Nat} {x : α} (e : xs[i]? = some x) : ∃ v, vs[i]? = some v ∧ Hd K H v x :=
  dpAll_get h (by rw [List.getElem?_map, e]; rfl)
theorem Hs.app {vs ws : List V} {xs ys : List α} (h : Hs K H vs xs) (r : Hs K H ws ys) : Hs K H (vs ++ ws) (xs ++ ys) := by
  show DpAll K H (vs ++ ws) ((xs ++ ys).map Datum.toD)
  rw [List.map_append]
  exact dpAll_app h r
theorem Hs.one {v : V} {x : α} (h : Hd K H v x) : Hs K H [v] [x] := .cons h .nil
theorem Hs.snoc {vs : List V} {xs : List α} {v : V} {x : α} (h : Hs K H vs xs) (r : Hd K H v x) : Hs K H (vs ++ [v]) (xs ++ [x]) := h.app (.one r)
theorem Hs.rev {vs : List V} {xs : List α} (h : Hs K H vs xs) : Hs K H vs.reverse xs.reverse := by
  show DpAll K H vs.reverse (xs.reverse.map Datum.toD)
  rw [List.map_reverse]
  exact dpAll_rev h
theorem Hs.take {vs : List V} {xs : List α} (h : Hs K H vs xs) (n : Nat) : Hs K H (vs.take n) (xs.take n) := by
  show DpAll K H (vs.take n) ((xs.take n).map Datum.toD)
  rw [List.map_take]
  exact dpAll_take h n
theorem Hs.drop {vs : List V} {xs : List α} (h : Hs K H vs xs) (n : Nat) : Hs K H (vs.drop n) (xs.drop n) := by
  show DpAll K H (vs.drop n) ((xs.drop n).map Datum.toD)
  rw [List.map_drop]
  exact dpAll_drop h n
end
end

/-! ### ==, !=, in, not in of such -/
section
variable {X : Cx}
def rEqH (α : Type) [DecidableEq α] [Datum α] (K : PySem.W.Frag) : R2 := fun x y H Q => ∃ a b : α, Hd K H x a ∧ Hd K H y b ∧ Q (.bl (decide (a = b))) H
def rNeH (α : Type) [DecidableEq α] [Datum α] (K : PySem.W.Frag) : R2 := fun x y H Q => ∃ a b : α, Hd K H x a ∧ Hd K H y b ∧ Q (.bl (decide (a ≠ b))) H
def rInH (α : Type) [DecidableEq α] [Datum α] (K : PySem.W.Frag) : R2 := fun x y H Q => ∃ (a : α) (bs : List α), Hd K H x a ∧ Hd K H y bs ∧ Q (.bl (decide (a ∈ bs))) H
def rNiH (α : Type) [DecidableEq α] [Datum α] (K : PySem.W.Frag) : R2 := fun x y H Q => ∃ (a : α) (bs : List α), Hd K H x a ∧ Hd K H y bs ∧ Q (.bl (decide (a ∉ bs))) H
theorem op_eqH (α : Type) [DecidableEq α] [Datum α] (hu : X.A.units + Datum.depth α < cLine) : OpR X (compareOp .Eq) (rEqH α X.K) := by
  intro pins s σ H x y v u Q I rx ry h
  obtain ⟨a, b, ha, hb, q⟩ := h
  exact eq_datum (Dp.reads I _ x v ha rx) (Dp.reads I _ y u hb ry) hu ⟨.bl _, H, I, rfl, q⟩
theorem op_neH (α : Type) [DecidableEq α] [Datum α] (hu : X.A.units + Datum.depth α < cLine) : OpR X (compareOp .NotEq) (rNeH α X.K) := by
  intro pins s σ H x y v u Q I rx ry h
  obtain ⟨a, b, ha, hb, q⟩ := h
  exact ne_datum (Dp.reads I _ x v ha rx) (Dp.reads I _ y u hb ry) hu ⟨.bl _, H, I, rfl, q⟩
theorem op_inH (α : Type) [DecidableEq α] [Datum α] (hu : X.A.units + 1 + Datum.depth α < cLine) : OpR X (compareOp .In) (rInH α X.K) := by
  intro pins s σ H x y v u Q I rx ry h
  obtain ⟨a, bs, ha, hb, q⟩ := h
  obtain ⟨l, vs, rfl, hs, r⟩ := lst_hd hb
  obtain ⟨its, rv, pl, _⟩ := I.list hs
  cases ry
  exact in_list_datum pl.isList (Dp.readsAll I _ vs its r rv) (Dp.reads I _ x v ha rx) hu ⟨.bl _, H, I, rfl, q⟩
theorem op_niH (α : Type) [DecidableEq α] [Datum α] (hu : X.A.units + 1 + Datum.depth α < cLine) : OpR X (compareOp .NotIn) (rNiH α X.K) := by
  intro pins s σ H x y v u Q I rx ry h
  obtain ⟨a, bs, ha, hb, q⟩ := h
  obtain ⟨l, vs, rfl, hs, r⟩ := lst_hd hb
  obtain ⟨its, rv, pl, _⟩ := I.list hs
  cases ry
  exact notIn_list_datum pl.isList (Dp.readsAll I _ vs its r rv) (Dp.reads I _ x v ha rx) hu ⟨.bl _, H, I, rfl, q⟩
end

/-! ### sorted of such, any number -/
section
variable {X : Cx}
/-- data that a sort takes: all of one build, no tuples -/
class Srt1 (α : Type) [DecidableEq α] [Datum α] : Prop where
  like : ∀ a b : α, alike (Datum.toD a) (Datum.toD b) = true
  other : ∀ a : α, Datum.toD a ≠ .none ∧ ∀ xs, Datum.toD a ≠ .tuple xs
theorem like_all {α : Type} [DecidableEq α] [Datum α] (h : ∀ a b : α, alike (Datum.toD a) (Datum.toD b) = true) : ∀ xs ys : List α, alikeAll (xs.map Datum.toD) (ys.map Datum.toD) = true
  | [], _ => by simp [alikeAll]
  | _ :: _, [] => by simp [alikeAll]
  | x :: xs, y :: ys => by
    show alikeAll (Datum.toD x :: xs.map Datum.toD) (Datum.toD y :: ys.map Datum.toD) = true
    rw [alikeAll, h x y, like_all h xs ys]; rfl
instance : Srt1 Int where
  like _ _ := by simp [Datum.toD, alike]
  other _ := ⟨(fun z => by cases z), (fun _ z => by cases z)⟩
instance {α : Type} [DecidableEq α] [Datum α] [Srt1 α] : Srt1 (List α) where
  like a b := by
    show alike (.list (a.map Datum.toD)) (.list (b.map Datum.toD)) = true
    simpa [alike] using like_all Srt1.like a b
  other _ := ⟨(fun z => by cases z), (fun _ z => by cases z)⟩
theorem vals_of_each {R : Value → V → Prop} : ∀ {out : List Value}, (∀ v ∈ out, ∃ x, R v x) → ∃ ws : List V, EachIs R out ws
  | [], _ => ⟨[], .nil⟩
  | v :: out, h => by
    obtain ⟨x, hx⟩ := h v List.mem_cons_self
    obtain ⟨ws, e⟩ := vals_of_each (out := out) fun u hu => h u (List.mem_cons_of_mem _ hu)
    exact ⟨x :: ws, .cons hx e⟩
def SrR (K : PySem.W.Frag) (H : Hp) (vs : List V) {α : Type} [DecidableEq α] [Datum α] (v : Value) (b : α) : Prop := ∃ x, x ∈ vs ∧ RelV x v ∧ Hd K H x b
theorem srt_in {α : Type} [DecidableEq α] [Datum α] {K : PySem.W.Frag} {H : Hp} {all : List V} : ∀ {vs : List V} {its : List Value} {xs : List α}, (∀ v ∈ vs, v ∈ all) → Vals vs its → Hs K H vs xs → EachIs (SrR K H all) its xs
  | [], _, [], _, r, _ => by cases r; exact .nil
  | [], _, _ :: _, _, _, h => by cases h
  | _ :: _, _, [], _, _, h => by cases h
  | v :: vs, _, x :: xs, m, r, h => by
    cases r with
    | cons r1 r2 =>
      cases h with
      | cons h1 h2 => exact .cons ⟨v, m v List.mem_cons_self, r1, h1⟩ (srt_in (fun u hu => m u (List.mem_cons_of_mem _ hu)) r2 h2)
theorem srt_out {α : Type} [DecidableEq α] [Datum α] {K : PySem.W.Frag} {H : Hp} {all : List V} : ∀ {its : List Value} {xs : List α}, EachIs (SrR K H all) its xs → ∃ ws, Vals ws its ∧ Hs K H ws xs ∧ ∀ w ∈ ws, w ∈ all
  | _, _, .nil => ⟨[], .nil, .nil, fun w h => by cases h⟩
  | _, _, .cons h r => by
    obtain ⟨x, m, rx, hx⟩ := h
    obtain ⟨ws, r1, r2, r3⟩ := srt_out r
    exact ⟨x :: ws, .cons rx r1, .cons hx r2, fun w hw => by
      rcases List.mem_cons.mp hw with e | e
      · rw [e]; exact m
      · exact r3 w e⟩
/-- the order of sorted -/
def leH {α : Type} [DecidableEq α] [Datum α] : α → α → Bool := dataLe false Datum.toD
def rSortH (α : Type) [DecidableEq α] [Datum α] (K : PySem.W.Frag) : List V → Hp → VK → Prop := fun vs H Q => ∃ (a : Addr) (xs : List V) (L : List α), vs = [V.ref a] ∧ SqL K H a xs ∧ Hs K H xs L ∧
  ∀ p ws, (∀ w ∈ ws, w ∈ xs) → Hs K H ws (L.mergeSort leH) → H p = none → Q (.ref p) (upd H p (.lst ws))
theorem cr_sortH (α : Type) [DecidableEq α] [Datum α] [Srt1 α] (hu : X.A.units + 2 + Datum.depth α < cLine) : CallR X (.builtin "sorted") (rSortH α X.K) := by
  intro pins s σ H vs us Q I r h
  obtain ⟨a, xs, L, rfl, hs, hL, q⟩ := h
  obtain ⟨its, rv, hl, hz⟩ := I.list hs
  rw [Vals.ref1 r]
  have el := srt_in (all := xs) (fun _ m => m) rv hL
  have n1 : L.length = xs.length := hL.len.symm
  have er : EachIs (fun v (b : α) => ∃ as, Reads s.heap v (Datum.toD b) as) its L := el.mono fun v b ⟨x, _, rx, hx⟩ => Dp.reads I _ x v hx rx
  refine sorted_data (enc := Datum.toD) hl.isList el er (AllAlike.of Srt1.like) (Sortable.others Srt1.other) (by rw [n1]; exact hz) (fun b _ => Nat.lt_of_le_of_lt (Nat.add_le_add_left (Datum.depth_le b) _) hu) fun out ho eo => ?_
  obtain ⟨ws, r1, r2, r3⟩ := srt_out eo
  obtain ⟨ep, he'⟩ := PyProof.Rows.sortedAll_at s.heap its out.toArray
  have hlen : ws.length ≤ sizeLine := by rw [r1.length, ho, n1]; exact hz
  exact ⟨.ref _, upd H (s.heap.objs.size + 1) (.lst ws), I.laid (t' := s.toks) (fun _ _ => PyProof.Rows.sortedAll_old) (Nat.le_succ _) ⟨hlen, out, ep, r1, he'⟩, rfl, q _ _ r3 r2 (I.hok.fresh (Nat.le_succ _))⟩
end

/-! ### zip of lists and tuples -/
def SqK (κ : Bool) (K : PySem.W.Frag) (H : Hp) (a : Addr) (xs : List V) : Prop := if κ = true then SqT K H a xs else SqL K H a xs
theorem sqk_of {K : PySem.W.Frag} {H : Hp} {a : Addr} {xs : List V} (h : Sq K H a xs) : ∃ κ, SqK κ K H a xs := h.elim (fun q => ⟨false, q⟩) (fun q => ⟨true, q⟩)
theorem SqK.same {κ : Bool} {K : PySem.W.Frag} {H H' : Hp} {a : Addr} {xs : List V} (e : Same H H') (h : SqK κ K H a xs) : SqK κ K H' a xs := by
  cases κ with
  | false => exact e.seq (show SqL K H a xs from h)
  | true => exact same_sqT e (show SqT K H a xs from h)
theorem sqk_lst {K : PySem.W.Frag} {H : Hp} {a : Addr} {xs : List V} (h : H a = some (.lst xs)) : SqK false K H a xs := SqL.of h
theorem SqK.sq {κ : Bool} {K : PySem.W.Frag} {H : Hp} {a : Addr} {xs : List V} (h : SqK κ K H a xs) : Sq K H a xs := by
  cases κ with
  | false => exact .inl h
  | true => exact .inr h
def ItAtK (κ : Bool) (h : Heap) (it l : Addr) (i : Nat) : Prop := if κ = true then h.IsTupleIter it l i else h.IsListIter it l i
def SqAtK (κ : Bool) (h : Heap) (l : Addr) (its : Array Value) : Prop := if κ = true then h.IsTuple l its else h.IsList l its
theorem ItAtK.at {κ : Bool} {h h' : Heap} {it l : Addr} {i : Nat} (a : ItAtK κ h it l i) (k : ∀ o, h.get? it = some o → h'.get? it = some o) : ItAtK κ h' it l i := by
  cases κ with
  | false => exact Heap.IsListIter.at (show h.IsListIter it l i from a) k
  | true => exact Heap.IsTupleIter.at (show h.IsTupleIter it l i from a) k
theorem ItAtK.obj {κ : Bool} {h : Heap} {it l : Addr} {i : Nat} (a : ItAtK κ h it l i) : ∃ o, h.get? it = some o ∧ ∀ v, o.data ≠ .cell v := by
  cases κ with
  | false => obtain ⟨o, e, _, d⟩ := (show h.IsListIter it l i from a); exact ⟨o, e, fun v q => by rw [d] at q; cases q⟩
  | true => obtain ⟨o, e, _, d⟩ := (show h.IsTupleIter it l i from a); exact ⟨o, e, fun v q => by rw [d] at q; cases q⟩
theorem draws_k {prog : Program} {w : World} {A : Around} (κ : Bool) (hh : A.handled = none) (it l : Addr) (ne : l ≠ it) (its : Array Value) :
    Draws prog w A it [it, l] its.size (fun i v => its[i]? = some v) (fun i h => ItAtK κ h it l i ∧ SqAtK κ h l its) := by
  cases κ with
  | false => exact Draws.list hh it l ne its
  | true => exact Draws.tuple hh it l ne its
theorem Inv.seqK {X : Cx} {pins : List (Addr × Obj)} {σ : L2.St} {H : Hp} {s : Shared} {κ : Bool} {a : Addr} {xs : List V} (I : L2.Inv X pins σ H s) (h : SqK κ X.K H a xs) : ∃ its : List Value, Vals xs its ∧ SqAtK κ s.heap a its.toArray ∧ a < s.heap.objs.size := by
  cases κ with
  | false =>
    obtain ⟨its, rv, p, _⟩ := I.list (show SqL X.K H a xs from h)
    exact ⟨its, rv, p.isList, p.lt⟩
  | true =>
    obtain ⟨its, rv, p, _⟩ := I.tuple (show SqT X.K H a xs from h)
    obtain ⟨o, ho, _⟩ := id p
    exact ⟨its, rv, p, Heap.lt_size ho⟩
theorem Inv.seqK_inj {X : Cx} {pins : List (Addr × Obj)} {σ : L2.St} {H : Hp} {s : Shared} {κ : Bool} {a : Addr} {xs ys : List V} (I : L2.Inv X pins σ H s) (h : SqK κ X.K H a xs) (g : SqK κ X.K H a ys) : xs = ys := by
  cases κ with
  | false => exact I.list_inj (show SqL X.K H a xs from h) (show SqL X.K H a ys from g)
  | true => exact I.tuple_inj (show SqT X.K H a xs from h) (show SqT X.K H a ys from g)
def ItZ (K : PySem.W.Frag) (κ1 κ2 : Bool) (a b : Addr) (xs ys : List V) : It :=
  ⟨fun i H => SqK κ1 K H a xs ∧ SqK κ2 K H b ys ∧ i < xs.length ∧ i < ys.length,
    fun i H v H' => ∃ T x y, v = .ref T ∧ H T = none ∧ H' = upd H T (.tup [x, y]) ∧ xs[i]? = some x ∧ ys[i]? = some y,
    fun i H => SqK κ1 K H a xs ∧ SqK κ2 K H b ys ∧ i ≤ xs.length ∧ i ≤ ys.length ∧ (i = xs.length ∨ i = ys.length)⟩
def TnZ (κ1 κ2 : Bool) (z TI TO i1 i2 a b : Addr) (i : Nat) (h : Heap) : Prop := IsZip h z TI TO .none ∧ IsPair h TI (.ref i1) (.ref i2) ∧ (∃ x y, IsPair h TO x y) ∧ ItAtK κ1 h i1 a i ∧ ItAtK κ2 h i2 b i
theorem zip_turns {P : Program} {w : World} {K : PySem.W.Frag} {elts : List Expr} {kk : Nat} {tpos : Pos} {κ1 κ2 : Bool} {a b z TI TO i1 i2 : Addr} {xs ys : List V} (D : ZipApart z TI TO i1 i2 a b) :
    Turn P w K (.Tuple elts kk tpos) (ItZ K κ1 κ2 a b xs ys) [z, TI, TO, i1, i2] z (TnZ κ1 κ2 z TI TO i1 i2 a b) := by
  have S : ZipSep2 z TI TO i1 i2 [i1, a] [i2, b] := by
    refine ⟨D.TIz, D.TOz, D.TITO, D.TIi1, by simp, ?_, ?_, D.TIi2, by simp, ?_, ?_, ?_, ?_⟩ <;>
      · simp only [List.mem_cons, List.not_mem_nil, or_false, not_or]
        first
          | exact ⟨D.i1z.symm, D.l1z.symm⟩ | exact ⟨D.TOi1, D.l1TO.symm⟩ | exact ⟨D.i2z.symm, D.l2z.symm⟩ | exact ⟨D.TOi2, D.l2TO.symm⟩ | exact ⟨D.i12, D.l2i1.symm⟩ | exact ⟨D.i12.symm, D.l1i2.symm⟩
  refine ⟨by simp, ?_, ?_, ?_, ?_, ?_⟩
  · rintro i h ⟨hz, hTI, ⟨x, y, hTO⟩, h1, h2⟩ c hc
    have e' : c = z ∨ c = TI ∨ c = TO ∨ c = i1 ∨ c = i2 := by simpa using hc
    rcases e' with q | q | q | q | q <;> subst q
    · exact ⟨_, hz, fun v q => nomatch q⟩
    · exact ⟨_, hTI, fun v q => nomatch q⟩
    · exact ⟨_, hTO, fun v q => nomatch q⟩
    · exact h1.obj
    · exact h2.obj
  · rintro i h h' ⟨hz, hTI, ⟨x, y, hTO⟩, h1, h2⟩ k
    exact ⟨k z (by simp) _ hz, k TI (by simp) _ hTI, ⟨x, y, k TO (by simp) _ hTO⟩, h1.at fun o q => k i1 (by simp) o q, h2.at fun o q => k i2 (by simp) o q⟩
  · intro X hP hw hK hc i pins s σ H E I hf st hg
    subst hP hw hK
    obtain ⟨hz, hTI, ⟨x0, y0, hTO⟩, h1, h2⟩ := st
    obtain ⟨qx, qy, l1, l2⟩ := hg
    obtain ⟨its, rv, p, _⟩ := Inv.seqK I qx
    obtain ⟨its2, rv2, p2, _⟩ := Inv.seqK I qy
    have hA : X.A.in1.handled = none := by
      have q := I.ok.hd hc
      simpa using q
    have zl : z < s.heap.objs.size := Heap.lt_size hz
    have n1 := rv.length
    have n2 := rv2.length
    refine wpAny_pyNext_zipD2_item S (draws_k κ1 hA i1 a D.l1i1 its.toArray) (draws_k κ2 hA i2 b D.l2i2 its2.toArray) hz hTI hTO ⟨h1, p⟩ ⟨h2, p2⟩ (by simp; omega) (by simp; omega) ?_
    intro u u2 h' tk hu hu2 z' TO' st1 st2 hT hsz hk
    obtain ⟨x, hx, ru⟩ : ∃ x, xs[i]? = some x ∧ RelV x u := by
      obtain ⟨u', e1, e2⟩ := rv.get (List.getElem?_eq_getElem l1)
      have e3 : its[i]? = some u := by simpa using hu
      rw [e1] at e3
      obtain rfl := Option.some.inj e3
      exact ⟨_, List.getElem?_eq_getElem l1, e2⟩
    obtain ⟨y, hy, ru2⟩ : ∃ y, ys[i]? = some y ∧ RelV y u2 := by
      obtain ⟨u', e1, e2⟩ := rv2.get (List.getElem?_eq_getElem l2)
      have e3 : its2[i]? = some u2 := by simpa using hu2
      rw [e1] at e3
      obtain rfl := Option.some.inj e3
      exact ⟨_, List.getElem?_eq_getElem l2, e2⟩
    refine ⟨_, rfl, wpAny_letOwnedTupleGo_zip (s := { s with heap := h', toks := tk }) z' fun h'' z'' sb => ?_⟩
    have T2 : h''.get? s.heap.objs.size = some { cls := .type "tuple", data := .seq #[u, u2] } := (sb.2 _ (Nat.ne_of_gt zl)).trans hT
    have far : ∀ c o, c ∉ [z, TI, TO, i1, i2] → s.heap.get? c = some o → h''.get? c = some o := fun c o hb q => by
      simp only [List.mem_cons, List.not_mem_nil, or_false, not_or] at hb
      exact (sb.2 c hb.1).trans (hk c o hb.1 hb.2.2.1 hb.2.2.2.1 hb.2.2.2.2 q)
    have I1 : L2.Inv X pins σ (upd H s.heap.objs.size (.tup [x, y])) { s with heap := h'', toks := tk } :=
      I.turnedNew (t' := tk) (ch := [z, TI, TO, i1, i2]) far hf (Nat.le_refl _) ⟨by show 2 ≤ sizeLine; decide, [u, u2], .cons ru (.cons ru2 .nil), ⟨_, T2, rfl, _, rfl⟩⟩
    refine ⟨.ref s.heap.objs.size, _, I1, rfl, ⟨_, x, y, rfl, I.hok.fresh (Nat.le_refl _), rfl, hx, hy⟩, ⟨z'', ?_, ⟨u, u2, ?_⟩, ?_, ?_⟩, fun c hcm => ?_⟩
    · exact (sb.2 _ D.TIz).trans (hk _ _ D.TIz D.TITO D.TIi1 D.TIi2 hTI)
    · exact (sb.2 _ D.TOz).trans TO'
    · exact st1.1.at fun o q => (sb.2 _ D.i1z).trans q
    · exact st2.1.at fun o q => (sb.2 _ D.i2z).trans q
    · have lt : c < s.heap.objs.size := by
        have e' : c = z ∨ c = TI ∨ c = TO ∨ c = i1 ∨ c = i2 := by simpa using hcm
        rcases e' with q | q | q | q | q <;> subst q
        · exact zl
        · exact Heap.lt_size hTI
        · exact Heap.lt_size hTO
        · obtain ⟨_, e1, _⟩ := h1.obj; exact Heap.lt_size e1
        · obtain ⟨_, e2, _⟩ := h2.obj; exact Heap.lt_size e2
      rw [upd_ne (Nat.ne_of_lt lt)]
      exact (hf c hcm).1
  · intro X hP hw hK hc i pins s σ H E I hf st hg
    subst hP hw hK
    obtain ⟨hz, hTI, ⟨x0, y0, hTO⟩, h1, h2⟩ := st
    obtain ⟨qx, qy, l1, l2, l3⟩ := hg
    obtain ⟨its, rv, p, _⟩ := Inv.seqK I qx
    obtain ⟨its2, rv2, p2, _⟩ := Inv.seqK I qy
    have hA : X.A.in1.handled = none := by
      have q := I.ok.hd hc
      simpa using q
    have n1 := rv.length
    have n2 := rv2.length
    refine wpAny_pyNext_zipD2_end S (draws_k κ1 hA i1 a D.l1i1 its.toArray) (draws_k κ2 hA i2 b D.l2i2 its2.toArray) hz hTI hTO ⟨h1, p⟩ ⟨h2, p2⟩ (by simp; omega) (by simp; omega) (by simp; omega) fun h' tk hk => ?_
    refine ⟨rfl, I.turnedL (t' := tk) (ch := [z, TI, TO, i1, i2]) (fun c o hb q => ?_) hf⟩
    simp only [List.mem_cons, List.not_mem_nil, or_false, not_or] at hb
    exact hk c o hb.1 hb.2.2.1 hb.2.2.2.1 hb.2.2.2.2 q
  · intro A i s Q E st h
    exact wpAny_pyIter_zip st.1 h
def iZipS (K : PySem.W.Frag) (ta : TA) : TI := fun σ H R => ta σ H fun vs H1 => ∃ a b xs ys κ1 κ2, vs = [.ref a, .ref b] ∧ SqK κ1 K H1 a xs ∧ SqK κ2 K H1 b ys ∧ R (ItZ K κ1 κ2 a b xs ys) H1
theorem zip_made {prog : Program} {w : World} {A : Around} {E : Value → Shared → Prop} {s : Shared} {κ1 κ2 : Bool} {l1 l2 : Addr} {xs ys : Array Value} {Q : Value → Shared → Prop} (h1 : SqAtK κ1 s.heap l1 xs) (h2 : SqAtK κ2 s.heap l2 ys)
    (h : ∀ h', IsZip h' (s.heap.objs.size + 4) (s.heap.objs.size + 2) (s.heap.objs.size + 3) .none → IsPair h' (s.heap.objs.size + 2) (.ref s.heap.objs.size) (.ref (s.heap.objs.size + 1)) → IsPair h' (s.heap.objs.size + 3) .none .none →
      ItAtK κ1 h' s.heap.objs.size l1 0 → ItAtK κ2 h' (s.heap.objs.size + 1) l2 0 → (∀ c o, s.heap.get? c = some o → h'.get? c = some o) → Q (.ref (s.heap.objs.size + 4)) { s with heap := h' }) :
    wpAny (model prog w) A (call (.type "zip") [.ref l1, .ref l2]) Q E s := by
  cases κ1 <;> cases κ2
  · exact zip_begins2 (begins_list l1 xs) (begins_list l2 ys) h1 h2 fun h' a b c d e _ f => h h' a b c ⟨_, d, rfl, rfl⟩ ⟨_, e, rfl, rfl⟩ f
  · exact zip_begins2 (begins_list l1 xs) (begins_tuple l2 ys) h1 h2 fun h' a b c d e _ f => h h' a b c ⟨_, d, rfl, rfl⟩ ⟨_, e, rfl, rfl⟩ f
  · exact zip_begins2 (begins_tuple l1 xs) (begins_list l2 ys) h1 h2 fun h' a b c d e _ f => h h' a b c ⟨_, d, rfl, rfl⟩ ⟨_, e, rfl, rfl⟩ f
  · exact zip_begins2 (begins_tuple l1 xs) (begins_tuple l2 ys) h1 h2 fun h' a b c d e _ f => h h' a b c ⟨_, d, rfl, rfl⟩ ⟨_, e, rfl, rfl⟩ f
theorem pi_zipS {X : Cx} {e e2 : Expr} {ta : TA} {p pos tpos : Pos} {elts : List Expr} {kk : Nat} (hg : Gl X "zip") (hm : X.mg "zip" = none) (ha : PA X [e, e2] ta)
    (hs : starEach [e, e2] X.env = (false, eval e X.env) :: starEach [e2] X.env := by rfl) (hpl : (backTo pos (starEach [e2] X.env)).any (·.1) = false := by rfl) :
    PI X (.Tuple elts kk tpos) (.Call (.Name "zip" p) [e, e2] [] pos) (iZipS X.K ta) := by
  refine ⟨fun pins s σ H R I h => Call_ (ld_blt I hg hm PyProof.Rows.boot_zip (PyProof.Rows.callWith_type1 (thn (ha.run pos pins s σ H _ I h) ?_) hs hpl))⟩
  rintro us s1 ⟨vs, H1, I1, r1, a, b, xs, ys, κ1, κ2, rfl, kx, ky, q⟩
  obtain ⟨u1, u2, rfl, ra, rb⟩ := vals2 r1
  cases ra
  cases rb
  obtain ⟨its, rv, p1, la⟩ := Inv.seqK I1 kx
  obtain ⟨its2, rv2, p2, lb⟩ := Inv.seqK I1 ky
  refine zip_made p1 p2 fun h' hz hTI hTO h1 h2 hk => wpAny_pyIter_zip hz ?_
  refine ⟨s1.heap.objs.size + 4, _, _, _, H1, rfl, I1.kept (t' := s1.toks) hk, zip_turns (PySem.W.ktu_apart s1.heap.objs.size a b la lb), ⟨hz, hTI, ⟨_, _, hTO⟩, h1, h2⟩, fun c hcm => ?_, q⟩
  have le : s1.heap.objs.size ≤ c := by
    have e' : c = s1.heap.objs.size + 4 ∨ c = s1.heap.objs.size + 2 ∨ c = s1.heap.objs.size + 3 ∨ c = s1.heap.objs.size ∨ c = s1.heap.objs.size + 1 := by simpa using hcm
    rcases e' with z | z | z | z | z <;> rw [z] <;> first | exact Nat.le_refl _ | exact Nat.le_add_right _ _
  exact I1.fpOk le (I1.hok.fresh le)
theorem walk_zipS {K : PySem.W.Frag} {κ1 κ2 : Bool} {a b : Addr} {xs ys : List V} {n : Nat} (hn : n = min xs.length ys.length) :
    Walk (ItZ K κ1 κ2 a b xs ys) n (fun H => SqK κ1 K H a xs ∧ SqK κ2 K H b ys) (YPair (fun i => xs[i]?) (fun i => ys[i]?)) := by
  subst hn
  refine ⟨fun i _ hi q => ⟨q.1, q.2, by omega, by omega⟩, fun _ q => ⟨q.1, q.2, by omega, by omega, by omega⟩, fun i H v H' _ q y => ?_⟩
  obtain ⟨T, x, z, h1, h2, h3, h4, h5⟩ := y
  exact ⟨T, x, z, h1, h2, h3, h4, h5⟩

/-! ### comprehensions whose elements make new objects: Rel by the turn and what was made so far -/
/-- the heap without D -/
def wo (D : Addr) (H : Hp) : Hp := fun b => if b = D then none else H b
theorem wo_upd {D : Addr} {H : Hp} {o : HO} : wo D (upd H D o) = wo D H := by
  funext b
  unfold wo
  by_cases e : b = D
  · rw [if_pos e, if_pos e]
  · rw [if_neg e, if_neg e, upd_ne e]
theorem wo_same {D : Addr} {H H' : Hp} (e : Same H H') : Same (wo D H) (wo D H') := fun b o q => by
  unfold wo at q ⊢
  by_cases z : b = D
  · rw [if_pos z] at q; cases q
  · rw [if_neg z] at q ⊢; exact e _ _ q
theorem same_wo {D : Addr} {H H' : Hp} (n : H D = none) (e : Same H H') : Same H (wo D H') := fun b o q => by
  unfold wo
  rw [if_neg (ne_of_none q n)]
  exact e _ _ q
theorem wo_le {D : Addr} {H : Hp} : Same (wo D H) H := fun b o q => by
  unfold wo at q
  by_cases z : b = D
  · rw [if_pos z] at q; cases q
  · rw [if_neg z] at q; exact q
theorem wo_ne {D b : Addr} {H : Hp} (h : b ≠ D) : wo D H b = H b := if_neg h
/-- a new object beside D -/
theorem wo_new {D p : Addr} {H : Hp} {o : HO} {acc : List V} (hD : H D = some (.lst acc)) (hp : H p = none) : wo D (upd H p o) = upd (wo D H) p o := by
  have ne : p ≠ D := fun z => by rw [z, hD] at hp; cases hp
  funext b
  by_cases e : b = D
  · subst e
    rw [upd_ne ne.symm]
    exact (if_pos rfl).trans (if_pos rfl).symm
  · rw [wo_ne e]
    by_cases z : b = p
    · subst z
      rw [upd_same, upd_same]
    · rw [upd_ne z, upd_ne z, wo_ne e]
section
variable {J : It} {n : Nat} {G : Hp → Prop} {Y : Nat → Hp → V → Hp → Prop} {g : TG} {tt : TT} {te : TE} {vs : List Nat} {σ : L2.St} {H1 : Hp} {D : Addr} {Qd : Hp → Prop}
def RInv (Rel : Nat → List V → Hp → Prop) (H1 : Hp) (D : Addr) (i : Nat) (H : Hp) : Prop := Same H1 H ∧ ∃ acc, H D = some (.lst acc) ∧ acc.length ≤ i ∧ Rel i acc (wo D H)
theorem lc_rel (w : Walk J n G Y) (Rel : Nat → List V → Hp → Prop) (hD : H1 D = none) (hz : n ≤ sizeLine) (hG : ∀ H', Same H1 H' → G H') (h0 : Rel 0 [] H1) (hm : ∀ i acc A B, Same A B → Rel i acc A → Rel i acc B)
    (hs : ∀ i x acc Ha Hb, i < n → Same H1 Ha → Ha D = some (.lst acc) → Rel i acc (wo D Ha) → Y i Ha x Hb → ∀ (Yc : V → Hp → Prop) (Nc : Hp → Prop), (∀ y H4, Same Ha H4 → Rel (i + 1) (acc ++ [y]) (wo D H4) → Yc y H4) → (∀ H3, Same Ha H3 → Rel (i + 1) acc (wo D H3) → Nc H3) →
      g x (wipe σ vs) Hb fun σ2 H2 => wipe σ2 vs = wipe σ vs ∧ tt σ2 H2 fun b H3 => if b = true then te σ2 H3 Yc else Nc H3)
    (hd : ∀ acc H', Same H1 H' → H' D = some (.lst acc) → Rel n acc (wo D H') → Qd H') :
    ∃ W : Nat → Nat → Hp → Prop, (∃ m, W 0 m (upd H1 D (.lst []))) ∧ ∀ i m H, W i m H →
      (J.stop i H ∧ Qd H) ∨ (J.go i H ∧ ∃ Nx : Hp → Prop, (∀ H', Nx H' → ∃ m', m' < m ∧ W (i + 1) m' H') ∧ ∀ x H', J.yld i H x H' → g x (wipe σ vs) H' fun σ2 H2 => wipe σ2 vs = wipe σ vs ∧ tt σ2 H2 fun b H3 =>
        if b = true then te σ2 H3 fun y H4 => ∃ acc, H4 D = some (.lst acc) ∧ acc.length < sizeLine ∧ Nx (upd H4 D (.lst (acc ++ [y]))) else Nx H3) := by
  refine lc_it w (RInv Rel H1 D) ⟨same_new hD, [], upd_same, Nat.le_refl _, ?_⟩ (fun i H hi p => hG H p.1) (fun i x H H' hi ⟨s1, acc, ha, hl, hr⟩ y => ?_) (fun H ⟨s1, acc, ha, _, hr⟩ => hd acc H s1 ha hr)
  · rw [wo_upd]
    exact hm _ _ _ _ (same_wo hD (Same.refl _)) h0
  · refine hs i x acc H H' hi s1 ha hr y _ _ (fun y H4 s2 r => ?_) (fun H3 s2 r => ?_)
    · refine ⟨acc, s2 _ _ ha, by omega, ?_, acc ++ [y], upd_same, ?_, ?_⟩
      · intro b o q
        rw [upd_ne (ne_of_none q hD)]
        exact s2 _ _ (s1 _ _ q)
      · rw [List.length_append]; simp only [List.length_cons, List.length_nil]; omega
      · rw [wo_upd]; exact r
    · exact ⟨s1.trans s2, acc, s2 _ _ ha, by omega, r⟩
end
end Fp

namespace Fp
open PySem PySem.Spec PyProof.Rows L2 PySem.W
theorem dle {u d : Nat} (hu : u + 64 < cLine) (h : d ≤ 60) : u + d < cLine := by omega
theorem dle1 {u d : Nat} (hu : u + 64 < cLine) (h : d ≤ 60) : u + 1 + d < cLine := by omega
theorem dle2 {u d : Nat} (hu : u + 64 < cLine) (h : d ≤ 60) : u + 2 + d < cLine := by omega
theorem iteT2 {b : Bool} {A B : Prop} (h : b = true) (a : A) : if b = true then A else B := by subst h; exact iteT a
theorem iteF2 {b : Bool} {A B : Prop} (h : b = false) (a : B) : if b = true then A else B := by subst h; exact iteF a
section
variable {X : Cx}
/-! ### subscripts and slices of a list or a tuple -/
def rIxQ (K : PySem.W.Frag) : R2 := fun x y H Q => rIxL K x y H Q ∨ rIxT K x y H Q
theorem ix_sq : IxR X (rIxQ X.K) := ix_list.or ix_tup
theorem ixq {K : PySem.W.Frag} {H : Hp} {a : Addr} {xs : List V} {i : Int} {v : V} {Q : VK} (h : Sq K H a xs) (e : atI xs i = some v) (q : Q v H) : rIxQ K (.ref a) (.int i) H Q :=
  h.elim (fun s => .inl ⟨a, xs, i, v, rfl, rfl, s, e, q⟩) (fun s => .inr ⟨a, xs, i, v, rfl, rfl, s, e, q⟩)
theorem sl_or {r r' : V → Option Int → Option Int → Hp → VK → Prop} (h : SlR X r) (h' : SlR X r') : SlR X (fun x lo hi H Q => r x lo hi H Q ∨ r' x lo hi H Q) := by
  intro pins s σ H x v vl vu lo hi sl Q I rx hs pl pu q
  rcases q with q | q
  · exact h pins s σ H x v vl vu lo hi sl Q I rx hs pl pu q
  · exact h' pins s σ H x v vl vu lo hi sl Q I rx hs pl pu q
def rSlS (K : PySem.W.Frag) : V → Option Int → Option Int → Hp → VK → Prop := fun x lo hi H Q => rSlL K x lo hi H Q ∨ rSlA K x lo hi H Q
theorem sl_sq : SlR X (rSlS X.K) := sl_or sl_list sl_tupA
/-- a slice of a list or a tuple: something that is read as its part -/
theorem slq {K : PySem.W.Frag} {H : Hp} {a : Addr} {xs : List V} {lo hi : Option Int} {Q : VK} (h : Sq K H a xs) (q : ∀ p H', Same H H' → Sq K H' p (cutV xs lo hi) → Q (.ref p) H') : rSlS K (.ref a) lo hi H Q := by
  rcases h with h | h
  · exact .inl ⟨a, xs, rfl, h, fun p hp => q p _ (same_new hp) (sq_lst upd_same)⟩
  · refine .inr ⟨a, xs, rfl, h, fun z => q a H (Same.refl H) (.inr ?_), fun _ p hp => q p _ (same_new hp) (sq_tup upd_same)⟩
    have e : cutV xs lo hi = xs := by
      unfold cutV
      rw [z.1, z.2]; simp
    rw [e]; exact h
theorem cut_from {xs : List V} (n : Nat) : cutV xs (some (n : Int)) none = xs.drop n := by
  have e : HT.sIx xs.length 0 (some (n : Int)) = min n xs.length := by
    show (if (n : Int) < 0 then ((n : Int) + (xs.length : Int)).toNat else min (n : Int).toNat xs.length) = min n xs.length
    rw [if_neg (by omega), Int.toNat_natCast]
  unfold cutV
  rw [e, HT.sIx_none, List.take_of_length_le (by rw [List.length_drop]; omega)]
  rcases Nat.le_total n xs.length with h | h
  · rw [Nat.min_eq_left h]
  · rw [Nat.min_eq_right h, List.drop_of_length_le (Nat.le_refl _), List.drop_of_length_le h]
theorem cut_to {xs : List V} (n : Nat) : cutV xs none (some (n : Int)) = xs.take n := by
  have e : HT.sIx xs.length xs.length (some (n : Int)) = min n xs.length := by
    show (if (n : Int) < 0 then ((n : Int) + (xs.length : Int)).toNat else min (n : Int).toNat xs.length) = min n xs.length
    rw [if_neg (by omega), Int.toNat_natCast]
  have e0 : HT.sIx xs.length 0 none = 0 := rfl
  unfold cutV
  rw [e, e0, List.drop_zero, Nat.sub_zero]
  rcases Nat.le_total n xs.length with h | h
  · rw [Nat.min_eq_left h]
  · rw [Nat.min_eq_right h, List.take_of_length_le (Nat.le_refl _), List.take_of_length_le h]
/-! ### xs[i] op= e -/
theorem pget_list : PGet X (fun o i H Q => ∃ p xs k v, o = .ref p ∧ i = .int k ∧ SqL X.K H p xs ∧ 0 ≤ k ∧ xs[k.toNat]? = some v ∧ Q v H) := by
  intro pins s σ H o i ov iv Q I ro ri h
  obtain ⟨p, xs, k, v, rfl, rfl, hq, h0, he, q⟩ := h
  cases ro
  obtain ⟨t, rfl⟩ := ri
  obtain ⟨its, r, pl, hz⟩ := I.list hq
  obtain ⟨w, ew, rw'⟩ := r.get he
  have hl := r.length
  have hn := line63
  have hk := (List.getElem?_eq_some_iff.mp he).1
  exact wpAny_getItem_list (x := w) pl.isList h0 (by omega) (by simpa using ew) ⟨v, H, I, rw', q⟩
end
/-! ### truth of lists of bools, tables -/
theorem hs_bls {K : PySem.W.Frag} {H : Hp} : ∀ bs : List Bool, Hs K H (bs.map V.bl) bs
  | [] => .nil
  | b :: r => .cons (.bl b) (hs_bls r)
theorem bls_hs {K : PySem.W.Frag} {H : Hp} : ∀ {vs : List V} {bs : List Bool}, Hs K H vs bs → vs = bs.map V.bl
  | [], [], _ => rfl
  | [], _ :: _, h => by cases h
  | _ :: _, [], h => by cases h
  | v :: vs, b :: bs, h => by
    cases h with
    | cons a r =>
      have e : v = .bl b := by
        have a' : Dp K H v (.bool b) := a
        cases a'; rfl
      rw [e, bls_hs r]; rfl
theorem bls_hd {K : PySem.W.Frag} {H : Hp} {v : V} {bs : List Bool} (h : Hd K H v bs) : ∃ a, v = .ref a ∧ SqL K H a (bs.map V.bl) := by
  obtain ⟨a, vs, e, hs, r⟩ := lst_hd h
  rw [bls_hs r] at hs
  exact ⟨a, e, hs⟩
/-! ### comprehensions with two fors -/
section
variable {J : It} {n : Nat} {G : Hp → Prop} {Y : Nat → Hp → V → Hp → Prop} {g : TG} {tt : TT} {te : TE} {vs : List Nat} {σ : L2.St} {H1 : Hp} {D : Addr} {Qd : Hp → Prop}
/-- the inner loop's own reading -/
def In2 (D : Addr) (σ2 : L2.St) (vs1 : List Nat) (g1 : TG) (tt1 : TT) (te : TE) (Nx : Hp → Prop) (J1 : It) (H4 : Hp) : Prop := ∃ W1 : Nat → Nat → Hp → Prop, (∃ m, W1 0 m H4) ∧ ∀ j k H, W1 j k H →
  (J1.stop j H ∧ Nx H) ∨ (J1.go j H ∧ ∃ Nx1 : Hp → Prop, (∀ H', Nx1 H' → ∃ k', k' < k ∧ W1 (j + 1) k' H') ∧ ∀ x H', J1.yld j H x H' → g1 x (wipe σ2 vs1) H' fun σ3 H5 => wipe σ3 vs1 = wipe σ2 vs1 ∧ tt1 σ3 H5 fun b H6 =>
    if b = true then te σ3 H6 fun y H7 => ∃ acc, H7 D = some (.lst acc) ∧ acc.length < sizeLine ∧ Nx1 (upd H7 D (.lst (acc ++ [y]))) else Nx1 H6)
theorem lc2_in {σ2 : L2.St} {vs1 : List Nat} {g1 : TG} {tt1 : TT} {Nx : Hp → Prop} {H4 : Hp} {acc0 : List V} (w : Walk J n G Y) (Rel : Nat → List V → Hp → Prop) (hD : H4 D = some (.lst acc0)) (h0 : Rel 0 acc0 (wo D H4)) (hz : ∀ i acc H, i ≤ n → Rel i acc H → acc.length < sizeLine) (hG : ∀ H', Same (wo D H4) (wo D H') → G H')
    (hs : ∀ i x acc Ha Hb, i < n → Same (wo D H4) (wo D Ha) → Ha D = some (.lst acc) → Rel i acc (wo D Ha) → Y i Ha x Hb → ∀ (Yc : V → Hp → Prop) (Nc : Hp → Prop), (∀ y Hc, Same Ha Hc → Rel (i + 1) (acc ++ [y]) (wo D Hc) → Yc y Hc) → (∀ Hc, Same Ha Hc → Rel (i + 1) acc (wo D Hc) → Nc Hc) →
      g1 x (wipe σ2 vs1) Hb fun σ3 H5 => wipe σ3 vs1 = wipe σ2 vs1 ∧ tt1 σ3 H5 fun b H6 => if b = true then te σ3 H6 Yc else Nc H6)
    (hd : ∀ acc H', Same (wo D H4) (wo D H') → H' D = some (.lst acc) → Rel n acc (wo D H') → Nx H') : In2 D σ2 vs1 g1 tt1 te Nx J H4 := by
  refine ⟨fun i m H => m = n - i ∧ i ≤ n ∧ Same (wo D H4) (wo D H) ∧ ∃ acc, H D = some (.lst acc) ∧ Rel i acc (wo D H), ⟨n, by simp, Nat.zero_le _, Same.refl _, acc0, hD, h0⟩, ?_⟩
  rintro i m H ⟨rfl, hi, s1, acc, ha, hr⟩
  have q := hG H s1
  by_cases hlt : i < n
  · refine .inr ⟨w.goes i H hlt q, fun H' => i + 1 ≤ n ∧ Same (wo D H4) (wo D H') ∧ ∃ acc, H' D = some (.lst acc) ∧ Rel (i + 1) acc (wo D H'), fun H' p' => ⟨n - (i + 1), by omega, rfl, p'.1, p'.2⟩, fun x H' y => ?_⟩
    refine hs i x acc H H' hlt s1 ha hr (w.yields i H x H' hlt q y) _ _ (fun y Hc s2 r => ?_) (fun Hc s2 r => ?_)
    · refine ⟨acc, s2 _ _ ha, hz i acc _ hi hr, hlt, ?_, acc ++ [y], upd_same, ?_⟩
      · rw [wo_upd]; exact s1.trans (wo_same s2)
      · rw [wo_upd]; exact r
    · exact ⟨hlt, s1.trans (wo_same s2), acc, s2 _ _ ha, r⟩
  · have e : i = n := by omega
    subst e
    exact .inl ⟨w.stops H q, hd acc H s1 ha hr⟩
theorem lc2_rel {wi1 : TI} {vs1 : List Nat} {g1 : TG} {tt1 : TT} (w : Walk J n G Y) (Rel : Nat → List V → Hp → Prop) (hD : H1 D = none) (hG : ∀ H', Same H1 H' → G H') (h0 : Rel 0 [] H1) (hm : ∀ i acc A B, Same A B → Rel i acc A → Rel i acc B)
    (hs : ∀ i x acc Ha Hb, i < n → Same H1 Ha → Ha D = some (.lst acc) → Rel i acc (wo D Ha) → Y i Ha x Hb → ∀ Nx : Hp → Prop, (∀ acc' H', Same H1 H' → H' D = some (.lst acc') → Rel (i + 1) acc' (wo D H') → Nx H') →
      g x (wipe σ vs) Hb fun σ2 H2 => wipe σ2 vs = wipe σ vs ∧ tt σ2 H2 fun b H3 => if b = true then wi1 σ2 H3 (In2 D σ2 vs1 g1 tt1 te Nx) else Nx H3)
    (hd : ∀ acc H', Same H1 H' → H' D = some (.lst acc) → Rel n acc (wo D H') → Qd H') :
    ∃ W : Nat → Nat → Hp → Prop, (∃ m, W 0 m (upd H1 D (.lst []))) ∧ ∀ i m H, W i m H →
      (J.stop i H ∧ Qd H) ∨ (J.go i H ∧ ∃ Nx : Hp → Prop, (∀ H', Nx H' → ∃ m', m' < m ∧ W (i + 1) m' H') ∧ ∀ x H', J.yld i H x H' → g x (wipe σ vs) H' fun σ2 H2 => wipe σ2 vs = wipe σ vs ∧ tt σ2 H2 fun b H3 =>
        if b = true then wi1 σ2 H3 (In2 D σ2 vs1 g1 tt1 te Nx) else Nx H3) := by
  refine ⟨fun i m H => m = n - i ∧ i ≤ n ∧ Same H1 H ∧ ∃ acc, H D = some (.lst acc) ∧ Rel i acc (wo D H), ⟨n, by simp, Nat.zero_le _, same_new hD, [], upd_same, ?_⟩, ?_⟩
  · rw [wo_upd]
    exact hm _ _ _ _ (same_wo hD (Same.refl _)) h0
  rintro i m H ⟨rfl, hi, s1, acc, ha, hr⟩
  have q := hG H s1
  by_cases hlt : i < n
  · refine .inr ⟨w.goes i H hlt q, fun H' => i + 1 ≤ n ∧ Same H1 H' ∧ ∃ acc, H' D = some (.lst acc) ∧ Rel (i + 1) acc (wo D H'), fun H' p' => ⟨n - (i + 1), by omega, rfl, p'.1, p'.2⟩, fun x H' y => ?_⟩
    exact hs i x acc H H' hlt s1 ha hr (w.yields i H x H' hlt q y) _ fun acc' H' a b c => ⟨hlt, a, acc', b, c⟩
  · have e : i = n := by omega
    subst e
    exact .inl ⟨w.stops H q, hd acc H s1 ha hr⟩
end
/-! ### repr(..) of a truth value -/
theorem cr_reprB {X : Cx} : CallR X (.builtin "repr") (fun xs H Q => ∃ b : Bool, xs = [.bl b] ∧ Q (.str (if b then "True" else "False")) H) := by
  intro pins s σ H xs us Q I r h
  obtain ⟨b, rfl, q⟩ := h
  obtain ⟨u, rfl, ru⟩ := vals1 r
  cases ru
  exact PySem.P.repr_of_bool ⟨.str _, H, I.tok _, ⟨_, rfl⟩, q⟩
theorem cut_neg {xs : List V} (n : Nat) (h : 0 < n) : cutV xs (some (-(n : Int))) none = xs.drop (xs.length - n) := by
  have e : HT.sIx xs.length 0 (some (-(n : Int))) = xs.length - n := by
    show (if (-(n : Int)) < 0 then ((-(n : Int)) + (xs.length : Int)).toNat else min (-(n : Int)).toNat xs.length) = xs.length - n
    rw [if_pos (by omega)]; omega
  unfold cutV
  rw [e, HT.sIx_none, List.take_of_length_le (by rw [List.length_drop]; omega)]
/-! ### lists of new lists of ints -/
structure A2 {β : Type} (R : V → β → Prop) (vs : List V) (bs : List β) : Prop where
  len : vs.length = bs.length
  at_ : ∀ (i : Nat) (v : V), vs[i]? = some v → ∃ b, bs[i]? = some b ∧ R v b
section
variable {β : Type} {R S : V → β → Prop}
theorem A2.nil : A2 R [] [] := ⟨rfl, fun i v h => by cases h⟩
theorem A2.snoc {vs : List V} {bs : List β} {v : V} {b : β} (h : A2 R vs bs) (r : R v b) : A2 R (vs ++ [v]) (bs ++ [b]) := by
  refine ⟨by rw [List.length_append, List.length_append, h.len]; rfl, fun i u hu => ?_⟩
  by_cases e : i < vs.length
  · rw [List.getElem?_append_left e] at hu
    obtain ⟨b', e1, e2⟩ := h.at_ i u hu
    exact ⟨b', by rw [List.getElem?_append_left (by rw [← h.len]; exact e)]; exact e1, e2⟩
  · rw [List.getElem?_append_right (by omega)] at hu
    have z : i - vs.length = 0 := by
      have := (List.getElem?_eq_some_iff.mp hu).1
      simp only [List.length_cons, List.length_nil] at this
      omega
    rw [z] at hu
    obtain rfl := Option.some.inj hu
    exact ⟨b, by rw [List.getElem?_append_right (by rw [← h.len]; omega), ← h.len, z]; rfl, r⟩
theorem A2.mono {vs : List V} {bs : List β} (h : A2 R vs bs) (k : ∀ v b, R v b → S v b) : A2 S vs bs := ⟨h.len, fun i v e => let ⟨b, e1, e2⟩ := h.at_ i v e; ⟨b, e1, k v b e2⟩⟩
theorem A2.tail {v : V} {vs : List V} {b : β} {bs : List β} (h : A2 R (v :: vs) (b :: bs)) : R v b ∧ A2 R vs bs := by
  refine ⟨?_, by simpa using h.len, fun i u e => h.at_ (i + 1) u e⟩
  obtain ⟨b', e1, e2⟩ := h.at_ 0 v rfl
  obtain rfl : b = b' := Option.some.inj e1
  exact e2
theorem A2.cons {v : V} {vs : List V} {b : β} {bs : List β} (r : R v b) (h : A2 R vs bs) : A2 R (v :: vs) (b :: bs) := by
  refine ⟨by rw [List.length_cons, List.length_cons, h.len], fun i u e => ?_⟩
  cases i with
  | zero => obtain rfl := Option.some.inj e; exact ⟨b, rfl, r⟩
  | succ i => exact h.at_ i u e
theorem A2.app {vs ws : List V} {bs cs : List β} (h : A2 R vs bs) (g : A2 R ws cs) : A2 R (vs ++ ws) (bs ++ cs) := by
  induction vs generalizing bs with
  | nil =>
    cases bs with
    | nil => exact g
    | cons _ _ => have := h.len; cases this
  | cons v vs ih =>
    cases bs with
    | nil => have := h.len; cases this
    | cons b bs => exact .cons h.tail.1 (ih h.tail.2)
theorem A2.get {vs : List V} {bs : List β} (h : A2 R vs bs) {i : Nat} {b : β} (e : bs[i]? = some b) : ∃ v, vs[i]? = some v ∧ R v b := by
  have l := (List.getElem?_eq_some_iff.mp e).1
  have hv : vs[i]? = some (vs[i]'(by rw [h.len]; exact l)) := List.getElem?_eq_getElem _
  obtain ⟨b', e1, e2⟩ := h.at_ i _ hv
  rw [e] at e1
  obtain rfl := Option.some.inj e1
  exact ⟨_, hv, e2⟩
end
theorem a2_hs {K : PySem.W.Frag} {H : Hp} {α : Type} [DecidableEq α] [Datum α] {R : V → α → Prop} (k : ∀ v b, R v b → Hd K H v b) : ∀ {vs : List V} {bs : List α}, A2 R vs bs → Hs K H vs bs
  | [], [], _ => .nil
  | [], _ :: _, h => by have := h.len; cases this
  | _ :: _, [], h => by have := h.len; cases this
  | _ :: _, _ :: _, h => .cons (k _ _ h.tail.1) (a2_hs k h.tail.2)
/-- a list of ints that is new since H0 -/
def Rw (H0 H : Hp) (v : V) (l : List Int) : Prop := ∃ b, v = .ref b ∧ H0 b = none ∧ H b = some (.lst (l.map V.int))
theorem Rw.same {H0 H H' : Hp} {v : V} {l : List Int} (e : Same H H') (h : Rw H0 H v l) : Rw H0 H' v l := let ⟨b, a, c, d⟩ := h; ⟨b, a, c, e _ _ d⟩
theorem Rw.old {H0 G0 H : Hp} {v : V} {l : List Int} (e : Same G0 H0) (h : Rw H0 H v l) : Rw G0 H v l := let ⟨b, a, c, d⟩ := h; ⟨b, a, e.free c, d⟩
theorem Rw.hd {K : PySem.W.Frag} {H0 H : Hp} {v : V} {l : List Int} (h : Rw H0 H v l) : Hd K H v l := by
  obtain ⟨b, rfl, _, d⟩ := h
  exact hd_ints (SqL.of d)
theorem rws_hs {K : PySem.W.Frag} {H0 H : Hp} {vs : List V} {L : List (List Int)} (h : A2 (Rw H0 H) vs L) : Hs K H vs L := a2_hs (fun _ _ r => r.hd) h
end Fp

namespace Fp
open PySem PySem.Spec PyProof.Rows L2 PySem.W
/-! ### enumerate of a list or a tuple -/
abbrev eObj (it : Addr) : Obj := { cls := .type "enumerate", data := .fields #[.none, .bool false, .ref it, rawInt 0, .none, .none] }
theorem meets_enum1 {v : Value} {o : Obj} {G : Heap → Prop} (B : Begins v o G) :
    Meets (Builtin.«enumerate.__new__» ⟨[.type "enumerate", v], []⟩) (fun _ R s => G s.heap ∧ R (.ok (.ret (.ref (s.heap.push o).objs.size))) { s with heap := (s.heap.push o).push (eObj s.heap.objs.size) }) :=
  .of_wp fun prog w A R s0 hyp => by
    obtain ⟨hp0, gens0, drawn0, tok0, os0⟩ := s0
    obtain ⟨ground, fin⟩ := hyp
    have subE := sub_enumerate
    have first : ∀ {A' : Around} {E : Value → Shared → Prop} {Q : Value → Shared → Prop}, Q (.ref hp0.objs.size) ⟨hp0.push o, gens0, drawn0, tok0, os0⟩ → wpAny (model prog w) A' (pyIter v) Q E ⟨hp0, gens0, drawn0, tok0, os0⟩ :=
      fun z => B.iter prog w _ _ ⟨hp0, gens0, drawn0, tok0, os0⟩ _ ground z
    wp_walk using first
    refine wpAny_stack_any fun frames => wpAny_pure ?_
    split
    · rename_i cl _ _ _ _ _
      cases (cl == Value.type "enumerate") <;>
      · wp_walk using first
        exact ⟨_, rfl, fin⟩
    · wp_walk using first
      exact ⟨_, rfl, fin⟩
section
variable {prog : Program} {w : World} {A : Around} {E : Value → Shared → Prop} {s : Shared}
theorem enum_made {κ : Bool} {l : Addr} {xs : Array Value} {Q : Value → Shared → Prop} (h1 : SqAtK κ s.heap l xs)
    (h : ∀ h', IsEnum h' (s.heap.objs.size + 1) s.heap.objs.size 0 .none → ItAtK κ h' s.heap.objs.size l 0 → (∀ b o, s.heap.get? b = some o → h'.get? b = some o) → Q (.ref (s.heap.objs.size + 1)) { s with heap := h' }) :
    wpAny (model prog w) A (call (.type "enumerate") [.ref l]) Q E s := by
  have key : ∀ {o : Obj} {G : Heap → Prop}, Begins (.ref l) o G → G s.heap → (∀ h' : Heap, h'.get? s.heap.objs.size = some o → ItAtK κ h' s.heap.objs.size l 0) → wpAny (model prog w) A (call (.type "enumerate") [.ref l]) Q E s := by
    intro o G B hG hit
    refine callType_new F.called_enumerate (by decide) (F.typeCall_enumerate_1 _) (F.newCall_enumerate_1 _) (fun obj => F.args_object_init_2 obj _) F.entry_enumerate_new (meets_enum1 B) ⟨hG, ?_⟩
    have sz : (s.heap.push o).objs.size = s.heap.objs.size + 1 := Heap.size_push ..
    have at1 : ((s.heap.push o).push (eObj s.heap.objs.size)).get? (s.heap.objs.size + 1) = some (eObj s.heap.objs.size) := by
      have z := Heap.get?_push_size (s.heap.push o) (o := eObj s.heap.objs.size) rfl
      rw [sz] at z
      exact z
    show _ ∧ _
    rw [sz]
    exact ⟨⟨_, at1, rfl⟩, h _ at1 (hit _ (Heap.get?_push_of_some _ (Heap.get?_push_size _ B.free))) fun b o x => Heap.get?_push_of_some _ (Heap.get?_push_of_some _ x)⟩
  cases κ with
  | false => exact key (begins_list l xs) h1 fun h' e => ⟨_, e, rfl, rfl⟩
  | true => exact key (begins_tuple l xs) h1 fun h' e => ⟨_, e, rfl, rfl⟩
end
def ItN (K : PySem.W.Frag) (κ : Bool) (a : Addr) (xs : List V) : It :=
  ⟨fun i H => SqK κ K H a xs ∧ i < xs.length, fun i H v H' => ∃ T x, v = .ref T ∧ H T = none ∧ H' = upd H T (.tup [.int (i : Nat), x]) ∧ xs[i]? = some x, fun i H => SqK κ K H a xs ∧ i = xs.length⟩
def TnN (κ : Bool) (e it a : Addr) (i : Nat) (h : Heap) : Prop := (∃ old, IsEnum h e it ((i : Nat) : Int) old) ∧ ItAtK κ h it a i ∧ e ≠ it ∧ e ≠ a ∧ a ≠ it
theorem enum_turns {P : Program} {w : World} {K : PySem.W.Frag} {elts : List Expr} {kk : Nat} {tpos : Pos} {κ : Bool} {a e it : Addr} {xs : List V} :
    Turn P w K (.Tuple elts kk tpos) (ItN K κ a xs) [e, it] e (TnN κ e it a) := by
  refine ⟨by simp, ?_, ?_, ?_, ?_, ?_⟩
  · rintro i h ⟨⟨old, he⟩, hi, _⟩ b hb
    have e' : b = e ∨ b = it := by simpa using hb
    rcases e' with z | z <;> subst z
    · exact ⟨_, he, fun v q => nomatch q⟩
    · exact hi.obj
  · rintro i h h' ⟨⟨old, he⟩, hi, n1, n2, n3⟩ k
    exact ⟨⟨old, k e (by simp) _ he⟩, hi.at fun o q => k it (by simp) o q, n1, n2, n3⟩
  · intro X hP hw hK hc i pins s σ H E I hf st hg
    subst hP hw hK
    obtain ⟨⟨old, he⟩, hit, n1, n2, n3⟩ := st
    obtain ⟨qx, lx⟩ := hg
    obtain ⟨its, rv, p, _⟩ := Inv.seqK I qx
    have hA : X.A.in1.handled = none := by
      have q := I.ok.hd hc
      simpa using q
    have el : e < s.heap.objs.size := Heap.lt_size he
    have il : it < s.heap.objs.size := by obtain ⟨_, q, _⟩ := hit.obj; exact Heap.lt_size q
    have len := rv.length
    refine wpAny_pyNext_enum_itemC (draws_k κ hA it a n3 its.toArray) he ⟨hit, p⟩ (by simp; omega) n1 (by simp only [List.mem_cons, List.not_mem_nil, or_false, not_or]; exact ⟨n1, n2⟩) ?_
    intro u h' tk hu ho st' hT hsz hk
    obtain ⟨x, hx, ru⟩ : ∃ x, xs[i]? = some x ∧ RelV x u := by
      obtain ⟨u', e1, e2⟩ := rv.get (List.getElem?_eq_getElem lx)
      have e3 : its[i]? = some u := by simpa using hu
      rw [e1] at e3
      obtain rfl := Option.some.inj e3
      exact ⟨_, List.getElem?_eq_getElem lx, e2⟩
    refine ⟨_, rfl, wpAny_letOwnedTupleGo_enum (s := { s with heap := h', toks := tk + 1 }) ho fun h'' he' sb => ?_⟩
    have T2 : h''.get? s.heap.objs.size = some { cls := .type "tuple", data := .seq #[.int i tk, u] } := (sb.2 _ (Nat.ne_of_gt el)).trans hT
    have I1 : L2.Inv X pins σ (upd H s.heap.objs.size (.tup [.int (i : Nat), x])) { s with heap := h'', toks := tk + 1 } :=
      I.turnedNew (ch := [e, it]) (fun b ob hb q => (sb.2 b (fun z => hb (by simp [z]))).trans (hk b ob (fun z => hb (by simp [z])) (fun z => hb (by simp [z])) q)) hf (Nat.le_refl _)
        ⟨by show 2 ≤ sizeLine; decide, [.int i tk, u], .cons ⟨_, rfl⟩ (.cons ru .nil), ⟨_, T2, rfl, _, rfl⟩⟩
    refine ⟨.ref s.heap.objs.size, _, I1, rfl, ⟨_, x, rfl, I.hok.fresh (Nat.le_refl _), rfl, hx⟩, ⟨⟨u, ?_⟩, st'.1.at fun o q => (sb.2 it (Ne.symm n1)).trans q, n1, n2, n3⟩, fun b hb => ?_⟩
    · have e1 : ((i + 1 : Nat) : Int) = (i : Int) + 1 := by omega
      rw [e1]; exact he'
    · have lt : b < s.heap.objs.size := by
        have e' : b = e ∨ b = it := by simpa using hb
        rcases e' with z | z <;> subst z
        · exact el
        · exact il
      rw [upd_ne (Nat.ne_of_lt lt)]
      exact (hf b hb).1
  · intro X hP hw hK hc i pins s σ H E I hf st hg
    subst hP hw hK
    obtain ⟨⟨old, he⟩, hit, n1, n2, n3⟩ := st
    obtain ⟨qx, lx⟩ := hg
    obtain ⟨its, rv, p, _⟩ := Inv.seqK I qx
    have hA : X.A.in1.handled = none := by
      have q := I.ok.hd hc
      simpa using q
    have len := rv.length
    obtain ⟨f0, f1, f2, f3, f4, f5⟩ := hf it (by simp)
    have le : its.toArray.size = i := by simp; omega
    refine wpAny_pyNext_enum_endD (draws_k κ hA it a n3 its.toArray) he (by rw [le]; exact ⟨hit, p⟩) fun h' eb => ⟨rfl, I.turned (t' := s.toks) (fun b o hb q => eb b o hb q) f0 f1 f3 f4 f5⟩
  · rintro A i s Q E ⟨⟨old, he⟩, _⟩ h
    exact wpAny_pyIter_enum he h
def iEnumS (K : PySem.W.Frag) (ta : TA) : TI := fun σ H R => ta σ H fun vs H1 => ∃ a xs κ, vs = [.ref a] ∧ SqK κ K H1 a xs ∧ R (ItN K κ a xs) H1
theorem pi_enumS {X : Cx} {e : Expr} {ta : TA} {p pos tpos : Pos} {elts : List Expr} {kk : Nat} (hg : Gl X "enumerate") (hm : X.mg "enumerate" = none) (ha : PA X [e] ta) (hs : starEach [e] X.env = [(false, eval e X.env)] := by rfl) :
    PI X (.Tuple elts kk tpos) (.Call (.Name "enumerate" p) [e] [] pos) (iEnumS X.K ta) := by
  refine ⟨fun pins s σ H R I h => Call_ (ld_blt I hg hm boot_enumerate (PyProof.Rows.callWith_type1 (thn (ha.run pos pins s σ H _ I h) ?_) hs rfl))⟩
  rintro us s1 ⟨vs, H1, I1, r1, a, xs, κ, rfl, kx, q⟩
  obtain ⟨u1, rfl, ra⟩ := vals1 r1
  cases ra
  obtain ⟨its, rv, p1, la⟩ := Inv.seqK I1 kx
  refine enum_made p1 fun h' he hit hk => wpAny_pyIter_enum he ?_
  refine ⟨s1.heap.objs.size + 1, _, _, _, H1, rfl, I1.kept (t' := s1.toks) hk, enum_turns, ⟨⟨.none, he⟩, hit, Nat.succ_ne_self _, Nat.ne_of_gt (Nat.lt_succ_of_lt la), Nat.ne_of_lt la⟩, fun b hb => ?_, q⟩
  have le : s1.heap.objs.size ≤ b := by
    have e' : b = s1.heap.objs.size + 1 ∨ b = s1.heap.objs.size := by simpa using hb
    rcases e' with z | z <;> rw [z]
    · exact Nat.le_succ _
    · exact Nat.le_refl _
  exact I1.fpOk le (I1.hok.fresh le)
theorem walk_enumS {K : PySem.W.Frag} {κ : Bool} {a : Addr} {xs : List V} {n : Nat} (hn : n = xs.length) : Walk (ItN K κ a xs) n (fun H => SqK κ K H a xs) (YPair (fun i => some (.int (i : Nat))) (fun i => xs[i]?)) := by
  subst hn
  refine ⟨fun i _ hi q => ⟨q, hi⟩, fun _ q => ⟨q, rfl⟩, fun i H v H' _ q y => ?_⟩
  obtain ⟨T, x, h1, h2, h3, h4⟩ := y
  exact ⟨T, .int (i : Nat), x, h1, h2, h3, rfl, h4⟩
end Fp

namespace PyProof.Rows
open PySem PySem.Spec PySem.W
theorem collect_tupI {prog : Program} {w : World} {A : Around} {E : Value → Shared → Prop} {s : Shared} {l : Addr} {vs : List Value} {Q : List Value → Shared → Prop} (hl : s.heap.IsTuple l vs.toArray)
    (h : Q vs { s with heap := (s.heap.push (seqObj "list" #[] 0)).update s.heap.objs.size (Obj.mapSeq (· ++ vs.toArray)) }) (hsz : vs.length ≤ sizeLine) :
    wpAny (model prog w) A (collect (.ref l)) Q E s := by
  obtain ⟨o, ho, hc, n, hd⟩ := id hl
  unfold collect
  refine wpAny_bind (wpAny_runValue (codeAny_builtin entry_proto_collect' ?_))
  show wpAny _ _ (do again (.builtin "list.__iadd__" ⟨[← newList [], .ref l], []⟩)) _ _ s
  refine wpAny_bind (wpAny_newList (wpAny_pure ⟨Code.quiet_builtin _ (by decide +kernel), codeAny_builtin entry_list_iadd' ?_⟩))
  show wpAny _ _ (Builtin.List.listExtendWith (.ref s.heap.objs.size) (.ref l) (.ref s.heap.objs.size)) _ _ { s with heap := s.heap.push (seqObj "list" #[] 0) }
  unfold Builtin.List.listExtendWith
  have ho' : (s.heap.push (seqObj "list" #[] 0)).get? l = some o := Heap.get?_push_of_some _ ho
  refine wpAny_bind (wpAny_typeOf (T := "tuple") ⟨o, ho', hc⟩ ?_)
  have ht : (Value.type "tuple" == Value.type "tuple") = true := by rfl
  rw [if_pos (by rw [ht]; simp)]
  refine wpAny_bind (listItems_at ho' hd ?_)
  refine wpAny_bind (listItems_at (xs := #[]) (n := 0) (Heap.get?_push_size _ rfl) rfl ?_)
  rw [if_neg (by simp)]
  refine wpAny_bind (listUpdate_at (xs := #[]) (n := 0) (Heap.get?_push_size _ rfl) rfl ?_ (Nat.zero_le _) (by show (#[] ++ vs.toArray).size ≤ sizeLine + 1; simp only [Array.size_append, List.size_toArray, List.length_nil]; omega))
  refine wpAny_pure ?_
  show wpAny (model prog w) A (do
      let o ← load s.heap.objs.size
      match o.data with
      | .seq xs _ => pure xs.toList
      | _ => unsupported "internal:collect") Q E { s with heap := (s.heap.push (seqObj "list" #[] 0)).update s.heap.objs.size (Obj.mapSeq (· ++ vs.toArray)) }
  refine wpAny_bind (wpAny_load (get?_update_seq (Heap.get?_push_size _ rfl) _) ?_)
  show wpAny _ _ (pure ((#[] : Array Value) ++ vs.toArray).toList) Q E _
  refine wpAny_pure ?_
  simpa using h
end PyProof.Rows
namespace SrtO
open PySem PySem.Spec PyProof.Rows PySem.W
theorem sorted_ordT {prog : Program} {w : World} {A : Around} {E : Value → Shared → Prop} {s : Shared} {l : Addr} {vs : List Value} {ltv : Value → Value → Bool} {Q : Value → Shared → Prop} (O : Swo ltv) (hl : s.heap.IsTuple l vs.toArray) (hz : vs.length ≤ sizeLine)
    (hS : 2 ≤ vs.length → ∀ (h₁ : Heap) (a : Addr), h₁.get? a = some (seqObj "list" vs.toArray 0) → (∀ b o, s.heap.get? b = some o → b ≠ a ∧ h₁.get? b = some o) → SortableO prog w A.in1.in1 { s with heap := h₁ } a vs ltv)
    (h : ∀ out : List Value, Srtd ltv out → Stb ltv out vs → Q (.ref (s.heap.objs.size + 1)) { s with heap := sortedAll s.heap vs out.toArray }) :
    wpAny (model prog w) A (call (.builtin "sorted") [.ref l]) Q E s := by
  refine Calls.call_function_entry kind_sorted plain_sorted entry_sorted (args_sorted1 _) ?_
  unfold Builtin.«sorted»
  refine wpAny_bind (m := checkCount "sorted" 1 1 _) (wpAny_pure ?_)
  refine wpAny_bind (collect_tupI hl ?_ hz)
  refine wpAny_bind (wpAny_newList ?_ hz)
  have hsz : ((s.heap.push (seqObj "list" #[] 0)).update s.heap.objs.size (Obj.mapSeq (· ++ vs.toArray))).objs.size = s.heap.objs.size + 1 := by
    rw [Heap.size_update, size_push']
  have hoL : (((s.heap.push (seqObj "list" #[] 0)).update s.heap.objs.size (Obj.mapSeq (· ++ vs.toArray))).push (seqObj "list" vs.toArray 0)).get? (s.heap.objs.size + 1) = some (seqObj "list" vs.toArray 0) := by
    rw [← hsz]; exact Heap.get?_push_size _ rfl
  have keep : ∀ b o, s.heap.get? b = some o → b ≠ s.heap.objs.size + 1 ∧ (((s.heap.push (seqObj "list" #[] 0)).update s.heap.objs.size (Obj.mapSeq (· ++ vs.toArray))).push (seqObj "list" vs.toArray 0)).get? b = some o := fun b o q => by
    have hlt : b < s.heap.objs.size := Heap.lt_size q
    refine ⟨Nat.ne_of_lt (Nat.lt_succ_of_lt hlt), Heap.get?_push_of_some _ ?_⟩
    rw [Heap.get?_update_ne _ _ _ _ (Nat.ne_of_lt hlt)]
    exact Heap.get?_push_of_some _ q
  show wpAny _ _ _ _ _ { s with heap := ((s.heap.push (seqObj "list" #[] 0)).update s.heap.objs.size (Obj.mapSeq (· ++ vs.toArray))).push (seqObj "list" vs.toArray 0) }
  rw [hsz]
  refine wpAny_bind (wpAny_holding (wpAny_call_entry slot_list_sort ⟨_, hoL, rfl⟩ entry_list_sort (list_sort_ord O hoL hz (fun h2 => hS h2 _ _ hoL keep) fun out hs hb => ⟨_, rfl, ?_⟩) (args_list_sort _)))
  exact wpAny_pure ⟨_, rfl, h out hs hb⟩
end SrtO
namespace Fp
open PySem PySem.Spec PyProof.Rows L2 PySem.W
/-- sorted of ints in a list or a tuple -/
def rSortIS (K : PySem.W.Frag) : List V → Hp → VK → Prop := fun vs H Q => ∃ (a : Addr) (ns : List Int), vs = [V.ref a] ∧ Sq K H a (ns.map V.int) ∧
  ∀ (ns' : List Int) (p : Addr), ns'.Perm ns → ns'.Pairwise (· ≤ ·) → H p = none → Q (.ref p) (upd H p (.lst (ns'.map V.int)))
theorem cr_sortIS {X : Cx} : CallR X (.builtin "sorted") (rSortIS X.K) := by
  intro pins s σ H vs us Q I r h
  obtain ⟨a, ns, rfl, hs, q⟩ := h
  rcases hs with hs | hs
  · exact cr_sortedI pins s σ H [.ref a] us Q I r ⟨a, ns, rfl, hs, q⟩
  obtain ⟨its, rv, hl, hz⟩ := I.tuple hs
  rw [Vals.ref1 r]
  have hi := rv.ints
  have hz' : its.length ≤ sizeLine := by
    have := rv.length
    first | omega | exact this ▸ hz | simpa using hz
  refine SrtO.sorted_ordT SrtO.swo_int hl hz' (fun h2 h₁ a' _ _ => SrtO.ints_sortable hi h2) fun out h1 h2 => ?_
  obtain ⟨k1, k2, k3⟩ := SrtO.ints_out hi h1 h2
  obtain ⟨ep, he'⟩ := PyProof.Rows.sortedAll_at s.heap its out.toArray
  have hlen : ((out.map SrtO.iv).map V.int).length ≤ sizeLine := by
    rw [List.length_map, k2.length_eq]
    have := hi.length
    omega
  exact ⟨.ref _, upd H (s.heap.objs.size + 1) (.lst ((out.map SrtO.iv).map V.int)), I.laid (t' := s.toks) (fun _ _ => PyProof.Rows.sortedAll_old) (Nat.le_succ _) ⟨hlen, out, ep, vals_of_ints k1, he'⟩, rfl, q _ _ k2 k3 (I.hok.fresh (Nat.le_succ _))⟩
/-! ### min and max of ints in a list or a tuple -/
theorem min_tupI {prog : Program} {w : World} {A : Around} {E : Value → Shared → Prop} {s : Shared} {l : Addr} {its : List Value} {ns : List Int} {Q : Value → Shared → Prop} (hh : A.handled = none) (hl : s.heap.IsTuple l its.toArray) (hi : IntsAre its ns) (hne : 0 < ns.length)
    (h : ∀ h' tk M t', (∀ b o, s.heap.get? b = some o → h'.get? b = some o) → M ∈ ns → (∀ a, a ∈ ns → M ≤ a) → Q (.int M t') { s with heap := h', toks := tk }) : wpAny (model prog w) A (call (.builtin "min") [.ref l]) Q E s := by
  obtain ⟨xs, e⟩ := hi.allInts.items
  have hn : numsOf (intItems xs).toList = ns := by rw [← e]; exact hi.numsOf
  rw [nums_intItems] at hn
  subst hn
  rw [e] at hl
  have hsz : 0 < xs.size := by simpa using hne
  have hl0 : l < s.heap.objs.size := by obtain ⟨o, ho, _⟩ := hl; exact Heap.lt_size ho
  refine call_min_walk (wpAny_pyIter_tuple hl ?_)
  refine ⟨_, [_, l], [_], _, _, _, _, rfl, Walks.tuple (A := A.in1) hh _ l (Nat.ne_of_lt hl0) (intItems xs), ⟨⟨_, Heap.get?_push_size _ rfl, rfl, rfl⟩, hl.push _⟩, fun c hc => ?_, by simpa [intItems] using hsz, CmpOf.ints_lt (numAt xs) (fun _ _ => intItems_at), fun v h' tk hP hk => ?_⟩
  · show c < (s.heap.push _).objs.size
    rw [Heap.size_push]
    rcases List.mem_cons.mp hc with rfl | hc
    · exact Nat.lt_succ_self _
    · rw [List.mem_singleton.mp hc]; exact Nat.lt_succ_of_lt hl0
  · have kept : ∀ b o, s.heap.get? b = some o → h'.get? b = some o := fun b o eb => hk b o (fun hm => by
      rw [List.mem_singleton.mp hm] at eb
      exact Nat.lt_irrefl _ (Heap.lt_size eb)) (Heap.get?_push_of_some _ eb)
    obtain ⟨t, rfl⟩ := intItems_at (by simpa [intItems] using hP)
    obtain ⟨h1, h2⟩ := argBest_lt (numAt xs) (xs.size - 1)
    refine h h' tk _ t kept ?_ fun a ha => ?_
    · rw [numAt_eq]; exact PySem.getD_mem (by rw [List.length_map, Array.length_toList]; omega)
    · obtain ⟨j, hj, rfl⟩ := mem_getD ha
      rw [List.length_map, Array.length_toList] at hj
      rw [← numAt_eq]; exact h2 j (by omega)
def rMinS (K : PySem.W.Frag) : List V → Hp → VK → Prop := fun vs H Q => ∃ (a : Addr) (ns : List Int), vs = [V.ref a] ∧ Sq K H a (ns.map V.int) ∧ 0 < ns.length ∧ ∀ m, m ∈ ns → (∀ y, y ∈ ns → m ≤ y) → Q (.int m) H
theorem cr_minS {X : Cx} (hc : X.calm = true) : CallR X (.builtin "min") (rMinS X.K) := by
  intro pins s σ H vs us Q I r h
  obtain ⟨a, ns, rfl, hs, hne, q⟩ := h
  rcases hs with hs | hs
  · exact cr_min hc pins s σ H [.ref a] us Q I r ⟨a, ns, rfl, hs, hne, q⟩
  · obtain ⟨its, rv, hl, _⟩ := I.tuple hs
    rw [Vals.ref1 r]
    exact min_tupI (I.ok.hd hc) hl rv.ints hne fun h' tk m t' hk h1 h2 => ⟨.int _, H, I.kept hk, ⟨_, rfl⟩, q m h1 h2⟩
theorem max_tupI {prog : Program} {w : World} {A : Around} {E : Value → Shared → Prop} {s : Shared} {l : Addr} {its : List Value} {ns : List Int} {Q : Value → Shared → Prop} (hh : A.handled = none) (hl : s.heap.IsTuple l its.toArray) (hi : IntsAre its ns) (hne : 0 < ns.length)
    (h : ∀ h' tk M t', (∀ b o, s.heap.get? b = some o → h'.get? b = some o) → M ∈ ns → (∀ a, a ∈ ns → a ≤ M) → Q (.int M t') { s with heap := h', toks := tk }) : wpAny (model prog w) A (call (.builtin "max") [.ref l]) Q E s := by
  obtain ⟨xs, e⟩ := hi.allInts.items
  have hn : numsOf (intItems xs).toList = ns := by rw [← e]; exact hi.numsOf
  rw [nums_intItems] at hn
  subst hn
  rw [e] at hl
  have hsz : 0 < xs.size := by simpa using hne
  have hl0 : l < s.heap.objs.size := by obtain ⟨o, ho, _⟩ := hl; exact Heap.lt_size ho
  refine call_max_walk (wpAny_pyIter_tuple hl ?_)
  refine ⟨_, [_, l], [_], _, _, _, _, rfl, Walks.tuple (A := A.in1) hh _ l (Nat.ne_of_lt hl0) (intItems xs), ⟨⟨_, Heap.get?_push_size _ rfl, rfl, rfl⟩, hl.push _⟩, fun c hc => ?_, by simpa [intItems] using hsz, CmpOf.ints_gt (numAt xs) (fun _ _ => intItems_at), fun v h' tk hP hk => ?_⟩
  · show c < (s.heap.push _).objs.size
    rw [Heap.size_push]
    rcases List.mem_cons.mp hc with rfl | hc
    · exact Nat.lt_succ_self _
    · rw [List.mem_singleton.mp hc]; exact Nat.lt_succ_of_lt hl0
  · have kept : ∀ b o, s.heap.get? b = some o → h'.get? b = some o := fun b o eb => hk b o (fun hm => by
      rw [List.mem_singleton.mp hm] at eb
      exact Nat.lt_irrefl _ (Heap.lt_size eb)) (Heap.get?_push_of_some _ eb)
    obtain ⟨t, rfl⟩ := intItems_at (by simpa [intItems] using hP)
    obtain ⟨h1, h2⟩ := argBest_gt (numAt xs) (xs.size - 1)
    refine h h' tk _ t kept ?_ fun a ha => ?_
    · have h1' : argBest (fun i j => decide (numAt xs j < numAt xs i)) (xs.size - 1) ≤ xs.size - 1 := h1
      rw [numAt_eq]; exact PySem.getD_mem (by rw [List.length_map, Array.length_toList]; omega)
    · obtain ⟨j, hj, rfl⟩ := mem_getD ha
      rw [List.length_map, Array.length_toList] at hj
      rw [← numAt_eq]; exact h2 j (by omega)
def rMaxS (K : PySem.W.Frag) : List V → Hp → VK → Prop := fun vs H Q => ∃ (a : Addr) (ns : List Int), vs = [V.ref a] ∧ Sq K H a (ns.map V.int) ∧ 0 < ns.length ∧ ∀ m, m ∈ ns → (∀ y, y ∈ ns → y ≤ m) → Q (.int m) H
theorem cr_maxS {X : Cx} (hc : X.calm = true) : CallR X (.builtin "max") (rMaxS X.K) := by
  intro pins s σ H vs us Q I r h
  obtain ⟨a, ns, rfl, hs, hne, q⟩ := h
  rcases hs with hs | hs
  · exact cr_max hc pins s σ H [.ref a] us Q I r ⟨a, ns, rfl, hs, hne, q⟩
  · obtain ⟨its, rv, hl, _⟩ := I.tuple hs
    rw [Vals.ref1 r]
    exact max_tupI (I.ok.hd hc) hl rv.ints hne fun h' tk m t' hk h1 h2 => ⟨.int _, H, I.kept hk, ⟨_, rfl⟩, q m h1 h2⟩
end Fp

namespace Fp
open PySem PySem.Spec PyProof.Rows L2 PySem.W
section
variable {X : Cx}
/-! ### sorted, in whatever heap the items are read -/
def SrR2 {α : Type} (all : List V) (L : List α) (v : Value) (b : α) : Prop := ∃ x, x ∈ all ∧ RelV x v ∧ ∀ S : V → α → Prop, A2 S all L → S x b
theorem srt_in2 {α : Type} {all : List V} {L : List α} : ∀ {vs : List V} {its : List Value} {xs : List α}, (∀ v ∈ vs, v ∈ all) → (∀ S : V → α → Prop, A2 S all L → A2 S vs xs) → Vals vs its → vs.length = xs.length → EachIs (SrR2 all L) its xs
  | [], _, [], _, _, r, _ => by cases r; exact .nil
  | [], _, _ :: _, _, _, _, h => by cases h
  | _ :: _, _, [], _, _, _, h => by cases h
  | v :: vs, _, x :: xs, m, t, r, h => by
    cases r with
    | cons r1 r2 =>
      exact .cons ⟨v, m v List.mem_cons_self, r1, fun S g => (t S g).tail.1⟩ (srt_in2 (fun u hu => m u (List.mem_cons_of_mem _ hu)) (fun S g => (t S g).tail.2) r2 (by simpa using h))
theorem srt_out2 {α : Type} {all : List V} {L : List α} : ∀ {its : List Value} {xs : List α}, EachIs (SrR2 all L) its xs → ∃ ws, Vals ws its ∧ (∀ S : V → α → Prop, A2 S all L → A2 S ws xs) ∧ ∀ w ∈ ws, w ∈ all
  | _, _, .nil => ⟨[], .nil, fun _ _ => .nil, fun w h => by cases h⟩
  | _, _, .cons h r => by
    obtain ⟨x, m, rx, hx⟩ := h
    obtain ⟨ws, r1, r2, r3⟩ := srt_out2 r
    exact ⟨x :: ws, .cons rx r1, fun S g => .cons (hx S g) (r2 S g), fun w hw => by
      rcases List.mem_cons.mp hw with e | e
      · rw [e]; exact m
      · exact r3 w e⟩
theorem hs_a2 {α : Type} [DecidableEq α] [Datum α] {K : PySem.W.Frag} {H : Hp} {vs : List V} {L : List α} (h : Hs K H vs L) : A2 (Hd K H) vs L := ⟨h.len, fun _ _ e => h.at e⟩
def rSortH2 (α : Type) [DecidableEq α] [Datum α] (K : PySem.W.Frag) : List V → Hp → VK → Prop := fun vs H Q => ∃ (a : Addr) (xs : List V) (L : List α), vs = [V.ref a] ∧ SqL K H a xs ∧ Hs K H xs L ∧
  ∀ p ws, (∀ w ∈ ws, w ∈ xs) → (∀ S : V → α → Prop, A2 S xs L → A2 S ws (L.mergeSort leH)) → H p = none → Q (.ref p) (upd H p (.lst ws))
theorem cr_sortH2 (α : Type) [DecidableEq α] [Datum α] [Srt1 α] (hu : X.A.units + 2 + Datum.depth α < cLine) : CallR X (.builtin "sorted") (rSortH2 α X.K) := by
  intro pins s σ H vs us Q I r h
  obtain ⟨a, xs, L, rfl, hs, hL, q⟩ := h
  obtain ⟨its, rv, hl, hz⟩ := I.list hs
  rw [Vals.ref1 r]
  have el := srt_in2 (all := xs) (L := L) (fun _ m => m) (fun _ g => g) rv hL.len
  have n1 : L.length = xs.length := hL.len.symm
  have er : EachIs (fun v (b : α) => ∃ as, Reads s.heap v (Datum.toD b) as) its L := el.mono fun v b ⟨x, _, rx, hx⟩ => Dp.reads I _ x v (hx _ (hs_a2 hL)) rx
  refine sorted_data (enc := Datum.toD) hl.isList el er (AllAlike.of Srt1.like) (Sortable.others Srt1.other) (by rw [n1]; exact hz) (fun b _ => Nat.lt_of_le_of_lt (Nat.add_le_add_left (Datum.depth_le b) _) hu) fun out ho eo => ?_
  obtain ⟨ws, r1, r2, r3⟩ := srt_out2 eo
  obtain ⟨ep, he'⟩ := PyProof.Rows.sortedAll_at s.heap its out.toArray
  have hlen : ws.length ≤ sizeLine := by rw [r1.length, ho, n1]; exact hz
  exact ⟨.ref _, upd H (s.heap.objs.size + 1) (.lst ws), I.laid (t' := s.toks) (fun _ _ => PyProof.Rows.sortedAll_old) (Nat.le_succ _) ⟨hlen, out, ep, r1, he'⟩, rfl, q _ _ r3 r2 (I.hok.fresh (Nat.le_succ _))⟩
end
end Fp

namespace Fp
open PySem PySem.Spec PyProof.Rows L2
/-! ### zip of three lists or tuples -/
def YTrip (xs ys zs : Nat → Option V) : Nat → Hp → V → Hp → Prop := fun i H v H' => ∃ T x y z, v = .ref T ∧ H T = none ∧ H' = upd H T (.tup [x, y, z]) ∧ xs i = some x ∧ ys i = some y ∧ zs i = some z
def ItZ3 (K : PySem.W.Frag) (κ1 κ2 κ3 : Bool) (a b c : Addr) (xs ys zs : List V) : It :=
  ⟨fun i H => SqK κ1 K H a xs ∧ SqK κ2 K H b ys ∧ SqK κ3 K H c zs ∧ i < xs.length ∧ i < ys.length ∧ i < zs.length,
    YTrip (fun i => xs[i]?) (fun i => ys[i]?) (fun i => zs[i]?),
    fun i H => SqK κ1 K H a xs ∧ SqK κ2 K H b ys ∧ SqK κ3 K H c zs ∧ i ≤ xs.length ∧ i ≤ ys.length ∧ i ≤ zs.length ∧ (i = xs.length ∨ i = ys.length ∨ i = zs.length)⟩
def TnZ3 (κ1 κ2 κ3 : Bool) (z TI TO i1 i2 i3 a b c : Addr) (i : Nat) (h : Heap) : Prop :=
  IsZip h z TI TO .none ∧ IsTupOf3 h TI (.ref i1) (.ref i2) (.ref i3) ∧ (∃ x y u, IsTupOf3 h TO x y u) ∧ ItAtK κ1 h i1 a i ∧ ItAtK κ2 h i2 b i ∧ ItAtK κ3 h i3 c i
theorem zip3_apart (I a b c : Nat) (la : a < I) (lb : b < I) (lc : c < I) : ZipSep3 (I + 5) (I + 3) (I + 4) I (I + 1) (I + 2) [I, a] [I + 1, b] [I + 2, c] := by
  constructor <;> (try simp only [List.mem_cons, List.not_mem_nil, or_false, not_or, true_or, or_true]) <;> (try refine ⟨?_, ?_⟩) <;> refine PySem.W.neN ?_ <;> omega
theorem zip3_turns {P : Program} {w : World} {K : PySem.W.Frag} {elts : List Expr} {kk : Nat} {tpos : Pos} {κ1 κ2 κ3 : Bool} {a b c I : Addr} {xs ys zs : List V} (la : a < I) (lb : b < I) (lc : c < I) :
    Turn P w K (.Tuple elts kk tpos) (ItZ3 K κ1 κ2 κ3 a b c xs ys zs) [I + 5, I + 3, I + 4, I, I + 1, I + 2] (I + 5) (TnZ3 κ1 κ2 κ3 (I + 5) (I + 3) (I + 4) I (I + 1) (I + 2) a b c) := by
  have S := zip3_apart I a b c la lb lc
  refine ⟨by simp, ?_, ?_, ?_, ?_, ?_⟩
  · rintro i h ⟨hz, hTI, ⟨x, y, u, hTO⟩, h1, h2, h3⟩ c hc
    have e' : c = I + 5 ∨ c = I + 3 ∨ c = I + 4 ∨ c = I ∨ c = I + 1 ∨ c = I + 2 := by simpa using hc
    rcases e' with q | q | q | q | q | q <;> subst q
    · exact ⟨_, hz, fun v q => nomatch q⟩
    · exact ⟨_, hTI, fun v q => nomatch q⟩
    · exact ⟨_, hTO, fun v q => nomatch q⟩
    · exact h1.obj
    · exact h2.obj
    · exact h3.obj
  · rintro i h h' ⟨hz, hTI, ⟨x, y, u, hTO⟩, h1, h2, h3⟩ k
    exact ⟨k (I + 5) (by simp) _ hz, k (I + 3) (by simp) _ hTI, ⟨x, y, u, k (I + 4) (by simp) _ hTO⟩, h1.at fun o q => k I (by simp) o q, h2.at fun o q => k (I + 1) (by simp) o q, h3.at fun o q => k (I + 2) (by simp) o q⟩
  · intro X hP hw hK hc i pins s σ H E Iv hf st hg
    subst hP hw hK
    obtain ⟨hz, hTI, ⟨x0, y0, u0, hTO⟩, h1, h2, h3⟩ := st
    obtain ⟨qx, qy, qz, l1, l2, l3⟩ := hg
    obtain ⟨its, rv, p, _⟩ := Inv.seqK Iv qx
    obtain ⟨its2, rv2, p2, _⟩ := Inv.seqK Iv qy
    obtain ⟨its3, rv3, p3, _⟩ := Inv.seqK Iv qz
    have hA : X.A.in1.handled = none := by
      have q := Iv.ok.hd hc
      simpa using q
    have zl : I + 5 < s.heap.objs.size := Heap.lt_size hz
    have n1 := rv.length
    have n2 := rv2.length
    have n3 := rv3.length
    refine wpAny_pyNext_zipD3_item S (draws_k κ1 hA I a (PySem.W.neN (Nat.ne_of_lt la)) its.toArray) (draws_k κ2 hA (I + 1) b (PySem.W.neN (Nat.ne_of_lt (Nat.lt_succ_of_lt lb))) its2.toArray) (draws_k κ3 hA (I + 2) c (PySem.W.neN (Nat.ne_of_lt (Nat.lt_succ_of_lt (Nat.lt_succ_of_lt lc)))) its3.toArray) hz hTI hTO ⟨h1, p⟩ ⟨h2, p2⟩ ⟨h3, p3⟩ (by simp; omega) (by simp; omega) (by simp; omega) ?_
    intro u u2 u3 h' tk hu hu2 hu3 z' TO' st1 st2 st3 hT hsz hk
    obtain ⟨x, hx, ru⟩ : ∃ x, xs[i]? = some x ∧ RelV x u := by
      obtain ⟨u', e1, e2⟩ := rv.get (List.getElem?_eq_getElem l1)
      have e3 : its[i]? = some u := by simpa using hu
      rw [e1] at e3
      obtain rfl := Option.some.inj e3
      exact ⟨_, List.getElem?_eq_getElem l1, e2⟩
    obtain ⟨y, hy, ru2⟩ : ∃ y, ys[i]? = some y ∧ RelV y u2 := by
      obtain ⟨u', e1, e2⟩ := rv2.get (List.getElem?_eq_getElem l2)
      have e3 : its2[i]? = some u2 := by simpa using hu2
      rw [e1] at e3
      obtain rfl := Option.some.inj e3
      exact ⟨_, List.getElem?_eq_getElem l2, e2⟩
    obtain ⟨y3, hy3, ru3⟩ : ∃ y, zs[i]? = some y ∧ RelV y u3 := by
      obtain ⟨u', e1, e2⟩ := rv3.get (List.getElem?_eq_getElem l3)
      have e3 : its3[i]? = some u3 := by simpa using hu3
      rw [e1] at e3
      obtain rfl := Option.some.inj e3
      exact ⟨_, List.getElem?_eq_getElem l3, e2⟩
    refine ⟨_, rfl, wpAny_letOwnedTupleGo_zip (s := { s with heap := h', toks := tk }) z' fun h'' z'' sb => ?_⟩
    have T2 : h''.get? s.heap.objs.size = some { cls := .type "tuple", data := .seq #[u, u2, u3] } := (sb.2 _ (Nat.ne_of_gt zl)).trans hT
    have far : ∀ c o, c ∉ [I + 5, I + 3, I + 4, I, I + 1, I + 2] → s.heap.get? c = some o → h''.get? c = some o := fun c o hb q => by
      simp only [List.mem_cons, List.not_mem_nil, or_false, not_or] at hb
      exact (sb.2 c hb.1).trans (hk c o hb.1 hb.2.2.1 hb.2.2.2.1 hb.2.2.2.2.1 hb.2.2.2.2.2 q)
    have I1 : L2.Inv X pins σ (upd H s.heap.objs.size (.tup [x, y, y3])) { s with heap := h'', toks := tk } :=
      Iv.turnedNew (t' := tk) (ch := [I + 5, I + 3, I + 4, I, I + 1, I + 2]) far hf (Nat.le_refl _) ⟨by show 3 ≤ sizeLine; decide, [u, u2, u3], .cons ru (.cons ru2 (.cons ru3 .nil)), ⟨_, T2, rfl, _, rfl⟩⟩
    refine ⟨.ref s.heap.objs.size, _, I1, rfl, ⟨_, x, y, y3, rfl, Iv.hok.fresh (Nat.le_refl _), rfl, hx, hy, hy3⟩, ⟨z'', ?_, ⟨u, u2, u3, ?_⟩, ?_, ?_, ?_⟩, fun c hcm => ?_⟩
    · exact (sb.2 _ S.TIz).trans (hk _ _ S.TIz S.TITO S.TIi1 S.TIi2 S.TIi3 hTI)
    · exact (sb.2 _ S.TOz).trans TO'
    · exact st1.1.at fun o q => (sb.2 _ S.zi1.symm).trans q
    · exact st2.1.at fun o q => (sb.2 _ S.zi2.symm).trans q
    · exact st3.1.at fun o q => (sb.2 _ S.zi3.symm).trans q
    · have lt : c < s.heap.objs.size := by
        have e' : c = I + 5 ∨ c = I + 3 ∨ c = I + 4 ∨ c = I ∨ c = I + 1 ∨ c = I + 2 := by simpa using hcm
        have zl' : (I : Nat) + 5 < s.heap.objs.size := zl
        rcases e' with q | q | q | q | q | q <;> subst q
        · exact zl
        · exact Heap.lt_size hTI
        · exact Heap.lt_size hTO
        · obtain ⟨_, e1, _⟩ := h1.obj; exact Heap.lt_size e1
        · obtain ⟨_, e2, _⟩ := h2.obj; exact Heap.lt_size e2
        · obtain ⟨_, e2, _⟩ := h3.obj; exact Heap.lt_size e2
      rw [upd_ne (Nat.ne_of_lt lt)]
      exact (hf c hcm).1
  · intro X hP hw hK hc i pins s σ H E Iv hf st hg
    subst hP hw hK
    obtain ⟨hz, hTI, ⟨x0, y0, u0, hTO⟩, h1, h2, h3⟩ := st
    obtain ⟨qx, qy, qz, l1, l2, l3, l4⟩ := hg
    obtain ⟨its, rv, p, _⟩ := Inv.seqK Iv qx
    obtain ⟨its2, rv2, p2, _⟩ := Inv.seqK Iv qy
    obtain ⟨its3, rv3, p3, _⟩ := Inv.seqK Iv qz
    have hA : X.A.in1.handled = none := by
      have q := Iv.ok.hd hc
      simpa using q
    have n1 := rv.length
    have n2 := rv2.length
    have n3 := rv3.length
    refine wpAny_pyNext_zipD3_end S (draws_k κ1 hA I a (PySem.W.neN (Nat.ne_of_lt la)) its.toArray) (draws_k κ2 hA (I + 1) b (PySem.W.neN (Nat.ne_of_lt (Nat.lt_succ_of_lt lb))) its2.toArray) (draws_k κ3 hA (I + 2) c (PySem.W.neN (Nat.ne_of_lt (Nat.lt_succ_of_lt (Nat.lt_succ_of_lt lc)))) its3.toArray) hz hTI hTO ⟨h1, p⟩ ⟨h2, p2⟩ ⟨h3, p3⟩ (by simp; omega) (by simp; omega) (by simp; omega) (by simp; omega) fun h' tk hk => ?_
    refine ⟨rfl, Iv.turnedL (t' := tk) (ch := [I + 5, I + 3, I + 4, I, I + 1, I + 2]) (fun c o hb q => ?_) hf⟩
    simp only [List.mem_cons, List.not_mem_nil, or_false, not_or] at hb
    exact hk c o hb.1 hb.2.2.1 hb.2.2.2.1 hb.2.2.2.2.1 hb.2.2.2.2.2 q
  · intro A i s Q E st h
    exact wpAny_pyIter_zip st.1 h
def iZip3 (K : PySem.W.Frag) (ta : TA) : TI := fun σ H R => ta σ H fun vs H1 => ∃ a b c xs ys zs κ1 κ2 κ3, vs = [.ref a, .ref b, .ref c] ∧ SqK κ1 K H1 a xs ∧ SqK κ2 K H1 b ys ∧ SqK κ3 K H1 c zs ∧ R (ItZ3 K κ1 κ2 κ3 a b c xs ys zs) H1
def begK (κ : Bool) (l : Addr) : Obj := if κ = true then { cls := .type "tuple_iterator", data := .fields #[.ref l, .int 0 0] } else { cls := .type "list_iterator", data := .fields #[.ref l, .int 0 0] }
theorem begins_k (κ : Bool) (l : Addr) (its : Array Value) : Begins (.ref l) (begK κ l) fun h => SqAtK κ h l its := by
  cases κ with
  | false => exact begins_list l its
  | true => exact begins_tuple l its
theorem begK_at {κ : Bool} {h : Heap} {i l : Addr} (e : h.get? i = some (begK κ l)) : ItAtK κ h i l 0 := by
  cases κ with
  | false => exact ⟨_, e, rfl, rfl⟩
  | true => exact ⟨_, e, rfl, rfl⟩
theorem pi_zip3 {X : Cx} {e e2 e3 : Expr} {ta : TA} {p pos tpos : Pos} {elts : List Expr} {kk : Nat} (hg : Gl X "zip") (hm : X.mg "zip" = none) (ha : PA X [e, e2, e3] ta)
    (hs : starEach [e, e2, e3] X.env = (false, eval e X.env) :: starEach [e2, e3] X.env := by rfl) (hpl : (backTo pos (starEach [e2, e3] X.env)).any (·.1) = false := by rfl) :
    PI X (.Tuple elts kk tpos) (.Call (.Name "zip" p) [e, e2, e3] [] pos) (iZip3 X.K ta) := by
  refine ⟨fun pins s σ H R I h => Call_ (ld_blt I hg hm PyProof.Rows.boot_zip (PyProof.Rows.callWith_type1 (thn (ha.run pos pins s σ H _ I h) ?_) hs hpl))⟩
  rintro us s1 ⟨vs, H1, I1, r1, a, b, c, xs, ys, zs, κ1, κ2, κ3, rfl, kx, ky, kz, q⟩
  cases r1 with
  | cons ra r1 => cases r1 with
  | cons rb r1 => cases r1 with
  | cons rc r1 =>
  cases r1
  cases ra
  cases rb
  cases rc
  obtain ⟨its, rv, p1, la⟩ := Inv.seqK I1 kx
  obtain ⟨its2, rv2, p2, lb⟩ := Inv.seqK I1 ky
  obtain ⟨its3, rv3, p3, lc⟩ := Inv.seqK I1 kz
  refine zip_begins3 (begins_k κ1 a its.toArray) (begins_k κ2 b its2.toArray) (begins_k κ3 c its3.toArray) p1 p2 p3 fun h' hz hTI hTO h1 h2 h3 _ hk => wpAny_pyIter_zip hz ?_
  refine ⟨s1.heap.objs.size + 5, _, _, _, H1, rfl, I1.kept (t' := s1.toks) hk, zip3_turns la lb lc, ⟨hz, hTI, ⟨_, _, _, hTO⟩, begK_at h1, begK_at h2, begK_at h3⟩, fun c hcm => ?_, q⟩
  have le : s1.heap.objs.size ≤ c := by
    have e' : c = s1.heap.objs.size + 5 ∨ c = s1.heap.objs.size + 3 ∨ c = s1.heap.objs.size + 4 ∨ c = s1.heap.objs.size ∨ c = s1.heap.objs.size + 1 ∨ c = s1.heap.objs.size + 2 := by simpa using hcm
    rcases e' with z | z | z | z | z | z <;> rw [z] <;> first | exact Nat.le_refl _ | exact Nat.le_add_right _ _
  exact I1.fpOk le (I1.hok.fresh le)
theorem walk_zip3 {K : PySem.W.Frag} {κ1 κ2 κ3 : Bool} {a b c : Addr} {xs ys zs : List V} {n : Nat} (hn : n = min xs.length (min ys.length zs.length)) :
    Walk (ItZ3 K κ1 κ2 κ3 a b c xs ys zs) n (fun H => SqK κ1 K H a xs ∧ SqK κ2 K H b ys ∧ SqK κ3 K H c zs) (YTrip (fun i => xs[i]?) (fun i => ys[i]?) (fun i => zs[i]?)) := by
  subst hn
  exact ⟨fun i _ hi q => ⟨q.1, q.2.1, q.2.2, by omega, by omega, by omega⟩, fun _ q => ⟨q.1, q.2.1, q.2.2, by omega, by omega, by omega, by omega⟩, fun i H v H' _ q y => y⟩
end Fp

namespace Fp
open PySem PySem.Spec PyProof.Rows L2
open Builtin
open Builtin.List
/-! ### repr(..) where own instances stand within -/
theorem sub_guard {X : Cx} {n : Nat} {A : Around} (sb : L2.Sub X (n + 1) A) {id : String} {args : Args} (hd : (A.under (.builtin id args)).depth = A.depth + 1) (hu : (A.under (.builtin id args)).units = A.units + 1) (hf : (A.under (.builtin id args)).frames = A.frames) : L2.Sub X n (A.under (.builtin id args)) :=
  ⟨⟨sb.room.hd, by have := sb.room.dp; rw [hd]; omega, by have := sb.room.un; rw [hu]; omega⟩, by rw [hf]; exact sb.fr⟩
theorem depth_list_loop (A : Around) (args : Args) : (A.under (.builtin "list.__repr__.loop" args)).depth = A.depth + 1 := by
  first | rfl | simp [Around.under, Code.weight, Code.isCreation, Code.isGuard, Code.isCaller, Code.frames, Code.isFrame, guardIds]
theorem frames_list_loop (A : Around) (args : Args) : (A.under (.builtin "list.__repr__.loop" args)).frames = A.frames := by
  first | rfl | simp [Around.under, Code.envs, pushEnvs]
theorem depth_tuple_repr (A : Around) (args : Args) : (A.under (.builtin "tuple.__repr__" args)).depth = A.depth + 1 := by
  first | rfl | simp [Around.under, Code.weight, Code.isCreation, Code.isGuard, Code.isCaller, Code.frames, Code.isFrame, guardIds]
theorem frames_tuple_repr (A : Around) (args : Args) : (A.under (.builtin "tuple.__repr__" args)).frames = A.frames := by
  first | rfl | simp [Around.under, Code.envs, pushEnvs]
theorem depth_tuple_under (A : Around) (args : Args) : (A.under (.builtin "tuple.__repr__.under" args)).depth = A.depth + 1 := by
  first | rfl | simp [Around.under, Code.weight, Code.isCreation, Code.isGuard, Code.isCaller, Code.frames, Code.isFrame, guardIds]
theorem frames_tuple_under (A : Around) (args : Args) : (A.under (.builtin "tuple.__repr__.under" args)).frames = A.frames := by
  first | rfl | simp [Around.under, Code.envs, pushEnvs]

/-- which containers have how long a text -/
abbrev ClT := Addr → Nat → Prop
abbrev Grd (Cl : ClT) (g : List Code) (m : Nat) : Prop := ∀ b k, Cl b k → k ≤ m → Clear g b
/-- x is shown as t, where H0 stands -/
def RpG (X : Cx) (n : Nat) (H0 : Hp) (Cl : ClT) (x : V) (t : Str) : Prop :=
  ∀ (A : Around) (pins : List (Addr × Obj)) (s : Shared) (σ : L2.St) (H : Hp) (u : Value) (g : List Code) (base : Nat), L2.Sub X n A → A.guards = some g → Grd Cl g t.length → base + t.length ≤ sizeLine → L2.Inv X pins σ H s → Same H0 H → RelV x u →
    wpAny (model X.prog X.w) A (pyReprUnder base u) (fun r s' => r = t ∧ ∃ H', L2.Inv X pins σ H' s' ∧ Same H H') X.xe s
theorem RpG.mono {X : Cx} {n m : Nat} {H0 : Hp} {Cl : ClT} {x : V} {t : Str} (h : RpG X n H0 Cl x t) (e : n ≤ m) : RpG X m H0 Cl x t :=
  fun A pins s σ H u g base sb => h A pins s σ H u g base (sb.mono e)
theorem RpG.is {X : Cx} {n : Nat} {H0 : Hp} {Cl : ClT} {x : V} {t : Str} (h : ∀ u, RelV x u → ReprIs X.prog X.w u t) : RpG X n H0 Cl x t :=
  fun A pins s σ H u g base sb hg hcl hb I sm r => h u r base hb A X.xe s _ fun tk => ⟨rfl, H, I.tok tk, Same.refl _⟩
/-- the loop over a list's items -/
theorem rp_list_loop {X : Cx} {n : Nat} {H0 : Hp} {Cl : ClT} {a P : Addr} {xs : List V} {ts : List Str} {A : Around} {g : List Code} {base : Nat} {pins : List (Addr × Obj)} {σ : L2.St} {R : Result → Shared → Prop} (hR2 : ∀ e s, X.xe e s → R (.error e) s)
    (fn : ∀ b k k', Cl b k → Cl b k' → k = k') (ha : H0 a = some (.lst xs)) (hca : Cl a (listText ts).length) (sb : L2.Sub X (n + 1) A) (hg : A.guards = some g) (hcl : Grd Cl g (listText ts).length) (hlen : ts.length = xs.length)
    (hT : ∀ (i : Nat) x t, xs[i]? = some x → ts[i]? = some t → RpG X n H0 Cl x t) (hsz : base + (listText ts).length ≤ sizeLine) :
    ∀ (k i : Nat) (s : Shared) (H : Hp) (acc : Array Value) (c : Nat) (done : List (Str × Tok)), xs.length - i = k → i ≤ xs.length → L2.Inv X pins σ H s → Same H0 H → FpOk X pins H P →
    s.heap.get? P = some { cls := .type "list", dict := none, data := .seq acc c, slots := #[] } → acc.toList = strValues done → done.map (·.1) = ts.take i →
    (∀ s' H' u, L2.Inv X pins σ H' s' → Same H H' → R (.ok (.ret (.str (listText ts) u))) s') →
    codeAny (model X.prog X.w) A (.builtin "list.__repr__.loop" ⟨[.ref a, rawInt i, .ref P, rawInt ((base + piled (ts.take i) : Nat) : Int)], []⟩) R s := by
  have hX : (listText ts).length = (textFrom 0 "[" ts).length + 1 := by
    show (textFrom 0 "[" ts ++ "]").length = _
    rw [strLen_append]; rfl
  have hL := textFrom_len ts 0 "["
  have hsz1 : xs.length ≤ sizeLine := by
    have h1 := hL.1
    rw [if_neg (Nat.lt_irrefl 0)] at h1
    omega
  have hsz2 : ∀ t ∈ ts, t.length ≤ sizeLine := fun t ht => by
    have h2 := hL.2.1 t ht
    omega
  have hsz3 : (listText ts).length ≤ sizeLine := by omega
  have hp3 := piled_le_listText ts
  intro k
  induction k with
  | zero =>
    intro i s H acc c done hk hi I sm hf hP hacc hdone hR
    have hin : i = xs.length := by omega
    obtain ⟨_, its, na, rv, hl, he⟩ := I.lstM (sm _ _ ha)
    refine codeAny_builtin F.entry_list_repr_loop ?_
    show wpAny _ _ («list.__repr__.loop» ⟨[.ref a, .int i 0, .ref P, .int ((base + piled (ts.take i) : Nat) : Int) 0], []⟩) _ _ s
    rw [repr_loop_tree]
    refine wpAny_bind (wpAny_listItems he rfl ?_)
    have hnone : its.toArray[(i : Int).toNat]? = none := by simp [hin, hl]
    simp only [hnone]
    unfold reprEnd
    refine wpAny_bind (wpAny_listItems hP rfl ?_)
    rw [hacc, repr_fold]
    refine wpAny_bind (wpAny_pure ?_)
    have hall : done.map (·.1) = ts := by rw [hdone, hin, ← hlen, List.take_length]
    rw [hall]
    refine wpAny_bind (wpAny_mkStr (wpAny_pure ?_) hsz3)
    exact hR _ H _ (I.tok _) (Same.refl _)
  | succ k ih =>
    intro i s H acc c done hk hi I sm hf hP hacc hdone hR
    have hlt : i < xs.length := by omega
    obtain ⟨t, ht⟩ : ∃ t, ts[i]? = some t := ⟨_, List.getElem?_eq_getElem (by omega)⟩
    have hx := List.getElem?_eq_getElem hlt
    have hrep := hT i _ t hx ht
    obtain ⟨_, its, na, rv, hl, he⟩ := I.lstM (sm _ _ ha)
    obtain ⟨u, hu, ru⟩ := rv.get hx
    have hp1 := piled_take_succ ht
    have hp2 := piled_take_le ts (i + 1)
    have lt : t.length < (listText ts).length := by omega
    refine codeAny_builtin F.entry_list_repr_loop ?_
    show wpAny _ _ («list.__repr__.loop» ⟨[.ref a, .int i 0, .ref P, .int ((base + piled (ts.take i) : Nat) : Int) 0], []⟩) _ _ s
    rw [repr_loop_tree]
    refine wpAny_bind (wpAny_listItems he rfl ?_)
    have hsome : its.toArray[(i : Int).toNat]? = some u := by simpa using hu
    simp only [hsome]
    rw [Int.toNat_natCast]
    have I1 : L2.Inv X (pins ++ [(P, ({ cls := .type "list", dict := none, data := .seq acc c, slots := #[] } : Obj))]) σ H s := I.pins_of fun p hp => by
      rcases List.mem_append.mp hp with z | z
      · exact I.pin p (List.mem_append_right _ z)
      · rw [List.mem_singleton.mp z]
        exact ⟨hP, hf.1, hf.2.1, hf.2.2.1, fun v q => nomatch q⟩
    refine wpAny_bind (wpAny_holding (wpAny_mono (hrep _ (pins ++ [(P, ({ cls := .type "list", dict := none, data := .seq acc c, slots := #[] } : Obj))]) s σ H u _ (base + piled (ts.take i) + 1) (sub_guard sb (depth_list_loop _ _) (units_under_list_loop _ _) (frames_list_loop _ _)) (guards_under_guard (isGuard_list_loop _) hg)
      (fun b m hb hm => (hcl b m hb (by omega)).cons (a := a) fun e => by
        subst e
        have := fn _ _ _ hca hb
        omega) (by omega) I1 sm ru) (fun r s1 hr => ?_) (fun e s' he => hR2 e s' he)))
    obtain ⟨rfl, H1, I2, s01⟩ := hr
    have hpn := I2.pin (P, ({ cls := .type "list", dict := none, data := .seq acc c, slots := #[] } : Obj)) (List.mem_append_right _ (List.mem_append_right _ List.mem_cons_self))
    have hP1 := hpn.1
    have hP0 := hpn.2.1
    have I3 := I2.unpinned
    refine wpAny_bind (wpAny_mkStr ?_ (hsz2 _ (List.mem_of_getElem? ht)))
    refine wpAny_bind ?_
    show wpAny _ _ (updateSeq P _) _ _ _
    have hasz : acc.size ≤ sizeLine := by
      have e1 : acc.toList.length = acc.size := by simp
      have e2 : (strValues done).length = done.length := by simp [strValues]
      have e3 : done.length = (ts.take i).length := by rw [← hdone, List.length_map]
      have e4 : (ts.take i).length ≤ i := by rw [List.length_take]; omega
      rw [hacc] at e1; omega
    refine wpAny_updateSeq hP1 rfl (wpAny_pure ⟨F.quiet_list_repr_loop _, ?_⟩) hasz
    have e1 : ((i : Int) + 1) = ((i + 1 : Nat) : Int) := by omega
    have e2 : base + piled (ts.take i) + (r.length + 2) = base + piled (ts.take (i + 1)) := by omega
    rw [e1, e2]
    have hf1 : FpOk X pins H1 P := ⟨hP0, hf.2.1, hf.2.2.1, hf.2.2.2.1, hf.2.2.2.2.1, hf.2.2.2.2.2⟩
    refine ih (i + 1) _ H1 (acc.push (.str r s1.toks)) _ (done ++ [(r, s1.toks)]) (by omega) hlt ((I3.tok (s1.toks + 1)).turnedL (t' := s1.toks + 1) (ch := [P]) (fun b o hb e => (Heap.get?_update_other _ _ (fun h : P = b => hb (by simp [h]))).trans e) (fun b hb => by rw [List.mem_singleton.mp hb]; exact hf1)) (sm.trans s01) hf1
      (Heap.get?_update_self _ hP1 rfl) (by simp [hacc, strValues]) (by simp [List.take_add_one, ht, hdone]) fun s' H' u' I' sm' => ?_
    exact hR s' H' u' I' (s01.trans sm')
/-- what a call of repr's parts gives -/
abbrev RpEnd (X : Cx) (pins : List (Addr × Obj)) (σ : L2.St) (H : Hp) (t : Str) : Value → Shared → Prop := fun v s' => ∃ u, v = .str t u ∧ ∃ H', L2.Inv X pins σ H' s' ∧ Same H H'
section
variable {X : Cx} {n : Nat} {H0 : Hp} {Cl : ClT} {a : Addr} {xs : List V} {ts : List Str}
theorem rp_listAt (fn : ∀ b k k', Cl b k → Cl b k' → k = k') (ha : H0 a = some (.lst xs)) (hne : xs ≠ []) (hca : Cl a (listText ts).length) (hlen : ts.length = xs.length) (hT : ∀ (i : Nat) x t, xs[i]? = some x → ts[i]? = some t → RpG X n H0 Cl x t)
    {A : Around} {g : List Code} {base : Nat} {pins : List (Addr × Obj)} {σ : L2.St} {H : Hp} {s : Shared} (sb : L2.Sub X (n + 1) A) (hg : A.guards = some g) (hcl : Grd Cl g (listText ts).length) (hsz : base + (listText ts).length ≤ sizeLine) (I : L2.Inv X pins σ H s) (sm : Same H0 H) :
    wpAny (model X.prog X.w) A.in1 (Builtin.listReprAt base ⟨[.ref a], []⟩) (fun fin s' => match fin with | .done f => callEnd (RpEnd X pins σ H (listText ts)) X.xe (.ok f) s' | .again c' => c'.quiet = true ∧ codeAny (model X.prog X.w) A c' (callEnd (RpEnd X pins σ H (listText ts)) X.xe) s') (fun e s' => callEnd (RpEnd X pins σ H (listText ts)) X.xe (.error e) s') s := by
  obtain ⟨_, its, na, rv, hl, he⟩ := I.lstM (sm _ _ ha)
  have hc0 : Clear g a := hcl a _ hca (Nat.le_refl _)
  cases its with
  | nil => exact absurd (List.length_eq_zero_iff.mp (by simpa using hl)) hne
  | cons x l =>
    refine wpAny_list_repr_head (A := A.in1) hg (fun v rest kw hm => listSameRef_of_ne (hc0 _ _ _ _ hm)) he rfl ?_
    refine wpAny_bind (m := newList []) (wpAny_newObj_type ?_)
    refine wpAny_pure ⟨F.quiet_list_repr_loop _, ?_⟩
    have I1 := I.kept (t' := s.toks) (h' := s.heap.push { cls := .type "list", dict := none, data := .seq #[] 0, slots := #[] }) fun b o e => Heap.get?_push_of_some _ e
    refine rp_list_loop (P := s.heap.objs.size) (R := callEnd (RpEnd X pins σ H (listText ts)) X.xe) (fun e s h => h) fn ha hca sb hg hcl hlen hT hsz _ 0 _ H #[] _ [] rfl (Nat.zero_le _) I1 sm (I.fpOk (Nat.le_refl _) (I.hok.fresh (Nat.le_refl _))) (Heap.get?_push_size _ rfl) rfl (by simp) fun s' H' u I' sm' => ?_
    exact ⟨u, rfl, H', I', sm'⟩
theorem call_list_reprG (fn : ∀ b k k', Cl b k → Cl b k' → k = k') (ha : H0 a = some (.lst xs)) (hne : xs ≠ []) (hca : Cl a (listText ts).length) (hlen : ts.length = xs.length) (hT : ∀ (i : Nat) x t, xs[i]? = some x → ts[i]? = some t → RpG X n H0 Cl x t)
    {A : Around} {g : List Code} {pins : List (Addr × Obj)} {σ : L2.St} {H : Hp} {s : Shared} (sb : L2.Sub X (n + 1) A) (hg : A.guards = some g) (hcl : Grd Cl g (listText ts).length) (hsz : (listText ts).length ≤ sizeLine) (I : L2.Inv X pins σ H s) (sm : Same H0 H) :
    wpAny (model X.prog X.w) A (call (.builtin "list.__repr__") [.ref a]) (RpEnd X pins σ H (listText ts)) X.xe s := by
  obtain ⟨_, its, na, rv, hl, he⟩ := I.lstM (sm _ _ ha)
  exact wpAny_call (codeAny_call_builtin F.slot_list_repr.plain F.entry_list_repr (F.slot_list_repr.check _ _ _ _ _ _ _ _ ⟨_, he, rfl⟩ (F.args_list_repr_1 _)
    (rp_listAt (base := 0) fn ha hne hca hlen hT sb hg hcl (by omega) I sm)))
theorem RpG.list (fn : ∀ b k k', Cl b k → Cl b k' → k = k') (ha : H0 a = some (.lst xs)) (hca : Cl a (listText ts).length) (hlen : ts.length = xs.length) (hT : ∀ (i : Nat) x t, xs[i]? = some x → ts[i]? = some t → RpG X n H0 Cl x t) : RpG X (n + 1) H0 Cl (.ref a) (listText ts) := by
  intro A pins s σ H u g base sb hg hcl hsz I sm r
  cases r
  obtain ⟨_, its, na, rv, hl, he⟩ := I.lstM (sm _ _ ha)
  by_cases hne : xs = []
  · subst hne
    have e1 : ts = [] := List.length_eq_zero_iff.mp hlen
    have e2 : its = [] := List.length_eq_zero_iff.mp (by simpa using hl.symm)
    subst e1 e2
    refine wpAny_pyReprUnder_ref (by omega) (wpAny_pyReprObjUnder_list_empty ⟨_, he, rfl⟩ sb.room.units0 he rfl ⟨_, _, rfl, rfl, H, I.tok _, Same.refl _⟩)
  · refine wpAny_pyReprUnder_ref (by omega) (wpAny_pyReprObjUnder_twin (twin := "list.__repr__.under") ⟨_, he, rfl⟩ F.slot_list_repr.toG rfl sb.room.units0
      (wpAny_mono (call_twin_plain F.plain_list_repr_under F.entry_list_repr_under F.check_list_repr_under ⟨_, he, rfl⟩ F.slot_list_repr.toG (F.args_list_repr_1 _)
        (rp_listAt fn ha hne hca hlen hT sb hg hcl hsz I sm)) (fun v s' hv => ?_) fun e s' h => h))
    obtain ⟨u, rfl, q⟩ := hv
    exact ⟨⟨_, u, rfl⟩, _, u, rfl, rfl, q⟩
end
/-- an own instance -/
def spRp (Rel : Addr → Hp → Str → Prop) : Sp := fun vs H Q _ => ∃ a t, vs = [.ref a] ∧ Rel a H t ∧ ∀ H', Same H H' → Q (.str t) H'
theorem ifBoundBy_K {M : Model} {A : Around} {E : Value → Shared → Prop} {s : Shared} {K : PySem.W.Frag} {x C f : Addr} {ox : Obj} {od : Option Obj} {name : Str} {last : Value → List Value → Sem Value} {Q : Option Value → Shared → Prop} (X : K.In s.heap) (I : PySem.W.InstAt s.heap x ox C od) (hs : PySem.W.findIn K (.ref C) name = some (some (.ref f))) (hf : PySem.W.isFn K (.ref f) = true)
    (h : wpAny M A (last (.ref f) [.ref x]) (fun v => Q (some v)) E s) : wpAny M A (callSpecialIfBoundBy? last (.ref x) name) Q E s := by
  simp only [callSpecialIfBoundBy?, bindSpecialIfBound?]
  refine wpAny_holding (wpAny_bind (wpAny_bind (wpAny_bind (I.type.here ((PySem.W.looks_findIn X hs).here ?_)))))
  refine wpAny_bind (wpAny_askSetting (wpAny_ite ?_))
  have fin : wpAny M A (last (.ref f) [.ref x] >>= fun v => pure (some v)) Q E s := wpAny_bind (wpAny_mono h (fun v s' h' => wpAny_pure h') fun _ _ h' => h')
  split
  · exact wpAny_bind ((PySem.W.bind_fn X _ (beq_iff_eq.mp hf)).here (wpAny_pure (by exact fin)))
  · exact wpAny_tryCatch (wpAny_bind ((PySem.W.bind_fn X _ (beq_iff_eq.mp hf)).here (wpAny_pure (by exact fin))))
theorem call_own {X : Cx} {CX : CXT} {k : Nat} {f a : Addr} {fd : FuncData} {ps : List Str} {Rel : Addr → Hp → Str → Prop} {E : XK} {t : Str} (F : FnOk X.prog X.w X.K X.mg X.base CX k f fd ps (spRp Rel))
    (hb : Binds X.K fd ps []) (hx : Passes CX X E) {A : Around} (sb : L2.Sub X k A) {pins : List (Addr × Obj)} {σ : L2.St} {H : Hp} {s : Shared} (I : L2.Inv X pins σ H s) (hr : Rel a H t) :
    wpAny (model X.prog X.w) A (call (.ref f) [.ref a]) (RpEnd X pins σ H t) X.xe s := by
  have hsp : spRp Rel [.ref a] H (fun v H' => v = .str t ∧ Same H H') E := ⟨a, t, rfl, hr, fun H' e => ⟨rfl, e⟩⟩
  have e0 : Env0 X.prog X.w X.K X.mg X.base A X.stack s H := by
    have e := I.env0
    exact ⟨by rw [sb.fr]; exact e.frames, e.mod, e.bs, e.bsz, e.funs, e.frf, e.hok, e.bare⟩
  have hl := F.len _ _ _ _ hsp
  have r2 : Vals [V.ref a] [Value.ref a] := .cons rfl .nil
  refine wpAny_call (codeAny_mono (F.run A X.stack s H ⟨[.ref a], []⟩ [.ref a] [.ref a] _ E sb.room e0 (by
    have := hb s [.ref a] I.kIn (by simpa using hl)
    simpa using this) r2 hsp) fun r s' hq => ?_)
  cases r with
  | error e => exact hx pins σ H s e s' I hq
  | ok fl =>
    cases fl with
    | ret w =>
      obtain ⟨z, H', I', rz, ez, ex⟩ := I.after hq
      subst ez
      obtain ⟨u, rfl⟩ := rz
      exact ⟨u, rfl, H', I', ex⟩
    | next => exact False.elim hq
    | brk => exact False.elim hq
    | cont => exact False.elim hq
theorem RpG.ins {X : Cx} {CX : CXT} {k : Nat} {H0 : Hp} {Cl : ClT} {C f a dx : Addr} {fs : List (Str × V)} {fd : FuncData} {ps : List Str} {Rel : Addr → Hp → Str → Prop} {E : XK} {t : Str} (F : FnOk X.prog X.w X.K X.mg X.base CX k f fd ps (spRp Rel))
    (hs : PySem.W.findIn X.K (.ref C) "__repr__" = some (some (.ref f))) (hf : PySem.W.isFn X.K (.ref f) = true) (hb : Binds X.K fd ps []) (hx : Passes CX X E) (ha : H0 a = some (.ins C dx fs)) (hr : ∀ H, Same H0 H → Rel a H t) : RpG X k H0 Cl (.ref a) t := by
  intro A pins s σ H u g base sb hg hcl hsz I sm r
  cases r
  obtain ⟨mA, J, _⟩ := ins_get I.hok (sm _ _ ha)
  obtain ⟨od, J, _⟩ := J.look
  have KX := I.kIn
  refine wpAny_pyReprUnder_ref (by omega) ?_
  unfold pyReprObjUnder pyReprObjBy
  refine wpAny_bind (wpAny_cRoomFor sb.room.units0 ?_)
  refine wpAny_bind (wpAny_bind (J.type.here ((PySem.W.looks_findIn KX hs).here ?_)))
  show wpAny _ _ (if (some (Value.ref f)).isNone = true then _ else _) _ _ _
  rw [if_neg (by simp)]
  refine wpAny_bind (m := callSpecialIfBoundBy? _ (.ref a) (Str.ofString "__repr__")) (ifBoundBy_K KX J hs hf (wpAny_mono (call_own F hb hx sb I (hr H sm)) (fun v s' hv => ?_) fun _ _ y => y))
  obtain ⟨u, rfl, H', I', ex⟩ := hv
  refine wpAny_bind (wpAny_isInstance (T := "str") (b := true) rfl isSubtype_str_str (wpAny_pure ?_))
  exact ⟨_, u, rfl, rfl, H', I', ex⟩
theorem top_own {X : Cx} {CX : CXT} {k : Nat} {C f a dx : Addr} {fs : List (Str × V)} {fd : FuncData} {ps : List Str} {Rel : Addr → Hp → Str → Prop} {E : XK} {t : Str} (F : FnOk X.prog X.w X.K X.mg X.base CX k f fd ps (spRp Rel))
    (hs : PySem.W.findIn X.K (.ref C) "__repr__" = some (some (.ref f))) (hf : PySem.W.isFn X.K (.ref f) = true) (hb : Binds X.K fd ps []) (hx : Passes CX X E) (hroom : Room (k + 1) X.A) {pins : List (Addr × Obj)} {σ : L2.St} {H : Hp} {s : Shared} (I : L2.Inv X pins σ H s) (ha : H a = some (.ins C dx fs)) (hr : Rel a H t) :
    wpAny (model X.prog X.w) X.A (call (.builtin "repr") [.ref a]) (RpEnd X pins σ H t) X.xe s := by
  obtain ⟨mA, J, _⟩ := ins_get I.hok ha
  obtain ⟨od, J, _⟩ := J.look
  obtain ⟨m, hF⟩ := I.fr
  refine PySem.W.repr_K (by have := hroom.un; show X.A.units + 1 < cLine; omega) hF I.ok.mod.kin J hs hf (wpAny_mono (call_own F hb hx ⟨hroom.in1, rfl⟩ I hr) (fun v s' hv => ?_) fun _ _ y => y)
  obtain ⟨u, rfl, H', I', ex⟩ := hv
  exact ⟨u, rfl, H', I', ex⟩
/-! tuples -/
section
variable {X : Cx} {n : Nat} {H0 : Hp} {Cl : ClT} {a : Addr}
theorem rp_tupFold {A : Around} {g : List Code} {pins : List (Addr × Obj)} {σ : L2.St} {m : Nat} (sb : L2.Sub X n A) (hg : A.guards = some g) (hcl : Grd Cl g m) : ∀ (l : List Value) (xs : List V) (ts : List Str) (acc : Array Str) (k : Nat) (s : Shared) (H : Hp) (Q : (Array Str × Nat) → Shared → Prop), Vals xs l → ts.length = xs.length →
    (∀ (i : Nat) x t, xs[i]? = some x → ts[i]? = some t → RpG X n H0 Cl x t) → (∀ t ∈ ts, t.length ≤ m) → k + piled ts ≤ sizeLine → L2.Inv X pins σ H s → Same H0 H →
    (∀ s' H', L2.Inv X pins σ H' s' → Same H H' → Q ⟨acc ++ ts.toArray, k + piled ts⟩ s') →
    wpAny (model X.prog X.w) A (forIn l (⟨acc, k⟩ : (Array Str × Nat)) tupBody) Q X.xe s := by
  intro l
  induction l with
  | nil =>
    intro xs ts acc k s H Q rv hlen hT hm hz I sm h
    cases rv
    have e1 : ts = [] := List.length_eq_zero_iff.mp (by simpa using hlen)
    subst e1
    have h0 := h s H I (Same.refl _)
    simp only [List.forIn_nil]
    exact wpAny_pure (by simpa [piled] using h0)
  | cons u l ih =>
    intro xs ts acc k s H Q rv hlen hT hm hz I sm h
    cases rv with
    | cons ru rv =>
      rename_i x xs
      cases ts with
      | nil => simp at hlen
      | cons t ts =>
        rw [piled_cons] at hz
        rw [List.forIn_cons]
        have hlt := hm t List.mem_cons_self
        refine wpAny_bind (wpAny_bind (wpAny_mono (hT 0 x t rfl rfl A pins s σ H u g (k + 1) sb hg (fun b q hb hq => hcl b q hb (by omega)) (by omega) I sm ru) (fun r s1 hr => ?_) fun _ _ e => e))
        obtain ⟨rfl, H1, I1, s01⟩ := hr
        refine wpAny_pure ?_
        refine ih xs ts (acc.push r) (k + (r.length + 2)) s1 H1 Q rv (by simpa using hlen) (fun i x t h1 h2 => hT (i + 1) x t (by simpa using h1) (by simpa using h2)) (fun t ht => hm t (List.mem_cons_of_mem _ ht)) (by omega) I1 (sm.trans s01) fun s' H' I' sm' => ?_
        have h1 := h s' H' I' (s01.trans sm')
        have e : k + piled (r :: ts) = k + (r.length + 2) + piled ts := by rw [piled_cons]; omega
        rw [e] at h1
        simpa using h1
theorem rp_tupAt (fn : ∀ b k k', Cl b k → Cl b k' → k = k') {xs : List V} {ts : List Str} (ha : H0 a = some (.tup xs)) (hca : Cl a (tupleText ts).length) (hlen : ts.length = xs.length) (hT : ∀ (i : Nat) x t, xs[i]? = some x → ts[i]? = some t → RpG X n H0 Cl x t)
    {A : Around} {g : List Code} {base : Nat} {pins : List (Addr × Obj)} {σ : L2.St} {H : Hp} {s : Shared} {id : String} {rest : List Value} (sb : L2.Sub X n (A.under (.builtin id ⟨.ref a :: rest, []⟩))) (hcg : (Code.builtin id ⟨.ref a :: rest, []⟩).isGuard = true) (hg : A.guards = some g) (hcl : Grd Cl g (tupleText ts).length) (hsz : base + (tupleText ts).length ≤ sizeLine) (I : L2.Inv X pins σ H s) (sm : Same H0 H) :
    wpOwn (model X.prog X.w) A (.builtin id ⟨.ref a :: rest, []⟩) (Builtin.tupleReprAt base ⟨[.ref a], []⟩) (fun fin s' => match fin with | .done f => callEnd (RpEnd X pins σ H (tupleText ts)) X.xe (.ok f) s' | .again c' => c'.quiet = true ∧ codeAny (model X.prog X.w) A c' (callEnd (RpEnd X pins σ H (tupleText ts)) X.xe) s') (fun e s' => callEnd (RpEnd X pins σ H (tupleText ts)) X.xe (.error e) s') s := by
  have hc0 : Clear g a := hcl a _ hca (Nat.le_refl _)
  have hp := piled_le_tupleText ts
  have hsz0 : (tupleText ts).length ≤ sizeLine := by omega
  obtain ⟨its, rv, he, hz⟩ := I.tuple (.inl (.inl (sm _ _ ha)) : SqT X.K H a xs)
  have he' := he
  obtain ⟨o, ho, hoc, nn, hod⟩ := he'
  rw [tuple_repr_tree, tupleReprUnderWay_eq]
  refine wpOwn_bind (wpOwn_stackTailAny hg (tupGuardF_off _) (tupGuardF_pos _) ?_)
  have hn : (g.any fun c => tupGuardF (.ref a) (c, default)) = false := by
    rw [List.any_eq_false]
    intro c hcm
    rw [tupGuardF_of_clear hc0 c hcm]
    exact Bool.false_ne_true
  rw [hn]
  refine wpOwn_of_wpAny ?_
  show wpAny _ _ (tupleReprRest base (.ref a)) _ _ s
  unfold tupleReprRest Builtin.Tuple.tupleItemsOf
  refine wpAny_bind (wpAny_bind (wpAny_seqItems ho hod (wpAny_pure ?_)))
  rw [← Array.forIn_toList]
  have pm : ∀ {ts : List Str} {t : Str}, t ∈ ts → t.length + 2 ≤ piled ts := fun {ts t} ht => by
    induction ts with
    | nil => cases ht
    | cons y r ih =>
      rw [piled_cons]
      rcases List.mem_cons.mp ht with e | e
      · rw [e]; omega
      · have := ih e; omega
  refine wpAny_bind (rp_tupFold (m := (tupleText ts).length - 1) (g := .builtin id ⟨.ref a :: rest, []⟩ :: g) sb (guards_under_guard hcg hg) (fun b q hb hq => ?_) its xs ts _ _ s H _ (by simpa using rv) hlen hT (fun t ht => by have := pm ht; omega) (by omega) I sm fun s' H' I' sm' => ?_)
  · have lpos : 1 ≤ (tupleText ts).length := by
      unfold tupleText
      rw [strLen_append, strLen_append]
      have e1 : ((("(" : String) : Str)).length = 1 := rfl
      omega
    exact (hcl b q hb (by omega)).cons (a := a) fun e => by
      subst e
      have := fn _ _ _ hca hb
      omega
  refine wpAny_bind (wpAny_mkStr (wpAny_pure ?_) ?_)
  · refine ⟨s'.toks, ?_, H', I'.tok _, sm'⟩
    have lz : its.length = ts.length := by rw [hlen, rv.length]
    simp [tupleText, lz]
  · have lz : its.length = ts.length := by rw [hlen, rv.length]
    have e : (tupleText ts) = (("(" : Str) ++ Str.join ", " ts ++ (if ts.length == 1 then ",)" else ")" : String)) := rfl
    rw [e] at hsz0
    simpa [lz] using hsz0
theorem RpG.tup (fn : ∀ b k k', Cl b k → Cl b k' → k = k') {xs : List V} {ts : List Str} (ha : H0 a = some (.tup xs)) (hca : Cl a (tupleText ts).length) (hlen : ts.length = xs.length) (hT : ∀ (i : Nat) x t, xs[i]? = some x → ts[i]? = some t → RpG X n H0 Cl x t) : RpG X (n + 1) H0 Cl (.ref a) (tupleText ts) := by
  intro A pins s σ H u g base sb hg hcl hsz I sm r
  cases r
  obtain ⟨its, rv, he, hz⟩ := I.tuple (.inl (.inl (sm _ _ ha)) : SqT X.K H a xs)
  obtain ⟨o, ho, hoc, nn, hod⟩ := he
  refine wpAny_pyReprUnder_ref (by omega) (wpAny_pyReprObjUnder_twin (twin := "tuple.__repr__.under") ⟨o, ho, hoc⟩ F.slot_tuple_repr rfl sb.room.units0
    (wpAny_mono (call_twin_own (F.quiet_tuple_repr_under _) F.entry_tuple_repr_under F.check_tuple_repr_under ⟨o, ho, hoc⟩ F.slot_tuple_repr (F.args_tuple_repr_1 _)
      (rp_tupAt fn ha hca hlen hT (sub_guard sb (depth_tuple_under _ _) (units_under_tuple_repr_under _ _) (frames_tuple_under _ _)) (isGuard_tuple_repr_under _) hg hcl hsz I sm)) (fun v s' hv => ?_) fun e s' h => h))
  obtain ⟨u, rfl, q⟩ := hv
  exact ⟨⟨_, u, rfl⟩, _, u, rfl, rfl, q⟩
theorem call_tuple_reprG (fn : ∀ b k k', Cl b k → Cl b k' → k = k') {xs : List V} {ts : List Str} (ha : H0 a = some (.tup xs)) (hca : Cl a (tupleText ts).length) (hlen : ts.length = xs.length) (hT : ∀ (i : Nat) x t, xs[i]? = some x → ts[i]? = some t → RpG X n H0 Cl x t)
    {A : Around} {g : List Code} {pins : List (Addr × Obj)} {σ : L2.St} {H : Hp} {s : Shared} (sb : L2.Sub X (n + 1) A) (hg : A.guards = some g) (hcl : Grd Cl g (tupleText ts).length) (hsz : (tupleText ts).length ≤ sizeLine) (I : L2.Inv X pins σ H s) (sm : Same H0 H) :
    wpAny (model X.prog X.w) A (call (.builtin "tuple.__repr__") [.ref a]) (RpEnd X pins σ H (tupleText ts)) X.xe s := by
  obtain ⟨its, rv, he, hz⟩ := I.tuple (.inl (.inl (sm _ _ ha)) : SqT X.K H a xs)
  obtain ⟨o, ho, hoc, nn, hod⟩ := he
  exact wpAny_call (codeAny_call_builtin_own (Code.quiet_builtin _ (by decide +kernel)) F.entry_tuple_repr (F.slot_tuple_repr.check _ _ _ _ _ _ _ _ ⟨o, ho, hoc⟩ (F.args_tuple_repr_1 _)
    (rp_tupAt (base := 0) fn ha hca hlen hT (sub_guard sb (depth_tuple_repr _ _) (units_under_tuple_repr _ _) (frames_tuple_repr _ _)) (isGuard_tuple_repr _) hg hcl (by omega) I sm)))
end
/-! what is shown how -/
/-- a ratio: an instance of the class at C with these two numbers -/
def Rat2 (C : Addr) (H : Hp) (a : Addr) (p q : Int) : Prop := ∃ dx, H a = some (.ins C dx [("_top", .int p), ("_bottom", .int q)])
theorem Rat2.same {C : Addr} {H H' : Hp} {a : Addr} {p q : Int} (h : Rat2 C H a p q) (e : Same H H') : Rat2 C H' a p q := let ⟨dx, h⟩ := h; ⟨dx, e _ _ h⟩
def ratText (p q : Int) : Str := Str.ofString "Ratio(" ++ Str.ofString (toString p) ++ Str.ofString ", " ++ Str.ofString (toString q) ++ Str.ofString ")"
def dEnt (p : Int × Int) : Str := Str.ofString (toString p.1) ++ ": " ++ Str.ofString (toString p.2)
abbrev okI (i : Int) : Prop := i.natAbs.log2 < 1920
abbrev okS (i : Int) : Prop := i.natAbs < 10 ^ 30
theorem okS.ok {i : Int} (h : okS i) : okI i := by
  show i.natAbs.log2 < 1920
  by_cases z : i.natAbs = 0
  · rw [z]; decide
  · refine (Nat.log2_lt z).mpr (Nat.lt_of_lt_of_le h ?_)
    exact Nat.le_trans (by decide : 10 ^ 30 ≤ 2 ^ 100) (Nat.pow_le_pow_right (by omega) (by omega))
/-- lowest terms -/
def RdI (p q : Int) : Prop := 0 < q ∧ Nat.gcd p.natAbs q.natAbs = 1
theorem rdI_one (p : Int) : RdI p 1 := ⟨by decide, by show Nat.gcd p.natAbs 1 = 1; exact Nat.gcd_one_right _⟩
inductive Sh (C : Addr) (H : Hp) : Nat → V → Str → Prop
  | int {d : Nat} {i : Int} (h : okS i) : Sh C H d (.int i) (Str.ofString (toString i))
  | bl {d : Nat} (b : Bool) : Sh C H d (.bl b) (if b = true then Str.ofString "True" else Str.ofString "False")
  | non {d : Nat} : Sh C H d .non "None"
  | str {d : Nat} (x : Str) (h : (reprText x).length ≤ 3900) : Sh C H d (.str x) (reprText x)
  | own {d : Nat} {a : Addr} {p q : Int} : Rat2 C H a p q → okS p → okS q → RdI p q → Sh C H d (.ref a) (ratText p q)
  | lst {d : Nat} {a : Addr} {xs : List V} {ts : List Str} : H a = some (.lst xs) → xs.length ≤ 60 → ts.length = xs.length → (∀ (i : Nat) x t, xs[i]? = some x → ts[i]? = some t → Sh C H d x t) → Sh C H (d + 1) (.ref a) (listText ts)
  | tup {d : Nat} {a : Addr} {xs : List V} {ts : List Str} : H a = some (.tup xs) → xs.length ≤ 60 → ts.length = xs.length → (∀ (i : Nat) x t, xs[i]? = some x → ts[i]? = some t → Sh C H d x t) → Sh C H (d + 1) (.ref a) (tupleText ts)
  | dct {d : Nat} {a : Addr} {ds : List (Int × Int)} : H a = some (.dK (ds.map fun p => (.inl p.1, .int p.2))) → ds.length ≤ 60 → (∀ p ∈ ds, okI p.1 ∧ okI p.2) → Sh C H (d + 1) (.ref a) (dictText (ds.map dEnt))
  | dcl {d : Nat} {a b : Addr} {k n : Int} {ns : List Int} : H a = some (.dK [(.inl k, .ref b)]) → H b = some (.lst ((n :: ns).map V.int)) → (n :: ns).length ≤ 60 → okI k → (∀ x ∈ n :: ns, okS x) →
      Sh C H (d + 2) (.ref a) (dictText [Str.ofString (toString k) ++ ": " ++ listText ((n :: ns).map fun x => Str.ofString (toString x))])
theorem Sh.same {C : Addr} {H H' : Hp} {d : Nat} {x : V} {t : Str} (h : Sh C H d x t) (e : Same H H') : Sh C H' d x t := by
  induction h with
  | int h => exact .int h
  | bl b => exact .bl b
  | non => exact .non
  | str x h => exact .str x h
  | own r h1 h2 h3 => exact .own (r.same e) h1 h2 h3
  | lst h1 h0 h2 _ ih => exact .lst (e _ _ h1) h0 h2 ih
  | tup h1 h0 h2 _ ih => exact .tup (e _ _ h1) h0 h2 ih
  | dct h1 h0 h2 => exact .dct (e _ _ h1) h0 h2
  | dcl h1 h2 h3 h4 h5 => exact .dcl (e _ _ h1) (e _ _ h2) h3 h4 h5
theorem dk_inj : ∀ {ds es : List (Int × Int)}, (ds.map fun p => ((.inl p.1 : Key), V.int p.2)) = es.map (fun p => ((.inl p.1 : Key), V.int p.2)) → ds = es
  | [], [], _ => rfl
  | [], _ :: _, h => by cases h
  | _ :: _, [], h => by cases h
  | (a, b) :: ds, (c, d) :: es, h => by
    rw [List.map_cons, List.map_cons] at h
    injection h with h1 h2
    injection h1 with h3 h4
    injection h3 with h5
    injection h4 with h6
    rw [show a = c from h5, show b = d from h6, dk_inj h2]
theorem dk_ne {ds : List (Int × Int)} {k : Int} {b : Addr} (h : (ds.map fun p => ((.inl p.1 : Key), V.int p.2)) = [((.inl k : Key), V.ref b)]) : False := by
  cases ds with
  | nil => cases h
  | cons p r =>
    rw [List.map_cons] at h
    injection h with h1 _
    injection h1 with _ h2
    cases h2
theorem vint_inj : ∀ {ns ms : List Int}, ns.map V.int = ms.map V.int → ns = ms
  | [], [], _ => rfl
  | [], _ :: _, h => by cases h
  | _ :: _, [], h => by cases h
  | n :: ns, m :: ms, h => by
    rw [List.map_cons, List.map_cons] at h
    injection h with h1 h2
    injection h1 with h3
    rw [h3, vint_inj h2]
theorem Sh.fn {C : Addr} {H : Hp} {d : Nat} {x : V} {t : Str} (h : Sh C H d x t) : ∀ {d' : Nat} {t' : Str}, Sh C H d' x t' → t = t' := by
  induction h with
  | int h => intro d' t' g; cases g; rfl
  | bl b => intro d' t' g; cases g; rfl
  | non => intro d' t' g; cases g; rfl
  | str x _ => intro d' t' g; cases g; rfl
  | own r _ _ _ =>
    intro d' t' g
    obtain ⟨dx, r⟩ := r
    cases g with
    | own r2 =>
      obtain ⟨dx2, r2⟩ := r2
      rw [r] at r2
      injection r2 with r2
      injection r2 with _ _ z
      injection z with z1 z2
      injection z1 with _ z3
      injection z3 with z3
      injection z2 with z2 _
      injection z2 with _ z4
      injection z4 with z4
      rw [z3, z4]
    | lst h1 => rw [r] at h1; cases h1
    | tup h1 => rw [r] at h1; cases h1
    | dct h1 => rw [r] at h1; cases h1
    | dcl h1 => rw [r] at h1; cases h1
  | lst h1 h0 h2 h3 ih =>
    intro d' t' g
    cases g with
    | own r2 => obtain ⟨dx2, r2⟩ := r2; rw [h1] at r2; cases r2
    | lst g1 g0 g2 g3 =>
      rw [h1] at g1; cases g1
      congr 1
      refine List.ext_getElem (by rw [h2, g2]) fun i a b => ?_
      have hx := List.getElem?_eq_getElem (show i < _ from h2 ▸ a)
      exact ih i _ _ hx (List.getElem?_eq_getElem a) (g3 i _ _ hx (List.getElem?_eq_getElem b))
    | tup g1 => rw [h1] at g1; cases g1
    | dct g1 => rw [h1] at g1; cases g1
    | dcl g1 => rw [h1] at g1; cases g1
  | tup h1 h0 h2 h3 ih =>
    intro d' t' g
    cases g with
    | own r2 => obtain ⟨dx2, r2⟩ := r2; rw [h1] at r2; cases r2
    | tup g1 g0 g2 g3 =>
      rw [h1] at g1; cases g1
      congr 1
      refine List.ext_getElem (by rw [h2, g2]) fun i a b => ?_
      have hx := List.getElem?_eq_getElem (show i < _ from h2 ▸ a)
      exact ih i _ _ hx (List.getElem?_eq_getElem a) (g3 i _ _ hx (List.getElem?_eq_getElem b))
    | lst g1 => rw [h1] at g1; cases g1
    | dct g1 => rw [h1] at g1; cases g1
    | dcl g1 => rw [h1] at g1; cases g1
  | dct h1 h0 h2 =>
    intro d' t' g
    cases g with
    | own r2 => obtain ⟨dx2, r2⟩ := r2; rw [h1] at r2; cases r2
    | lst g1 => rw [h1] at g1; cases g1
    | tup g1 => rw [h1] at g1; cases g1
    | dct g1 =>
      rw [h1] at g1
      injection g1 with g1
      injection g1 with g1
      rw [dk_inj g1]
    | dcl g1 =>
      rw [h1] at g1
      injection g1 with g1
      injection g1 with g1
      exact (dk_ne g1).elim
  | dcl h1 h2 h3 h4 h5 =>
    intro d' t' g
    cases g with
    | own r2 => obtain ⟨dx2, r2⟩ := r2; rw [h1] at r2; cases r2
    | lst g1 => rw [h1] at g1; cases g1
    | tup g1 => rw [h1] at g1; cases g1
    | dct g1 =>
      rw [h1] at g1
      injection g1 with g1
      injection g1 with g1
      exact (dk_ne g1.symm).elim
    | dcl g1 g2 g3 g4 g5 =>
      rw [h1] at g1
      injection g1 with g1
      injection g1 with g1
      injection g1 with g1 _
      injection g1 with ga gb
      injection ga with ga
      injection gb with gb
      subst gb
      rw [h2] at g2
      injection g2 with g2
      injection g2 with g2
      rw [show _ = _ from ga, vint_inj g2]
def ShCl (C : Addr) (H : Hp) : ClT := fun a m => ∃ d t, Sh C H d (.ref a) t ∧ t.length = m
theorem shcl_fn (C : Addr) (H : Hp) : ∀ b k k', ShCl C H b k → ShCl C H b k' → k = k' := fun b k k' ⟨d, t, h, e⟩ ⟨d', t', h', e'⟩ => by rw [← e, ← e', h.fn h']
/-! a dict of ints -/
theorem ents_of {P : Program} {w : World} {h₀ : Heap} : ∀ {ds : List (Int × Int)} {es : List DictEntry} {vs : List (Key × Value)}, Pairs (mixKind P w) es vs → KV (ds.map fun p => ((.inl p.1 : Key), V.int p.2)) vs → (∀ p ∈ ds, okI p.1 ∧ okI p.2) →
    ReprEntriesK P w [] h₀ 0 es (ds.map dEnt)
  | [], _, _, hp, hk, _ => by
    cases hk
    cases hp
    exact .nil
  | p :: ds, _, _, hp, hk, hb => by
    cases hk with
    | cons r hk =>
      cases hp with
      | cons k1 k2 hp =>
        obtain ⟨r1, r2⟩ := r
        obtain ⟨b1, b2⟩ := hb p List.mem_cons_self
        have k1' : keyIs _ _ = true := k1
        rw [← r1] at k1'
        rcases keyIs_shape k1' with ⟨i, t, e, e2⟩ | ⟨x, t, e, _⟩
        · obtain rfl : p.1 = i := by injection e
          obtain ⟨u, hu⟩ := (show ∃ u, _ = Value.int p.2 u from r2)
          refine .cons (k := Str.ofString (toString p.1)) (v := Str.ofString (toString p.2)) ?_ ?_ (ents_of hp hk fun q hq => hb q (List.mem_cons_of_mem _ hq))
          · rw [e2]; exact .of_is (ReprIs.int t b1) _ _ _
          · rw [k2, hu]; exact .of_is (ReprIs.int u b2) _ _ _
        · cases e
section
variable {X : Cx} {n : Nat} {H0 : Hp} {Cl : ClT} {a : Addr} {ds : List (Int × Int)}
theorem RpG.dict (ha : H0 a = some (.dK (ds.map fun p => (.inl p.1, .int p.2)))) (hca : Cl a (dictText (ds.map dEnt)).length) (hb : ∀ p ∈ ds, okI p.1 ∧ okI p.2) : RpG X (n + 1) H0 Cl (.ref a) (dictText (ds.map dEnt)) := by
  intro A pins s σ H u g base sb hg hcl hsz I sm r
  cases r
  obtain ⟨_, hsys, vs, kv, o, es, ep, he, hex, hd, _, hp, _⟩ := I.hok a _ (sm _ _ ha)
  refine wpAny_pyReprUnder_ref (by omega) (wpAny_pyReprObjUnder_dictK (as := []) (h₀ := s.heap) (d := 0) he hex.1 hd hsys (by simp) (ents_of hp kv hb) hg (fun b hb => ?_) (by have := sb.room.un; omega) (fun _ _ e => e) (fun h' u tk hk => ⟨_, u, rfl, rfl, H, I.kept (t' := tk) hk, Same.refl _⟩) hsz)
  rw [List.mem_singleton.mp hb]
  exact hcl a _ hca (Nat.le_refl _)
theorem call_dict_reprG (ha : H0 a = some (.dK (ds.map fun p => (.inl p.1, .int p.2)))) (hca : Cl a (dictText (ds.map dEnt)).length) (hb : ∀ p ∈ ds, okI p.1 ∧ okI p.2)
    {A : Around} {g : List Code} {pins : List (Addr × Obj)} {σ : L2.St} {H : Hp} {s : Shared} (sb : L2.Sub X (n + 1) A) (hg : A.guards = some g) (hcl : Grd Cl g (dictText (ds.map dEnt)).length) (hsz : (dictText (ds.map dEnt)).length ≤ sizeLine) (I : L2.Inv X pins σ H s) (sm : Same H0 H) :
    wpAny (model X.prog X.w) A (call (.builtin "dict.__repr__") [.ref a]) (RpEnd X pins σ H (dictText (ds.map dEnt))) X.xe s := by
  obtain ⟨_, hsys, vs, kv, o, es, ep, he, hex, hd, _, hp, _⟩ := I.hok a _ (sm _ _ ha)
  refine call_dict_reprK (as := []) (h₀ := s.heap) (d := 0) he hex.1 hd hsys (by simp) (ents_of hp kv hb) hg (fun b hb => ?_) (by have := sb.room.un; omega) (fun _ _ e => e) (fun h' u tk hk => ⟨u, rfl, H, I.kept (t' := tk) hk, Same.refl _⟩) hsz
  rw [List.mem_singleton.mp hb]
  exact hcl a _ hca (Nat.le_refl _)
end
/-! a dict of one list of ints -/
theorem dl_le {k m : Int} {ns : List Int} : (listText ((m :: ns).map fun x => Str.ofString (toString x))).length ≤ (dictText [Str.ofString (toString k) ++ ": " ++ listText ((m :: ns).map fun x => Str.ofString (toString x))]).length := by
  unfold dictText
  rw [strLen_append, strLen_append]
  have : (Str.join ", " [Str.ofString (toString k) ++ ": " ++ listText ((m :: ns).map fun x => Str.ofString (toString x))]) = Str.ofString (toString k) ++ ": " ++ listText ((m :: ns).map fun x => Str.ofString (toString x)) := rfl
  rw [this, strLen_append, strLen_append]
  omega
section
variable {X : Cx} {n : Nat} {H0 : Hp} {Cl : ClT} {a b : Addr} {k m : Int} {ns : List Int}
abbrev dlTxt (m : Int) (ns : List Int) : Str := listText ((m :: ns).map fun x => Str.ofString (toString x))
abbrev dlText (k m : Int) (ns : List Int) : Str := dictText [Str.ofString (toString k) ++ ": " ++ dlTxt m ns]
theorem dl_ents {pins : List (Addr × Obj)} {σ : L2.St} {H : Hp} {s : Shared} (I : L2.Inv X pins σ H s) (hb : H b = some (.lst ((m :: ns).map V.int))) (ok : okI k) (on : ∀ x ∈ m :: ns, okI x) {es : List DictEntry} {vs : List (Key × Value)}
    (hp : Pairs (mixKind X.prog X.w) es vs) (hk : KV [((.inl k : Key), V.ref b)] vs) : ReprEntriesK X.prog X.w [b] s.heap 1 es [Str.ofString (toString k) ++ ": " ++ dlTxt m ns] := by
  obtain ⟨_, its, na, rv, hl, he⟩ := I.lstM hb
  cases hk with
  | cons r hk =>
    cases hk
    cases hp with
    | cons k1 k2 hp =>
      cases hp
      obtain ⟨r1, r2⟩ := r
      have k1' : keyIs _ _ = true := k1
      rw [← r1] at k1'
      have kb : ReprK X.prog X.w [b] s.heap 1 (.ref b) (dlTxt m ns) := by
        have l0 : its.length = (m :: ns).length := by rw [← hl]; simp
        have at_ : ∀ (i : Nat) (y : Value), its[i]? = some y → ∃ z u, (m :: ns)[i]? = some z ∧ y = .int z u := fun i y hy => by
          have li := (List.getElem?_eq_some_iff.mp hy).1
          obtain ⟨z, hz⟩ : ∃ z, (m :: ns)[i]? = some z := ⟨_, List.getElem?_eq_getElem (l0 ▸ li)⟩
          obtain ⟨u, hu, ru⟩ := rv.get (i := i) (x := V.int z) (by rw [List.getElem?_map, hz]; rfl)
          rw [hu] at hy
          obtain ⟨u2, e⟩ := (show ∃ t, u = Value.int z t from ru)
          exact ⟨z, u2, hz, by rw [← Option.some.inj hy]; exact e⟩
        cases its with
        | nil => cases l0
        | cons x l =>
          refine ReprK.list (as := []) (d := 0) he rfl rfl (by simp) (by rw [List.length_map, List.size_toArray]; exact l0.symm) fun i y hy => ?_
          obtain ⟨z, u, hz, rfl⟩ := at_ i y (by simpa using hy)
          exact ⟨_, by rw [List.getElem?_map, hz]; rfl, .of_is (ReprIs.int u (on z (List.mem_of_getElem? hz))) _ _ _⟩
      rcases keyIs_shape k1' with ⟨i, t, e, e2⟩ | ⟨x, t, e, _⟩
      · obtain rfl : k = i := by injection e
        refine .cons (k := Str.ofString (toString k)) (v := dlTxt m ns) ?_ ?_ .nil
        · rw [e2]; exact .of_is (ReprIs.int t ok) _ _ _
        · rw [k2, show _ = Value.ref b from r2]; exact kb
      · cases e
theorem RpG.dictL (ha : H0 a = some (.dK [(.inl k, .ref b)])) (hb : H0 b = some (.lst ((m :: ns).map V.int))) (hca : Cl a (dlText k m ns).length) (hcb : Cl b (dlTxt m ns).length) (ok : okI k) (on : ∀ x ∈ m :: ns, okI x) : RpG X (n + 2) H0 Cl (.ref a) (dlText k m ns) := by
  intro A pins s σ H u g base sb hg hcl hsz I sm r
  cases r
  obtain ⟨_, hsys, vs, kv, o, es, ep, he, hex, hd, _, hp, _⟩ := I.hok a _ (sm _ _ ha)
  have ne : a ≠ b := fun z => by rw [z, hb] at ha; cases ha
  have lt : (dlTxt m ns).length ≤ (dlText k m ns).length := dl_le
  refine wpAny_pyReprUnder_ref (by omega) (wpAny_pyReprObjUnder_dictK (as := [b]) (h₀ := s.heap) (d := 1) he hex.1 hd hsys (by simp [ne]) (dl_ents I (sm _ _ hb) ok on hp kv) hg (fun c hc => ?_) (by have := sb.room.un; omega) (fun _ _ e => e) (fun h' u tk hk => ⟨_, u, rfl, rfl, H, I.kept (t' := tk) hk, Same.refl _⟩) hsz)
  rcases List.mem_cons.mp hc with z | z
  · rw [z]; exact hcl a _ hca (Nat.le_refl _)
  · rw [List.mem_singleton.mp z]; exact hcl b _ hcb lt
theorem call_dictL (ha : H0 a = some (.dK [(.inl k, .ref b)])) (hb : H0 b = some (.lst ((m :: ns).map V.int))) (hca : Cl a (dlText k m ns).length) (hcb : Cl b (dlTxt m ns).length) (ok : okI k) (on : ∀ x ∈ m :: ns, okI x)
    {A : Around} {g : List Code} {pins : List (Addr × Obj)} {σ : L2.St} {H : Hp} {s : Shared} (sb : L2.Sub X (n + 2) A) (hg : A.guards = some g) (hcl : Grd Cl g (dlText k m ns).length) (hsz : (dlText k m ns).length ≤ sizeLine) (I : L2.Inv X pins σ H s) (sm : Same H0 H) :
    wpAny (model X.prog X.w) A (call (.builtin "dict.__repr__") [.ref a]) (RpEnd X pins σ H (dlText k m ns)) X.xe s := by
  obtain ⟨_, hsys, vs, kv, o, es, ep, he, hex, hd, _, hp, _⟩ := I.hok a _ (sm _ _ ha)
  have ne : a ≠ b := fun z => by rw [z, hb] at ha; cases ha
  have lt : (dlTxt m ns).length ≤ (dlText k m ns).length := dl_le
  refine call_dict_reprK (as := [b]) (h₀ := s.heap) (d := 1) he hex.1 hd hsys (by simp [ne]) (dl_ents I (sm _ _ hb) ok on hp kv) hg (fun c hc => ?_) (by have := sb.room.un; omega) (fun _ _ e => e) (fun h' u tk hk => ⟨u, rfl, H, I.kept (t' := tk) hk, Same.refl _⟩) hsz
  rcases List.mem_cons.mp hc with z | z
  · rw [z]; exact hcl a _ hca (Nat.le_refl _)
  · rw [List.mem_singleton.mp z]; exact hcl b _ hcb lt
end
/-- how the own class is shown -/
structure OwnRp (X : Cx) (C : Addr) (k : Nat) : Prop where
  go : ∀ (H0 : Hp) (Cl : ClT) (a : Addr) (p q : Int), Rat2 C H0 a p q → okI p → okI q → RpG X k H0 Cl (.ref a) (ratText p q)
  top : ∀ (pins : List (Addr × Obj)) (s : Shared) (σ : L2.St) (H : Hp) (a : Addr) (p q : Int), L2.Inv X pins σ H s → Rat2 C H a p q → okI p → okI q → wpAny (model X.prog X.w) X.A (call (.builtin "repr") [.ref a]) (RpEnd X pins σ H (ratText p q)) X.xe s
theorem Sh.ints {C : Addr} {H : Hp} {d : Nat} {a : Addr} {ns : List Int} (h : H a = some (.lst (ns.map V.int))) (l : ns.length ≤ 60) (ok : ∀ x ∈ ns, okS x) : Sh C H (d + 1) (.ref a) (listText (ns.map fun x => Str.ofString (toString x))) :=
  .lst h (by rw [List.length_map]; exact l) (by rw [List.length_map, List.length_map]) fun i x t e1 e2 => by
    rw [List.getElem?_map] at e1 e2
    obtain ⟨z, hz, rfl⟩ := Option.map_eq_some_iff.mp e1
    rw [hz] at e2
    cases e2
    exact .int (ok z (List.mem_of_getElem? hz))
theorem Sh.rp {X : Cx} {C : Addr} {k : Nat} (O : OwnRp X C k) {H0 : Hp} {d : Nat} {x : V} {t : Str} (h : Sh C H0 d x t) : t.length ≤ sizeLine → RpG X (k + d) H0 (ShCl C H0) x t := by
  induction h with
  | @int d i h =>
    intro _
    refine RpG.is fun u r => ?_
    obtain ⟨t, rfl⟩ := r
    exact ReprIs.int t h.ok
  | bl b =>
    intro _
    refine RpG.is fun u r => ?_
    cases r
    exact ReprIs.bool b
  | non =>
    intro _
    refine RpG.is fun u r => ?_
    cases r
    exact ReprIs.none
  | str x _ =>
    intro hz
    refine RpG.is fun u r => ?_
    obtain ⟨t, rfl⟩ := r
    exact ReprIs.str x t hz
  | own r b1 b2 _ => exact fun hz => (O.go _ _ _ _ _ r b1.ok b2.ok).mono (Nat.le_add_right _ _)
  | @lst d a xs ts h1 h0 h2 h3 ih =>
    intro hz
    have hp := piled_le_listText ts
    refine RpG.list (shcl_fn C H0) h1 ⟨_, _, Sh.lst h1 h0 h2 h3, rfl⟩ h2 fun i x t e1 e2 => ih i x t e1 e2 ?_
    have : t.length + 2 ≤ piled ts := by
      have := piled_take_succ e2
      have := piled_take_le ts (i + 1)
      omega
    omega
  | @tup d a xs ts h1 h0 h2 h3 ih =>
    intro hz
    have hp := piled_le_tupleText ts
    refine RpG.tup (shcl_fn C H0) h1 ⟨_, _, Sh.tup h1 h0 h2 h3, rfl⟩ h2 fun i x t e1 e2 => ih i x t e1 e2 ?_
    have : t.length + 2 ≤ piled ts := by
      have := piled_take_succ e2
      have := piled_take_le ts (i + 1)
      omega
    omega
  | @dct d a ds h1 h0 h2 => exact fun _ => RpG.dict h1 ⟨d + 1, _, Sh.dct h1 h0 h2, rfl⟩ h2
  | @dcl d a b k n ns h1 h2 h3 h4 h5 => exact fun _ => RpG.dictL h1 h2 ⟨d + 2, _, Sh.dcl h1 h2 h3 h4 h5, rfl⟩ ⟨d + 1, _, Sh.ints h2 h3 h5, rfl⟩ h4 fun x hx => (h5 x hx).ok
theorem listText_le (ts : List Str) : (listText ts).length ≤ piled ts + 2 := by
  cases ts with
  | nil => decide
  | cons t r =>
    have h := textFrom_length_pos r 1 (("[" : Str) ++ (if (0 : Nat) > 0 then ", " else "" : String) ++ t) (Nat.succ_pos 0)
    have e : ((("[" : Str) ++ (if (0 : Nat) > 0 then ", " else "" : String) ++ t)).length = 1 + t.length := by
      rw [strLen_append, strLen_append]; rfl
    have hX : (listText (t :: r)).length = (textFrom 0 "[" (t :: r)).length + 1 := by
      show (textFrom 0 "[" (t :: r) ++ "]").length = _
      rw [strLen_append]; rfl
    have hY : (textFrom 0 "[" (t :: r)).length = (textFrom 1 (("[" : Str) ++ (if (0 : Nat) > 0 then ", " else "" : String) ++ t) r).length := rfl
    rw [hX, hY, h, e, piled_cons]; omega
theorem join_le (ts : List Str) : (Str.join ", " ts).length ≤ piled ts := by
  cases ts with
  | nil => decide
  | cons t r => have := join_length_add (t :: r) (by simp); omega
theorem tupleText_le (ts : List Str) : (tupleText ts).length ≤ piled ts + 3 := by
  have := join_le ts
  unfold tupleText
  rw [strLen_append, strLen_append]
  have e1 : ((("(" : String) : Str)).length = 1 := rfl
  have e3 : (((if ts.length == 1 then ",)" else ")" : String) : Str)).length ≤ 2 := by split <;> decide
  omega
theorem dictText_le (ts : List Str) : (dictText ts).length ≤ piled ts + 2 := by
  have := join_le ts
  unfold dictText
  rw [strLen_append, strLen_append]
  have e1 : ((("{" : String) : Str)).length = 1 := rfl
  have e2 : ((("}" : String) : Str)).length = 1 := rfl
  omega
theorem piled_all {ts : List Str} {L : Nat} (h : ∀ t ∈ ts, t.length ≤ L) : piled ts ≤ ts.length * (L + 2) := by
  induction ts with
  | nil => simp [piled]
  | cons t r ih =>
    rw [piled_cons, List.length_cons, Nat.succ_mul]
    have := h t List.mem_cons_self
    have := ih fun t ht => h t (List.mem_cons_of_mem _ ht)
    omega
def Lb : Nat → Nat
  | 0 => 3900
  | d + 1 => 60 * (Lb d + 2) + 3
theorem Lb_ge : ∀ d, 3900 ≤ Lb d
  | 0 => Nat.le_refl _
  | d + 1 => by have := Lb_ge d; show 3900 ≤ 60 * (Lb d + 2) + 3; omega
theorem int_len {i : Int} (h : okI i) : (Str.ofString (toString i)).length ≤ 1921 := int_text_len_1921 h
theorem ratText_len {p q : Int} (h1 : okI p) (h2 : okI q) : (ratText p q).length ≤ 3900 := by
  have := int_len h1
  have := int_len h2
  unfold ratText
  rw [strLen_append, strLen_append, strLen_append, strLen_append]
  have e1 : (Str.ofString "Ratio(").length = 6 := rfl
  have e2 : (Str.ofString ", ").length = 2 := rfl
  have e3 : (Str.ofString ")").length = 1 := rfl
  omega
theorem at_all {ts : List Str} {xs : List V} {L : Nat} (h2 : ts.length = xs.length) (h : ∀ (i : Nat) (x : V) (t : Str), xs[i]? = some x → ts[i]? = some t → t.length ≤ L) : ∀ t ∈ ts, t.length ≤ L := fun t ht => by
  obtain ⟨i, hi⟩ := List.getElem?_of_mem ht
  have l := (List.getElem?_eq_some_iff.mp hi).1
  exact h i _ t (List.getElem?_eq_getElem (h2 ▸ l)) hi
theorem Sh.len {C : Addr} {H : Hp} {d : Nat} {x : V} {t : Str} (h : Sh C H d x t) : t.length ≤ Lb d := by
  induction h with
  | @int d i h => exact Nat.le_trans (int_len h.ok) (Nat.le_trans (by decide) (Lb_ge d))
  | @bl d b => exact Nat.le_trans (by cases b <;> decide) (Lb_ge d)
  | @non d => exact Nat.le_trans (by decide) (Lb_ge d)
  | @str d x h => exact Nat.le_trans h (Lb_ge d)
  | @own d a p q r h1 h2 _ => exact Nat.le_trans (ratText_len h1.ok h2.ok) (Lb_ge d)
  | @lst d a xs ts h1 h0 h2 h3 ih =>
    have := listText_le ts
    have p := piled_all (at_all h2 ih)
    have : ts.length * (Lb d + 2) ≤ 60 * (Lb d + 2) := Nat.mul_le_mul_right _ (by omega)
    show _ ≤ 60 * (Lb d + 2) + 3
    omega
  | @tup d a xs ts h1 h0 h2 h3 ih =>
    have := tupleText_le ts
    have p := piled_all (at_all h2 ih)
    have : ts.length * (Lb d + 2) ≤ 60 * (Lb d + 2) := Nat.mul_le_mul_right _ (by omega)
    show _ ≤ 60 * (Lb d + 2) + 3
    omega
  | @dct d a ds h1 h0 h2 =>
    have := dictText_le (ds.map dEnt)
    have p := piled_all (ts := ds.map dEnt) (L := 3900) fun t ht => by
      obtain ⟨p, hp, rfl⟩ := List.mem_map.mp ht
      have := int_len (h2 p hp).1
      have := int_len (h2 p hp).2
      unfold dEnt
      rw [strLen_append, strLen_append]
      have e1 : (((": " : String) : Str)).length = 2 := rfl
      omega
    rw [List.length_map] at p
    have b := Lb_ge d
    have : ds.length * (3900 + 2) ≤ 60 * (Lb d + 2) := Nat.mul_le_mul h0 (by omega)
    show _ ≤ 60 * (Lb d + 2) + 3
    omega
  | @dcl d a b k n ns h1 h2 h3 h4 h5 =>
    have l1 := int_len h4
    have l2 : (dlTxt n ns).length ≤ _ := listText_le ((n :: ns).map fun x => Str.ofString (toString x))
    have l3 : (dlText k n ns).length ≤ _ := dictText_le [Str.ofString (toString k) ++ ": " ++ dlTxt n ns]
    have p := piled_all (ts := (n :: ns).map fun x => Str.ofString (toString x)) (L := 3900) fun t ht => by
      obtain ⟨p, hp, rfl⟩ := List.mem_map.mp ht
      have := int_len (h5 p hp).ok
      omega
    rw [List.length_map] at p
    have q : piled [Str.ofString (toString k) ++ ": " ++ dlTxt n ns] = (Str.ofString (toString k) ++ ": " ++ dlTxt n ns).length + 2 := by rw [piled_cons]; rfl
    rw [strLen_append, strLen_append] at q
    have e1 : (((": " : String) : Str)).length = 2 := rfl
    have b0 := Lb_ge d
    have : (n :: ns).length * (3900 + 2) ≤ 60 * (Lb d + 2) := Nat.mul_le_mul h3 (by omega)
    show (dlText k n ns).length ≤ 60 * ((60 * (Lb d + 2) + 3) + 2) + 3
    omega
theorem Sh.size {C : Addr} {H : Hp} {d : Nat} {x : V} {t : Str} (h : Sh C H d x t) (hd : d ≤ 2) : t.length ≤ sizeLine := by
  have := h.len
  have e : Lb d ≤ Lb 2 := by
    have : d = 0 ∨ d = 1 ∨ d = 2 := by omega
    rcases this with rfl | rfl | rfl <;> decide
  have : Lb 2 ≤ sizeLine := by decide
  omega
/-- repr(..) of such a value, where nothing is being shown -/
def rSh (C : Addr) : List V → Hp → VK → Prop := fun vs H Q => ∃ (x : V) (t : Str) (d : Nat), vs = [x] ∧ Sh C H d x t ∧ t.length ≤ sizeLine ∧ d ≤ 6 ∧ ∀ H', Same H H' → Q (.str t) H'
theorem cr_sh {X : Cx} {C : Addr} {k : Nat} (O : OwnRp X C k) (hr : Room (k + 8) X.A) (hg : X.A.guards = some []) : CallR X (.builtin "repr") (rSh C) := by
  intro pins s σ H xs us Q I r h
  obtain ⟨x, t, d, rfl, hsh, hz, hd, q⟩ := h
  obtain ⟨u, rfl, ru⟩ := r.one
  have fin : ∀ v s', RpEnd X pins σ H t v s' → EP X pins σ Q v s' := fun v s' ⟨u, e, H', I', sm⟩ => by
    subst e
    exact ⟨.str t, H', I', ⟨u, rfl⟩, q H' sm⟩
  have gr : ∀ m, Grd (ShCl C H) [] m := fun m b k _ _ => Clear.nil b
  have sb : ∀ m, m ≤ k + 7 → L2.Sub X m X.A.in1 := fun m hm => ⟨(hr.mono (show m + 1 ≤ k + 8 by omega)).in1, rfl⟩
  cases hsh with
  | @int d i h =>
    obtain ⟨t, rfl⟩ := ru
    exact PySem.P.repr_of_int h.ok (fin _ _ ⟨_, rfl, H, I.tok _, Same.refl _⟩)
  | bl b =>
    cases ru
    exact PySem.P.repr_of_bool (fin _ _ ⟨_, rfl, H, I.tok _, Same.refl _⟩)
  | non =>
    cases ru
    exact PySem.P.repr_of_none (fin _ _ ⟨_, rfl, H, I.tok _, Same.refl _⟩)
  | str x _ =>
    obtain ⟨t, rfl⟩ := ru
    exact PySem.P.repr_of_str (fin _ _ ⟨_, rfl, H, I.tok _, Same.refl _⟩) hz
  | own r2 b1 b2 _ =>
    cases ru
    exact wpAny_mono (O.top pins s σ H _ _ _ I r2 b1.ok b2.ok) fin fun _ _ e => e
  | @lst d a xs ts h1 h0 h2 h3 =>
    cases ru
    obtain ⟨_, its, na, rv, hl, he⟩ := I.lstM h1
    have hp := piled_le_listText ts
    have tl : ∀ (i : Nat) (t : Str), ts[i]? = some t → t.length ≤ sizeLine := fun i t e2 => by
      have := piled_take_succ e2
      have := piled_take_le ts (i + 1)
      omega
    refine call_repr_slot (by have := hr.un; omega) ⟨_, he, rfl⟩ F.slot_list_repr.toG ?_
    by_cases hne : xs = []
    · subst hne
      have e1 : ts = [] := List.length_eq_zero_iff.mp h2
      have e2 : its = [] := List.length_eq_zero_iff.mp (by simpa using hl.symm)
      subst e1 e2
      exact call_list_repr_empty ⟨_, he, rfl⟩ he rfl ⟨_, _, rfl, fin _ _ ⟨_, rfl, H, I.tok _, Same.refl _⟩⟩
    · refine wpAny_mono (call_list_reprG (n := k + d) (shcl_fn C H) h1 hne ⟨d + 1, _, Sh.lst h1 h0 h2 h3, rfl⟩ h2 (fun i x t e1 e2 => (h3 i x t e1 e2).rp O (tl i t e2)) (sb _ (by omega)) hg (gr _) hz I (Same.refl _)) (fun v s' hv => ?_) fun _ _ e => e
      obtain ⟨u, e, q⟩ := hv
      exact ⟨_, u, e, fin v s' ⟨u, e, q⟩⟩
  | @tup d a xs ts h1 h0 h2 h3 =>
    cases ru
    obtain ⟨its, rv, he, _⟩ := I.tuple (.inl (.inl h1) : SqT X.K H a xs)
    obtain ⟨o, ho, hoc, nn, hod⟩ := he
    have hp := piled_le_tupleText ts
    have tl : ∀ (i : Nat) (t : Str), ts[i]? = some t → t.length ≤ sizeLine := fun i t e2 => by
      have := piled_take_succ e2
      have := piled_take_le ts (i + 1)
      omega
    refine call_repr_slot (by have := hr.un; omega) ⟨o, ho, hoc⟩ F.slot_tuple_repr ?_
    refine wpAny_mono (call_tuple_reprG (n := k + d) (shcl_fn C H) h1 ⟨d + 1, _, Sh.tup h1 h0 h2 h3, rfl⟩ h2 (fun i x t e1 e2 => (h3 i x t e1 e2).rp O (tl i t e2)) (sb _ (by omega)) hg (gr _) hz I (Same.refl _)) (fun v s' hv => ?_) fun _ _ e => e
    obtain ⟨u, e, q⟩ := hv
    exact ⟨_, u, e, fin v s' ⟨u, e, q⟩⟩
  | @dct d a ds h1 h0 h2 =>
    cases ru
    obtain ⟨_, hsys, vs, kv, o, es, ep, he, hex, hd, _, hp, _⟩ := I.hok a _ h1
    refine call_repr_slot (by have := hr.un; omega) ⟨o, he, hex.1⟩ F.slot_dict_repr ?_
    refine wpAny_mono (call_dict_reprG (n := k + d) h1 ⟨d + 1, _, Sh.dct h1 h0 h2, rfl⟩ h2 (sb _ (by omega)) hg (gr _) hz I (Same.refl _)) (fun v s' hv => ?_) fun _ _ e => e
    obtain ⟨u, e, q⟩ := hv
    exact ⟨_, u, e, fin v s' ⟨u, e, q⟩⟩
  | @dcl d a b kk n ns h1 h2 h3 h4 h5 =>
    cases ru
    obtain ⟨_, hsys, vs, kv, o, es, ep, he, hex, hd2, _, hp, _⟩ := I.hok a _ h1
    refine call_repr_slot (by have := hr.un; omega) ⟨o, he, hex.1⟩ F.slot_dict_repr ?_
    refine wpAny_mono (call_dictL (n := 0) h1 h2 ⟨d + 2, _, Sh.dcl h1 h2 h3 h4 h5, rfl⟩ ⟨d + 1, _, Sh.ints h2 h3 h5, rfl⟩ h4 (fun x hx => (h5 x hx).ok) (sb _ (by omega)) hg (gr _) hz I (Same.refl _)) (fun v s' hv => ?_) fun _ _ e => e
    obtain ⟨u, e, q⟩ := hv
    exact ⟨_, u, e, fin v s' ⟨u, e, q⟩⟩
end Fp

namespace K21
/-- the numbers that are sums of the ints that P tells -/
inductive Rch (P : Int → Prop) : Int → Prop
  | zero : Rch P 0
  | step {n c : Int} (h : P c) (r : Rch P n) : Rch P (n + c)
theorem Rch.add {P : Int → Prop} {a b : Int} (ha : Rch P a) (hb : Rch P b) : Rch P (a + b) := by
  induction hb with
  | zero => rw [Int.add_zero]; exact ha
  | step h r ih => rw [← Int.add_assoc]; exact .step h ih
theorem Rch.one {P : Int → Prop} {c : Int} (h : P c) : Rch P c := by
  have q := Rch.step h (.zero (P := P))
  rw [Int.zero_add] at q
  exact q
theorem Rch.trans {P Q : Int → Prop} (h : ∀ c, P c → Rch Q c) {n : Int} (r : Rch P n) : Rch Q n := by
  induction r with
  | zero => exact .zero
  | step hc _ ih => exact ih.add (h _ hc)
theorem Rch.mono {P Q : Int → Prop} (h : ∀ c, P c → Q c) {n : Int} (r : Rch P n) : Rch Q n := r.trans fun c hc => .one (h c hc)
theorem Rch.nonneg {P : Int → Prop} (h : ∀ c, P c → 0 < c) {n : Int} (r : Rch P n) : 0 ≤ n := by
  induction r with
  | zero => exact Int.le_refl 0
  | step hc _ ih => have := h _ hc; omega
theorem Rch.le {P : Int → Prop} (h : ∀ c, P c → 0 < c) {n : Int} (r : Rch P n) : Rch (fun c => P c ∧ c ≤ n) n := by
  induction r with
  | zero => exact .zero
  | @step n c hc r ih =>
    have h0 := Rch.nonneg h r
    have h1 := h _ hc
    exact .step ⟨hc, by omega⟩ (ih.mono fun d hd => ⟨hd.1, by omega⟩)
theorem rch_next {P : Int → Prop} (h : ∀ c, P c → 0 < c) {n : Int} (hn : 0 < n) : Rch P n ↔ ∃ c, P c ∧ c ≤ n ∧ Rch P (n - c) := by
  constructor
  · intro r
    cases r with
    | zero => omega
    | @step m c hc r =>
      have h0 := Rch.nonneg h r
      refine ⟨c, hc, by omega, ?_⟩
      rw [Int.add_sub_cancel]
      exact r
  · rintro ⟨c, hc, _, r⟩
    have q := Rch.step hc r
    rw [Int.sub_add_cancel] at q
    exact q
/-- met, as a bool -/
noncomputable def mb (cs : List Int) (n : Int) : Bool := @decide (Rch (· ∈ cs) n) (Classical.propDecidable _)
theorem mb_iff {cs : List Int} {n : Int} : mb cs n = true ↔ Rch (· ∈ cs) n := by
  unfold mb
  exact @decide_eq_true_iff _ (Classical.propDecidable _)
theorem mb_false {cs : List Int} {n : Int} : mb cs n = false ↔ ¬ Rch (· ∈ cs) n := by
  rw [← mb_iff]
  cases mb cs n <;> simp
theorem mb_congr {cs ds : List Int} {n : Int} (h : Rch (· ∈ cs) n ↔ Rch (· ∈ ds) n) : mb cs n = mb ds n := by
  cases e : mb ds n with
  | true => exact mb_iff.mpr (h.mpr (mb_iff.mp e))
  | false => exact mb_false.mpr fun z => mb_false.mp e (h.mp z)
theorem mb_zero {cs : List Int} : mb cs 0 = true := mb_iff.mpr .zero
def Pos (cs : List Int) : Prop := ∀ c ∈ cs, 0 < c
theorem mb_next {cs : List Int} (h : Pos cs) {n : Int} (hn : 0 < n) : mb cs n = cs.any fun c => decide (c ≤ n) && mb cs (n - c) := by
  cases e : (cs.any fun c => decide (c ≤ n) && mb cs (n - c)) with
  | true =>
    obtain ⟨c, hc, q⟩ := List.any_eq_true.mp e
    rw [Bool.and_eq_true, decide_eq_true_eq] at q
    exact mb_iff.mpr ((rch_next h hn).mpr ⟨c, hc, q.1, mb_iff.mp q.2⟩)
  | false =>
    refine mb_false.mpr fun r => ?_
    obtain ⟨c, hc, hl, r⟩ := (rch_next h hn).mp r
    have q := List.any_eq_false.mp e c hc
    rw [mb_iff.mpr r, decide_eq_true hl] at q
    exact q rfl
/-- the table of what is met -/
noncomputable def tb (cs : List Int) (m : Nat) : List Bool := (List.range m).map fun i : Nat => mb cs ((i : Nat) : Int)
theorem tb_len (cs : List Int) (m : Nat) : (tb cs m).length = m := by unfold tb; rw [List.length_map, List.length_range]
theorem tb_at {cs : List Int} {m i : Nat} (h : i < m) : (tb cs m)[i]? = some (mb cs (i : Int)) := by
  unfold tb
  rw [List.getElem?_map, List.getElem?_range h]; rfl
theorem tb_succ (cs : List Int) (m : Nat) : tb cs (m + 1) = tb cs m ++ [mb cs (m : Int)] := by
  unfold tb
  rw [List.range_succ, List.map_append]; rfl
theorem tb_one (cs : List Int) : tb cs 1 = [true] := by
  rw [tb_succ]
  show [] ++ [mb cs ((0 : Nat) : Int)] = [true]
  rw [show ((0 : Nat) : Int) = 0 from rfl, mb_zero]; rfl
/-! ### least counts -/
def stepL (f : List Int → Int → Bool) (found : List Int) (x : Int) : List Int := if f found x = true then found else found ++ [x]
noncomputable def lst (s : List Int) : List Int := s.foldl (stepL mb) []
structure IsL (cs R : List Int) : Prop where
  srt : R.Pairwise (· < ·)
  mem : ∀ x, x ∈ R ↔ x ∈ cs ∧ ¬ Rch (fun c => c ∈ cs ∧ c < x) x
theorem sorted_ext : ∀ {R S : List Int}, R.Pairwise (· < ·) → S.Pairwise (· < ·) → (∀ x, x ∈ R ↔ x ∈ S) → R = S
  | [], [], _, _, _ => rfl
  | [], y :: _, _, _, h => absurd ((h y).mpr List.mem_cons_self) (by simp)
  | x :: _, [], _, _, h => absurd ((h x).mp List.mem_cons_self) (by simp)
  | x :: R, y :: S, hR, hS, h => by
    obtain ⟨h1, h2⟩ := List.pairwise_cons.mp hR
    obtain ⟨h3, h4⟩ := List.pairwise_cons.mp hS
    have exy : x = y := by
      rcases List.mem_cons.mp ((h x).mp List.mem_cons_self) with e | e
      · exact e
      · rcases List.mem_cons.mp ((h y).mpr List.mem_cons_self) with e' | e'
        · exact e'.symm
        · have a := h1 _ e'
          have b := h3 _ e
          omega
    subst exy
    rw [sorted_ext h2 h4 fun z => ?_]
    constructor
    · intro hz
      rcases List.mem_cons.mp ((h z).mp (List.mem_cons_of_mem _ hz)) with e | e
      · have := h1 _ hz; omega
      · exact e
    · intro hz
      rcases List.mem_cons.mp ((h z).mpr (List.mem_cons_of_mem _ hz)) with e | e
      · have := h3 _ hz; omega
      · exact e
theorem IsL.uniq {cs R S : List Int} (a : IsL cs R) (b : IsL cs S) : R = S := sorted_ext a.srt b.srt fun x => (a.mem x).trans (b.mem x).symm
theorem IsL.congr {cs ds R : List Int} (a : IsL cs R) (h : ∀ x, x ∈ cs ↔ x ∈ ds) : IsL ds R :=
  ⟨a.srt, fun x => by
    have e : (fun c => c ∈ cs ∧ c < x) = fun c => c ∈ ds ∧ c < x := funext fun c => propext (by rw [h])
    rw [a.mem x, h, e]⟩
/-- the state of the search behind a part p of the sorted counts -/
structure Sch (cs p f : List Int) : Prop where
  srt : f.Pairwise (· < ·)
  mem : ∀ x, x ∈ f ↔ x ∈ p ∧ ¬ Rch (fun c => c ∈ cs ∧ c < x) x
  rch : ∀ n, Rch (· ∈ f) n ↔ Rch (· ∈ p) n
theorem Sch.nil {cs : List Int} : Sch cs [] [] := ⟨List.Pairwise.nil, fun x => by simp, fun n => Iff.rfl⟩
theorem Sch.turn {cs p f r : List Int} {x : Int} (hs : (p ++ x :: r).Pairwise (· ≤ ·)) (hm : ∀ c, c ∈ cs ↔ c ∈ p ++ x :: r) (S : Sch cs p f) : Sch cs (p ++ [x]) (stepL mb f x) := by
  have hp : ∀ c ∈ p, c ≤ x := fun c hc => (List.pairwise_append.mp hs).2.2 c hc x List.mem_cons_self
  have hr : ∀ c ∈ r, x ≤ c := fun c hc => (List.pairwise_cons.mp (List.pairwise_append.mp hs).2.1).1 c hc
  have hpc : ∀ c ∈ p, c ∈ cs := fun c hc => (hm c).mpr (List.mem_append_left _ hc)
  have hlow : ∀ c, c ∈ cs → c < x → c ∈ p := fun c hc hl => by
    rcases List.mem_append.mp ((hm c).mp hc) with h | h
    · exact h
    · rcases List.mem_cons.mp h with h | h
      · omega
      · have := hr c h; omega
  have hfp : ∀ c ∈ f, c ∈ p := fun c hc => ((S.mem c).mp hc).1
  have mem1 : ∀ c, c ∈ p ++ [x] ↔ c ∈ p ∨ c = x := fun c => by simp
  unfold stepL
  cases e : mb f x with
  | true =>
    rw [if_pos rfl]
    have rx : Rch (· ∈ p) x := (S.rch x).mp (mb_iff.mp e)
    refine ⟨S.srt, fun y => ?_, fun n => ?_⟩
    · rw [S.mem y, mem1]
      constructor
      · exact fun h => ⟨.inl h.1, h.2⟩
      · rintro ⟨h | h, h2⟩
        · exact ⟨h, h2⟩
        · subst h
          by_cases hy : y ∈ p
          · exact ⟨hy, h2⟩
          · refine absurd (rx.mono fun c hc => ⟨hpc c hc, ?_⟩) h2
            have := hp c hc
            have hne : c ≠ y := fun z => hy (z ▸ hc)
            omega
    · rw [S.rch n]
      constructor
      · exact fun q => q.mono fun c hc => (mem1 c).mpr (.inl hc)
      · refine fun q => q.trans fun c hc => ?_
        rcases (mem1 c).mp hc with h | h
        · exact .one h
        · rw [h]; exact rx
  | false =>
    rw [if_neg Bool.false_ne_true]
    have nx : ¬ Rch (· ∈ p) x := fun z => mb_false.mp e ((S.rch x).mpr z)
    have hxp : x ∉ p := fun z => nx (.one z)
    have mem2 : ∀ c, c ∈ f ++ [x] ↔ c ∈ f ∨ c = x := fun c => by simp
    refine ⟨?_, fun y => ?_, fun n => ?_⟩
    · refine List.pairwise_append.mpr ⟨S.srt, List.pairwise_singleton _ _, fun a ha b hb => ?_⟩
      rw [List.mem_singleton.mp hb]
      have := hp a (hfp a ha)
      have hne : a ≠ x := fun z => hxp (z ▸ hfp a ha)
      omega
    · rw [mem2, S.mem y, mem1]
      constructor
      · rintro (h | h)
        · exact ⟨.inl h.1, h.2⟩
        · subst h
          exact ⟨.inr rfl, fun z => nx (z.mono fun c hc => hlow c hc.1 hc.2)⟩
      · rintro ⟨h | h, h2⟩
        · exact .inl ⟨h, h2⟩
        · exact .inr h
    · constructor
      · refine fun q => q.mono fun c hc => (mem1 c).mpr ?_
        rcases (mem2 c).mp hc with h | h
        · exact .inl (hfp c h)
        · exact .inr h
      · refine fun q => q.trans fun c hc => ?_
        rcases (mem1 c).mp hc with h | h
        · exact ((S.rch c).mpr (.one h)).mono fun d hd => (mem2 d).mpr (.inl hd)
        · exact .one ((mem2 c).mpr (.inr h))
theorem take_split {α : Type} {l : List α} {i : Nat} {x : α} (h : l[i]? = some x) : l = l.take i ++ x :: l.drop (i + 1) := by
  obtain ⟨hi, e⟩ := List.getElem?_eq_some_iff.mp h
  subst e
  rw [← List.drop_eq_getElem_cons hi, List.take_append_drop]
theorem take_one {α : Type} {l : List α} {i : Nat} {x : α} (h : l[i]? = some x) : l.take (i + 1) = l.take i ++ [x] := by
  rw [List.take_add_one, h]; rfl
theorem lst_take {s : List Int} {i : Nat} {x : Int} (h : s[i]? = some x) : lst (s.take (i + 1)) = stepL mb (lst (s.take i)) x := by
  unfold lst
  rw [take_one h, List.foldl_append]; rfl
theorem sch_take {cs s : List Int} (hs : s.Pairwise (· ≤ ·)) (hm : ∀ c, c ∈ cs ↔ c ∈ s) : ∀ i, i ≤ s.length → Sch cs (s.take i) (lst (s.take i))
  | 0, _ => by rw [List.take_zero]; exact Sch.nil
  | i + 1, h => by
    have hx : s[i]? = some s[i] := List.getElem?_eq_getElem h
    have e := take_split hx
    rw [lst_take hx, take_one hx]
    refine Sch.turn (r := s.drop (i + 1)) ?_ ?_ (sch_take hs hm i (Nat.le_of_lt h))
    · rw [← e]; exact hs
    · rw [← e]; exact hm
theorem lst_len_le (s : List Int) : ∀ i, (lst (s.take i)).length ≤ i
  | 0 => by simp [lst]
  | i + 1 => by
    cases e : s[i]? with
    | none =>
      have h : s.length ≤ i := List.getElem?_eq_none_iff.mp e
      have q := lst_len_le s i
      rw [List.take_of_length_le h] at q
      rw [List.take_of_length_le (Nat.le_succ_of_le h)]
      omega
    | some x =>
      have q := lst_len_le s i
      rw [lst_take e]
      unfold stepL
      split
      · omega
      · rw [List.length_append, List.length_singleton]; omega
theorem lst_mem {s : List Int} : ∀ i, ∀ x ∈ lst (s.take i), x ∈ s
  | 0, x, h => by simp [lst] at h
  | i + 1, x, h => by
    cases e : s[i]? with
    | none =>
      have hl : s.length ≤ i := List.getElem?_eq_none_iff.mp e
      rw [List.take_of_length_le (Nat.le_succ_of_le hl), ← List.take_of_length_le hl] at h
      exact lst_mem i x h
    | some y =>
      rw [lst_take e] at h
      unfold stepL at h
      split at h
      · exact lst_mem i x h
      · rcases List.mem_append.mp h with h | h
        · exact lst_mem i x h
        · rw [List.mem_singleton.mp h]; exact List.mem_of_getElem? e
/-- what least counts are -/
structure IsLst (cs R : List Int) : Prop where
  isL : IsL cs R
  rch : ∀ n, Rch (· ∈ R) n ↔ Rch (· ∈ cs) n
theorem lst_is {cs s : List Int} (hs : s.Pairwise (· ≤ ·)) (hm : ∀ c, c ∈ cs ↔ c ∈ s) : IsLst cs (lst s) := by
  have S := sch_take hs hm s.length (Nat.le_refl _)
  rw [List.take_length] at S
  refine ⟨⟨S.srt, fun x => (S.mem x).trans (by rw [hm])⟩, fun n => (S.rch n).trans ?_⟩
  have e : (· ∈ s) = (· ∈ cs) := funext fun c => propext (hm c).symm
  rw [e]
theorem IsLst.self {cs R : List Int} (a : IsLst cs R) : IsL R R :=
  ⟨a.isL.srt, fun x => ⟨fun h => ⟨h, fun z => ((a.isL.mem x).mp h).2 (z.mono fun c hc => ⟨((a.isL.mem c).mp hc.1).1, hc.2⟩)⟩, fun h => h.1⟩⟩
theorem IsLst.more {cs ds R : List Int} {b : Int} (hp : Pos cs) (hb : Rch (· ∈ cs) b) (hm : ∀ x, x ∈ ds ↔ x ∈ cs ∨ x = b) (a : IsLst cs R) : IsL ds R := by
  refine ⟨a.isL.srt, fun x => ?_⟩
  rw [a.isL.mem x, hm]
  have hb' := Rch.le hp hb
  constructor
  · rintro ⟨h1, h2⟩
    refine ⟨.inl h1, fun z => h2 (z.trans fun c hc => ?_)⟩
    rcases (hm c).mp hc.1 with h | h
    · exact .one ⟨h, hc.2⟩
    · subst h
      exact hb'.mono fun d hd => ⟨hd.1, by have := hc.2; have := hd.2; omega⟩
  · rintro ⟨h1, h2⟩
    rcases h1 with h1 | h1
    · exact ⟨h1, fun z => h2 (z.mono fun c hc => ⟨(hm c).mpr (.inl hc.1), hc.2⟩)⟩
    · subst h1
      by_cases hx : x ∈ cs
      · exact ⟨hx, fun z => h2 (z.mono fun c hc => ⟨(hm c).mpr (.inl hc.1), hc.2⟩)⟩
      · refine absurd (hb'.mono fun c hc => ⟨(hm c).mpr (.inl hc.1), ?_⟩) h2
        have hne : c ≠ x := fun z => hx (z ▸ hc.1)
        have := hc.2
        omega
theorem rch_more {cs ds : List Int} {b : Int} (hb : Rch (· ∈ cs) b) (hm : ∀ x, x ∈ ds ↔ x ∈ cs ∨ x = b) (n : Int) : Rch (· ∈ ds) n ↔ Rch (· ∈ cs) n :=
  ⟨fun q => q.trans fun c hc => by
    rcases (hm c).mp hc with h | h
    · exact .one h
    · rw [h]; exact hb, fun q => q.mono fun c hc => (hm c).mpr (.inl hc)⟩
theorem rch_congr {cs ds : List Int} (hm : ∀ x, x ∈ ds ↔ x ∈ cs) (n : Int) : Rch (· ∈ ds) n ↔ Rch (· ∈ cs) n := by
  have e : (· ∈ ds) = (· ∈ cs) := funext fun c => propext (hm c)
  rw [e]
/-! ### common counts -/
def gstep (g c : Int) : Int := ((Nat.gcd g.natAbs c.natAbs : Nat) : Int)
def gl (cs : List Int) : Int := cs.foldl gstep 0
theorem gl_take {s : List Int} {i : Nat} {x : Int} (h : s[i]? = some x) : gl (s.take (i + 1)) = gstep (gl (s.take i)) x := by
  unfold gl
  rw [take_one h, List.foldl_append]; rfl
theorem gfold_nonneg : ∀ (cs : List Int) (g : Int), 0 ≤ g → 0 ≤ cs.foldl gstep g
  | [], g, h => h
  | c :: r, g, _ => gfold_nonneg r (gstep g c) (Int.natCast_nonneg _)
theorem gl_nonneg (cs : List Int) : 0 ≤ gl cs := gfold_nonneg cs 0 (Int.le_refl 0)
theorem gfold_dvd : ∀ (cs : List Int) (g : Int) (d : Nat), d ∣ (cs.foldl gstep g).natAbs ↔ d ∣ g.natAbs ∧ ∀ c ∈ cs, d ∣ c.natAbs
  | [], g, d => by simp
  | c :: r, g, d => by
    rw [List.foldl_cons, gfold_dvd r (gstep g c) d]
    unfold gstep
    rw [Int.natAbs_natCast, Nat.dvd_gcd_iff]
    constructor
    · rintro ⟨⟨h1, h2⟩, h3⟩
      exact ⟨h1, fun x hx => (List.mem_cons.mp hx).elim (fun e => e ▸ h2) (h3 x)⟩
    · rintro ⟨h1, h2⟩
      exact ⟨⟨h1, h2 c List.mem_cons_self⟩, fun x hx => h2 x (List.mem_cons_of_mem _ hx)⟩
theorem gl_dvd (cs : List Int) (d : Nat) : d ∣ (gl cs).natAbs ↔ ∀ c ∈ cs, d ∣ c.natAbs := by
  unfold gl
  rw [gfold_dvd]
  simp
theorem gl_eq {cs ds : List Int} (h : ∀ d : Nat, (∀ c ∈ cs, d ∣ c.natAbs) ↔ ∀ c ∈ ds, d ∣ c.natAbs) : gl cs = gl ds := by
  have e : (gl cs).natAbs = (gl ds).natAbs := Nat.dvd_antisymm ((gl_dvd ds _).mpr ((h _).mp ((gl_dvd cs _).mp (Nat.dvd_refl _)))) ((gl_dvd cs _).mpr ((h _).mpr ((gl_dvd ds _).mp (Nat.dvd_refl _))))
  have h1 := gl_nonneg cs
  have h2 := gl_nonneg ds
  omega
theorem rch_dvd {cs : List Int} {d : Nat} (h : ∀ c ∈ cs, d ∣ c.natAbs) {n : Int} (r : Rch (· ∈ cs) n) : d ∣ n.natAbs := by
  rw [← Int.ofNat_dvd_left] at *
  induction r with
  | zero => exact Int.dvd_zero _
  | step hc _ ih => exact Int.dvd_add ih (Int.ofNat_dvd_left.mpr (h _ hc))
theorem gl_more {cs ds : List Int} {b : Int} (hb : Rch (· ∈ cs) b) (hm : ∀ x, x ∈ ds ↔ x ∈ cs ∨ x = b) : gl ds = gl cs :=
  gl_eq fun d => ⟨fun h c hc => h c ((hm c).mpr (.inl hc)), fun h c hc => by
    rcases (hm c).mp hc with q | q
    · exact h c q
    · rw [q]; exact rch_dvd h hb⟩
theorem gl_congr {cs ds : List Int} (hm : ∀ x, x ∈ ds ↔ x ∈ cs) : gl ds = gl cs := gl_eq fun d => ⟨fun h c hc => h c ((hm c).mpr hc), fun h c hc => h c ((hm c).mp hc)⟩
end K21

namespace K21
open PySem PySem.Spec PyProof.Rows L2 Fp
def top (i : Nat) : Stmt := PySem.Challenge.pw_fromplaces_k12_whole_reckoned_and_worths.main.body.getD i (.Pass ⟨0, 0, 0, 0⟩)
abbrev sInteger : Stmt := top 10
abbrev sList : Stmt := top 11
/-- what the module's names hold -/
structure Mg (mg : Str → Option Value) : Prop where
  isi : mg "isinstance" = none
  int : mg "int" = none
  bool : mg "bool" = none
  list : mg "list" = none
  tuple : mg "tuple" = none
  len : mg "len" = none
  all : mg "all" = none
  any : mg "any" = none
  range : mg "range" = none
  enum : mg "enumerate" = none
  sorted : mg "sorted" = none
  set : mg "set" = none
  repr : mg "repr" = none
  abs : mg "abs" = none
  max : mg "max" = none
  divmod : mg "divmod" = none
  min : mg "min" = none
  zip : mg "zip" = none
  sum : mg "sum" = none
  lcm : mg "lcm" = some (.builtin "math.lcm")
  gcd : mg "gcd" = some (.builtin "math.gcd")
/-- a value is handed back, what is tracked is as it was -/
abbrev Ret (H : Hp) (Q : VK) (v : V) : Prop := ∀ H', Same H H' → Q v H'
theorem ifF {c A B : Prop} [Decidable c] (h : ¬ c) (b : B) : if decide c = true then A else B := by rw [decide_eq_false h]; exact iteF b
theorem ifT {c A B : Prop} [Decidable c] (h : c) (a : A) : if decide c = true then A else B := by rw [decide_eq_true h]; exact iteT a
abbrev VI (ns : List Int) : List V := ns.map V.int
theorem vi_at {ns : List Int} {i : Nat} {x : V} (h : (VI ns)[i]? = some x) : ∃ n, ns[i]? = some n ∧ x = .int n := by
  rw [List.getElem?_map] at h
  cases e : ns[i]? with
  | none => rw [e] at h; cases h
  | some n => rw [e] at h; exact ⟨n, rfl, (Option.some.inj h).symm⟩
section
variable {P : Program} {w : World} {K : PySem.W.Frag} {mg : Str → Option Value} {base : Heap} {k : Nat}
/-! ### whole numbers and lists -/
def spInteger : Sp := fun vs H Q _ => ∃ i : Int, vs = [.int i] ∧ Ret H Q (.bl true)
theorem sc6 : FnScope ["value"] ["value"] (defScope sInteger) := ⟨rfl, rfl, rfl, by decide +kernel, rfl, by decide +kernel, by decide +kernel⟩
theorem d_integer (B : Bnd K mg "is_integer" sInteger) (M : Mg mg) : Def P w K mg base (k + 1) "is_integer" sInteger ["value"] spInteger := by
  refine def_of B sc6 (by rintro _ _ _ _ ⟨i, rfl, _⟩; rfl) (fun _ _ _ _ _ _ us hl => match us, hl with | [_], _ => rfl) fun f cdv A outer s H vs Q E hr h => ?_
  obtain ⟨i, rfl, q⟩ := h
  refine ⟨_, pss_one (ps_ret (pe_and (pe_callB call_isi (by rfl) M.isi (by decide +kernel) (pa_cons (pv 0) (pa_cons (pe_bltn (v := .ty "int") (by rfl) M.int (by decide +kernel) rfl) pa_nil)))
    (pe_one (pe_not (pe_callB call_isi (by rfl) M.isi (by decide +kernel) (pa_cons (pv 0) (pa_cons (pe_bltn (v := .ty "bool") (by rfl) M.bool (by decide +kernel) rfl) pa_nil))))))), ?_⟩
  refine ⟨_, rfl, _, _, _, _, true, rfl, .ty _, .base (.int i), kit_int, true, rfl, iteT ?_⟩
  exact ⟨_, rfl, _, _, _, _, false, rfl, .ty _, .base (.int i), kit_int_bool, false, rfl, q H (Same.refl H)⟩
end
theorem all_true {n : Nat} : ((List.range n).filterMap fun _ => some (V.bl true)) = (List.replicate n true).map V.bl := by
  induction n with
  | zero => rfl
  | succ n ih => rw [fm_succ, ih, List.replicate_succ', List.map_append]; rfl
theorem all_rep : ∀ n : Nat, (List.replicate n true).all id = true
  | 0 => rfl
  | n + 1 => by rw [List.replicate_succ, List.all_cons, all_rep n]; rfl
theorem vi_len (ns : List Int) : (VI ns).length = ns.length := List.length_map _
theorem small {n : Nat} (h : n ≤ 1000) : n < sizeLine := small1000 h
abbrev sPot : Stmt := top 34
abbrev sDraw : Stmt := top 35
abbrev sPick : Stmt := top 36
/-- a pot: two numbers, none below 0, the second one small -/
def PotOk (H : Hp) (p : Addr) : Prop := ∃ u v : Int, H p = some (.lst [.int u, .int v]) ∧ 0 ≤ u ∧ 0 ≤ v ∧ v ≤ 2147483587
theorem PotOk.same {H H' : Hp} {p : Addr} (h : PotOk H p) (e : Same H H') : PotOk H' p := let ⟨u, v, a, b⟩ := h; ⟨u, v, e _ _ a, b⟩
section
variable {P : Program} {w : World} {K : PySem.W.Frag} {mg : Str → Option Value} {base : Heap} {k : Nat}
def spPot (K : PySem.W.Frag) : Sp := fun vs H Q _ => ∃ (a : Addr) (ns : List Int) (k : Int), vs = [.ref a, .int k] ∧ SqL K H a (VI ns) ∧ 0 ≤ k ∧ k ≤ 100 ∧ ∀ p H', Same H H' → H p = none → PotOk H' p → Q (.ref p) H'
theorem sc23 : FnScope ["_law_script", "_law_k", "_law_cell"] ["_law_script", "_law_k"] (defScope sPot) := ⟨rfl, rfl, rfl, by decide +kernel, rfl, by decide +kernel, by decide +kernel⟩
theorem d_pot (B : Bnd K mg "_law_pot" sPot) (M : Mg mg) : Def P w K mg base (k + 1) "_law_pot" sPot ["_law_script", "_law_k"] (spPot K) := by
  refine def_of B sc23 (by rintro _ _ _ _ ⟨a, ns, n, rfl, _⟩; rfl) (fun _ _ _ _ _ _ us hl => match us, hl with | [_, _], _ => rfl) fun f cdv A outer s H vs Q E hr h => ?_
  obtain ⟨a, ns, n, rfl, hS, h0, h1, q⟩ := h
  refine ⟨_, pss_cons (ps_set (i := 2) sc23.nd rfl (.inl rfl) (pe_op op_add (pe_op op_mul pe_int (pv 1)) pe_int))
    (C8.pss_cut (ps_if (pt_cmpR op_lt (pv 1) (pe_callB call_len_seq (by rfl) M.len boot_len (pa_cons (pv 0) pa_nil)) (nomark _)) (pss_one (ps_set (i := 2) sc23.nd rfl (.inl rfl) (pe_callB call_abs (by rfl) M.abs (by decide +kernel) (pa_cons (pe_ix ix_list (pv 0) (pv 1) (fun _ _ => rfl)) pa_nil)))) pss_nil)
    (pss_one (ps_ret (pe_lst (pa_cons (pe_callB (call_max2 rfl) (by rfl) M.max (by decide +kernel) (pa_cons pe_int (pa_cons (pe_op op_sub (pv 2) (pe_op op_pow pe_int pe_int)) pa_nil)))
      (pa_cons (pe_op op_add (pe_op op_mod (pe_callTy call_int1 (by rfl) M.int (by decide +kernel) (pa_cons (pe_op op_add (pe_op op_add (pe_op op_mul (pe_op op_mod (pe_callTy call_int1 (by rfl) M.int (by decide +kernel) (pa_cons (pv 2) pa_nil)) pe_int) pe_int) (pe_op op_mul pe_int (pv 1))) pe_int) pa_nil)) pe_int) pe_int) pa_nil)))))), ?_⟩
  have l0 := vi_len ns
  refine ⟨_, rfl, _, _, rfl, rfl, .inl ⟨by omega, by omega⟩, _, _, rfl, rfl, ?_⟩
  refine ⟨fun σ' H' => ∃ c : Int, σ' = [some (.ref a), some (.int n), some (.int c)] ∧ H' = H, ?_, ?_⟩
  · refine ⟨_, rfl, _, rfl, a, _, rfl, .inl hS, _, _, rfl, rfl, _, rfl, ite2 (fun c => ?_) (fun c => ?_)⟩
    · have c' := of_decide_eq_true c
      rw [l0] at c'
      have hz : ns[n.toNat]? = some ns[n.toNat] := List.getElem?_eq_getElem (by omega)
      exact ⟨_, rfl, _, rfl, a, _, n, .int ns[n.toNat], rfl, rfl, hS, at_of (j := n.toNat) (by omega) (by rw [List.getElem?_map, hz]; rfl), _, rfl, _, rfl, rfl⟩
    · exact ⟨_, rfl, rfl⟩
  rintro _ _ ⟨c, rfl, rfl⟩
  refine ⟨_, rfl, 10, 18, rfl, rfl, ⟨by omega, by omega, by decide⟩, _, _, rfl, rfl, _, _, rfl, ?_⟩
  refine ⟨_, rfl, Or.inl ⟨_, rfl, ?_⟩⟩
  refine ⟨_, _, rfl, rfl, (by omega), _, _, rfl, rfl, .inl ⟨by omega, by omega⟩, _, rfl, _, _, rfl, rfl, .inl ⟨by omega, by omega⟩, _, _, rfl, rfl, _, _, rfl, rfl, ?_⟩
  refine Or.inl ⟨_, rfl, ?_⟩
  refine ⟨_, _, rfl, rfl, (by omega), _, _, rfl, rfl, (by show 2 ≤ sizeLine; decide), fun p hp => ?_⟩
  refine q p _ (same_new hp) hp ⟨_, _, upd_same, ?_, ?_, ?_⟩
  · split <;> omega
  · omega
  · omega
/-! ### draws -/
def spDraw : Sp := fun vs H Q _ => ∃ (p : Addr) (m : Int), vs = [.ref p, .int m] ∧ PotOk H p ∧ 1 ≤ m ∧ m ≤ 1000000 ∧ ∀ d H', 0 ≤ d → d < m → PotOk H' p → Keep p H H' → Q (.int d) H'
theorem sc24 : FnScope ["_law_pot_here", "_law_size", "_law_digit"] ["_law_pot_here", "_law_size"] (defScope sDraw) := ⟨rfl, rfl, rfl, by decide +kernel, rfl, by decide +kernel, by decide +kernel⟩
theorem d_draw (B : Bnd K mg "_law_draw" sDraw) (M : Mg mg) : Def P w K mg base (k + 1) "_law_draw" sDraw ["_law_pot_here", "_law_size"] spDraw := by
  refine def_of B sc24 (by rintro _ _ _ _ ⟨a, n, rfl, _⟩; rfl) (fun _ _ _ _ _ _ us hl => match us, hl with | [_, _], _ => rfl) fun f cdv A outer s H vs Q E hr h => ?_
  obtain ⟨p, m, rfl, ⟨u, v, hp, hu, hv, hv2⟩, h1, h2, q⟩ := h
  refine ⟨_, pss_cons (ps_if (pt_cmpR op_gt (pe_ix ix_list (pv 0) pe_int (fun _ _ => rfl)) pe_int (nomark _))
      (pss_cons (ps_asg (pe_callB call_divmod (by rfl) M.divmod (by decide +kernel) (pa_cons (pe_ix ix_list (pv 0) pe_int (fun _ _ => rfl)) (pa_cons (pv 1) pa_nil))) (pg_tup rfl (pgs_cons (pg_sub (pv 0) pe_int set_list) (pgs_cons (pg_name (i := 2) sc24.nd rfl (.inl rfl)) pgs_nil))))
        (pss_one (ps_ret (pv 2)))) pss_nil)
    (pss_cons (ps_asg (pe_op op_mod (pe_callTy call_int1 (by rfl) M.int (by decide +kernel) (pa_cons (pe_op op_add (pe_op op_mul (pe_ix ix_list (pv 0) pe_int (fun _ _ => rfl)) pe_int) pe_int) pa_nil)) pe_int) (pg_sub (pv 0) pe_int set_list))
    (pss_one (ps_ret (pe_op op_mod (pe_callTy call_int1 (by rfl) M.int (by decide +kernel) (pa_cons (pe_op op_fdiv (pe_op op_mod (pe_callTy call_int1 (by rfl) M.int (by decide +kernel) (pa_cons (pe_op op_mul (pe_ix ix_list (pv 0) pe_int (fun _ _ => rfl)) (pe_ix ix_list (pv 0) pe_int (fun _ _ => rfl))) pa_nil)) pe_int) pe_int) pa_nil)) (pv 1))))), ?_⟩
  refine ⟨_, rfl, p, _, 0, .int u, rfl, rfl, SqL.of hp, rfl, u, 0, rfl, rfl, _, rfl, ite2 (fun c => ?_) (fun c => ?_)⟩
  · have c' := of_decide_eq_true c
    refine ⟨_, rfl, p, _, 0, .int u, rfl, rfl, SqL.of hp, rfl, _, rfl, u, m, rfl, ⟨by omega, by omega⟩, fun t nt => ?_⟩
    have ne : p ≠ t := ne_of_none hp nt
    refine ⟨t, _, rfl, SqT.of upd_same, rfl, _, _, rfl, _, rfl, p, _, 0, 0, rfl, rfl, by rw [upd_ne ne]; exact hp, rfl, _, _, rfl, rfl, _, rfl, ?_⟩
    refine q _ _ (Int.emod_nonneg _ (by omega)) (Int.emod_lt_of_pos _ (by omega)) ⟨u / m, v, upd_same, Int.ediv_nonneg hu (by omega), hv, hv2⟩ ?_
    exact (Keep.of (same_new nt)).trans keep_upd
  · refine ⟨_, rfl, p, _, 1, .int v, rfl, rfl, SqL.of hp, rfl, v, _, rfl, rfl, .inl ⟨by omega, by omega⟩, _, _, rfl, rfl, Or.inl ⟨_, rfl, _, _, rfl, rfl, by omega, ?_⟩⟩
    refine ⟨_, rfl, p, _, 1, 1, rfl, rfl, hp, rfl, ?_⟩
    have b0 : 0 ≤ (v * 40423 + 2267) % 2147483587 := Int.emod_nonneg _ (by omega)
    have b1 : (v * 40423 + 2267) % 2147483587 < 2147483587 := Int.emod_lt_of_pos _ (by omega)
    have hp' : (upd H p (.lst ([V.int u, V.int v].set 1 (.int ((v * 40423 + 2267) % 2147483587))))) p = some (.lst [.int u, .int ((v * 40423 + 2267) % 2147483587)]) := upd_same
    refine ⟨_, rfl, p, _, 1, _, rfl, rfl, SqL.of hp', rfl, _, rfl, p, _, 1, _, rfl, rfl, SqL.of hp', rfl, _, _, rfl, rfl, .inl ⟨by omega, by omega⟩, Or.inl ⟨_, rfl, _, _, rfl, rfl, by omega, _, _, rfl, rfl, ⟨by omega, by omega⟩, Or.inl ⟨_, rfl, ?_⟩⟩⟩
    refine ⟨_, rfl, _, m, rfl, rfl, by omega, ?_⟩
    exact q _ _ (Int.emod_nonneg _ (by omega)) (Int.emod_lt_of_pos _ (by omega)) ⟨u, _, hp', hu, b0, by omega⟩ keep_upd
def spPick : Sp := fun vs H Q _ => ∃ (p b : Addr) (xs : List V), vs = [.ref p, .ref b] ∧ PotOk H p ∧ H b = some (.lst xs) ∧ b ≠ p ∧ 1 ≤ xs.length ∧ xs.length ≤ 1000 ∧ ∀ x H', x ∈ xs → PotOk H' p → Keep p H H' → Q x H'
theorem sc25 : FnScope ["_law_pot_here", "_law_some"] ["_law_pot_here", "_law_some"] (defScope sPick) := ⟨rfl, rfl, rfl, by decide +kernel, rfl, by decide +kernel, by decide +kernel⟩
theorem d_pick (B : Bnd K mg "_law_pick" sPick) (M : Mg mg) (D : Def P w K mg base k "_law_draw" sDraw ["_law_pot_here", "_law_size"] spDraw) : Def P w K mg base (k + 1) "_law_pick" sPick ["_law_pot_here", "_law_some"] spPick := by
  refine def_of B sc25 (by rintro _ _ _ _ ⟨a, n, x, rfl, _⟩; rfl) (fun _ _ _ _ _ _ us hl => match us, hl with | [_, _], _ => rfl) fun f cdv A outer s H vs Q E hr h => ?_
  obtain ⟨p, b, xs, rfl, hp, hb, ne, l1, l2, q⟩ := h
  refine ⟨_, pss_one (ps_ret (pe_ix ix_list (pv 1) (pe_d D hr (by rfl) (pa_cons (pv 0) (pa_cons (pe_callB call_len_seq (by rfl) M.len boot_len (pa_cons (pv 1) pa_nil)) pa_nil))) (fun _ _ => rfl))), ?_⟩
  refine ⟨_, rfl, _, rfl, _, rfl, b, xs, rfl, .inl (SqL.of hb), p, _, rfl, hp, by omega, by omega, fun d H' d0 d1 hp' kp => ?_⟩
  have hd : d.toNat < xs.length := by omega
  exact ⟨b, xs, d, xs[d.toNat], rfl, rfl, SqL.of (kp _ _ ne hb), at_of (j := d.toNat) (by omega) (List.getElem?_eq_getElem hd), q _ _ (List.getElem_mem hd) hp' kp⟩
end
/-! ### lists of ints as data -/
abbrev DI (ns : List Int) : PyData := .list (ns.map PyData.int)
theorem dpAll_ints {K : PySem.W.Frag} {H : Hp} : ∀ ns : List Int, DpAll K H (VI ns) (ns.map PyData.int)
  | [] => .nil
  | n :: r => .cons (.int n) (dpAll_ints r)
theorem dp_ints {K : PySem.W.Frag} {H : Hp} {a : Addr} {ns : List Int} (h : SqL K H a (VI ns)) : Dp K H (.ref a) (DI ns) := .lst h (dpAll_ints ns)
theorem di_lay : ∀ ns : List Int, PyData.canLayAll0 (ns.map PyData.int) = true
  | [] => rfl
  | n :: r => by rw [List.map_cons, PyData.canLayAll0, di_lay r]; rfl
theorem di_depthAll : ∀ ns : List Int, PyData.depthAll (ns.map PyData.int) ≤ 1
  | [] => by simp [PyData.depthAll]
  | n :: r => by
    have := di_depthAll r
    rw [List.map_cons, PyData.depthAll]
    simp only [PyData.depth]
    omega
theorem di_depth (ns : List Int) : (DI ns).depth ≤ 8 := by
  have := di_depthAll ns
  simp only [PyData.depth]
  omega
theorem di_shaped (ns : List Int) : SeqAt.shaped (DI ns) = true := by
  unfold SeqAt.shaped
  have h1 : (DI ns).canLay0 = true := by rw [PyData.canLay0]; exact di_lay ns
  have h2 := di_depth ns
  rw [h1, decide_eq_true (by omega)]; rfl
theorem di_refl (ns : List Int) : PyData.eqv (DI ns) (DI ns) = true := SeqAt.eqv_refl _ (by rw [PyData.canLay0]; exact di_lay ns)
theorem di_nil : ∀ ns : List Int, PyData.eqv (DI ns) (DI []) = ns.isEmpty
  | [] => di_refl []
  | n :: r => by rw [PyData.eqv, List.map_cons, List.map_nil]; rfl
theorem int_short : ∀ n : Nat, n < 1000 → (PyData.shown (.int (n : Int))).length ≤ 8 := by decide +kernel
theorem int_log : ∀ n : Nat, n < 1000 → n.log2 < 1920 := fun n h => by
  have h1 : n < 2 ^ 10 := by omega
  by_cases h0 : n = 0
  · subst h0; decide
  · have := (Nat.log2_lt h0).mpr h1
    omega
abbrev Sm (ns : List Int) : Prop := ∀ n ∈ ns, 0 ≤ n ∧ n < 1000
theorem di_leaves : ∀ ns : List Int, Sm ns → PyData.leavesShortAll 8 (ns.map PyData.int) = true
  | [], _ => rfl
  | n :: r, h => by
    have h1 := h n List.mem_cons_self
    rw [List.map_cons, PyData.leavesShortAll, di_leaves r fun x hx => h x (List.mem_cons_of_mem _ hx), Bool.and_true, PyData.leavesShort]
    have h2 := int_short n.toNat (by omega)
    rw [show ((n.toNat : Nat) : Int) = n by omega] at h2
    exact decide_eq_true h2
theorem di_showAll : ∀ ns : List Int, Sm ns → PyData.showableAll (ns.map PyData.int) = true
  | [], _ => rfl
  | n :: r, h => by
    have h1 := h n List.mem_cons_self
    rw [List.map_cons, PyData.showableAll, di_showAll r fun x hx => h x (List.mem_cons_of_mem _ hx), Bool.and_true, PyData.showable]
    exact decide_eq_true (int_log n.natAbs (by omega))
theorem di_dictAll : ∀ ns : List Int, PyData.hasDictAll (ns.map PyData.int) = false
  | [] => rfl
  | n :: r => by rw [List.map_cons, PyData.hasDictAll, di_dictAll r]; rfl
theorem di_bulk : ∀ ns : List Int, PyData.bulkAll (ns.map PyData.int) = ns.length
  | [] => rfl
  | n :: r => by rw [List.map_cons, PyData.bulkAll, di_bulk r, PyData.bulk, List.length_cons]; omega
/-- what repr asks of a list of small ints -/
theorem di_repr {ns : List Int} (h : Sm ns) (hz : ns.length ≤ 1000) : (DI ns).showable = true ∧ (DI ns).hasDict = false ∧ (DI ns).depth ≤ 8 ∧ (DI ns).shown.length ≤ sizeLine := by
  refine ⟨by rw [PyData.showable]; exact di_showAll ns h, by rw [PyData.hasDict]; exact di_dictAll ns, di_depth ns, PyData.shown_fits_bulk (B := 8) (by omega) (by omega) (by rw [PyData.leavesShort]; exact di_leaves ns h) ?_⟩
  rw [PyData.bulk, di_bulk]
  omega
/-- a pair of bools -/
theorem db_repr (b c : Bool) : (PyData.list [.bool b, .bool c]).showable = true ∧ (PyData.list [.bool b, .bool c]).hasDict = false ∧ (PyData.list [.bool b, .bool c]).depth ≤ 8 ∧ (PyData.list [.bool b, .bool c]).shown.length ≤ sizeLine := by
  cases b <;> cases c <;> refine ⟨by decide +kernel, by decide +kernel, by decide +kernel, ?_⟩ <;> exact Nat.le_trans (show _ ≤ 100 by decide +kernel) (by decide)
/-! ### slices -/
theorem cut_last (L : List V) (x : V) : cutV (L ++ [x]) none (some (-1)) = L := by
  have e : HT.sIx (L ++ [x]).length (L ++ [x]).length (some (-1)) = L.length := by
    show (if (-1 : Int) < 0 then ((-1 : Int) + ((L ++ [x]).length : Int)).toNat else min (-1 : Int).toNat (L ++ [x]).length) = L.length
    rw [if_pos (by decide), List.length_append, List.length_singleton]
    omega
  unfold cutV
  rw [e, HT.sIx_none, List.drop_zero, Nat.sub_zero]
  simp
/-! ### comprehensions over a list -/
section
variable {K : PySem.W.Frag} {a : Addr} {xs : List V} {g : TG} {tt : TT} {te : TE} {vs : List Nat} {σ : L2.St} {H : Hp}
theorem lc_l {Dd : Addr} {Qd : Hp → Prop} (f : Nat → Option V) (hS : SqL K H a xs) (hD : H Dd = none) (hz : xs.length ≤ sizeLine)
    (hs : ∀ i x H1, xs[i]? = some x → Same H H1 → LcTurn f g tt te vs σ i x H1 H1)
    (hd : ∀ H1, Same H H1 → H1 Dd = some (.lst ((List.range xs.length).filterMap f)) → Qd H1) : ∃ W : Nat → Nat → Hp → Prop, (∃ m, W 0 m (upd H Dd (.lst []))) ∧ ∀ i m H, W i m H →
      ((Itl K a).stop i H ∧ Qd H) ∨ ((Itl K a).go i H ∧ ∃ Nx : Hp → Prop, (∀ H', Nx H' → ∃ m', m' < m ∧ W (i + 1) m' H') ∧ ∀ x H', (Itl K a).yld i H x H' → g x (wipe σ vs) H' fun σ2 H2 => wipe σ2 vs = wipe σ vs ∧ tt σ2 H2 fun b H3 =>
        if b = true then te σ2 H3 fun y H4 => ∃ acc, H4 Dd = some (.lst acc) ∧ acc.length < sizeLine ∧ Nx (upd H4 Dd (.lst (acc ++ [y]))) else Nx H3) :=
  lc_list (xs := xs) (LcInv f H Dd) (LcInv.start hD) (fun i H1 _ p => p.1.seq hS) (fun i x H1 hx p => p.turn hD (Nat.lt_of_lt_of_le (List.getElem?_eq_some_iff.mp hx).1 hz) (Same.refl _) (hs i x H1 hx p.1)) fun H1 p => hd H1 p.1 p.2
end
end K21

namespace Fp
open PySem PySem.Spec PyProof.Rows L2
/-! ### the class Ratio -/
structure RCls (K : PySem.W.Frag) (mg : Str → Option Value) (C fI fR : Addr) : Prop where
  cl : Cls K C
  nT : NoAttr K C "_top"
  nB : NoAttr K C "_bottom"
  mgC : mg "Ratio" = some (.ref C)
  make : Mk K C fI
  rpA : PySem.W.findIn K (.ref C) "__repr__" = some (some (.ref fR))
  rpF : PySem.W.isFn K (.ref fR) = true
  isA : PySem.W.findIn K (.ref C) "__class__" = some (some (.builtin "object.__class__"))
  isN : PySem.W.specialIn K (.builtin "object.__class__") "__get__" = some (some (.builtin "getset_descriptor.__get__"))
  isT : PySem.W.takesIn K (.builtin "object.__class__") = some true
  isM : PySem.W.mroIn K C (.type "object") = some true
  kI : PySem.W.kitOne K (.ref C) (.type "int") = some false
  kB : PySem.W.kitOne K (.ref C) (.type "bool") = some false
  kL : PySem.W.kitOne K (.ref C) (.type "list") = some false
  kT : PySem.W.kitOne K (.ref C) (.type "tuple") = some false
/-- behind __init__: the instance at p holds top and bottom -/
def spRI (C : Addr) : Sp := fun vs H Q _ => ∃ (p dx : Addr) (t b : Int), vs = [.ref p, .int t, .int b] ∧ RdI t b ∧ H p = some (.ins C dx []) ∧ ∀ H', (∀ b o, b ≠ p → H b = some o → H' b = some o) → H' p = some (.ins C dx [("_top", .int t), ("_bottom", .int b)]) → Q .non H'
def spRR (C : Addr) : Sp := spRp fun a H t => ∃ p q, Rat2 C H a p q ∧ okI p ∧ okI q ∧ t = ratText p q
/-- a def's facts, with defaults -/
structure RDef (P : Program) (w : World) (K : PySem.W.Frag) (mg : Str → Option Value) (base : Heap) (k : Nat) (C : Addr) : Prop where
  ex : ∃ (fI fR : Addr) (fdI fdR : FuncData), RCls K mg C fI fR ∧ FnOk P w K mg base CX0 k fI fdI ["self", "top", "bottom"] (spRI C) ∧ (∃ ds, Vals [V.int 1] ds ∧ Binds K fdI ["self", "top", "bottom"] ds) ∧ Binds K fdI ["self", "top", "bottom"] [] ∧
    FnOk P w K mg base CX0 k fR fdR ["self"] (spRR C) ∧ Binds K fdR ["self"] []
section
variable {X : Cx} {C : Addr} {k : Nat}
theorem RDef.own (D : RDef X.prog X.w X.K X.mg X.base k C) (hr : Room (k + 1) X.A) : OwnRp X C k := by
  obtain ⟨fI, fR, fdI, fdR, R, _, _, _, FR, bR⟩ := D.ex
  constructor
  · intro H0 Cl a p q r b1 b2
    obtain ⟨dx, e⟩ := id r
    exact RpG.ins FR R.rpA R.rpF bR (pass0 (X := X)) e fun H sm => ⟨p, q, r.same sm, b1, b2, rfl⟩
  · intro pins s σ H a p q I r b1 b2
    obtain ⟨dx, e⟩ := id r
    exact top_own FR R.rpA R.rpF bR (pass0 (X := X)) hr I e ⟨p, q, r, b1, b2, rfl⟩
/-- Ratio(e) -/
def tRat (C : Addr) (t : TA) : TE := fun σ H Q => t σ H fun vs H1 => ∃ i : Int, vs = [.int i] ∧ ∀ a H', H1 a = none → Same H1 H' → Rat2 C H' a i 1 → Q (.ref a) H'
theorem pe_rat (D : RDef X.prog X.w X.K X.mg X.base k C) (hr : Room (k + 1) X.A) {p pos : Pos} {e : Expr} {es : List Expr} {t : TA} (hg : Gl X "Ratio") (ha : PA X (e :: es) t)
    (he : starEach (e :: es) X.env = (false, eval e X.env) :: starEach es X.env := by rfl) (hpl : (backTo pos (starEach es X.env)).any (·.1) = false := by rfl) : PE X (.Call (.Name "Ratio" p) (e :: es) [] pos) (tRat C t) := by
  obtain ⟨fI, fR, fdI, fdR, R, FI, ⟨ds, hds, bI⟩, _⟩ := D.ex
  refine ⟨fun pins s σ H Q I h => ?_⟩
  refine wpAny_Call_Name_kw (ld_glob I hg R.mgC ?_ (by decide))
  refine PySem.W.callWith_K (h₀ := X.base) I.ok.mod.kin R.make.kp (thn (ha.run pos pins s σ H _ I h) fun us s1 ⟨vs, H1, I1, r, q⟩ => ⟨I1.kIn, ?_⟩) he hpl
  refine run_make R.make FI hr bI hds (pass0 (X := X)) I1 r fun x dx nx ndx ne => ?_
  obtain ⟨i, rfl, q⟩ := q
  refine ⟨x, dx, i, 1, rfl, rdI_one i, upd_same, fun H' kp hx => ⟨rfl, q x H' nx (fun b o e => ?_) ⟨dx, hx⟩⟩⟩
  have n1 := ne_of_none e nx
  exact kp b o n1 (by rw [upd_ne n1, upd_ne (ne_of_none e ndx)]; exact e)
/-- Ratio(e, f) in lowest terms -/
def tRat2 (C : Addr) (t : TA) : TE := fun σ H Q => t σ H fun vs H1 => ∃ i j : Int, vs = [.int i, .int j] ∧ RdI i j ∧ ∀ a H', H1 a = none → Same H1 H' → Rat2 C H' a i j → Q (.ref a) H'
theorem pe_rat2 (D : RDef X.prog X.w X.K X.mg X.base k C) (hr : Room (k + 1) X.A) {p pos : Pos} {e : Expr} {es : List Expr} {t : TA} (hg : Gl X "Ratio") (ha : PA X (e :: es) t)
    (he : starEach (e :: es) X.env = (false, eval e X.env) :: starEach es X.env := by rfl) (hpl : (backTo pos (starEach es X.env)).any (·.1) = false := by rfl) : PE X (.Call (.Name "Ratio" p) (e :: es) [] pos) (tRat2 C t) := by
  obtain ⟨fI, fR, fdI, fdR, R, FI, _, bI, _⟩ := D.ex
  refine ⟨fun pins s σ H Q I h => ?_⟩
  refine wpAny_Call_Name_kw (ld_glob I hg R.mgC ?_ (by decide))
  refine PySem.W.callWith_K (h₀ := X.base) I.ok.mod.kin R.make.kp (thn (ha.run pos pins s σ H _ I h) fun us s1 ⟨vs, H1, I1, r, q⟩ => ⟨I1.kIn, ?_⟩) he hpl
  refine run_make (dvs := []) R.make FI hr bI .nil (pass0 (X := X)) I1 r fun x dx nx ndx ne => ?_
  obtain ⟨i, j, rfl, rd, q⟩ := q
  refine ⟨x, dx, i, j, rfl, rd, upd_same, fun H' kp hx => ⟨rfl, q x H' nx (fun b o e => ?_) ⟨dx, hx⟩⟩⟩
  have n1 := ne_of_none e nx
  exact kp b o n1 (by rw [upd_ne n1, upd_ne (ne_of_none e ndx)]; exact e)
end
end Fp

namespace Fp
open PySem PySem.Spec PyProof.Rows L2
/-! ### any value -/
def isI : V → Bool
  | .int _ => true
  | _ => false
def isB : V → Bool
  | .bl _ => true
  | _ => false
def isCnt : V → Bool
  | .int i => decide (0 ≤ i)
  | _ => false
def toZ : V → Int
  | .int i => i
  | _ => 0
/-- the items of a list or a tuple -/
def itemsOf (H : Hp) : V → Option (List V)
  | .ref a => match H a with
    | some (.lst xs) => some xs
    | some (.tup xs) => some xs
    | _ => none
  | _ => none
/-- how long a text may be -/
def Bz (d : Nat) : Nat := if d = 0 then 600 else if d = 1 then 36200 else if d = 2 then 2180000 else 16000000
theorem Bz_mono {d e : Nat} (h : d ≤ e) : Bz d ≤ Bz e := by unfold Bz; (repeat' split) <;> omega
theorem Bz_size (d : Nat) : Bz d ≤ sizeLine := by rw [sizeLine_eq]; unfold Bz; (repeat' split) <;> omega
theorem Bz_ge (d : Nat) : 600 ≤ Bz d := by unfold Bz; (repeat' split) <;> omega
def Sk (C : Addr) (H : Hp) (d : Nat) (x : V) : Prop := ∃ t, Sh C H d x t ∧ t.length ≤ Bz d
theorem okI_small {i : Int} (h : i.natAbs < 10 ^ 30) : okS i := h
theorem int_short {i : Int} (h : okS i) : (Str.ofString (toString i)).length ≤ 31 := by
  have := PySem.int_text_length_le10 (a := i) (k := 30) (by omega) h
  have e : (Str.ofString (toString i)).length = (toString i).length := by
    rw [congrFun Str.ofString_eq_byList]
    unfold Str.ofStringByList Str.length
    simp
    try first | rfl | exact String.length_toList
  omega
theorem Sh.more {C : Addr} {H : Hp} {d : Nat} {x : V} {t : Str} (h : Sh C H d x t) : ∀ {e : Nat}, d ≤ e → Sh C H e x t := by
  induction h with
  | int h => exact fun _ => .int h
  | bl b => exact fun _ => .bl b
  | non => exact fun _ => .non
  | str x h => exact fun _ => .str x h
  | own r h1 h2 h3 => exact fun _ => .own r h1 h2 h3
  | lst h1 h0 h2 _ ih =>
    intro e le
    cases e with
    | zero => omega
    | succ e => exact .lst h1 h0 h2 fun i x t a b => ih i x t a b (by omega)
  | tup h1 h0 h2 _ ih =>
    intro e le
    cases e with
    | zero => omega
    | succ e => exact .tup h1 h0 h2 fun i x t a b => ih i x t a b (by omega)
  | dct h1 h0 h2 =>
    intro e le
    cases e with
    | zero => omega
    | succ e => exact .dct h1 h0 h2
  | dcl h1 h2 h3 h4 h5 =>
    intro e le
    match e, le with
    | e + 2, le => exact .dcl h1 h2 h3 h4 h5
    | 0, le => omega
    | 1, le => omega
section
variable {C : Addr} {H H' : Hp} {d : Nat} {x : V}
theorem Sk.same (h : Sk C H d x) (e : Same H H') : Sk C H' d x := let ⟨t, h, l⟩ := h; ⟨t, h.same e, l⟩
theorem Sk.more {e : Nat} (h : Sk C H d x) (le : d ≤ e) : Sk C H e x := let ⟨t, h, l⟩ := h; ⟨t, h.more le, Nat.le_trans l (Bz_mono le)⟩
theorem Sk.int {i : Int} (h : okS i) : Sk C H d (.int i) := ⟨_, .int h, by have := int_short h; have := Bz_ge d; omega⟩
theorem Sk.bl (b : Bool) : Sk C H d (.bl b) := ⟨_, .bl b, by have := Bz_ge d; cases b <;> exact Nat.le_trans (by decide) this⟩
theorem Sk.non : Sk C H d .non := ⟨_, .non, Nat.le_trans (by decide) (Bz_ge d)⟩
theorem Sk.str {x : Str} (h : (reprText x).length ≤ 600) : Sk C H d (.str x) := ⟨_, .str x (by omega), Nat.le_trans h (Bz_ge d)⟩
theorem Sk.own {a : Addr} {p q : Int} (r : Rat2 C H a p q) (h1 : okS p) (h2 : okS q) (h3 : RdI p q) : Sk C H d (.ref a) := ⟨_, .own r h1 h2 h3, by
  have := int_short h1
  have := int_short h2
  have := Bz_ge d
  unfold ratText
  rw [strLen_append, strLen_append, strLen_append, strLen_append]
  have e1 : (Str.ofString "Ratio(").length = 6 := rfl
  have e2 : (Str.ofString ", ").length = 2 := rfl
  have e3 : (Str.ofString ")").length = 1 := rfl
  omega⟩
theorem texts {xs : List V} (h : ∀ x ∈ xs, Sk C H d x) : ∃ ts : List Str, ts.length = xs.length ∧ (∀ t ∈ ts, t.length ≤ Bz d) ∧ ∀ (i : Nat) x t, xs[i]? = some x → ts[i]? = some t → Sh C H d x t := by
  induction xs with
  | nil => exact ⟨[], rfl, (fun t h => by cases h), fun i x t h => by simp at h⟩
  | cons x xs ih =>
    obtain ⟨t, ht, l0⟩ := h x List.mem_cons_self
    obtain ⟨ts, l, bs, hs⟩ := ih fun y hy => h y (List.mem_cons_of_mem _ hy)
    refine ⟨t :: ts, by rw [List.length_cons, List.length_cons, l], fun u hu => ?_, fun i y u h1 h2 => ?_⟩
    · rcases List.mem_cons.mp hu with z | z
      · rw [z]; exact l0
      · exact bs u z
    cases i with
    | zero =>
      simp at h1 h2
      subst h1 h2
      exact ht
    | succ i => exact hs i y u (by simpa using h1) (by simpa using h2)
/-- how many items a list of depth d + 1 may have -/
def Nz (d : Nat) : Nat := if d ≤ 1 then 60 else if d = 2 then 7 else 0
theorem Nz_60 (d : Nat) : Nz d ≤ 60 := by unfold Nz; (repeat' split) <;> omega
theorem Nz_le (h : d ≤ 1) : Nz d = 60 := if_pos h
theorem Bz_up : ∀ {d n : Nat}, n ≤ Nz d → n * (Bz d + 2) + 3 ≤ Bz (d + 1)
  | 0, n, h => by
    have h2 : n ≤ 60 := h
    show n * (600 + 2) + 3 ≤ 36200
    omega
  | 1, n, h => by
    have h2 : n ≤ 60 := h
    show n * (36200 + 2) + 3 ≤ 2180000
    omega
  | 2, n, h => by
    have h2 : n ≤ 7 := h
    show n * (2180000 + 2) + 3 ≤ 16000000
    omega
  | d + 3, n, h => by
    have h2 : n ≤ 0 := by unfold Nz at h; rw [if_neg (by omega), if_neg (by omega)] at h; exact h
    obtain rfl := Nat.le_zero.mp h2
    have := Bz_ge (d + 3 + 1)
    omega
theorem Sk.lstN {a : Addr} {xs : List V} (h : H a = some (.lst xs)) (l : xs.length ≤ Nz d) (hx : ∀ x ∈ xs, Sk C H d x) : Sk C H (d + 1) (.ref a) := by
  obtain ⟨ts, h1, b, h2⟩ := texts hx
  refine ⟨_, .lst h (Nat.le_trans l (Nz_60 d)) h1 h2, ?_⟩
  have := listText_le ts
  have := piled_all b
  have := Bz_up (n := ts.length) (h1 ▸ l)
  omega
theorem Sk.tupN {a : Addr} {xs : List V} (h : H a = some (.tup xs)) (l : xs.length ≤ Nz d) (hx : ∀ x ∈ xs, Sk C H d x) : Sk C H (d + 1) (.ref a) := by
  obtain ⟨ts, h1, b, h2⟩ := texts hx
  refine ⟨_, .tup h (Nat.le_trans l (Nz_60 d)) h1 h2, ?_⟩
  have := tupleText_le ts
  have := piled_all b
  have := Bz_up (n := ts.length) (h1 ▸ l)
  omega
theorem Sk.lst {a : Addr} {xs : List V} (h : H a = some (.lst xs)) (l : xs.length ≤ 60) (hx : ∀ x ∈ xs, Sk C H d x) (hd : d ≤ 1 := by omega) : Sk C H (d + 1) (.ref a) := Sk.lstN h (by rw [Nz_le hd]; exact l) hx
theorem Sk.tup {a : Addr} {xs : List V} (h : H a = some (.tup xs)) (l : xs.length ≤ 60) (hx : ∀ x ∈ xs, Sk C H d x) (hd : d ≤ 1 := by omega) : Sk C H (d + 1) (.ref a) := Sk.tupN h (by rw [Nz_le hd]; exact l) hx
theorem Sk.sh (h : Sk C H d x) : ∃ t, Sh C H d x t ∧ t.length ≤ sizeLine := let ⟨t, h, l⟩ := h; ⟨t, h, Nat.le_trans l (Bz_size d)⟩
theorem itemsOf_same (h : Sk C H d x) (e : Same H H') : itemsOf H' x = itemsOf H x := by
  obtain ⟨t, h, _⟩ := h
  cases h with
  | int h => rfl
  | bl b => rfl
  | non => rfl
  | str x h => rfl
  | own r h1 h2 =>
    obtain ⟨dx, r⟩ := r
    unfold itemsOf
    simp only [r, e _ _ r]
  | lst h1 => unfold itemsOf; simp only [h1, e _ _ h1]
  | tup h1 => unfold itemsOf; simp only [h1, e _ _ h1]
  | dct h1 => unfold itemsOf; simp only [h1, e _ _ h1]
  | dcl h1 => unfold itemsOf; simp only [h1, e _ _ h1]
/-- a list or a tuple, or neither -/
theorem Sk.items (h : Sk C H d x) {xs : List V} (e : itemsOf H x = some xs) : ∃ a, x = .ref a ∧ (H a = some (.lst xs) ∨ H a = some (.tup xs)) ∧ xs.length ≤ 60 ∧ ∀ y ∈ xs, Sk C H d y := by
  obtain ⟨t, h, lt⟩ := h
  cases h with
  | int h => cases e
  | bl b => cases e
  | non => cases e
  | str x h => cases e
  | own r h1 h2 =>
    obtain ⟨dx, r⟩ := r
    unfold itemsOf at e
    simp only [r] at e
    cases e
  | @lst d a ys ts h1 h0 h2 h3 =>
    unfold itemsOf at e
    simp only [h1] at e
    obtain rfl := Option.some.inj e
    refine ⟨a, rfl, .inl h1, h0, fun y hy => ?_⟩
    obtain ⟨i, hi⟩ := List.getElem?_of_mem hy
    have l := (List.getElem?_eq_some_iff.mp hi).1
    have e2 := List.getElem?_eq_getElem (h2 ▸ l : i < ts.length)
    have p0 := piled_le_listText ts
    have p1 := piled_take_succ e2
    have p2 := piled_take_le ts (i + 1)
    exact ⟨_, (h3 i y _ hi e2).more (Nat.le_succ d), by omega⟩
  | @tup d a ys ts h1 h0 h2 h3 =>
    unfold itemsOf at e
    simp only [h1] at e
    obtain rfl := Option.some.inj e
    refine ⟨a, rfl, .inr h1, h0, fun y hy => ?_⟩
    obtain ⟨i, hi⟩ := List.getElem?_of_mem hy
    have l := (List.getElem?_eq_some_iff.mp hi).1
    have e2 := List.getElem?_eq_getElem (h2 ▸ l : i < ts.length)
    have p0 := piled_le_tupleText ts
    have p1 := piled_take_succ e2
    have p2 := piled_take_le ts (i + 1)
    exact ⟨_, (h3 i y _ hi e2).more (Nat.le_succ d), by omega⟩
  | dct h1 =>
    unfold itemsOf at e
    simp only [h1] at e
    cases e
  | dcl h1 =>
    unfold itemsOf at e
    simp only [h1] at e
    cases e
theorem kit_seqs {K : PySem.W.Frag} {t : String} (h1 : kitB t "list" = some false) (h2 : kitB t "tuple" = some false) : PySem.W.kitAny K (.type t) [.type "list", .type "tuple"] = some false :=
  kitAny_cons (kit_ty (r := false) h1) (fun _ => kitAny_cons (kit_ty (r := false) h2) (fun _ => rfl) (fun z => nomatch z)) (fun z => nomatch z)
/-- its type, and what isinstance says -/
theorem Sk.kit {K : PySem.W.Frag} {mg : Str → Option Value} {fI fR : Addr} (h : Sk C H d x) (R : RCls K mg C fI fR) :
    ∃ ty, TyX K H x ty ∧ PySem.W.kitOne K ty (.type "int") = some (isI x || isB x) ∧ PySem.W.kitOne K ty (.type "bool") = some (isB x) ∧ PySem.W.kitAny K ty [.type "list", .type "tuple"] = some (itemsOf H x).isSome := by
  obtain ⟨t, h, lt⟩ := h
  cases h with
  | int h => exact ⟨_, .base (.int _), kit_ty (r := true) (by decide +kernel), kit_ty (r := false) (by decide +kernel), kit_seqs (by decide +kernel) (by decide +kernel)⟩
  | bl b => exact ⟨_, .base (.bl _), kit_ty (r := true) (by decide +kernel), kit_ty (r := true) (by decide +kernel), kit_seqs (by decide +kernel) (by decide +kernel)⟩
  | non => exact ⟨_, .base .non, kit_ty (r := false) (by decide +kernel), kit_ty (r := false) (by decide +kernel), kit_seqs (by decide +kernel) (by decide +kernel)⟩
  | str x h => exact ⟨_, .base (.str _), kit_ty (r := false) (by decide +kernel), kit_ty (r := false) (by decide +kernel), kit_seqs (by decide +kernel) (by decide +kernel)⟩
  | @own d a p q r h1 h2 _ =>
    obtain ⟨dx, r⟩ := r
    refine ⟨_, .base (.ins r R.cl R.isA R.isN R.isT R.isM), R.kI, R.kB, ?_⟩
    have e : (itemsOf H (.ref a)).isSome = false := by unfold itemsOf; simp only [r]; rfl
    rw [e]
    exact kitAny_cons R.kL (fun _ => kitAny_cons R.kT (fun _ => rfl) (fun z => nomatch z)) (fun z => nomatch z)
  | @lst d a xs ts h1 h0 h2 h3 =>
    refine ⟨_, .base (.lst h1), kit_ty (r := false) (by decide +kernel), kit_ty (r := false) (by decide +kernel), ?_⟩
    have e : (itemsOf H (.ref a)).isSome = true := by unfold itemsOf; simp only [h1]; rfl
    rw [e]
    exact kit_lt.1
  | @tup d a xs ts h1 h0 h2 h3 =>
    refine ⟨_, .base (.tup h1), kit_ty (r := false) (by decide +kernel), kit_ty (r := false) (by decide +kernel), ?_⟩
    have e : (itemsOf H (.ref a)).isSome = true := by unfold itemsOf; simp only [h1]; rfl
    rw [e]
    exact kit_lt.2
  | @dct d a ds h1 h0 h2 =>
    refine ⟨_, .base (.dK h1), kit_ty (r := false) (by decide +kernel), kit_ty (r := false) (by decide +kernel), ?_⟩
    have e : (itemsOf H (.ref a)).isSome = false := by unfold itemsOf; simp only [h1]; rfl
    rw [e]
    exact kit_seqs (by decide +kernel) (by decide +kernel)
  | @dcl d a b k n ns h1 h2 =>
    refine ⟨_, .base (.dK h1), kit_ty (r := false) (by decide +kernel), kit_ty (r := false) (by decide +kernel), ?_⟩
    have e : (itemsOf H (.ref a)).isSome = false := by unfold itemsOf; simp only [h1]; rfl
    rw [e]
    exact kit_seqs (by decide +kernel) (by decide +kernel)
end
end Fp

namespace Fp
open PySem PySem.Spec PyProof.Rows L2
/-- the heap without some objects -/
def wos (S : List Addr) (H : Hp) : Hp := fun b => if b ∈ S then none else H b
theorem wos_ne {S : List Addr} {b : Addr} {H : Hp} (h : b ∉ S) : wos S H b = H b := if_neg h
theorem wos_some {S : List Addr} {b : Addr} {H : Hp} {o : HO} : wos S H b = some o ↔ b ∉ S ∧ H b = some o := by
  unfold wos
  by_cases h : b ∈ S
  · rw [if_pos h]; exact ⟨fun z => (by cases z), fun z => absurd h z.1⟩
  · rw [if_neg h]; exact ⟨fun z => ⟨h, z⟩, fun z => z.2⟩
theorem wos_same {S : List Addr} {H H' : Hp} (e : Same H H') : Same (wos S H) (wos S H') := fun b o q => by
  obtain ⟨h1, h2⟩ := wos_some.mp q
  exact wos_some.mpr ⟨h1, e _ _ h2⟩
theorem wos_le {S : List Addr} {H : Hp} : Same (wos S H) H := fun b o q => (wos_some.mp q).2
def Kn (S : List Addr) (H : Hp) : Prop := ∀ s ∈ S, H s ≠ none
theorem Kn.same {S : List Addr} {H H' : Hp} (h : Kn S H) (e : Same H H') : Kn S H' := fun s hs z => by
  cases q : H s with
  | none => exact h s hs q
  | some o => rw [e _ _ q] at z; cases z
theorem Kn.new {S : List Addr} {H : Hp} {a : Addr} (h : Kn S H) (na : H a = none) : a ∉ S := fun hs => h a hs na
theorem wos_sub {S T : List Addr} {H : Hp} (h : ∀ b, b ∈ T → b ∈ S ∨ H b = none) : Same (wos S H) (wos T H) := fun b o q => by
  obtain ⟨h1, h2⟩ := wos_some.mp q
  exact wos_some.mpr ⟨fun z => (h b z).elim h1 fun e => (by rw [e] at h2; cases h2), h2⟩
/-! ### what an expression makes, if it only makes -/
def Gv (t : TE) (σ : L2.St) (H : Hp) (φ : V → Hp → Prop) : Prop := ∀ Q : VK, (∀ v H', Same H H' → φ v H' → Q v H') → t σ H Q
def GvA (t : TA) (σ : L2.St) (H : Hp) (φ : List V → Hp → Prop) : Prop := ∀ Q : List V → Hp → Prop, (∀ vs H', Same H H' → φ vs H' → Q vs H') → t σ H Q
section
variable {C : Addr} {S : List Addr} {K : PySem.W.Frag} {σ : L2.St} {H : Hp} {d e n m : Nat} {t t1 t2 : TE} {ts : TA}
abbrev GvS (C : Addr) (S : List Addr) (d : Nat) (t : TE) (σ : L2.St) (H : Hp) : Prop := Gv t σ H fun v H' => Sk C (wos S H') d v
abbrev GvSA (C : Addr) (S : List Addr) (d n : Nat) (t : TA) (σ : L2.St) (H : Hp) : Prop := GvA t σ H fun vs H' => vs.length = n ∧ ∀ v ∈ vs, Sk C (wos S H') d v
def LsV (C : Addr) (S : List Addr) (d n : Nat) (v : V) (H : Hp) : Prop := ∃ a ys, v = .ref a ∧ a ∉ S ∧ H a = some (.lst ys) ∧ ys.length ≤ n ∧ ∀ y ∈ ys, Sk C (wos S H) d y
abbrev GvL (C : Addr) (S : List Addr) (d n : Nat) (t : TE) (σ : L2.St) (H : Hp) : Prop := Gv t σ H fun v H' => LsV C S d n v H'
theorem LsV.same {v : V} {H' : Hp} (h : LsV C S d n v H) (s : Same H H') : LsV C S d n v H' := let ⟨a, ys, e1, e2, e3, e4, e5⟩ := h; ⟨a, ys, e1, e2, s _ _ e3, e4, fun y hy => (e5 y hy).same (wos_same s)⟩
theorem LsV.skN {v : V} (h : LsV C S d n v H) (hn : n ≤ Nz d) : Sk C (wos S H) (d + 1) v := by
  obtain ⟨a, ys, rfl, e2, e3, e4, e5⟩ := h
  exact Sk.lstN (by rw [wos_ne e2]; exact e3) (Nat.le_trans e4 hn) e5
theorem LsV.sk {v : V} (h : LsV C S d n v H) (hn : n ≤ 60) (hd : d ≤ 1 := by omega) : Sk C (wos S H) (d + 1) v := h.skN (by rw [Nz_le hd]; exact hn)
theorem LsV.more {v : V} (h : LsV C S d n v H) (hd : d ≤ e) (hn : n ≤ m) : LsV C S e m v H := let ⟨a, ys, e1, e2, e3, e4, e5⟩ := h; ⟨a, ys, e1, e2, e3, by omega, fun y hy => (e5 y hy).more hd⟩
theorem Gv.imp {φ ψ : V → Hp → Prop} (h : Gv t σ H φ) (k : ∀ v H', Same H H' → φ v H' → ψ v H') : Gv t σ H ψ := fun Q q => h Q fun v H' s f => q v H' s (k v H' s f)
theorem GvL.sN (h : GvL C S d n t σ H) (hn : n ≤ Nz d) : GvS C S (d + 1) t σ H := Gv.imp h fun v H' s f => f.skN hn
theorem GvL.s (h : GvL C S d n t σ H) (hn : n ≤ 60) (hd : d ≤ 1 := by omega) : GvS C S (d + 1) t σ H := Gv.imp h fun v H' s f => f.sk hn hd
theorem gvs_c {v : V} (h : ∀ H', Sk C H' d v) : GvS C S d (tC v) σ H := fun Q q => q v H (Same.refl _) (h _)
theorem gv_nil : GvSA C S d 0 tNil σ H := fun Q q => q [] H (Same.refl _) ⟨rfl, fun v h => by cases h⟩
theorem gv_cons (h1 : GvS C S d t σ H) (h2 : ∀ H1, Same H H1 → GvSA C S d n ts σ H1) : GvSA C S d (n + 1) (tCons t ts) σ H := fun Q q =>
  h1 _ fun v H1 s1 f1 => h2 H1 s1 _ fun vs H2 s2 f2 => q (v :: vs) H2 (s1.trans s2) ⟨by rw [List.length_cons, f2.1], fun x hx => by
    rcases List.mem_cons.mp hx with z | z
    · rw [z]; exact f1.same (wos_same s2)
    · exact f2.2 x z⟩
theorem gvl_lst (hp : Kn S H) (hn : n ≤ 1000) (h : GvSA C S d n ts σ H) : GvL C S d n (tLst ts) σ H := fun Q q =>
  h _ fun vs H1 s1 f1 => ⟨by rw [f1.1, sizeLine_eq]; omega, fun a na => by
    have np : a ∉ S := (hp.same s1).new na
    exact q _ _ (s1.trans (same_new na)) ⟨a, vs, rfl, np, upd_same, by rw [f1.1]; exact Nat.le_refl _, fun y hy => (f1.2 y hy).same (wos_same (same_new na))⟩⟩
theorem gvl_cat (hp : Kn S H) (hn : n + m ≤ 1000) (h1 : GvL C S d n t1 σ H) (h2 : ∀ H1, Same H H1 → GvL C S d m t2 σ H1) : GvL C S d (n + m) (tOp rCat t1 t2) σ H := fun Q q =>
  h1 _ fun v H1 s1 f1 => h2 H1 s1 _ fun u H2 s2 f2 => by
    obtain ⟨a, ys, rfl, e2, e3, e4, e5⟩ := f1.same s2
    obtain ⟨b, zs, rfl, g2, g3, g4, g5⟩ := f2
    refine ⟨a, b, ys, zs, rfl, rfl, e3, g3, by rw [sizeLine_eq]; omega, fun c nc => ?_⟩
    have s12 := s1.trans s2
    have np : c ∉ S := (hp.same s12).new nc
    exact q _ _ (s12.trans (same_new nc)) ⟨c, ys ++ zs, rfl, np, upd_same, by rw [List.length_append]; omega, fun y hy => by
      rcases List.mem_append.mp hy with z | z
      · exact (e5 y z).same (wos_same (same_new nc))
      · exact (g5 y z).same (wos_same (same_new nc))⟩
/-- a slice of a list that stands at the slot i -/
theorem gvl_sl {i : Nat} {W : Addr} {xs : List V} {lo hi : Option Int} {tlo thi : TO} (hv : ∀ H Q, Q (.ref W) H → tVar i σ H Q) (hlo : ∀ H (Q : Option Int → Hp → Prop), Q lo H → tlo σ H Q) (hhi : ∀ H (Q : Option Int → Hp → Prop), Q hi H → thi σ H Q) (hW : H W = some (.lst xs)) (hp : Kn S H)
    (hx : ∀ x ∈ xs, Sk C (wos S H) d x) (hn : xs.length ≤ n) : GvL C S d n (tSl (rSlL K) (tVar i) tlo thi) σ H := fun Q q =>
  hv _ _ (hlo _ _ (hhi _ _ ⟨W, xs, rfl, SqL.of hW, fun c nc => by
    have np : c ∉ S := hp.new nc
    refine q _ _ (same_new nc) ⟨c, _, rfl, np, upd_same, ?_, fun y hy => (hx y ?_).same (wos_same (same_new nc))⟩
    · exact Nat.le_trans (cutV_length _ _ _) hn
    · unfold cutV at hy
      exact List.mem_of_mem_drop (List.mem_of_mem_take hy)⟩))
theorem hv_of {i : Nat} {v : V} (h : σ[i]? = some (some v)) : ∀ H Q, Q v H → tVar i σ H Q := fun H Q q => ⟨v, h, q⟩
theorem hno : ∀ H (Q : Option Int → Hp → Prop), Q none H → tNoPart σ H Q := fun H Q q => q
theorem hpart {j : Nat} {s : Int} (h : σ[j]? = some (some (.int s))) : ∀ H (Q : Option Int → Hp → Prop), Q (some s) H → tPart (tVar j) σ H Q := fun H Q q => ⟨_, h, s, rfl, q⟩
theorem hpart1 {j : Nat} {s : Int} (h : σ[j]? = some (some (.int s))) : ∀ H (Q : Option Int → Hp → Prop), Q (some (s + 1)) H → tPart (tOp (rI0 fun i j => V.int (i + j)) (tVar j) (tC (V.int 1))) σ H Q := fun H Q q => ⟨_, h, s, 1, rfl, rfl, s + 1, rfl, q⟩
theorem gvs_var {i : Nat} {v : V} (h : σ[i]? = some (some v)) (hs : Sk C (wos S H) d v) : GvS C S d (tVar i) σ H := fun Q q => ⟨v, h, q v H (Same.refl _) hs⟩
theorem gvs_tup1 (hp : Kn S H) (h : GvS C S d t σ H) (hd : d ≤ 1 := by omega) : GvS C S (d + 1) (tTup (tCons t tNil)) σ H := fun Q q =>
  h _ fun v H1 s1 f1 => ⟨by show 1 ≤ sizeLine; decide, fun a na => by
    have np : a ∉ S := (hp.same s1).new na
    refine q _ _ (s1.trans (same_new na)) (Sk.tup (xs := [v]) (by rw [wos_ne np]; exact upd_same) (by simp) (fun y hy => ?_) hd)
    rw [List.mem_singleton.mp hy]
    exact f1.same (wos_same (same_new na))⟩
/-- a new list, its items shown without it -/
theorem gvl_lstW (hp : Kn S H) (hn : n ≤ 1000) (h : GvSA C S d n ts σ H) : Gv (tLst ts) σ H fun v H' => ∃ a ys, v = .ref a ∧ H a = none ∧ a ∉ S ∧ H' a = some (.lst ys) ∧ ys.length = n ∧ ∀ y ∈ ys, Sk C (wos (a :: S) H') d y := fun Q q =>
  h _ fun vs H1 s1 f1 => ⟨by rw [f1.1, sizeLine_eq]; omega, fun a na => by
    have np : a ∉ S := (hp.same s1).new na
    refine q _ _ (s1.trans (same_new na)) ⟨a, vs, rfl, s1.free na, np, upd_same, f1.1, fun y hy => (f1.2 y hy).same ?_⟩
    refine (wos_sub (T := a :: S) fun b hb => ?_).trans (wos_same (same_new na))
    rcases List.mem_cons.mp hb with z | z
    · exact .inr (z ▸ na)
    · exact .inl z⟩
/-- a comprehension over a list of ints, its elements ints or bools -/
theorem gvl_lc {g : TG} {te : TE} {vs : List Nat} {W : Addr} {ns : List Int} {i : Nat} (hv : σ[i]? = some (some (.ref W))) (hW : H W = some (.lst (ns.map V.int))) (hp : Kn S H) (hn : ns.length ≤ n) (h60 : n ≤ 60)
    (hs : ∀ (j : Nat) (x : Int) (H1 : Hp) (Yc : VK) (Nc : Hp → Prop), ns[j]? = some x → (∀ y, (∀ G, Sk C G d y) → Yc y H1) → g (.int x) (wipe σ vs) H1 fun σ2 H2 => wipe σ2 vs = wipe σ vs ∧ tYes σ2 H2 fun b H3 => if b = true then te σ2 H3 Yc else Nc H3) :
    GvL C S d n (tLc (iList K (tVar i)) g tYes te vs) σ H := fun Q q =>
  ⟨_, hv, W, rfl, ⟨_, SqL.of hW⟩, fun D hD => by
    refine lc_rel (walk_list (K := K) (a := W) (xs := ns.map V.int)) (fun i acc Hh => acc.length ≤ i ∧ ∀ y ∈ acc, ∀ G, Sk C G d y) hD (by rw [List.length_map, sizeLine_eq]; omega) (fun Hh sh => SqL.of (sh _ _ hW)) ⟨Nat.le_refl _, fun y hy => by cases hy⟩ (fun i acc A B e r => r)
      (fun j v acc Ha Hb hj sa ha hr hy Yc Nc yc nc => ?_) (fun acc H1 s1 hD1 hr => ?_)
    · obtain ⟨rfl, hx⟩ := hy
      rw [List.getElem?_map] at hx
      obtain ⟨x, hx', rfl⟩ := Option.map_eq_some_iff.mp hx
      exact hs j x Hb Yc Nc hx' fun y hy => yc y Hb (Same.refl _) ⟨by rw [List.length_append]; have := hr.1; simp only [List.length_cons, List.length_nil]; omega, fun u hu => by
        rcases List.mem_append.mp hu with w | w
        · exact hr.2 u w
        · rw [List.mem_singleton.mp w]; exact hy⟩
    · rw [List.length_map] at hr
      exact q _ _ s1 ⟨D, acc, rfl, hp.new hD, hD1, by omega, fun y hy => hr.2 y hy _⟩⟩
theorem ch_ofString (s : String) : ∀ c ∈ (Str.ofString s).cps.toList, c < 16 ^ 8 := fun c hc => by
  rw [congrFun Str.ofString_eq_byList s] at hc
  unfold Str.ofStringByList at hc
  simp only [List.mem_map] at hc
  obtain ⟨ch, _, rfl⟩ := hc
  have := ch.val.toNat_lt
  show ch.val.toNat < 16 ^ 8
  omega
theorem rt_int {i : Int} (h : i.natAbs < 10 ^ 30) : (reprText (Str.ofString (toString i))).length ≤ 600 := by
  have l := StrLaws.reprText_len (Str.ofString (toString i)) (ch_ofString _)
  have := int_short (i := i) h
  omega
theorem wos_upd {a : Addr} {o : HO} (h : a ∈ S) : wos S (upd H a o) = wos S H := by
  funext b
  unfold wos
  by_cases z : b ∈ S
  · rw [if_pos z, if_pos z]
  · rw [if_neg z, if_neg z, upd_ne (fun (e : b = a) => z (e ▸ h))]
theorem seq_asg {g : TG} {B : TS} {D : Ends} {φ : V → Hp → Prop} (h : Gv t σ H φ) (k : ∀ v H', Same H H' → φ v H' → g v σ H' fun σ2 H2 => B D σ2 H2) : tSeq (tAsg t g) B D σ H := h _ fun v H' s f => k v H' s f
theorem ret_gv {D : Ends} {φ : V → Hp → Prop} (h : Gv t σ H φ) (k : ∀ v H', Same H H' → φ v H' → D.rt v H') : tRet t D σ H := h _ fun v H' s f => k v H' s f
theorem seq_ext {B : TS} {D : Ends} {φ : V → Hp → Prop} {i : Nat} {f : Addr} {fs : List V} (hi : σ[i]? = some (some (.ref f))) (hf : H f = some (.lst fs)) (h : Gv t σ H φ)
    (k : ∀ v H', Same H H' → φ v H' → ∃ g gs, v = .ref g ∧ H' g = some (.lst gs) ∧ fs.length + gs.length ≤ 1000 ∧ B D σ (upd H' f (.lst (fs ++ gs)))) : tSeq (tDrop (tBM K "list" rExtend (tVar i) (tCons t tNil))) B D σ H :=
  ⟨_, hi, Or.inl ⟨rfl, _, SqL.of hf⟩, h _ fun v H' s ph => by
    obtain ⟨g, gs, rfl, hg, hz, q⟩ := k v H' s ph
    exact ⟨f, g, fs, gs, rfl, rfl, s _ _ hf, hg, by rw [sizeLine_eq]; omega, q⟩⟩
end
end Fp

namespace Fp
open PySem PySem.Spec PyProof.Rows L2
/-! ### str(..) of data, and more that only makes -/
theorem cr_strD {X : Cx} (hu : X.A.units + 64 < cLine) (hg : X.A.guards = some []) : CallR X (.type "str") (rRepr X.K) := by
  intro pins s σ H xs us Q I r h
  obtain ⟨a, d, rfl, hd, h1, h2, h3, h4, q⟩ := h
  rw [Vals.ref1 r]
  obtain ⟨as, hr⟩ := Dp.reads I d _ (.ref a) hd rfl
  refine str_of_reads hr h1 (fun z => by rw [h2] at z; cases z) hg (by omega) (fun _ _ e => e) (fun h' u tk k => ?_) h4
  exact ⟨.str d.shown, H, I.kept (t' := tk) k, ⟨u, rfl⟩, q⟩
def ChOk (x : Str) : Prop := ∀ c ∈ x.cps.toList, c < 16 ^ 8
theorem ChOk.app {x y : Str} (h1 : ChOk x) (h2 : ChOk y) : ChOk (x ++ y) := fun c hc => by
  have e : (x ++ y).cps.toList = x.cps.toList ++ y.cps.toList := by
    show (x.cps ++ y.cps).toList = _
    exact Array.toList_append
  rw [e] at hc
  exact (List.mem_append.mp hc).elim (h1 c) (h2 c)
theorem ChOk.of (s : String) : ChOk (Str.ofString s) := ch_ofString s
theorem ChOk.from : ∀ (ts : List Str) (k : Nat) (acc : Str), ChOk acc → (∀ t ∈ ts, ChOk t) → ChOk (textFrom k acc ts)
  | [], _, acc, h, _ => h
  | t :: ts, k, acc, h, g => ChOk.from ts (k + 1) _ ((h.app (ChOk.of _)).app (g t List.mem_cons_self)) fun x hx => g x (List.mem_cons_of_mem _ hx)
theorem ChOk.list {ts : List Str} (h : ∀ t ∈ ts, ChOk t) : ChOk (listText ts) := (ChOk.from ts 0 _ (ChOk.of "[") h).app (ChOk.of "]")
theorem ChOk.ints : ∀ ns : List Int, ∀ t ∈ PyData.shownAll (ns.map PyData.int), ChOk t
  | [], t, h => by simp only [List.map_nil, PyData.shownAll] at h; exact nomatch h
  | n :: r, t, h => by
    simp only [List.map_cons, PyData.shownAll] at h
    rcases List.mem_cons.mp h with z | z
    · rw [z]; simp only [PyData.shown]; exact ChOk.of _
    · exact ChOk.ints r t z
theorem shown_ints (ns : List Int) : ChOk (PyData.shown (.list (ns.map PyData.int))) := by
  simp only [PyData.shown]
  exact ChOk.list (ChOk.ints ns)
section
variable {C : Addr} {S : List Addr} {K : PySem.W.Frag} {σ : L2.St} {H : Hp} {d e n m : Nat} {t t1 t2 : TE} {ts : TA}
theorem gvl_rev {i : Nat} {W : Addr} {xs : List V} (hv : σ[i]? = some (some (.ref W))) (hW : SqL K H W xs) (hp : Kn S H) (hx : ∀ x ∈ xs, Sk C (wos S H) d x) (hn : xs.length ≤ n) : GvL C S d n (tRevL K (tVar i)) σ H := fun Q q =>
  ⟨_, hv, W, xs, rfl, hW, fun c nc => by
    have np : c ∉ S := hp.new nc
    exact q _ _ (same_new nc) ⟨c, _, rfl, np, upd_same, by rw [List.length_reverse]; exact hn, fun y hy => (hx y (List.mem_reverse.mp hy)).same (wos_same (same_new nc))⟩⟩
abbrev Hi (t : TE) (σ : L2.St) (H : Hp) (z : Int) : Prop := ∀ Q : VK, Q (.int z) H → t σ H Q
theorem gvl_rep {z : Nat} (hp : Kn S H) (h1 : GvL C S d 1 t1 σ H) (h2 : ∀ H1, Same H H1 → Hi t2 σ H1 (z : Int)) (hz : z ≤ n) (hn : n ≤ 60) : GvL C S d n (tOp rRep t1 t2) σ H := fun Q q =>
  h1 _ fun v H1 s1 f1 => h2 H1 s1 _ (by
    obtain ⟨a, ys, rfl, e2, e3, e4, e5⟩ := f1
    refine ⟨a, (z : Int), ys, rfl, rfl, e3, by omega, by omega, ?_, fun c nc => ?_⟩
    · rw [Int.toNat_natCast, sizeLine_eq]
      have := Nat.mul_le_mul e4 hz
      omega
    have np : c ∉ S := (hp.same s1).new nc
    refine q _ _ (s1.trans (same_new nc)) ⟨c, _, rfl, np, upd_same, ?_, fun y hy => ?_⟩
    · rw [Int.toNat_natCast, List.length_flatten, List.map_replicate, List.sum_replicate_nat]
      have := Nat.mul_le_mul hz e4
      omega
    · obtain ⟨l, hl, hy2⟩ := List.mem_flatten.mp hy
      rw [(List.mem_replicate.mp hl).2] at hy2
      exact (e5 y hy2).same (wos_same (same_new nc)))
theorem gvs_dict0 (hp : Kn S H) : GvS C S (d + 1) tDNewK σ H := fun Q q => fun c nc => by
  have np : c ∉ S := hp.new nc
  exact q _ _ (same_new nc) ⟨_, Sh.dct (ds := []) (by rw [wos_ne np]; exact upd_same) (by simp) (fun p hp => by cases hp), Nat.le_trans (by decide) (Bz_ge (d + 1))⟩
theorem gvs_disp1 {tk tv : TE} {k v : Int} (hp : Kn S H) (hk : ∀ H1, Same H H1 → Hi tk σ H1 k) (hv : ∀ H1, Same H H1 → Hi tv σ H1 v) (ok : okS k) (ov : okS v) : GvS C S (d + 1) (tDisp [(tk, tv)]) σ H := fun Q q => fun c nc => by
  have np : c ∉ S := hp.new nc
  have s1 := same_new (o := .dK []) nc
  refine hk _ s1 _ (hv _ s1 _ ⟨upd_same, [(.inl k, .int v)], rfl, by simp, ?_⟩)
  rw [show mergeK [] [((Sum.inl k : L2.Key), V.int v)] = [((Sum.inl k : L2.Key), V.int v)] from rfl]
  refine q _ _ (fun b o e => ?_) ⟨_, Sh.dct (ds := [(k, v)]) (by rw [wos_ne np]; exact upd_same) (by simp) (fun p hp => by rw [List.mem_singleton.mp hp]; exact ⟨ok.ok, ov.ok⟩), by
    have l1 := int_short ok
    have l2 := int_short ov
    have l3 := dictText_le [dEnt (k, v)]
    have q : piled [dEnt (k, v)] = (dEnt (k, v)).length + 2 := by rw [piled_cons]; rfl
    have q2 : (dEnt (k, v)).length = (Str.ofString (toString k)).length + 2 + (Str.ofString (toString v)).length := by
      unfold dEnt
      rw [strLen_append, strLen_append]; rfl
    have b0 := Bz_ge (d + 1)
    show (dictText [dEnt (k, v)]).length ≤ _
    omega⟩
  have nb := ne_of_none e nc
  rw [upd_ne nb, upd_ne nb]; exact e
theorem gvs_rat {z : Int} (hp : Kn S H) (ht : Hi t σ H z) (oz : okS z) : GvS C S d (tRat C (tCons t tNil)) σ H := fun Q q =>
  ht _ ⟨z, rfl, fun a H' na sm r => q _ H' sm (Sk.own (by
    obtain ⟨dx, r⟩ := r
    exact ⟨dx, by rw [wos_ne (hp.new na)]; exact r⟩) oz (by decide) (rdI_one z))⟩
theorem gvs_int {z : Int} (ht : Hi t σ H z) (oz : okS z) : GvS C S d t σ H := fun Q q => ht _ (q _ _ (Same.refl _) (Sk.int oz))
theorem gvs_tup {n : Nat} (hp : Kn S H) (hn : n ≤ 60) (h : GvSA C S d n ts σ H) (hd : d ≤ 1 := by omega) : GvS C S (d + 1) (tTup ts) σ H := fun Q q =>
  h _ fun vs H1 s1 f1 => ⟨by rw [f1.1, sizeLine_eq]; omega, fun a na => by
    have np : a ∉ S := (hp.same s1).new na
    exact q _ _ (s1.trans (same_new na)) (Sk.tup (xs := vs) (by rw [wos_ne np]; exact upd_same) (by rw [f1.1]; exact hn) (fun y hy => (f1.2 y hy).same (wos_same (same_new na))) hd)⟩
theorem gvs_more (h : GvS C S d t σ H) (le : d ≤ e) : GvS C S e t σ H := Gv.imp h fun v H' _ z => z.more le
/-! ### lists whose items need no heap -/
abbrev GvP (P : V → Prop) (S : List Addr) (n : Nat) (t : TE) (σ : L2.St) (H : Hp) : Prop := Gv t σ H fun v H' => ∃ a ys, v = .ref a ∧ a ∉ S ∧ H' a = some (.lst ys) ∧ ys.length ≤ n ∧ ∀ y ∈ ys, P y
variable {P : V → Prop}
theorem gvp_cat (hp : Kn S H) (hn : n + m ≤ 1000) (h1 : GvP P S n t1 σ H) (h2 : ∀ H1, Same H H1 → GvP P S m t2 σ H1) : GvP P S (n + m) (tOp rCat t1 t2) σ H := fun Q q =>
  h1 _ fun v H1 s1 f1 => h2 H1 s1 _ fun u H2 s2 f2 => by
    obtain ⟨a, ys, rfl, e2, e3, e4, e5⟩ := f1
    obtain ⟨b, zs, rfl, g2, g3, g4, g5⟩ := f2
    refine ⟨a, b, ys, zs, rfl, rfl, s2 _ _ e3, g3, by rw [sizeLine_eq]; omega, fun c nc => ?_⟩
    have s12 := s1.trans s2
    have np : c ∉ S := (hp.same s12).new nc
    exact q _ _ (s12.trans (same_new nc)) ⟨c, ys ++ zs, rfl, np, upd_same, by rw [List.length_append]; omega, fun y hy => by
      rcases List.mem_append.mp hy with z | z
      · exact e5 y z
      · exact g5 y z⟩
theorem gvp_sl {i : Nat} {W : Addr} {xs : List V} {lo hi : Option Int} {tlo thi : TO} (hv : ∀ H Q, Q (.ref W) H → tVar i σ H Q) (hlo : ∀ H (Q : Option Int → Hp → Prop), Q lo H → tlo σ H Q) (hhi : ∀ H (Q : Option Int → Hp → Prop), Q hi H → thi σ H Q) (hW : H W = some (.lst xs)) (hp : Kn S H)
    (hx : ∀ x ∈ xs, P x) (hn : xs.length ≤ n) : GvP P S n (tSl (rSlL K) (tVar i) tlo thi) σ H := fun Q q =>
  hv _ _ (hlo _ _ (hhi _ _ ⟨W, xs, rfl, SqL.of hW, fun c nc => by
    have np : c ∉ S := hp.new nc
    refine q _ _ (same_new nc) ⟨c, _, rfl, np, upd_same, ?_, fun y hy => hx y ?_⟩
    · exact Nat.le_trans (cutV_length _ _ _) hn
    · unfold cutV at hy
      exact List.mem_of_mem_drop (List.mem_of_mem_take hy)⟩))
theorem gvp_lst2 {z1 z2 : Int} (hp : Kn S H) (h1 : Hi t1 σ H z1) (h2 : Hi t2 σ H z2) (p1 : P (.int z1)) (p2 : P (.int z2)) : GvP P S 2 (tLst (tCons t1 (tCons t2 tNil))) σ H := fun Q q =>
  h1 _ (h2 _ ⟨by show 2 ≤ sizeLine; decide, fun a na => q _ _ (same_new na) ⟨a, _, rfl, hp.new na, upd_same, Nat.le_refl 2, fun y hy => by
    simp only [List.mem_cons, List.not_mem_nil, or_false] at hy
    rcases hy with z | z <;> rw [z] <;> assumption⟩⟩)
theorem ext_one {D : Ends} {φ : V → Hp → Prop} {i : Nat} {f : Addr} {fs : List V} (hi : σ[i]? = some (some (.ref f))) (hf : H f = some (.lst fs)) (h : Gv t σ H φ)
    (k : ∀ v H', Same H H' → φ v H' → ∃ g gs, v = .ref g ∧ H' g = some (.lst gs) ∧ fs.length + gs.length ≤ 1000 ∧ D.nx σ (upd H' f (.lst (fs ++ gs)))) : tDrop (tBM K "list" rExtend (tVar i) (tCons t tNil)) D σ H :=
  ⟨_, hi, Or.inl ⟨rfl, _, SqL.of hf⟩, h _ fun v H' s ph => by
    obtain ⟨g, gs, rfl, hg, hz, q⟩ := k v H' s ph
    exact ⟨f, g, fs, gs, rfl, rfl, s _ _ hf, hg, by rw [sizeLine_eq]; omega, q⟩⟩
end
end Fp

namespace Fp
open PySem PySem.Spec PyProof.Rows L2
/-! ### own operators -/
structure BinF (K : PySem.W.Frag) (C f : Addr) (op : Operator) : Prop where
  sf : PySem.W.selfFirst K C = true
  hs : PySem.W.findIn K (.ref C) (PySem.dunder op.info.2) = some (some (.ref f))
  hf : PySem.W.isFn K (.ref f) = true
  hr : ∃ g : Addr, PySem.W.findIn K (.ref C) (PySem.dunderR op.info.2) = some (some (.ref g))
  h1 : ∃ fo, PySem.W.findIn K (.type "int") (PySem.dunder op.info.2) = some fo
  h2 : ∃ ro, PySem.W.findIn K (.type "int") (PySem.dunderR op.info.2) = some ro
  hsub : PySem.W.subIn K (.type "int") (.ref C) = some false
def rOwn (C : Addr) (sp : Sp) : R2 := fun x y H Q => ∃ a dx fs, x = .ref a ∧ H a = some (.ins C dx fs) ∧ ((∃ i, y = .int i) ∨ ∃ b dy gs, y = .ref b ∧ H b = some (.ins C dy gs)) ∧ sp [x, y] H (fun v H' => (∃ r, v = .ref r) ∧ Q v H') E0
theorem op_own {X : Cx} {C f : Addr} {op : Operator} {n : Nat} {fd : FuncData} {sp : Sp} (B : BinF X.K C f op) (F : FnOk X.prog X.w X.K X.mg X.base CX0 n f fd ["self", "other"] sp) (hb : Binds X.K fd ["self", "other"] []) (hr : Room n X.A) : OpR X (binaryOp op) (rOwn C sp) := by
  intro pins s σ H x y v u Q I rx ry hq
  obtain ⟨a, dx, fs, rfl, ha, hy, hsp⟩ := hq
  cases rx
  obtain ⟨mA, J, _⟩ := ins_get I.hok ha
  obtain ⟨od, J, _⟩ := J.look
  obtain ⟨m, hF⟩ := I.fr
  obtain ⟨g, hr1⟩ := B.hr
  obtain ⟨fo, h1⟩ := B.h1
  obtain ⟨ro, h2⟩ := B.h2
  have main : wpAny (model X.prog X.w) X.A (call (.ref f) [.ref a, u]) (PySem.W.CmpBack (EP X pins σ Q)) X.xe s := by
    have hl := F.len _ _ _ _ hsp
    have r2 : Vals [V.ref a, y] [Value.ref a, u] := .cons rfl (.cons ry .nil)
    refine wpAny_call (codeAny_mono (F.run X.A X.stack s H ⟨[.ref a, u], []⟩ [.ref a, u] [.ref a, y] _ E0 hr I.env0 (by
      have := hb s [.ref a, u] I.kIn (by simpa using hl)
      simpa using this) r2 hsp) fun r s' hq => ?_)
    cases r with
    | error e => exact pass0 (X := X) pins σ H s e s' I hq
    | ok fl =>
      cases fl with
      | ret w =>
        obtain ⟨z, H', I', rz, ⟨r, ez⟩, q⟩ := I.after hq
        subst ez
        cases rz
        exact ⟨.ref r, H', I', rfl, q⟩
      | next => exact False.elim hq
      | brk => exact False.elim hq
      | cont => exact False.elim hq
  rcases hy with ⟨i, rfl⟩ | ⟨b, dy, gs, rfl, hb2⟩
  · obtain ⟨t, rfl⟩ := ry
    exact PySem.W.ksp_binT (T := "int") hF I.ok.mod.kin J rfl B.sf B.hs B.hf hr1 (.inr ⟨g, rfl⟩) h1 h2 B.hsub main
  · cases ry
    obtain ⟨mB, J', _⟩ := ins_get I.hok hb2
    obtain ⟨od', J', _⟩ := J'.look
    exact PySem.W.binop_K hF I.ok.mod.kin J J'.type B.sf B.hs B.hf main
/-! ### isinstance(x, Ratio) -/
def isOwn (H : Hp) : V → Bool
  | .ref a => match H a with
    | some (.ins _ _ _) => true
    | _ => false
  | _ => false
structure RIsi (K : PySem.W.Frag) (C : Addr) : Prop where
  i : PySem.W.kitOne K (.type "int") (.ref C) = some false
  b : PySem.W.kitOne K (.type "bool") (.ref C) = some false
  n : PySem.W.kitOne K (.type "NoneType") (.ref C) = some false
  s : PySem.W.kitOne K (.type "str") (.ref C) = some false
  l : PySem.W.kitOne K (.type "list") (.ref C) = some false
  t : PySem.W.kitOne K (.type "tuple") (.ref C) = some false
  d : PySem.W.kitOne K (.type "dict") (.ref C) = some false
  c : PySem.W.kitOne K (.ref C) (.ref C) = some true
section
variable {C : Addr} {H H' : Hp} {d : Nat} {x : V} {K : PySem.W.Frag} {mg : Str → Option Value} {fI fR : Addr}
theorem Sk.kitC (h : Sk C H d x) (R : RCls K mg C fI fR) (I : RIsi K C) : ∃ ty, TyX K H x ty ∧ PySem.W.kitOne K ty (.ref C) = some (isOwn H x) := by
  obtain ⟨t, h, _⟩ := h
  cases h with
  | int h => exact ⟨_, .base (.int _), I.i⟩
  | bl b => exact ⟨_, .base (.bl _), I.b⟩
  | non => exact ⟨_, .base .non, I.n⟩
  | str x h => exact ⟨_, .base (.str _), I.s⟩
  | @own d a p q r h1 h2 =>
    obtain ⟨dx, r⟩ := r
    have e : isOwn H (.ref a) = true := by unfold isOwn; simp only [r]
    rw [e]
    exact ⟨_, .base (.ins r R.cl R.isA R.isN R.isT R.isM), I.c⟩
  | @lst d a xs ts h1 h0 h2 h3 =>
    have e : isOwn H (.ref a) = false := by unfold isOwn; simp only [h1]
    rw [e]
    exact ⟨_, .base (.lst h1), I.l⟩
  | @tup d a xs ts h1 h0 h2 h3 =>
    have e : isOwn H (.ref a) = false := by unfold isOwn; simp only [h1]
    rw [e]
    exact ⟨_, .base (.tup h1), I.t⟩
  | @dct d a ds h1 h0 h2 =>
    have e : isOwn H (.ref a) = false := by unfold isOwn; simp only [h1]
    rw [e]
    exact ⟨_, .base (.dK h1), I.d⟩
  | @dcl d a b k n ns h1 h2 =>
    have e : isOwn H (.ref a) = false := by unfold isOwn; simp only [h1]
    rw [e]
    exact ⟨_, .base (.dK h1), I.d⟩
theorem isOwn_same (h : Sk C H d x) (e : Same H H') : isOwn H' x = isOwn H x := by
  obtain ⟨t, h, _⟩ := h
  cases h with
  | int h => rfl
  | bl b => rfl
  | non => rfl
  | str x h => rfl
  | own r h1 h2 =>
    obtain ⟨dx, r⟩ := r
    unfold isOwn
    simp only [r, e _ _ r]
  | lst h1 => unfold isOwn; simp only [h1, e _ _ h1]
  | tup h1 => unfold isOwn; simp only [h1, e _ _ h1]
  | dct h1 => unfold isOwn; simp only [h1, e _ _ h1]
  | dcl h1 => unfold isOwn; simp only [h1, e _ _ h1]
/-! ### numbers -/
def isNum (H : Hp) (x : V) : Bool := isI x || isOwn H x
theorem isNum_same (h : Sk C H d x) (e : Same H H') : isNum H' x = isNum H x := by unfold isNum; rw [isOwn_same h e]
/-- top and bottom -/
def numOf (H : Hp) : V → Int × Int
  | .int i => (i, 1)
  | .ref a => match H a with
    | some (.ins _ _ [(_, .int p), (_, .int q)]) => (p, q)
    | _ => (0, 1)
  | _ => (0, 1)
def NumV (C : Addr) (H : Hp) (x : V) (p q : Int) : Prop := (x = .int p ∧ q = 1) ∨ ∃ a, x = .ref a ∧ Rat2 C H a p q
theorem NumV.same {p q : Int} (h : NumV C H x p q) (e : Same H H') : NumV C H' x p q := h.elim .inl fun ⟨a, h1, h2⟩ => .inr ⟨a, h1, h2.same e⟩
theorem Sk.num (h : Sk C H d x) (n : isNum H x = true) : NumV C H x (numOf H x).1 (numOf H x).2 ∧ okS (numOf H x).1 ∧ okS (numOf H x).2 ∧ RdI (numOf H x).1 (numOf H x).2 := by
  obtain ⟨t, h, _⟩ := h
  cases h with
  | @int d i h => exact ⟨.inl ⟨rfl, rfl⟩, h, (by decide : okS 1), rdI_one _⟩
  | bl b => cases n
  | non => cases n
  | str x h => cases n
  | @own d a p q r h1 h2 h3 =>
    obtain ⟨dx, r⟩ := r
    have e : numOf H (.ref a) = (p, q) := by unfold numOf; simp only [r]
    rw [e]
    exact ⟨.inr ⟨a, rfl, dx, r⟩, h1, h2, h3⟩
  | lst h1 => unfold isNum isOwn at n; simp only [h1] at n; cases n
  | tup h1 => unfold isNum isOwn at n; simp only [h1] at n; cases n
  | dct h1 => unfold isNum isOwn at n; simp only [h1] at n; cases n
  | dcl h1 => unfold isNum isOwn at n; simp only [h1] at n; cases n
theorem NumV.kitC {p q : Int} (h : NumV C H x p q) (R : RCls K mg C fI fR) (I : RIsi K C) : ∃ ty, TyX K H x ty ∧ PySem.W.kitOne K ty (.ref C) = some (isOwn H x) := by
  rcases h with ⟨rfl, _⟩ | ⟨a, rfl, dx, r⟩
  · exact ⟨_, .base (.int _), I.i⟩
  · have e : isOwn H (.ref a) = true := by unfold isOwn; simp only [r]
    rw [e]
    exact ⟨_, .base (.ins r R.cl R.isA R.isN R.isT R.isM), I.c⟩
theorem numOf_same (h : Sk C H d x) (e : Same H H') : numOf H' x = numOf H x := by
  obtain ⟨t, h, _⟩ := h
  cases h with
  | int h => rfl
  | bl b => rfl
  | non => rfl
  | str x h => rfl
  | own r h1 h2 =>
    obtain ⟨dx, r⟩ := r
    unfold numOf
    simp only [r, e _ _ r]
  | lst h1 => unfold numOf; simp only [h1, e _ _ h1]
  | tup h1 => unfold numOf; simp only [h1, e _ _ h1]
  | dct h1 => unfold numOf; simp only [h1, e _ _ h1]
  | dcl h1 => unfold numOf; simp only [h1, e _ _ h1]
end
/-! ### properties, own + and == in a text -/
structure PropX (P : Program) (w : World) (K : PySem.W.Frag) (mg : Str → Option Value) (base : Heap) (k : Nat) (C : Addr) (f : Str) (sp : Sp) : Prop where
  ex : ∃ (p g : Addr) (fd : FuncData), PropOf K C f p g ∧ FnOk P w K mg base CX0 k g fd ["self"] sp ∧ Binds K fd ["self"] []
structure BinX (P : Program) (w : World) (K : PySem.W.Frag) (mg : Str → Option Value) (base : Heap) (k : Nat) (C : Addr) (op : Operator) (sp : Sp) : Prop where
  ex : ∃ (f : Addr) (fd : FuncData), BinF K C f op ∧ FnOk P w K mg base CX0 k f fd ["self", "other"] sp ∧ Binds K fd ["self", "other"] []
/-- the same number -/
def SameR (C : Addr) (a b : Addr) (H : Hp) : Prop := ∃ p q, Rat2 C H a p q ∧ Rat2 C H b p q
structure EqX (P : Program) (w : World) (K : PySem.W.Frag) (mg : Str → Option Value) (base : Heap) (k : Nat) (C : Addr) : Prop where
  ex : ∃ (f : Addr) (fd : FuncData), PySem.W.findIn K (.ref C) "__eq__" = some (some (.ref f)) ∧ PySem.W.isFn K (.ref f) = true ∧ FnOk P w K mg base CX0 k f fd ["self", "other"] (spEq (SameR C)) ∧ Binds K fd ["self", "other"] []
def spTopR (C : Addr) : Sp := fun vs H Q _ => ∃ a p q, vs = [.ref a] ∧ Rat2 C H a p q ∧ Q (.int p) H
def spBotR (C : Addr) : Sp := fun vs H Q _ => ∃ a p q, vs = [.ref a] ∧ Rat2 C H a p q ∧ Q (.int q) H
def sgnI (p : Int) : Int := if p < 0 then -1 else if 0 < p then 1 else 0
def spSgnR (C : Addr) : Sp := fun vs H Q _ => ∃ a p q, vs = [.ref a] ∧ Rat2 C H a p q ∧ Q (.int (sgnI p)) H
def spAddR (C : Addr) : Sp := fun vs H Q _ => ∃ a y p q, vs = [.ref a, y] ∧ Rat2 C H a 0 1 ∧ NumV C H y p q ∧ RdI p q ∧ ∀ m H', Same H H' → Rat2 C H' m p q → Q (.ref m) H'
section
variable {X : Cx} {k : Nat} {C : Addr} {f : Str} {sp : Sp} {op : Operator} {e : Expr} {pos : Pos} {ta : TE}
theorem pe_propX (D : PropX X.prog X.w X.K X.mg X.base k C f sp) (hr : Room (k + 1) X.A) (c : Cls X.K C) (he : PE X e ta) (hab : attributeBase e f X.env (eval e X.env) = eval e X.env) : PE X (.Attribute e f pos) (tProp C sp [] E0 ta) := by
  obtain ⟨p, g, fd, h1, F, hb⟩ := D.ex
  exact pe_prop he c h1 F hr hb .nil (pass0 (X := X.nox)) hab
theorem op_ownX (D : BinX X.prog X.w X.K X.mg X.base k C op sp) (hr : Room k X.A) : OpR X (binaryOp op) (rOwn C sp) := by
  obtain ⟨f, fd, B, F, hb⟩ := D.ex
  exact op_own B F hb hr
theorem EqX.eqG (D : EqX X.prog X.w X.K X.mg X.base k C) : EqG X k (DIns C (SameR C)) := by
  obtain ⟨f, fd, h1, h2, F, hb⟩ := D.ex
  exact eqG_ins F h1 h2 hb (pass0 (X := X))
theorem mon_rat : Mon (DIns C (SameR C)) := mon_ins fun a b H H' e ⟨p, q, ⟨d1, h1⟩, ⟨d2, h2⟩⟩ => ⟨p, q, ⟨d1, e _ _ h1⟩, ⟨d2, e _ _ h2⟩⟩
/-- == of two lists of lists of own numbers, the same -/
theorem op_eq2 (D : EqX X.prog X.w X.K X.mg X.base k C) (hr : Room (k + 2) X.A) : OpR X (compareOp .Eq) (rEqG (DList (DList (DIns C (SameR C))))) :=
  op_eqG (rcG_list (mon_list mon_rat) (eqG_list mon_rat D.eqG)) hr
end
end Fp

namespace Fp
open PySem PySem.Spec PyProof.Rows L2
/-! ### a comprehension over a list or a tuple, what is kept of its items -/
section
variable {K : PySem.W.Frag} {a : Addr} {xs : List V} {g : TG} {tt : TT} {te : TE} {vs : List Nat} {σ : L2.St} {H : Hp} {tl : TE} {Q : VK}
theorem lc_relS (Rel : Nat → List V → Hp → Prop) (hv : ∀ R : V → Hp → Prop, R (.ref a) H → tl σ H R) (hS : Sq K H a xs) (hz : xs.length ≤ sizeLine) (h0 : Rel 0 [] H) (hm : ∀ i acc A B, Same A B → Rel i acc A → Rel i acc B)
    (hs : ∀ (D : Addr) (i : Nat) (x : V) (acc : List V) (Ha : Hp), H D = none → xs[i]? = some x → Same H Ha → Ha D = some (.lst acc) → Rel i acc (wo D Ha) → ∀ (Yc : V → Hp → Prop) (Nc : Hp → Prop), (∀ y H4, Same Ha H4 → Rel (i + 1) (acc ++ [y]) (wo D H4) → Yc y H4) → (∀ H3, Same Ha H3 → Rel (i + 1) acc (wo D H3) → Nc H3) →
      g x (wipe σ vs) Ha fun σ2 H2 => wipe σ2 vs = wipe σ vs ∧ tt σ2 H2 fun b H3 => if b = true then te σ2 H3 Yc else Nc H3)
    (hd : ∀ (D : Addr) (acc : List V) (H' : Hp), H D = none → Same H H' → H' D = some (.lst acc) → Rel xs.length acc (wo D H') → Q (.ref D) H') : tLc (iSq K tl) g tt te vs σ H Q := by
  rcases hS with hS | hS
  · refine Or.inl (hv _ ⟨a, rfl, ⟨xs, hS⟩, fun D hD => ?_⟩)
    exact lc_rel (walk_list (K := K) (a := a) (xs := xs)) Rel hD hz (fun Hh sh => hS.ext sh) h0 hm (fun i x acc Ha Hb hi sa ha hr hy Yc Nc yc nc => by
      obtain ⟨rfl, hx⟩ := hy
      exact hs D i x acc _ hD hx sa ha hr Yc Nc yc nc) (fun acc H' s1 ha hr => hd D acc H' hD s1 ha hr)
  · refine Or.inr (hv _ ⟨a, rfl, ⟨xs, hS⟩, fun D hD => ?_⟩)
    exact lc_rel (walk_tup (K := K) (a := a) (xs := xs)) Rel hD hz (fun Hh sh => same_sqT sh hS) h0 hm (fun i x acc Ha Hb hi sa ha hr hy Yc Nc yc nc => by
      obtain ⟨rfl, hx⟩ := hy
      exact hs D i x acc _ hD hx sa ha hr Yc Nc yc nc) (fun acc H' s1 ha hr => hd D acc H' hD s1 ha hr)
end
/-! ### numbers of a list -/
structure RatL (C : Addr) (H : Hp) (vs : List V) (ps : List (Int × Int)) : Prop where
  len : vs.length = ps.length
  at_ : ∀ (i : Nat) (v : V), vs[i]? = some v → ∃ (pq : Int × Int) (a : Addr), ps[i]? = some pq ∧ v = .ref a ∧ Rat2 C H a pq.1 pq.2
section
variable {C : Addr} {H H' : Hp} {vs : List V} {ps : List (Int × Int)} {d : Nat} {x : V}
theorem RatL.same (h : RatL C H vs ps) (e : Same H H') : RatL C H' vs ps := ⟨h.len, fun i v hv => let ⟨pq, a, h1, h2, h3⟩ := h.at_ i v hv; ⟨pq, a, h1, h2, h3.same e⟩⟩
theorem RatL.nil : RatL C H [] [] := ⟨rfl, fun i v h => by cases h⟩
theorem RatL.snoc (h : RatL C H vs ps) {a : Addr} {p q : Int} (r : Rat2 C H a p q) : RatL C H (vs ++ [.ref a]) (ps ++ [(p, q)]) := ⟨by rw [List.length_append, List.length_append, h.len]; rfl, fun i v hv => by
  rcases Nat.lt_trichotomy i vs.length with l | l | l
  · rw [List.getElem?_append_left l] at hv
    obtain ⟨pq, b, h1, h2, h3⟩ := h.at_ i v hv
    exact ⟨pq, b, by rw [List.getElem?_append_left (h.len ▸ l)]; exact h1, h2, h3⟩
  · subst l
    rw [List.getElem?_append_right (Nat.le_refl _), Nat.sub_self] at hv
    obtain rfl := Option.some.inj hv
    exact ⟨(p, q), a, by rw [h.len, List.getElem?_append_right (Nat.le_refl _), Nat.sub_self]; rfl, rfl, r⟩
  · rw [List.getElem?_eq_none (by rw [List.length_append]; simp; omega)] at hv; cases hv⟩
theorem RatL.take (h : RatL C H vs ps) (n : Nat) : RatL C H (vs.take n) (ps.take n) := ⟨by rw [List.length_take, List.length_take, h.len], fun i v hv => by
  rw [List.getElem?_take] at hv ⊢
  split at hv
  · rename_i l
    rw [if_pos l]
    exact h.at_ i v hv
  · cases hv⟩
/-- without the noughts at the end -/
def trimP (ps : List (Int × Int)) : List (Int × Int) := (ps.reverse.dropWhile fun x => x.1 == 0).reverse
theorem trimP_nil : trimP [] = [] := rfl
theorem trimP_zero {A : List (Int × Int)} {x : Int × Int} (h : x.1 = 0) : trimP (A ++ [x]) = trimP A := by
  unfold trimP
  rw [List.reverse_append, List.reverse_singleton, List.singleton_append, List.dropWhile_cons, if_pos (by simp [h])]
theorem trimP_nz {A : List (Int × Int)} {x : Int × Int} (h : x.1 ≠ 0) : trimP (A ++ [x]) = A ++ [x] := by
  unfold trimP
  rw [List.reverse_append, List.reverse_singleton, List.singleton_append, List.dropWhile_cons, if_neg (by simp [h])]
  simp
theorem snoc_of {α : Type} {l : List α} (h : l ≠ []) : ∃ A x, l = A ++ [x] := by
  rcases List.eq_nil_or_concat l with e | ⟨A, x, e⟩
  · exact absurd e h
  · exact ⟨A, x, by rw [e, List.concat_eq_append]⟩
theorem trimP_len (ps : List (Int × Int)) : (trimP ps).length ≤ ps.length := by
  unfold trimP
  rw [List.length_reverse]
  have := (List.dropWhile_suffix (fun x : Int × Int => x.1 == 0) (l := ps.reverse)).length_le
  rw [List.length_reverse] at this
  exact this
/-! ### polynomials and makers among any values -/
def isPolyV (H : Hp) (x : V) : Bool := match itemsOf H x with
  | none => false
  | some xs => decide (xs.length ≤ 49) && xs.all (isNum H)
def itemsD (H : Hp) (x : V) : List V := (itemsOf H x).getD []
def toldP (H : Hp) (x : V) : List (Int × Int) := trimP ((itemsD H x).map (numOf H))
def isMakerV (H : Hp) (y : V) : Bool := isPolyV H y && (decide (2 ≤ (toldP H y).length) && decide ((toldP H y).length ≤ 8))
def isMakersV (H : Hp) (x : V) : Bool := match itemsOf H x with
  | none => false
  | some ys => decide (1 ≤ ys.length) && (decide (ys.length ≤ 4) && ys.all (isMakerV H))
def toldsP (H : Hp) (x : V) : List (List (Int × Int)) := (itemsD H x).map (toldP H)
theorem all_same {f g : V → Bool} : ∀ {xs : List V}, (∀ x ∈ xs, f x = g x) → xs.all f = xs.all g
  | [], _ => rfl
  | x :: xs, h => by
    rw [List.all_cons, List.all_cons, h x List.mem_cons_self, all_same fun y hy => h y (List.mem_cons_of_mem _ hy)]
theorem map_same {β : Type} {f g : V → β} : ∀ {xs : List V}, (∀ x ∈ xs, f x = g x) → xs.map f = xs.map g
  | [], _ => rfl
  | x :: xs, h => by
    rw [List.map_cons, List.map_cons, h x List.mem_cons_self, map_same fun y hy => h y (List.mem_cons_of_mem _ hy)]
theorem isPolyV_same (h : Sk C H d x) (e : Same H H') : isPolyV H' x = isPolyV H x := by
  unfold isPolyV
  rw [itemsOf_same h e]
  cases q : itemsOf H x with
  | none => rfl
  | some xs =>
    obtain ⟨a, _, _, _, hy⟩ := h.items q
    dsimp only
    rw [all_same fun y m => isNum_same (hy y m) e]
theorem itemsD_same (h : Sk C H d x) (e : Same H H') : itemsD H' x = itemsD H x := by unfold itemsD; rw [itemsOf_same h e]
theorem Sk.itemsD (h : Sk C H d x) : ∀ y ∈ itemsD H x, Sk C H d y := fun y m => by
  unfold Fp.itemsD at m
  cases q : itemsOf H x with
  | none => rw [q] at m; cases m
  | some xs =>
    obtain ⟨a, _, _, _, hy⟩ := h.items q
    rw [q] at m
    exact hy y m
theorem toldP_same (h : Sk C H d x) (e : Same H H') : toldP H' x = toldP H x := by
  unfold toldP
  rw [itemsD_same h e, map_same fun y m => numOf_same (h.itemsD y m) e]
theorem isMakerV_same (h : Sk C H d x) (e : Same H H') : isMakerV H' x = isMakerV H x := by
  unfold isMakerV
  rw [isPolyV_same h e, toldP_same h e]
theorem isMakersV_same (h : Sk C H d x) (e : Same H H') : isMakersV H' x = isMakersV H x := by
  unfold isMakersV
  rw [itemsOf_same h e]
  cases q : itemsOf H x with
  | none => rfl
  | some xs =>
    obtain ⟨a, _, _, _, hy⟩ := h.items q
    dsimp only
    rw [all_same fun y m => isMakerV_same (hy y m) e]
theorem toldsP_same (h : Sk C H d x) (e : Same H H') : toldsP H' x = toldsP H x := by
  unfold toldsP
  rw [itemsD_same h e, map_same fun y m => toldP_same (h.itemsD y m) e]
theorem poly_items (h : isPolyV H x = true) : ∃ xs, itemsOf H x = some xs ∧ itemsD H x = xs ∧ xs.length ≤ 49 ∧ ∀ y ∈ xs, isNum H y = true := by
  unfold isPolyV at h
  cases q : itemsOf H x with
  | none => rw [q] at h; cases h
  | some xs =>
    rw [q] at h
    simp only [Bool.and_eq_true, decide_eq_true_eq, List.all_eq_true] at h
    exact ⟨xs, rfl, by unfold itemsD; rw [q]; rfl, h.1, h.2⟩
theorem Rat2.wo {D a : Addr} {p q : Int} {acc : List V} (r : Rat2 C H a p q) (hD : H D = some (.lst acc)) : Rat2 C (wo D H) a p q := by
  obtain ⟨dx, r⟩ := r
  refine ⟨dx, ?_⟩
  rw [wo_ne (fun z => by rw [z, hD] at r; cases r)]
  exact r
theorem wo_mono {D : Addr} (e : Same H H') : Same (wo D H) (wo D H') := fun b o q => by
  have nb : b ≠ D := fun w => by rw [w] at q; unfold wo at q; rw [if_pos rfl] at q; cases q
  rw [wo_ne nb] at q ⊢
  exact e _ _ q
theorem takeS {α : Type} {l : List α} {i : Nat} {x : α} (h : l[i]? = some x) : l.take (i + 1) = l.take i ++ [x] := by
  rw [List.take_add_one, h]; rfl
theorem RatL.step {D m : Addr} {xs : List V} {f : V → Int × Int} {i : Nat} {y : V} {acc : List V} {Ha H4 : Hp} (r : RatL C (wo D Ha) acc ((xs.map f).take i)) (hy : xs[i]? = some y) (s : Same Ha H4) (ha : Ha D = some (.lst acc)) (rm : Rat2 C H4 m (f y).1 (f y).2) :
    RatL C (wo D H4) (acc ++ [.ref m]) ((xs.map f).take (i + 1)) := by
  rw [takeS (show (xs.map f)[i]? = some (f y) by rw [List.getElem?_map, hy]; rfl)]
  exact (r.same (wo_mono s)).snoc (rm.wo (s _ _ ha))
end
/-! ### a list is not empty -/
def rNeNil : R2 := fun x y H Q => ∃ a b us, x = .ref a ∧ y = .ref b ∧ H a = some (.lst us) ∧ H b = some (.lst []) ∧ Q (.bl (!us.isEmpty)) H
theorem op_neNil {X : Cx} (hu : X.A.units + 64 < cLine) : OpR X (compareOp .NotEq) rNeNil := by
  intro pins s σ H x y v u Q I rx ry hq
  obtain ⟨a, b, us, rfl, rfl, ha, hb, q⟩ := hq
  cases rx
  cases ry
  obtain ⟨_, its, na, rv, hl, he⟩ := I.lstM ha
  obtain ⟨_, it2, nb, rv2, hl2, he2⟩ := I.lstM hb
  have e2 : it2 = [] := List.length_eq_zero_iff.mp (by simpa using hl2.symm)
  subst e2
  show wpAny (model X.prog X.w) X.A (richCompare .NotEq (.ref a) (.ref b)) (EP X pins σ Q) X.xe s
  have fin : ∀ k : Bool, k = (!us.isEmpty) → EP X pins σ Q (.bool k) s := fun k hk => ⟨.bl k, H, I, rfl, by rw [hk]; exact q⟩
  cases us with
  | nil =>
    have e1 : its = [] := List.length_eq_zero_iff.mp (by simpa using hl.symm)
    subst e1
    exact SeqAt.RcNeAt.lists (e := fun _ => true) ⟨_, he, rfl, na, rfl⟩ ⟨_, he2, rfl, nb, rfl⟩ rfl (by omega) (fun j h1 => absurd h1 (by simp)) X.prog X.w X.xe _ (fin _ rfl)
  | cons z r =>
    refine SeqAt.RcNeAt.lists_lengths ⟨_, he, rfl, na, rfl⟩ ⟨_, he2, rfl, nb, rfl⟩ ?_ (by omega) X.prog X.w X.xe _ (fin _ rfl)
    have : its.length = r.length + 1 := by rw [← hl]; simp
    simp
    intro e
    rw [e] at this
    simp at this
/-- len of a list or a tuple -/
def rLenS (K : PySem.W.Frag) : List V → Hp → VK → Prop := fun xs H Q => ∃ p ys, xs = [.ref p] ∧ (SqL K H p ys ∨ SqT K H p ys) ∧ Q (.int ys.length) H
end Fp

namespace Fp
/-! ### fractions: top and bottom of a quotient, sizes -/
theorem gcd_cast (t b : Int) : ((t.natAbs.gcd b.natAbs : Nat) : Int) = (Int.gcd b t : Int) := by
  rw [Nat.gcd_comm]; rfl
theorem fdiv_exact {t g : Int} (h : g ∣ t) : t.fdiv g = t / g := Int.fdiv_eq_ediv_of_dvd h
theorem divInt_top {t b : Int} (h : b ≠ 0) : t.fdiv (if b < 0 then -((t.natAbs.gcd b.natAbs : Nat) : Int) else ((t.natAbs.gcd b.natAbs : Nat) : Int)) = (Rat.divInt t b).num := by
  rw [Rat.num_divInt, gcd_cast]
  have d : (Int.gcd b t : Int) ∣ t := Int.gcd_dvd_right ..
  by_cases hb : b < 0
  · rw [if_pos hb, Int.sign_eq_neg_one_of_neg hb, fdiv_exact (Int.neg_dvd.mpr d), Int.ediv_neg]
    obtain ⟨c, e⟩ := d
    have g0 : (Int.gcd b t : Int) ≠ 0 := fun z => by
      have := Int.gcd_eq_zero_iff.mp (by omega : Int.gcd b t = 0)
      omega
    have e2 : -1 * t = (Int.gcd b t : Int) * (-c) := by rw [Int.mul_neg, ← e]; omega
    rw [e2, Int.mul_ediv_cancel_left _ g0]
    have e3 : t / (Int.gcd b t : Int) = c := by
      conv => lhs; lhs; rw [e]
      exact Int.mul_ediv_cancel_left _ g0
    rw [e3]
  · rw [if_neg hb, Int.sign_eq_one_of_pos (by omega), fdiv_exact d, Int.one_mul]
theorem divInt_bot {t b : Int} (h : b ≠ 0) : b.fdiv (if b < 0 then -((t.natAbs.gcd b.natAbs : Nat) : Int) else ((t.natAbs.gcd b.natAbs : Nat) : Int)) = ((Rat.divInt t b).den : Int) := by
  rw [Rat.den_divInt, if_neg h, gcd_cast]
  have d : (Int.gcd b t : Int) ∣ b := Int.gcd_dvd_left ..
  have g0 : (Int.gcd b t : Int) ≠ 0 := fun z => by
      have := Int.gcd_eq_zero_iff.mp (by omega : Int.gcd b t = 0)
      omega
  obtain ⟨c, e⟩ := d
  have e3 : b / (Int.gcd b t : Int) = c := by
      conv => lhs; lhs; rw [e]
      exact Int.mul_ediv_cancel_left _ g0
  by_cases hb : b < 0
  · rw [if_pos hb, fdiv_exact (Int.neg_dvd.mpr (Int.gcd_dvd_left ..)), Int.ediv_neg, e3]
    have : (b.natAbs : Int) = -b := by omega
    rw [Int.natCast_ediv, this]
    have e4 : -b = (Int.gcd b t : Int) * (-c) := by rw [Int.mul_neg, ← e]
    rw [e4, Int.mul_ediv_cancel_left _ g0]
  · rw [if_neg hb, fdiv_exact (Int.gcd_dvd_left ..), e3]
    have : (b.natAbs : Int) = b := by omega
    rw [Int.natCast_ediv, this, e3]
/-- a number of at most n bits -/
def LbI (n : Nat) (z : Int) : Prop := z.natAbs < 2 ^ n
def Bits (n : Nat) (x : Rat) : Prop := LbI n x.num ∧ LbI n x.den
theorem LbI.mono {n m : Nat} {z : Int} (h : LbI n z) (l : n ≤ m) : LbI m z := Nat.lt_of_lt_of_le h (Nat.pow_le_pow_right (by decide) l)
theorem Bits.mono {n m : Nat} {x : Rat} (h : Bits n x) (l : n ≤ m) : Bits m x := ⟨h.1.mono l, h.2.mono l⟩
theorem LbI.mul {n m : Nat} {a b : Int} (h : LbI n a) (g : LbI m b) : LbI (n + m) (a * b) := by
  unfold LbI at *
  rw [Int.natAbs_mul, Nat.pow_add]
  exact Nat.mul_lt_mul'' h g
theorem LbI.neg {n : Nat} {a : Int} (h : LbI n a) : LbI n (-a) := by unfold LbI at *; rw [Int.natAbs_neg]; exact h
theorem LbI.add {n : Nat} {a b : Int} (h : LbI n a) (g : LbI n b) : LbI (n + 1) (a + b) := by
  unfold LbI at *
  have := Int.natAbs_add_le a b
  rw [Nat.pow_succ]; omega
theorem LbI.sub {n : Nat} {a b : Int} (h : LbI n a) (g : LbI n b) : LbI (n + 1) (a - b) := by
  rw [Int.sub_eq_add_neg]; exact h.add g.neg
theorem LbI.of_le {n : Nat} {a b : Int} (h : LbI n a) (l : b.natAbs ≤ a.natAbs) : LbI n b := Nat.lt_of_le_of_lt l h
theorem LbI.nat {n k : Nat} (h : k < 2 ^ n) : LbI n (k : Int) := h
theorem natAbs_div_le (a b : Int) : (a / b).natAbs ≤ a.natAbs := by
  by_cases h : b = 0
  · subst h; simp
  exact Int.natAbs_ediv_le_natAbs a b
theorem Bits.divInt {n : Nat} {t b : Int} (h : LbI n t) (g : LbI n b) (b0 : b ≠ 0) : Bits n (Rat.divInt t b) := by
  constructor
  · rw [Rat.num_divInt]
    refine h.of_le (Nat.le_trans (natAbs_div_le _ _) ?_)
    rw [Int.natAbs_mul]
    have : b.sign.natAbs ≤ 1 := by
      rcases Int.lt_trichotomy b 0 with z | z | z
      · rw [Int.sign_eq_neg_one_of_neg z]; decide
      · rw [z]; decide
      · rw [Int.sign_eq_one_of_pos z]; decide
    have := Nat.mul_le_mul_right t.natAbs this
    omega
  · rw [Rat.den_divInt, if_neg b0]
    exact g.of_le (Nat.div_le_self _ _)
theorem divInt_mul (x y : Rat) : Rat.divInt (x.num * y.num) (x.den * y.den) = x * y := by
  rw [← Rat.divInt_mul_divInt, Rat.num_divInt_den, Rat.num_divInt_den]
theorem divInt_sub (x y : Rat) : Rat.divInt (x.num * y.den - y.num * x.den) (x.den * y.den) = x - y := by
  have h := Rat.sub_def' x y
  rw [h, ← Rat.divInt_ofNat, Int.natCast_mul]
theorem divInt_add (x y : Rat) : Rat.divInt (x.num * y.den + y.num * x.den) (x.den * y.den) = x + y := by
  have h := Rat.add_def' x y
  rw [h, ← Rat.divInt_ofNat, Int.natCast_mul]
theorem divInt_over (x y : Rat) : Rat.divInt (x.num * y.den) (x.den * y.num) = x / y := by
  rw [← Rat.divInt_mul_divInt, Rat.num_divInt_den, Rat.div_def, Rat.inv_def]
theorem divInt_self (x : Rat) : Rat.divInt x.num x.den = x := Rat.num_divInt_den x
theorem divInt_frac (z b : Int) : Rat.divInt z b = (z : Rat) / b := Rat.divInt_eq_div z b
theorem num_ne {x : Rat} (h : x ≠ 0) : x.num ≠ 0 := fun z => h (Rat.num_eq_zero.mp z)
theorem den_pos (x : Rat) : (0 : Int) < x.den := by have := x.den_pos; omega
theorem rat_red (x : Rat) : Int.gcd x.num x.den = 1 := x.reduced
theorem red_rat {p q : Int} (h0 : 0 < q) (h : Int.gcd p q = 1) : (Rat.divInt p q).num = p ∧ ((Rat.divInt p q).den : Int) = q := by
  have g : Int.gcd q p = 1 := by rw [Int.gcd_comm]; exact h
  rw [Rat.num_divInt, Rat.den_divInt, if_neg (by omega), g, Int.sign_eq_one_of_pos h0]
  constructor
  · simp
  · simp; omega
/-! ### polynomials by their coefficients -/
def co (xs : List Rat) (i : Nat) : Rat := xs.getD i 0
def sumN (f : Nat → Rat) : Nat → Rat
  | 0 => 0
  | n + 1 => sumN f n + f n
def sh (i : Nat) (g : Nat → Rat) (n : Nat) : Rat := if n < i then 0 else g (n - i)
def prodc (xs : List Rat) (g : Nat → Rat) (n : Nat) : Rat := sumN (fun i => co xs i * sh i g n) xs.length
def single (m : Nat) (c : Rat) (n : Nat) : Rat := if n = m then c else 0
/-- told: no nought at the end -/
def Told (xs : List Rat) : Prop := ∀ z, xs.getLast? = some z → z ≠ 0
theorem sumN_congr {f g : Nat → Rat} : ∀ {n : Nat}, (∀ i, i < n → f i = g i) → sumN f n = sumN g n
  | 0, _ => rfl
  | n + 1, h => by
    show sumN f n + f n = sumN g n + g n
    rw [sumN_congr fun i hi => h i (by omega), h n (by omega)]
theorem sumN_zero {f : Nat → Rat} : ∀ {n : Nat}, (∀ i, i < n → f i = 0) → sumN f n = 0
  | 0, _ => rfl
  | n + 1, h => by
    show sumN f n + f n = 0
    rw [sumN_zero fun i hi => h i (by omega), h n (by omega)]; grind
theorem sumN_add {f g : Nat → Rat} : ∀ n : Nat, sumN (fun i => f i + g i) n = sumN f n + sumN g n
  | 0 => by show (0 : Rat) = 0 + 0; grind
  | n + 1 => by
    show sumN (fun i => f i + g i) n + (f n + g n) = (sumN f n + f n) + (sumN g n + g n)
    rw [sumN_add n]; grind
theorem sumN_mul {f : Nat → Rat} (c : Rat) : ∀ n : Nat, sumN (fun i => c * f i) n = c * sumN f n
  | 0 => by show (0 : Rat) = c * 0; grind
  | n + 1 => by
    show sumN (fun i => c * f i) n + c * f n = c * (sumN f n + f n)
    rw [sumN_mul c n]; grind
theorem sumN_one {f : Nat → Rat} {m : Nat} : ∀ {n : Nat}, m < n → (∀ i, i < n → i ≠ m → f i = 0) → sumN f n = f m
  | 0, h, _ => absurd h (Nat.not_lt_zero _)
  | n + 1, h, h0 => by
    show sumN f n + f n = f m
    by_cases e : n = m
    · subst e
      rw [sumN_zero fun i hi => h0 i (by omega) (by omega)]; grind
    · rw [sumN_one (by omega) fun i hi => h0 i (by omega), h0 n (by omega) e]; grind
theorem co_out {xs : List Rat} {i : Nat} (h : xs.length ≤ i) : co xs i = 0 := by
  unfold co; rw [List.getD_eq_getElem?_getD, List.getElem?_eq_none h]; rfl
theorem co_at {xs : List Rat} {i : Nat} {x : Rat} (h : xs[i]? = some x) : co xs i = x := by
  unfold co; rw [List.getD_eq_getElem?_getD, h]; rfl
theorem co_nil (i : Nat) : co [] i = 0 := rfl
theorem prodc_add (xs : List Rat) (g h : Nat → Rat) (n : Nat) : prodc xs (fun i => g i + h i) n = prodc xs g n + prodc xs h n := by
  unfold prodc
  rw [← sumN_add]
  refine sumN_congr fun i _ => ?_
  unfold sh; split <;> grind
theorem prodc_sub (xs : List Rat) (g h : Nat → Rat) (n : Nat) : prodc xs (fun i => g i - h i) n = prodc xs g n - prodc xs h n := by
  have e := prodc_add xs (fun i => g i - h i) h n
  have e2 : (fun i => g i - h i + h i) = g := funext fun i => by grind
  rw [e2] at e
  grind
theorem prodc_single (xs : List Rat) (m : Nat) (c : Rat) (n : Nat) : prodc xs (single m c) n = if n < m then 0 else c * co xs (n - m) := by
  unfold prodc
  by_cases h : n < m
  · rw [if_pos h]
    refine sumN_zero fun i hi => ?_
    unfold sh single
    split
    · grind
    · rw [if_neg (by omega)]; grind
  · rw [if_neg h]
    by_cases l : n - m < xs.length
    · rw [sumN_one l fun i hi ne => ?_]
      · unfold sh single
        rw [if_neg (by omega), if_pos (by omega)]; grind
      · unfold sh single
        split
        · grind
        · rw [if_neg (by omega)]; grind
    · rw [co_out (by omega), sumN_zero fun i hi => ?_]
      · grind
      · unfold sh single
        split
        · grind
        · rw [if_neg (by omega)]; grind
theorem prodc_congr {xs : List Rat} {g h : Nat → Rat} (e : ∀ i, g i = h i) (n : Nat) : prodc xs g n = prodc xs h n := by rw [funext e]
/-- the highest one -/
theorem prodc_top {xs : List Rat} {g : Nat → Rat} {m s : Nat} (hs : xs.length = s + 1) (hg : ∀ i, m < i → g i = 0) : prodc xs g (s + m) = co xs s * g m := by
  unfold prodc
  rw [hs, sumN_one (m := s) (by omega) fun i hi ne => ?_]
  · unfold sh; rw [if_neg (by omega)]; congr 2; omega
  · unfold sh
    rw [if_neg (by omega), hg _ (by omega)]; grind
theorem told_top {xs : List Rat} (t : Told xs) (h : xs ≠ []) : co xs (xs.length - 1) ≠ 0 := by
  have e : xs.getLast? = some (xs.getLast h) := List.getLast?_eq_some_getLast h
  rw [List.getLast?_eq_getElem?] at e
  rw [co_at e]
  exact t _ (by rw [List.getLast?_eq_getElem?]; exact e)
theorem told_of_top {xs : List Rat} (h : xs ≠ [] → co xs (xs.length - 1) ≠ 0) : Told xs := fun z hz => by
  have n : xs ≠ [] := fun e => by rw [e] at hz; cases hz
  rw [List.getLast?_eq_getElem?] at hz
  have := h n
  rw [co_at hz] at this
  exact this
theorem told_nil : Told [] := fun z h => by cases h
/-- told lists with the same coefficients are the same -/
theorem told_ext {xs ys : List Rat} (tx : Told xs) (ty : Told ys) (e : ∀ i, co xs i = co ys i) : xs = ys := by
  have l : ∀ {as bs : List Rat}, Told as → (∀ i, co as i = co bs i) → as.length ≤ bs.length := fun {as bs} ta e => by
    by_cases n : as = []
    · rw [n]; exact Nat.zero_le _
    · have t := told_top ta n
      have : 0 < as.length := List.length_pos_iff.mpr n
      by_cases h : as.length ≤ bs.length
      · exact h
      · rw [e, co_out (by omega)] at t
        exact absurd rfl t
  have le := Nat.le_antisymm (l tx e) (l ty fun i => (e i).symm)
  refine List.ext_getElem le fun i h1 h2 => ?_
  have := e i
  rw [co_at (List.getElem?_eq_getElem h1), co_at (List.getElem?_eq_getElem h2)] at this
  exact this
/-- quotient and rest are the only ones -/
theorem div_unique {S : List Rat} {Q1 Q2 R1 R2 : List Rat} (hS : S ≠ []) (tS : Told S) (q1 : Told Q1) (q2 : Told Q2) (r1 : Told R1) (r2 : Told R2) (l1 : R1.length < S.length) (l2 : R2.length < S.length)
    (h : ∀ n, prodc S (co Q1) n + co R1 n = prodc S (co Q2) n + co R2 n) : Q1 = Q2 ∧ R1 = R2 := by
  have top := told_top tS hS
  have ls : S.length = (S.length - 1) + 1 := by omega
  have D : ∀ k m, m + k = max Q1.length Q2.length → ∀ i, m ≤ i → co Q1 i - co Q2 i = 0 := by
    intro k
    induction k with
    | zero =>
      intro m hm i hi
      rw [co_out (by omega), co_out (by omega)]; grind
    | succ k ih =>
      intro m hm i hi
      have above := ih (m + 1) (by omega)
      by_cases e : i = m
      · subst e
        have t := prodc_top (g := fun i => co Q1 i - co Q2 i) (m := i) ls (fun j hj => above j (by omega))
        rw [prodc_sub] at t
        have hn := h (S.length - 1 + i)
        rw [co_out (xs := R1) (by omega), co_out (xs := R2) (by omega)] at hn
        have z : co S (S.length - 1) * (co Q1 i - co Q2 i) = 0 := by grind
        rcases Rat.mul_eq_zero.mp z with y | y
        · exact absurd y top
        · exact y
      · exact above i (by omega)
  have eQ : ∀ i, co Q1 i = co Q2 i := fun i => by
    have := D (max Q1.length Q2.length) 0 (by omega) i (Nat.zero_le _)
    grind
  refine ⟨told_ext q1 q2 eQ, told_ext r1 r2 fun n => ?_⟩
  have := h n
  rw [prodc_congr eQ] at this
  grind
/-! ### one step of the division -/
theorem co_take {xs : List Rat} {k n : Nat} (h : n < k) : co (xs.take k) n = co xs n := by
  unfold co; rw [List.getD_eq_getElem?_getD, List.getD_eq_getElem?_getD, List.getElem?_take_of_lt h]
theorem co_append_left {xs ys : List Rat} {n : Nat} (h : n < xs.length) : co (xs ++ ys) n = co xs n := by
  unfold co; rw [List.getD_eq_getElem?_getD, List.getD_eq_getElem?_getD, List.getElem?_append_left h]
theorem co_append_right {xs ys : List Rat} {n : Nat} (h : xs.length ≤ n) : co (xs ++ ys) n = co ys (n - xs.length) := by
  unfold co; rw [List.getD_eq_getElem?_getD, List.getD_eq_getElem?_getD, List.getElem?_append_right h]
/-- what is left behind a part c -/
def restOf (c : Rat) (S xs : List Rat) : List Rat := xs.take (xs.length - S.length) ++ (List.zipWith (fun a b => a - c * b) (xs.drop (xs.length - S.length)) S).dropLast
theorem restOf_len {c : Rat} {S xs : List Rat} (hS : 0 < S.length) (h : S.length ≤ xs.length) : (restOf c S xs).length = xs.length - 1 := by
  unfold restOf
  rw [List.length_append, List.length_take, List.length_dropLast, List.length_zipWith, List.length_drop]
  omega
theorem restOf_co {c : Rat} {S xs : List Rat} (hS : 0 < S.length) (h : S.length ≤ xs.length) (hc : co xs (xs.length - 1) = c * co S (S.length - 1)) (n : Nat) :
    co xs n = prodc S (single (xs.length - S.length) c) n + co (restOf c S xs) n := by
  rw [prodc_single]
  by_cases h1 : n < xs.length - S.length
  · rw [if_pos h1]
    unfold restOf
    rw [co_append_left (by rw [List.length_take]; omega), co_take h1]; grind
  · rw [if_neg h1]
    by_cases h2 : n < xs.length - 1
    · unfold restOf
      rw [co_append_right (by rw [List.length_take]; omega), List.length_take, Nat.min_eq_left (by omega)]
      have l : n - (xs.length - S.length) < (List.zipWith (fun a b => a - c * b) (xs.drop (xs.length - S.length)) S).dropLast.length := by
        rw [List.length_dropLast, List.length_zipWith, List.length_drop]; omega
      have e : (List.zipWith (fun a b => a - c * b) (xs.drop (xs.length - S.length)) S).dropLast[n - (xs.length - S.length)]? = some (co xs n - c * co S (n - (xs.length - S.length))) := by
        rw [List.getElem?_eq_getElem l, List.getElem_dropLast, List.getElem_zipWith, List.getElem_drop]
        congr 2
        · rw [co_at (x := xs[xs.length - S.length + (n - (xs.length - S.length))]'(by omega))]
          rw [List.getElem?_eq_some_iff]
          refine ⟨by omega, ?_⟩
          congr 1; omega
        · congr 1
          rw [co_at (List.getElem?_eq_getElem _)]
      rw [co_at e]; grind
    · rw [co_out (xs := restOf c S xs) (by rw [restOf_len hS h]; omega)]
      by_cases h3 : n = xs.length - 1
      · rw [h3, hc, show xs.length - 1 - (xs.length - S.length) = S.length - 1 by omega]; grind
      · rw [co_out (by omega), co_out (xs := S) (by omega)]; grind
/-- the parts so far, by their places -/
def qf (L : Nat) (qs : List Rat) (i : Nat) : Rat := if i ≤ L ∧ L - i < qs.length then co qs (L - i) else 0
theorem qf_nil (L i : Nat) : qf L [] i = 0 := by
  unfold qf; rw [if_neg]; simp
theorem qf_snoc {L : Nat} {qs : List Rat} {c : Rat} (h : qs.length ≤ L) (i : Nat) : qf L (qs ++ [c]) i = qf L qs i + single (L - qs.length) c i := by
  unfold qf single
  rw [List.length_append, List.length_singleton]
  by_cases h1 : i ≤ L ∧ L - i < qs.length
  · rw [if_pos h1, if_pos (by omega), co_append_left h1.2, if_neg (by omega)]; grind
  · rw [if_neg h1]
    by_cases h2 : i = L - qs.length
    · rw [if_pos (by omega), if_pos h2, co_append_right (by omega), show L - i - qs.length = 0 by omega]
      show c = 0 + c
      grind
    · rw [if_neg h2]
      by_cases h3 : i ≤ L ∧ L - i < qs.length + 1
      · omega
      · rw [if_neg h3]; grind
theorem qf_rev {L : Nat} {qs : List Rat} (h : qs.length = L + 1) (i : Nat) : qf L qs i = co qs.reverse i := by
  unfold qf
  by_cases h1 : i ≤ L
  · rw [if_pos ⟨h1, by omega⟩]
    have : qs.reverse[i]? = qs[L - i]? := by
      rw [List.getElem?_reverse (by omega)]; congr 1; omega
    unfold co
    rw [List.getD_eq_getElem?_getD, List.getD_eq_getElem?_getD, this]
  · rw [if_neg (by omega), co_out (by rw [List.length_reverse]; omega)]
end Fp
namespace Fp
/-- without the noughts at the end -/
def trimQ (xs : List Rat) : List Rat := (xs.reverse.dropWhile fun x => x == 0).reverse
theorem trimQ_nil : trimQ [] = [] := rfl
theorem trimQ_zero {A : List Rat} {x : Rat} (h : x = 0) : trimQ (A ++ [x]) = trimQ A := by
  unfold trimQ
  rw [List.reverse_append, List.reverse_singleton, List.singleton_append, List.dropWhile_cons, if_pos (by simp [h])]
theorem trimQ_nz {A : List Rat} {x : Rat} (h : x ≠ 0) : trimQ (A ++ [x]) = A ++ [x] := by
  unfold trimQ
  rw [List.reverse_append, List.reverse_singleton, List.singleton_append, List.dropWhile_cons, if_neg (by simp [h])]
  simp
theorem snoc_cases {α : Type} (l : List α) : l = [] ∨ ∃ A x, l = A ++ [x] := by
  rcases List.eq_nil_or_concat l with e | ⟨A, x, e⟩
  · exact .inl e
  · exact .inr ⟨A, x, by rw [e, List.concat_eq_append]⟩
/-- by the last one -/
theorem snoc_ind {α : Type} {φ : List α → Prop} (h0 : φ []) (h1 : ∀ A x, φ A → φ (A ++ [x])) : ∀ l, φ l := fun l => by
  have : ∀ n (l : List α), l.length = n → φ l := by
    intro n
    induction n with
    | zero => intro l e; rw [List.length_eq_zero_iff.mp e]; exact h0
    | succ n ih =>
      intro l e
      rcases snoc_cases l with z | ⟨A, x, rfl⟩
      · rw [z] at e; cases e
      · exact h1 A x (ih A (by rw [List.length_append] at e; simpa using e))
  exact this _ l rfl
theorem trimQ_told (xs : List Rat) : Told (trimQ xs) := by
  induction xs using snoc_ind with
  | h0 => exact told_nil
  | h1 A x ih =>
    by_cases h : x = 0
    · rw [trimQ_zero h]; exact ih
    · rw [trimQ_nz h]; intro z hz
      rw [List.getLast?_concat] at hz
      obtain rfl := Option.some.inj hz
      exact h
theorem trimQ_co (xs : List Rat) (n : Nat) : co (trimQ xs) n = co xs n := by
  induction xs using snoc_ind with
  | h0 => rfl
  | h1 A x ih =>
    by_cases h : x = 0
    · rw [trimQ_zero h, ih]
      by_cases l : n < A.length
      · rw [co_append_left l]
      · rw [co_append_right (by omega), co_out (by omega)]
        cases hh : n - A.length with
        | zero => exact h.symm
        | succ k => rfl
    · rw [trimQ_nz h]
theorem trimQ_len (xs : List Rat) : (trimQ xs).length ≤ xs.length := by
  unfold trimQ
  rw [List.length_reverse]
  have := (List.dropWhile_suffix (fun x : Rat => x == 0) (l := xs.reverse)).length_le
  rw [List.length_reverse] at this
  exact this
theorem trimQ_mem {xs : List Rat} {x : Rat} (h : x ∈ trimQ xs) : x ∈ xs := by
  unfold trimQ at h
  have h2 := (List.dropWhile_sublist _).mem (List.mem_reverse.mp h)
  exact List.mem_reverse.mp h2
theorem trimQ_id {xs : List Rat} (h : Told xs) : trimQ xs = xs := told_ext (trimQ_told xs) h (trimQ_co xs)
/-- top and bottom of a number -/
def nd (x : Rat) : Int × Int := (x.num, x.den)
theorem nd_zero {x : Rat} : ((nd x).1 = 0) ↔ x = 0 := Rat.num_eq_zero
theorem nd_inj {x y : Rat} (h : nd x = nd y) : x = y := by
  have h1 : x.num = y.num := congrArg Prod.fst h
  have h2 : (x.den : Int) = y.den := congrArg Prod.snd h
  exact Rat.ext h1 (by omega)
end Fp

namespace Fp
open PySem PySem.Spec PyProof.Rows L2
/-! ### // by any number but 0, sizes -/
def CDivNW (_ j : Int) : Prop := j ≠ 0 ∧ j.natAbs.log2 < 9000
theorem op_fdivNW {X : Cx} : OpR X (binaryOp .FloorDiv) (rI CDivNW fun i j => .int (i.fdiv j)) := opI fun _ _ _ _ _ _ _ hc q => floordiv_int hc.1 q (.inl (PyProof.noPylong_of_log2 hc.2))
theorem LbI.log {n : Nat} {z : Int} (h : LbI n z) : z.natAbs.log2 ≤ n := by
  by_cases e : z.natAbs = 0
  · rw [e]; exact Nat.zero_le _
  · exact Nat.le_of_lt ((Nat.log2_lt e).mpr h)
theorem LbI.div {n : Nat} {i z : Int} (h : LbI n z) (l : n ≤ 8990) (h0 : z ≠ 0) : CDivNW i z := ⟨h0, by have := h.log; omega⟩
theorem LbI.cm {n m : Nat} {a b : Int} (h : LbI n a) (g : LbI m b) (l : n + m ≤ 999990) : CMulW a b := by
  have := h.log
  have := g.log
  unfold CMulW
  omega
theorem LbI.small {a : Int} {k : Nat} (h : a.natAbs < 2 ^ k) : LbI k a := h
theorem LbI.zero {n : Nat} : LbI n 0 := Nat.two_pow_pos n
/-! ### Ratios -/
def RQ (C : Addr) (H : Hp) (a : Addr) (x : Rat) : Prop := Rat2 C H a x.num x.den
theorem RQ.same {C : Addr} {H H' : Hp} {a : Addr} {x : Rat} (h : RQ C H a x) (e : Same H H') : RQ C H' a x := Rat2.same h e
abbrev QL (C : Addr) (H : Hp) (us : List V) (xs : List Rat) : Prop := RatL C H us (xs.map nd)
def NumQ (C : Addr) (H : Hp) (v : V) (x : Rat) : Prop := NumV C H v x.num x.den
theorem NumQ.same {C : Addr} {H H' : Hp} {v : V} {x : Rat} (h : NumQ C H v x) (e : Same H H') : NumQ C H' v x := NumV.same h e
theorem RQ.nq {C : Addr} {H : Hp} {a : Addr} {x : Rat} (h : RQ C H a x) : NumQ C H (.ref a) x := .inr ⟨a, rfl, h⟩
theorem NumQ.int {C : Addr} {H : Hp} {i : Int} : NumQ C H (.int i) (i : Rat) := .inl ⟨rfl, rfl⟩
theorem RQ.red {x : Rat} : RdI x.num x.den := ⟨den_pos x, x.reduced⟩
theorem NumQ.own {C : Addr} {H : Hp} {v : V} {x : Rat} (h : NumQ C H v x) : (∃ i, v = .int i) ∨ ∃ b dy gs, v = .ref b ∧ H b = some (.ins C dy gs) := by
  rcases h with ⟨h1, _⟩ | ⟨c, h1, dy, h2⟩
  · exact .inl ⟨_, h1⟩
  · exact .inr ⟨c, dy, _, h1, h2⟩
theorem QL.at {C : Addr} {H : Hp} {us : List V} {xs : List Rat} (h : QL C H us xs) {i : Nat} {v : V} (hv : us[i]? = some v) : ∃ x a, xs[i]? = some x ∧ v = .ref a ∧ RQ C H a x := by
  obtain ⟨pq, a, h1, h2, h3⟩ := h.at_ i v hv
  rw [List.getElem?_map] at h1
  cases e : xs[i]? with
  | none => rw [e] at h1; cases h1
  | some x => rw [e] at h1; obtain rfl := Option.some.inj h1; exact ⟨x, a, rfl, h2, h3⟩
theorem QL.len {C : Addr} {H : Hp} {us : List V} {xs : List Rat} (h : QL C H us xs) : us.length = xs.length := by rw [RatL.len h, List.length_map]
theorem QL.nil {C : Addr} {H : Hp} : QL C H [] [] := RatL.nil
theorem QL.mk {C : Addr} {H : Hp} {us : List V} {xs : List Rat} (l : us.length = xs.length) (h : ∀ (i : Nat) v x, us[i]? = some v → xs[i]? = some x → ∃ a, v = .ref a ∧ RQ C H a x) : QL C H us xs :=
  ⟨by rw [List.length_map]; exact l, fun i v hv => by
    have li := (List.getElem?_eq_some_iff.mp hv).1
    have hx : xs[i]? = some xs[i] := List.getElem?_eq_getElem (by omega)
    obtain ⟨a, h1, h2⟩ := h i v _ hv hx
    exact ⟨nd xs[i], a, by rw [List.getElem?_map, hx]; rfl, h1, h2⟩⟩
theorem QL.snoc {C : Addr} {H : Hp} {us : List V} {xs : List Rat} (h : QL C H us xs) {a : Addr} {x : Rat} (r : RQ C H a x) : QL C H (us ++ [.ref a]) (xs ++ [x]) := by
  have := RatL.snoc h r
  show RatL C H _ ((xs ++ [x]).map nd)
  rw [List.map_append]; exact this
theorem QL.take {C : Addr} {H : Hp} {us : List V} {xs : List Rat} (h : QL C H us xs) (n : Nat) : QL C H (us.take n) (xs.take n) := by
  have := RatL.take h n
  show RatL C H _ ((xs.take n).map nd)
  rw [List.map_take]; exact this
theorem QL.drop {C : Addr} {H : Hp} {us : List V} {xs : List Rat} (h : QL C H us xs) (n : Nat) : QL C H (us.drop n) (xs.drop n) :=
  QL.mk (by rw [List.length_drop, List.length_drop, h.len]) fun i v x hv hx => by
    rw [List.getElem?_drop] at hv hx
    obtain ⟨y, a, h1, h2, h3⟩ := h.at hv
    rw [hx] at h1
    obtain rfl := Option.some.inj h1
    exact ⟨a, h2, h3⟩
theorem QL.app {C : Addr} {H : Hp} {us ws : List V} {xs ys : List Rat} (h : QL C H us xs) (g : QL C H ws ys) : QL C H (us ++ ws) (xs ++ ys) :=
  QL.mk (by rw [List.length_append, List.length_append, h.len, g.len]) fun i v x hv hx => by
    have l := h.len
    by_cases z : i < us.length
    · rw [List.getElem?_append_left z] at hv
      rw [List.getElem?_append_left (by omega)] at hx
      obtain ⟨y, a, h1, h2, h3⟩ := h.at hv
      rw [hx] at h1
      obtain rfl := Option.some.inj h1
      exact ⟨a, h2, h3⟩
    · rw [List.getElem?_append_right (by omega)] at hv hx
      rw [l] at hv
      obtain ⟨y, a, h1, h2, h3⟩ := g.at hv
      rw [hx] at h1
      obtain rfl := Option.some.inj h1
      exact ⟨a, h2, h3⟩
theorem QL.dropLast {C : Addr} {H : Hp} {us : List V} {xs : List Rat} (h : QL C H us xs) : QL C H us.dropLast xs.dropLast := by
  rw [List.dropLast_eq_take, List.dropLast_eq_take, h.len]; exact h.take _
theorem QL.rev {C : Addr} {H : Hp} {us : List V} {xs : List Rat} (h : QL C H us xs) : QL C H us.reverse xs.reverse :=
  QL.mk (by rw [List.length_reverse, List.length_reverse, h.len]) fun i v x hv hx => by
    have li := (List.getElem?_eq_some_iff.mp hv).1
    rw [List.length_reverse] at li
    have l := h.len
    rw [List.getElem?_reverse (by omega)] at hv hx
    rw [l] at hv
    obtain ⟨y, a, h1, h2, h3⟩ := h.at hv
    rw [hx] at h1
    obtain rfl := Option.some.inj h1
    exact ⟨a, h2, h3⟩
theorem trimP_nd (xs : List Rat) : trimP (xs.map nd) = (trimQ xs).map nd := by
  induction xs using snoc_ind with
  | h0 => rfl
  | h1 A x ih =>
    rw [List.map_append]
    by_cases h : x = 0
    · rw [trimQ_zero h, ← ih]
      exact trimP_zero (nd_zero.mpr h)
    · rw [trimQ_nz h, List.map_append]
      exact trimP_nz fun z => h (nd_zero.mp z)
/-! ### Ratio(t, b), its methods -/
def spRQ (C : Addr) : Sp := fun vs H Q _ => ∃ (p dx : Addr) (t b : Int), vs = [.ref p, .int t, .int b] ∧ b ≠ 0 ∧ LbI 8990 b ∧ H p = some (.ins C dx []) ∧ ∀ H', (∀ b o, b ≠ p → H b = some o → H' b = some o) → H' p = some (.ins C dx [("_top", .int (Rat.divInt t b).num), ("_bottom", .int (Rat.divInt t b).den)]) → Q .non H'
structure RDefQ (P : Program) (w : World) (K : PySem.W.Frag) (mg : Str → Option Value) (base : Heap) (k : Nat) (C : Addr) : Prop where
  ex : ∃ (fI fR : Addr) (fdI : FuncData), RCls K mg C fI fR ∧ FnOk P w K mg base CX0 k fI fdI ["self", "top", "bottom"] (spRQ C) ∧ Binds K fdI ["self", "top", "bottom"] []
def tRatQ (C : Addr) (t : TA) : TE := fun σ H Q => t σ H fun vs H1 => ∃ i j : Int, vs = [.int i, .int j] ∧ j ≠ 0 ∧ LbI 8990 j ∧ ∀ a H', H1 a = none → Same H1 H' → RQ C H' a (Rat.divInt i j) → Q (.ref a) H'
theorem pe_ratQ {X : Cx} {C : Addr} {k : Nat} (D : RDefQ X.prog X.w X.K X.mg X.base k C) (hr : Room (k + 1) X.A) {p pos : Pos} {e : Expr} {es : List Expr} {t : TA} (hg : Gl X "Ratio") (ha : PA X (e :: es) t)
    (he : starEach (e :: es) X.env = (false, eval e X.env) :: starEach es X.env := by rfl) (hpl : (backTo pos (starEach es X.env)).any (·.1) = false := by rfl) : PE X (.Call (.Name "Ratio" p) (e :: es) [] pos) (tRatQ C t) := by
  obtain ⟨fI, fR, fdI, R, FI, bI⟩ := D.ex
  refine ⟨fun pins s σ H Q I h => ?_⟩
  refine wpAny_Call_Name_kw (ld_glob I hg R.mgC ?_ (by decide))
  refine PySem.W.callWith_K (h₀ := X.base) I.ok.mod.kin R.make.kp (thn (ha.run pos pins s σ H _ I h) fun us s1 ⟨vs, H1, I1, r, q⟩ => ⟨I1.kIn, ?_⟩) he hpl
  refine run_make (dvs := []) R.make FI hr bI .nil (pass0 (X := X)) I1 r fun x dx nx ndx ne => ?_
  obtain ⟨i, j, rfl, j0, jb, q⟩ := q
  refine ⟨x, dx, i, j, rfl, j0, jb, upd_same, fun H' kp hx => ⟨rfl, q x H' nx (fun b o e => ?_) ⟨dx, hx⟩⟩⟩
  have n1 := ne_of_none e nx
  exact kp b o n1 (by rw [upd_ne n1, upd_ne (ne_of_none e ndx)]; exact e)
def spMulQ (C : Addr) : Sp := fun vs H Q _ => ∃ (a : Addr) (y : V) (x z : Rat) (n m : Nat), vs = [.ref a, y] ∧ RQ C H a x ∧ NumQ C H y z ∧ Bits n x ∧ Bits m z ∧ n + m ≤ 8900 ∧ ∀ r H', Same H H' → RQ C H' r (x * z) → Q (.ref r) H'
def spSubQ (C : Addr) : Sp := fun vs H Q _ => ∃ (a : Addr) (y : V) (x z : Rat) (n m : Nat), vs = [.ref a, y] ∧ RQ C H a x ∧ NumQ C H y z ∧ Bits n x ∧ Bits m z ∧ n + m ≤ 8900 ∧ ∀ r H', Same H H' → RQ C H' r (x - z) → Q (.ref r) H'
def spAddQ (C : Addr) : Sp := fun vs H Q _ => ∃ (a : Addr) (y : V) (x z : Rat) (n m : Nat), vs = [.ref a, y] ∧ RQ C H a x ∧ NumQ C H y z ∧ Bits n x ∧ Bits m z ∧ n + m ≤ 8900 ∧ ∀ r H', Same H H' → RQ C H' r (x + z) → Q (.ref r) H'
def spOverQ (C : Addr) : Sp := fun vs H Q _ => ∃ (a : Addr) (y : V) (x z : Rat) (n m : Nat), vs = [.ref a, y] ∧ RQ C H a x ∧ NumQ C H y z ∧ Bits n x ∧ Bits m z ∧ n + m ≤ 8900 ∧ z ≠ 0 ∧ ∀ r H', Same H H' → RQ C H' r (x / z) → Q (.ref r) H'
theorem Bits.mul {n m : Nat} {x y : Rat} (h : Bits n x) (g : Bits m y) : Bits (n + m) (x * y) := by
  rw [← divInt_mul]
  exact Bits.divInt (h.1.mul g.1) (h.2.mul g.2) (by have := Int.mul_pos (den_pos x) (den_pos y); omega)
theorem Bits.sub {n m : Nat} {x y : Rat} (h : Bits n x) (g : Bits m y) : Bits (n + m + 1) (x - y) := by
  rw [← divInt_sub]
  refine Bits.divInt ((h.1.mul g.2).sub ?_) ((h.2.mul g.2).mono (by omega)) (by have := Int.mul_pos (den_pos x) (den_pos y); omega)
  have := g.1.mul h.2
  rw [Nat.add_comm m n] at this
  exact this
theorem Bits.add {n m : Nat} {x y : Rat} (h : Bits n x) (g : Bits m y) : Bits (n + m + 1) (x + y) := by
  rw [← divInt_add]
  refine Bits.divInt ((h.1.mul g.2).add ?_) ((h.2.mul g.2).mono (by omega)) (by have := Int.mul_pos (den_pos x) (den_pos y); omega)
  have := g.1.mul h.2
  rw [Nat.add_comm m n] at this
  exact this
theorem Bits.over {n m : Nat} {x y : Rat} (h : Bits n x) (g : Bits m y) (h0 : y ≠ 0) : Bits (n + m) (x / y) := by
  rw [← divInt_over]
  refine Bits.divInt (h.1.mul g.2) (h.2.mul g.1) fun z => ?_
  rcases Int.mul_eq_zero.mp z with e | e
  · have := den_pos x; omega
  · exact num_ne h0 e
end Fp

namespace Fp
open PySem PySem.Spec PyProof.Rows L2
def rLcm : List V → Hp → VK → Prop := fun vs H Q => ∃ a b : Int, vs = [.int a, .int b] ∧ a.natAbs < 2 ^ 64 ∧ b.natAbs < 2 ^ 64 ∧ Q (.int ((a.natAbs.lcm b.natAbs : Nat) : Int)) H
theorem cr_lcm {X : Cx} : CallR X (.builtin "math.lcm") rLcm := by
  intro pins s σ H vs us Q I r h
  obtain ⟨a, b, rfl, ha, hb, q⟩ := h
  obtain ⟨t, u, rfl⟩ := Vals.int2 r
  exact PySem.W.mc_lcm ha hb fun _ => ⟨.int _, H, I.tok _, ⟨_, rfl⟩, q⟩
/-! ### - of an own number -/
def rOwn1 (C : Addr) (sp : Sp) : V → Hp → VK → Prop := fun x H Q => ∃ a dx fs, x = .ref a ∧ H a = some (.ins C dx fs) ∧ sp [x] H Q E0
structure UnX (P : Program) (w : World) (K : PySem.W.Frag) (mg : Str → Option Value) (base : Heap) (k : Nat) (C : Addr) (sp : Sp) : Prop where
  ex : ∃ (f : Addr) (fd : FuncData), PySem.W.findIn K (.ref C) "__neg__" = some (some (.ref f)) ∧ PySem.W.isFn K (.ref f) = true ∧ FnOk P w K mg base CX0 k f fd ["self"] sp ∧ Binds K fd ["self"] []
theorem un_ownX {X : Cx} {C : Addr} {k : Nat} {sp : Sp} (D : UnX X.prog X.w X.K X.mg X.base k C sp) (hr : Room k X.A) : UnR X (unaryOp .USub) (rOwn1 C sp) := by
  obtain ⟨f, fd, hs, hf, F, hb⟩ := D.ex
  intro pins s σ H x v Q I rx hq
  obtain ⟨a, dx, fs, rfl, ha, hsp⟩ := hq
  cases rx
  obtain ⟨mA, J, _⟩ := ins_get I.hok ha
  obtain ⟨od, J, _⟩ := J.look
  obtain ⟨m, hF⟩ := I.fr
  refine PySem.W.ksp_neg hF I.ok.mod.kin J hs hf ?_
  have hl := F.len _ _ _ _ hsp
  have r2 : Vals [V.ref a] [Value.ref a] := .cons rfl .nil
  refine wpAny_call (codeAny_mono (F.run X.A X.stack s H ⟨[.ref a], []⟩ [.ref a] [.ref a] _ E0 hr I.env0 (by
    have := hb s [.ref a] I.kIn (by simpa using hl)
    simpa using this) r2 hsp) fun r s' hq => ?_)
  cases r with
  | error e => exact pass0 (X := X) pins σ H s e s' I hq
  | ok fl =>
    cases fl with
    | ret w => exact I.after hq
    | next => exact False.elim hq
    | brk => exact False.elim hq
    | cont => exact False.elim hq
/-- == of two own numbers, the same -/
theorem op_eqR {X : Cx} {C : Addr} {k : Nat} (D : EqX X.prog X.w X.K X.mg X.base k C) (hr : Room k X.A) : OpR X (compareOp .Eq) (rEqG (DIns C (SameR C))) := by
  obtain ⟨f, fd, h1, h2, F, hb⟩ := D.ex
  exact op_eqG (rcG_ins F h1 h2 hb (pass0 (X := X))) hr
def spNegQ (C : Addr) : Sp := fun vs H Q _ => ∃ (a : Addr) (x : Rat) (n : Nat), vs = [.ref a] ∧ RQ C H a x ∧ Bits n x ∧ n ≤ 8900 ∧ ∀ r H', Same H H' → RQ C H' r (-x) → Q (.ref r) H'
theorem Bits.neg {n : Nat} {x : Rat} (h : Bits n x) : Bits n (-x) := ⟨h.1.neg, h.2⟩
theorem divInt_neg (x : Rat) : Rat.divInt (-x.num) x.den = -x := by rw [← Rat.neg_divInt, Rat.num_divInt_den]
end Fp

namespace K21
open PySem PySem.Spec PyProof.Rows L2 Fp
section
variable {P : Program} {w : World} {K : PySem.W.Frag} {mg : Str → Option Value} {base : Heap} {k : Nat}
/-! ### the class Ratio -/
-- slots: self 0, top 1, bottom 2, shared 3
abbrev s_Ratio___init__ : Stmt := inClass (top 13) 0
abbrev N_Ratio___init__ : List Str := ["self", "top", "bottom", "shared"]
theorem sc_Ratio___init__ : FnScope N_Ratio___init__ ["self", "top", "bottom"] (defScope s_Ratio___init__) := ⟨rfl, rfl, rfl, by decide +kernel, rfl, by decide +kernel, by decide +kernel⟩
-- slots: self 0
abbrev s_Ratio___repr__ : Stmt := inClass (top 13) 19
abbrev N_Ratio___repr__ : List Str := ["self"]
theorem sc_Ratio___repr__ : FnScope N_Ratio___repr__ ["self"] (defScope s_Ratio___repr__) := ⟨rfl, rfl, rfl, by decide +kernel, rfl, by decide +kernel, by decide +kernel⟩
theorem d_rinit {C fI fR f : Addr} {fd : FuncData} (F : FunD K "__init__" "Ratio.__init__" (defArgs s_Ratio___init__) (defBody s_Ratio___init__) (defScope s_Ratio___init__) [V.int 1] [] f fd) (R : RCls K mg C fI fR) (M : Mg mg) (D_is_integer : Def P w K mg base k "is_integer" sInteger ["value"] spInteger) :
    FnOk P w K mg base CX0 (k + 1) f fd ["self", "top", "bottom"] (spRI C) := by
  refine F.ok sc_Ratio___init__ (by rintro _ _ _ _ ⟨p, dx, t, b, rfl, _⟩; rfl) fun cdv A outer s H vs Q E hr h => ?_
  obtain ⟨p, dx, t, b, rfl, rd, hp, q⟩ := h
  refine ⟨_, pss_cons (ps_if (pt_not (pt_val (pe_d D_is_integer hr (by rfl) (pa_cons (pv 1) pa_nil)))) pss_never pss_nil)
    (pss_cons (ps_if (PW.pt (pw_or (pt_not (pt_val (pe_d D_is_integer hr (by rfl) (pa_cons (pv 2) pa_nil)))) (pw_or1 (pt_cmpR op_eq (pv 2) pe_int (nomark _))))) pss_never pss_nil)
    (pss_cons (ps_set (i := 3) sc_Ratio___init__.nd rfl (.inl rfl) (pe_callBfun cr_gcd (by rfl) M.gcd  (pa_cons (pv 1) (pa_cons (pv 2) pa_nil))))
    (C8.pss_cut (ps_if (pt_cmpR op_lt (pv 2) pe_int (nomark _))
      (pss_one (ps_set (i := 3) sc_Ratio___init__.nd rfl (.inl rfl) (pe_un un_neg (pv 3))))
      (pss_nil))
    (pss_cons (ps_fld (pv 0) (pe_op op_fdivNW (pv 1) (pv 3)) rfl)
    (pss_one (ps_fld (pv 0) (pe_op op_fdivNW (pv 2) (pv 3)) rfl)))))), ?_⟩
  have b0 := rd.1
  refine ⟨_, rfl, t, rfl, fun H1 s1 => ⟨true, rfl, iteF ⟨_, rfl, b, rfl, fun H2 s2 => ⟨true, rfl, iteF ⟨_, rfl, rfl, _, rfl, iteF2 (decide_eq_false fun z => by injection z with z; omega) ?_⟩⟩⟩⟩⟩
  have hp2 := (s1.trans s2) _ _ hp
  have g1 : ((t.natAbs.gcd (Int.natAbs b) : Nat) : Int) = 1 := by rw [rd.2]; rfl
  refine ⟨_, rfl, _, rfl, t, b, rfl, ?_⟩
  rw [g1]
  refine ⟨fun σ' H' => σ' = [some (.ref p), some (.int t), some (.int b), some (.int 1)] ∧ H' = H2, ⟨_, rfl, b, 0, rfl, rfl, _, rfl, iteF2 (decide_eq_false (by omega)) ⟨rfl, rfl⟩⟩, ?_⟩
  rintro _ _ ⟨rfl, rfl⟩
  rename_i H2
  have f1 : putF "_top" (V.int (t.fdiv 1)) [] = ([("_top", V.int t)] : List (Str × V)) := by rw [Int.fdiv_one]; rfl
  have f2 : putF "_bottom" (V.int (Int.fdiv b 1)) ([("_top", V.int t)] : List (Str × V)) = ([("_top", V.int t), ("_bottom", V.int b)] : List (Str × V)) := by
    show (if ("_top" : Str) = "_bottom" then [(("_top" : Str), V.int (Int.fdiv b 1))] else (("_top" : Str), V.int t) :: putF "_bottom" (V.int (Int.fdiv b 1)) []) = _
    rw [if_neg (by decide +kernel), Int.fdiv_one]; rfl
  refine ⟨_, rfl, _, rfl, t, 1, rfl, rfl, ⟨by omega, by decide⟩, _, rfl, p, C, dx, [], rfl, hp2, R.cl, R.nT, (by show 0 < 1000; decide), ?_⟩
  refine ⟨_, rfl, _, rfl, b, 1, rfl, rfl, ⟨by omega, by decide⟩, _, rfl, p, C, dx, _, rfl, upd_same, R.cl, R.nB, (by rw [f1]; show 1 < 1000; decide), ?_⟩
  rw [f1, f2]
  refine q _ (fun b o nb e => ?_) upd_same
  rw [upd_ne nb, upd_ne nb]
  exact (s1.trans s2) _ _ e
theorem d_rinitQ {C fI fR f : Addr} {fd : FuncData} (F : FunD K "__init__" "Ratio.__init__" (defArgs s_Ratio___init__) (defBody s_Ratio___init__) (defScope s_Ratio___init__) [V.int 1] [] f fd) (R : RCls K mg C fI fR) (M : Mg mg) (D_is_integer : Def P w K mg base k "is_integer" sInteger ["value"] spInteger) :
    FnOk P w K mg base CX0 (k + 1) f fd ["self", "top", "bottom"] (spRQ C) := by
  refine F.ok sc_Ratio___init__ (by rintro _ _ _ _ ⟨p, dx, t, b, rfl, _⟩; rfl) fun cdv A outer s H vs Q E hr h => ?_
  obtain ⟨p, dx, t, b, rfl, b0, bl, hp, q⟩ := h
  refine ⟨_, pss_cons (ps_if (pt_not (pt_val (pe_d D_is_integer hr (by rfl) (pa_cons (pv 1) pa_nil)))) pss_never pss_nil)
    (pss_cons (ps_if (PW.pt (pw_or (pt_not (pt_val (pe_d D_is_integer hr (by rfl) (pa_cons (pv 2) pa_nil)))) (pw_or1 (pt_cmpR op_eq (pv 2) pe_int (nomark _))))) pss_never pss_nil)
    (pss_cons (ps_set (i := 3) sc_Ratio___init__.nd rfl (.inl rfl) (pe_callBfun cr_gcd (by rfl) M.gcd  (pa_cons (pv 1) (pa_cons (pv 2) pa_nil))))
    (C8.pss_cut (ps_if (pt_cmpR op_lt (pv 2) pe_int (nomark _))
      (pss_one (ps_set (i := 3) sc_Ratio___init__.nd rfl (.inl rfl) (pe_un un_neg (pv 3))))
      (pss_nil))
    (pss_cons (ps_fld (pv 0) (pe_op op_fdivNW (pv 1) (pv 3)) rfl)
    (pss_one (ps_fld (pv 0) (pe_op op_fdivNW (pv 2) (pv 3)) rfl)))))), ?_⟩
  refine ⟨_, rfl, t, rfl, fun H1 s1 => ⟨true, rfl, iteF ⟨_, rfl, b, rfl, fun H2 s2 => ⟨true, rfl, iteF ⟨_, rfl, rfl, _, rfl, iteF2 (decide_eq_false fun z => by injection z with z; omega) ?_⟩⟩⟩⟩⟩
  have hp2 := (s1.trans s2) _ _ hp
  have eT := divInt_top (t := t) b0
  have eB := divInt_bot (t := t) b0
  have gl : LbI 8990 ((t.natAbs.gcd b.natAbs : Nat) : Int) := Nat.lt_of_le_of_lt (Nat.gcd_le_right _ (by omega)) bl
  have g0 : ((t.natAbs.gcd b.natAbs : Nat) : Int) ≠ 0 := by
    have := Nat.gcd_pos_of_pos_right t.natAbs (show 0 < b.natAbs by omega)
    omega
  refine ⟨_, rfl, _, rfl, t, b, rfl, ?_⟩
  generalize hg : ((t.natAbs.gcd b.natAbs : Nat) : Int) = g at *
  refine ⟨fun σ' H' => σ' = [some (.ref p), some (.int t), some (.int b), some (.int (if b < 0 then -g else g))] ∧ H' = H2, ⟨_, rfl, b, 0, rfl, rfl, _, rfl, ite2 (fun z => ?_) (fun z => ?_)⟩, ?_⟩
  · have z2 := of_decide_eq_true z
    rw [if_pos z2]
    exact ⟨_, rfl, _, rfl, rfl, rfl⟩
  · have z2 : ¬ b < 0 := fun y => z (decide_eq_true y)
    rw [if_neg z2]
    exact ⟨rfl, rfl⟩
  rintro _ _ ⟨rfl, rfl⟩
  rename_i H2
  have hs : CDivNW t (if b < 0 then -g else g) := by
    split
    · exact gl.neg.div (by omega) (by omega)
    · exact gl.div (by omega) g0
  generalize (if b < 0 then -g else g) = h at *
  have f1 : putF "_top" (V.int (t.fdiv h)) [] = ([("_top", V.int (Rat.divInt t b).num)] : List (Str × V)) := by rw [eT]; rfl
  have f2 : putF "_bottom" (V.int (Int.fdiv b h)) ([("_top", V.int (Rat.divInt t b).num)] : List (Str × V)) = ([("_top", V.int (Rat.divInt t b).num), ("_bottom", V.int (Rat.divInt t b).den)] : List (Str × V)) := by
    show (if ("_top" : Str) = "_bottom" then [(("_top" : Str), V.int (Int.fdiv b h))] else (("_top" : Str), V.int (Rat.divInt t b).num) :: putF "_bottom" (V.int (Int.fdiv b h)) []) = _
    rw [if_neg (by decide +kernel), eB]; rfl
  refine ⟨_, rfl, _, rfl, t, h, rfl, rfl, hs, _, rfl, p, C, dx, [], rfl, hp2, R.cl, R.nT, (by show 0 < 1000; decide), ?_⟩
  refine ⟨_, rfl, _, rfl, b, h, rfl, rfl, hs, _, rfl, p, C, dx, _, rfl, upd_same, R.cl, R.nB, (by rw [f1]; show 1 < 1000; decide), ?_⟩
  rw [f1, f2]
  refine q _ (fun b o nb e => ?_) upd_same
  rw [upd_ne nb, upd_ne nb]
  exact (s1.trans s2) _ _ e
theorem d_rrepr {C fI fR f : Addr} {fd : FuncData} (F : Fun K "__repr__" "Ratio.__repr__" s_Ratio___repr__ f fd) (R : RCls K mg C fI fR) : FnOk P w K mg base CX0 (k + 1) f fd ["self"] (spRR C) := by
  refine F.ok sc_Ratio___repr__ (by rintro _ _ _ _ ⟨p, t, rfl, _⟩; rfl) fun cdv A outer s H vs Q E hr h => ?_
  obtain ⟨a, t, rfl, ⟨p, q, r, b1, b2, rfl⟩, hq⟩ := h
  refine ⟨_, pss_one (ps_ret (pe_joined (.cons pe_str (.cons (pe_fmt (pe_fld (pv 0) rfl)) (.cons pe_str (.cons (pe_fmt (pe_fld (pv 0) rfl)) (.cons pe_str .nil))))))), ?_⟩
  obtain ⟨dx, e⟩ := id r
  have l1 := int_len b1
  have l2 := int_len b2
  have e1 : (Str.ofString "Ratio(").length = 6 := rfl
  have e2 : (Str.ofString ", ").length = 2 := rfl
  have e3 : (Str.ofString ")").length = 1 := rfl
  have e0 : Str.empty ++ Str.ofString "Ratio(" = Str.ofString "Ratio(" := rfl
  have big : 3900 ≤ sizeLine := by decide
  refine ⟨_, rfl, by rw [e0, e1]; omega, _, rfl, a, C, dx, _, .int p, rfl, e, R.cl, R.nT, rfl, .inr ⟨p, rfl, b1, _, rfl, ?_, _, rfl, ?_, _, rfl, a, C, dx, _, .int q, rfl, e, R.cl, R.nB, rfl, .inr ⟨q, rfl, b2, _, rfl, ?_, _, rfl, ?_, ?_⟩⟩⟩
  · rw [e0, strLen_append, e1]; omega
  · rw [e0, strLen_append, strLen_append, e1, e2]; omega
  · rw [e0, strLen_append, strLen_append, strLen_append, e1, e2]; omega
  · rw [e0, strLen_append, strLen_append, strLen_append, strLen_append, e1, e2, e3]; omega
  · exact hq H (Same.refl H)
-- slots: self 0
abbrev s_Ratio_top : Stmt := inClass (top 13) 1
abbrev N_Ratio_top : List Str := ["self"]
theorem sc_Ratio_top : FnScope N_Ratio_top ["self"] (defScope s_Ratio_top) := ⟨rfl, rfl, rfl, by decide +kernel, rfl, by decide +kernel, by decide +kernel⟩
-- slots: self 0
abbrev s_Ratio_bottom : Stmt := inClass (top 13) 2
abbrev N_Ratio_bottom : List Str := ["self"]
theorem sc_Ratio_bottom : FnScope N_Ratio_bottom ["self"] (defScope s_Ratio_bottom) := ⟨rfl, rfl, rfl, by decide +kernel, rfl, by decide +kernel, by decide +kernel⟩
-- slots: self 0
abbrev s_Ratio_sign : Stmt := inClass (top 13) 3
abbrev N_Ratio_sign : List Str := ["self"]
theorem sc_Ratio_sign : FnScope N_Ratio_sign ["self"] (defScope s_Ratio_sign) := ⟨rfl, rfl, rfl, by decide +kernel, rfl, by decide +kernel, by decide +kernel⟩
-- slots: self 0, other 1, more 2
abbrev s_Ratio___add__ : Stmt := inClass (top 13) 5
abbrev N_Ratio___add__ : List Str := ["self", "other", "more"]
theorem sc_Ratio___add__ : FnScope N_Ratio___add__ ["self", "other"] (defScope s_Ratio___add__) := ⟨rfl, rfl, rfl, by decide +kernel, rfl, by decide +kernel, by decide +kernel⟩
-- slots: self 0, other 1, by 2
abbrev s_Ratio___mul__ : Stmt := inClass (top 13) 9
abbrev N_Ratio___mul__ : List Str := ["self", "other", "by"]
theorem sc_Ratio___mul__ : FnScope N_Ratio___mul__ ["self", "other"] (defScope s_Ratio___mul__) := ⟨rfl, rfl, rfl, by decide +kernel, rfl, by decide +kernel, by decide +kernel⟩
-- slots: self 0
abbrev s_Ratio___neg__ : Stmt := inClass (top 13) 11
abbrev N_Ratio___neg__ : List Str := ["self"]
theorem sc_Ratio___neg__ : FnScope N_Ratio___neg__ ["self"] (defScope s_Ratio___neg__) := ⟨rfl, rfl, rfl, by decide +kernel, rfl, by decide +kernel, by decide +kernel⟩
-- slots: self 0, other 1
abbrev s_Ratio___eq__ : Stmt := inClass (top 13) 17
abbrev N_Ratio___eq__ : List Str := ["self", "other"]
theorem sc_Ratio___eq__ : FnScope N_Ratio___eq__ ["self", "other"] (defScope s_Ratio___eq__) := ⟨rfl, rfl, rfl, by decide +kernel, rfl, by decide +kernel, by decide +kernel⟩
theorem d_rtop {C fI fR f : Addr} {fd : FuncData} (F : Fun K "top" "Ratio.top" s_Ratio_top f fd) (R : RCls K mg C fI fR) : FnOk P w K mg base CX0 (k + 1) f fd ["self"] (spTopR C) := by
  refine F.ok sc_Ratio_top (by rintro _ _ _ _ ⟨a, p, q, rfl, _⟩; rfl) fun cdv A outer s H vs Q E hr h => ?_
  obtain ⟨a, p, q, rfl, ⟨dx, r⟩, hq⟩ := h
  refine ⟨_, pss_one (ps_ret (pe_fld (pv 0) rfl)), ?_⟩
  exact ⟨_, rfl, a, C, dx, _, .int p, rfl, r, R.cl, R.nT, rfl, hq⟩
theorem d_rbot {C fI fR f : Addr} {fd : FuncData} (F : Fun K "bottom" "Ratio.bottom" s_Ratio_bottom f fd) (R : RCls K mg C fI fR) : FnOk P w K mg base CX0 (k + 1) f fd ["self"] (spBotR C) := by
  refine F.ok sc_Ratio_bottom (by rintro _ _ _ _ ⟨a, p, q, rfl, _⟩; rfl) fun cdv A outer s H vs Q E hr h => ?_
  obtain ⟨a, p, q, rfl, ⟨dx, r⟩, hq⟩ := h
  refine ⟨_, pss_one (ps_ret (pe_fld (pv 0) rfl)), ?_⟩
  exact ⟨_, rfl, a, C, dx, _, .int q, rfl, r, R.cl, R.nB, rfl, hq⟩
theorem d_rsgn {C fI fR f : Addr} {fd : FuncData} (F : Fun K "sign" "Ratio.sign" s_Ratio_sign f fd) (R : RCls K mg C fI fR) : FnOk P w K mg base CX0 (k + 1) f fd ["self"] (spSgnR C) := by
  refine F.ok sc_Ratio_sign (by rintro _ _ _ _ ⟨a, p, q, rfl, _⟩; rfl) fun cdv A outer s H vs Q E hr h => ?_
  obtain ⟨a, p, q, rfl, ⟨dx, r⟩, hq⟩ := h
  refine ⟨_, C8.pss_cut (ps_if (pt_cmpR op_lt (pe_fld (pv 0) rfl) pe_int (nomark _))
      (pss_one (ps_ret (pe_un un_neg pe_int)))
      (pss_nil))
    (pss_one (ps_ret (pe_ifExp (pt_cmpR op_gt (pe_fld (pv 0) rfl) pe_int (nomark _)) pe_int pe_int))), ?_⟩
  refine ⟨fun σ' H' => σ' = [some (.ref a)] ∧ H' = H ∧ 0 ≤ p, ⟨_, rfl, a, C, dx, _, .int p, rfl, r, R.cl, R.nT, rfl, p, 0, rfl, rfl, _, rfl, ite2 (fun z => ?_) (fun z => ?_)⟩, ?_⟩
  · have z2 := of_decide_eq_true z
    have e : sgnI p = -1 := if_pos z2
    rw [e] at hq
    exact ⟨1, rfl, hq⟩
  · exact ⟨rfl, rfl, by simpa using z⟩
  rintro _ _ ⟨rfl, rfl, h0⟩
  refine ⟨_, rfl, a, C, dx, _, .int p, rfl, r, R.cl, R.nT, rfl, p, 0, rfl, rfl, _, rfl, ite2 (fun z => ?_) (fun z => ?_)⟩
  · have z2 := of_decide_eq_true z
    have e : sgnI p = 1 := by unfold sgnI; rw [if_neg (by omega), if_pos z2]
    rw [e] at hq
    exact hq
  · have z2 : ¬ 0 < p := by simpa using z
    have e : sgnI p = 0 := by unfold sgnI; rw [if_neg (by omega), if_neg z2]
    rw [e] at hq
    exact hq
def spAs (C : Addr) : Sp := fun vs H Q _ => ∃ x p q, vs = [x] ∧ NumV C H x p q ∧ ∀ m H', Same H H' → Rat2 C H' m p q → Q (.ref m) H'
variable {C fI fR : Addr}
-- slots: number 0; cells: 
abbrev s_as_ratio : Stmt := top 15
abbrev N_as_ratio : List Str := ["number"]
theorem sc_as_ratio : FnScope N_as_ratio ["number"] (defScope s_as_ratio) := ⟨rfl, rfl, rfl, by decide +kernel, rfl, by decide +kernel, by decide +kernel⟩
theorem d_as_ratio (B : Bnd K mg "as_ratio" s_as_ratio) (M : Mg mg) (R : RCls K mg C fI fR) (J : RIsi K C) {kr : Nat} (RD : RDef P w K mg base kr C) (hk : kr + 8 ≤ k)  : Def P w K mg base (k + 1) "as_ratio" s_as_ratio ["number"] (spAs C) := by
  refine def_of B sc_as_ratio (by rintro _ _ _ _ ⟨x, p, q, rfl, _⟩; rfl) (fun _ _ _ _ _ _ us hl => match us, hl with | [_], _ => rfl) fun f cdv A outer s H vs Q E hr h => ?_
  obtain ⟨x, p, q, rfl, nv, hq⟩ := h
  have hu := hr.units
  refine ⟨_, C8.pss_cut (ps_if (pt_val (pe_callB call_isi (by rfl) M.isi (by decide +kernel) (pa_cons (pv 0) (pa_cons (pe_glob (v := .ref C) (by rfl) R.mgC rfl) pa_nil))))
      (pss_one (ps_ret (pv 0)))
      (pss_nil))
    (pss_one (ps_ret (pe_rat RD (hr.mono (by omega)) (by rfl) (pa_cons (pv 0) pa_nil)))), ?_⟩
  obtain ⟨ty, t1, t2⟩ := nv.kitC R J
  refine ⟨fun σ' H' => σ' = [some x] ∧ H' = H ∧ x = .int p ∧ q = 1, ⟨_, rfl, x, .ref C, ty, .ref C, isOwn H x, rfl, .own C, t1, t2, isOwn H x, rfl, ?_⟩, ?_⟩
  · rcases nv with ⟨rfl, rfl⟩ | ⟨a, rfl, r⟩
    · exact iteF ⟨rfl, rfl, rfl, rfl⟩
    · obtain ⟨dx, r1⟩ := id r
      exact iteT2 (by unfold isOwn; simp only [r1]) ⟨_, rfl, hq a H (Same.refl H) r⟩
  · rintro _ _ ⟨rfl, rfl, rfl, rfl⟩
    exact ⟨_, rfl, p, rfl, fun a H' na sm r => hq a H' sm r⟩
theorem d_radd {C fI fR f : Addr} {fd : FuncData} (F : Fun K "__add__" "Ratio.__add__" s_Ratio___add__ f fd) (R : RCls K mg C fI fR) {kr : Nat} (DQ : RDefQ P w K mg base kr C) (PT : PropX P w K mg base kr C "top" (spTopR C)) (PB : PropX P w K mg base kr C "bottom" (spBotR C)) (hk : kr + 8 ≤ k)
    (D_as_ratio : Def P w K mg base k "as_ratio" s_as_ratio ["number"] (spAs C)) : FnOk P w K mg base CX0 (k + 1) f fd ["self", "other"] (spAddQ C) := by
  refine F.ok sc_Ratio___add__ (by rintro _ _ _ _ ⟨a, y, p, q, n, m, rfl, _⟩; rfl) fun cdv A outer s H vs Q E hr h => ?_
  obtain ⟨a, y, p, q, n, m, rfl, ra, nv, bx, by_, nm, hq⟩ := h
  refine ⟨_, pss_cons (ps_set (i := 2) sc_Ratio___add__.nd rfl (.inl rfl) (pe_d D_as_ratio hr (by rfl) (pa_cons (pv 1) pa_nil)))
    (pss_one (ps_ret (pe_ratQ DQ (hr.mono (by omega)) (by rfl) (pa_cons (pe_op op_add (pe_op op_mulW (pe_fld (pv 0) rfl) (pe_propX PB (hr.mono (by omega)) R.cl (pv 2) (by rfl))) (pe_op op_mulW (pe_propX PT (hr.mono (by omega)) R.cl (pv 2) (by rfl)) (pe_fld (pv 0) rfl))) (pa_cons (pe_op op_mulW (pe_fld (pv 0) rfl) (pe_propX PB (hr.mono (by omega)) R.cl (pv 2) (by rfl))) pa_nil))))), ?_⟩
  refine ⟨_, rfl, y, _, _, rfl, nv, fun m' H1 s1 rm => ?_⟩
  obtain ⟨dx, r⟩ := RQ.same ra s1
  obtain ⟨dm, rm1⟩ := id rm
  refine ⟨_, rfl, a, C, dx, _, .int p.num, rfl, r, R.cl, R.nT, rfl, _, rfl, m', dm, _, rfl, rm1, m', _, _, rfl, rm, p.num, q.den, rfl, rfl, bx.1.cm by_.2 (by omega), ?_⟩
  refine ⟨_, rfl, m', dm, _, rfl, rm1, m', _, _, rfl, rm, _, rfl, a, C, dx, _, .int p.den, rfl, r, R.cl, R.nB, rfl, q.num, p.den, rfl, rfl, by_.1.cm bx.2 (by omega), _, _, rfl, rfl, ?_⟩
  refine ⟨_, rfl, a, C, dx, _, .int p.den, rfl, r, R.cl, R.nB, rfl, _, rfl, m', dm, _, rfl, rm1, m', _, _, rfl, rm, p.den, q.den, rfl, rfl, bx.2.cm by_.2 (by omega), ?_⟩
  refine ⟨_, _, rfl, by have := Int.mul_pos (den_pos p) (den_pos q); omega, (bx.2.mul by_.2).mono (by omega), fun b H2 nb s2 rb => hq b H2 (s1.trans s2) ?_⟩
  rw [divInt_add] at rb
  exact rb
theorem d_rmul {C fI fR f : Addr} {fd : FuncData} (F : Fun K "__mul__" "Ratio.__mul__" s_Ratio___mul__ f fd) (R : RCls K mg C fI fR) {kr : Nat} (DQ : RDefQ P w K mg base kr C) (PT : PropX P w K mg base kr C "top" (spTopR C)) (PB : PropX P w K mg base kr C "bottom" (spBotR C)) (hk : kr + 8 ≤ k)
    (D_as_ratio : Def P w K mg base k "as_ratio" s_as_ratio ["number"] (spAs C)) : FnOk P w K mg base CX0 (k + 1) f fd ["self", "other"] (spMulQ C) := by
  refine F.ok sc_Ratio___mul__ (by rintro _ _ _ _ ⟨a, y, p, q, n, m, rfl, _⟩; rfl) fun cdv A outer s H vs Q E hr h => ?_
  obtain ⟨a, y, p, q, n, m, rfl, ra, nv, bx, by_, nm, hq⟩ := h
  refine ⟨_, pss_cons (ps_set (i := 2) sc_Ratio___mul__.nd rfl (.inl rfl) (pe_d D_as_ratio hr (by rfl) (pa_cons (pv 1) pa_nil)))
    (pss_one (ps_ret (pe_ratQ DQ (hr.mono (by omega)) (by rfl) (pa_cons (pe_op op_mulW (pe_fld (pv 0) rfl) (pe_propX PT (hr.mono (by omega)) R.cl (pv 2) (by rfl))) (pa_cons (pe_op op_mulW (pe_fld (pv 0) rfl) (pe_propX PB (hr.mono (by omega)) R.cl (pv 2) (by rfl))) pa_nil))))), ?_⟩
  refine ⟨_, rfl, y, _, _, rfl, nv, fun m' H1 s1 rm => ?_⟩
  obtain ⟨dx, r⟩ := RQ.same ra s1
  obtain ⟨dm, rm1⟩ := id rm
  refine ⟨_, rfl, a, C, dx, _, .int p.num, rfl, r, R.cl, R.nT, rfl, _, rfl, m', dm, _, rfl, rm1, m', _, _, rfl, rm, p.num, q.num, rfl, rfl, bx.1.cm by_.1 (by omega), ?_⟩
  refine ⟨_, rfl, a, C, dx, _, .int p.den, rfl, r, R.cl, R.nB, rfl, _, rfl, m', dm, _, rfl, rm1, m', _, _, rfl, rm, p.den, q.den, rfl, rfl, bx.2.cm by_.2 (by omega), ?_⟩
  refine ⟨_, _, rfl, by have := Int.mul_pos (den_pos p) (den_pos q); omega, (bx.2.mul by_.2).mono (by omega), fun b H2 nb s2 rb => hq b H2 (s1.trans s2) ?_⟩
  rw [divInt_mul] at rb
  exact rb
theorem d_rneg {C fI fR f : Addr} {fd : FuncData} (F : Fun K "__neg__" "Ratio.__neg__" s_Ratio___neg__ f fd) (R : RCls K mg C fI fR) {kr : Nat} (DQ : RDefQ P w K mg base kr C) (hk : kr + 8 ≤ k) : FnOk P w K mg base CX0 (k + 1) f fd ["self"] (spNegQ C) := by
  refine F.ok sc_Ratio___neg__ (by rintro _ _ _ _ ⟨a, x, n, rfl, _⟩; rfl) fun cdv A outer s H vs Q E hr h => ?_
  obtain ⟨a, x, n, rfl, ra, bx, nm, hq⟩ := h
  refine ⟨_, pss_one (ps_ret (pe_ratQ DQ (hr.mono (by omega)) (by rfl) (pa_cons (pe_un un_neg (pe_fld (pv 0) rfl)) (pa_cons (pe_fld (pv 0) rfl) pa_nil)))), ?_⟩
  obtain ⟨dx, r⟩ := id ra
  refine ⟨_, rfl, a, C, dx, _, .int x.num, rfl, r, R.cl, R.nT, rfl, x.num, rfl, _, rfl, a, C, dx, _, .int x.den, rfl, r, R.cl, R.nB, rfl, ?_⟩
  refine ⟨_, _, rfl, by have := den_pos x; omega, bx.2.mono (by omega), fun b H2 nb s2 rb => hq b H2 s2 ?_⟩
  rw [divInt_neg] at rb
  exact rb
theorem d_req {C fI fR f : Addr} {fd : FuncData} (F : Fun K "__eq__" "Ratio.__eq__" s_Ratio___eq__ f fd) (R : RCls K mg C fI fR) (J : RIsi K C) (M : Mg mg) : FnOk P w K mg base CX0 (k + 1) f fd ["self", "other"] (spEq (SameR C)) := by
  refine F.ok sc_Ratio___eq__ (by rintro _ _ _ _ ⟨a, b, rfl, _⟩; rfl) fun cdv A outer s H vs Q E hr h => ?_
  obtain ⟨a, b, rfl, ⟨p, q, ⟨dx, r1⟩, ⟨dy, r2⟩⟩, hq⟩ := h
  refine ⟨_, pss_one (ps_ret (pe_and (pe_callB call_isi (by rfl) M.isi (by decide +kernel) (pa_cons (pv 1) (pa_cons (pe_glob (v := .ref C) (by rfl) R.mgC rfl) pa_nil))) (pe_and (pe_cmpR op_eq (pe_fld (pv 0) rfl) (pe_fld (pv 1) rfl) (nomark _)) (pe_one (pe_cmpR op_eq (pe_fld (pv 0) rfl) (pe_fld (pv 1) rfl) (nomark _)))))), ?_⟩
  refine ⟨_, rfl, .ref b, .ref C, .ref C, .ref C, true, rfl, .own C, .base (.ins r2 R.cl R.isA R.isN R.isT R.isM), J.c, true, rfl, iteT ?_⟩
  refine ⟨_, rfl, a, C, dx, _, .int p, rfl, r1, R.cl, R.nT, rfl, _, rfl, b, C, dy, _, .int p, rfl, r2, R.cl, R.nT, rfl, rfl, _, rfl, iteT2 (decide_eq_true rfl) ?_⟩
  refine ⟨_, rfl, a, C, dx, _, .int q, rfl, r1, R.cl, R.nB, rfl, _, rfl, b, C, dy, _, .int q, rfl, r2, R.cl, R.nB, rfl, rfl, ?_⟩
  rw [show decide (V.int q = V.int q) = true from decide_eq_true rfl]
  exact hq H Ext.rfl'
end
end K21

namespace K21
open PySem PySem.Spec PyProof.Rows L2 Fp
structure Mg2 (mg : Str → Option Value) : Prop extends Mg mg where
  MOST_DEGREE : ∃ t, mg "MOST_DEGREE" = some (.int 48 t)
section
variable {P : Program} {w : World} {K : PySem.W.Frag} {mg : Str → Option Value} {base : Heap} {k : Nat} {C fI fR : Addr}
def spIntegerX (C : Addr) : Sp := fun vs H Q _ => ∃ x d, vs = [x] ∧ Sk C H d x ∧ Ret H Q (.bl (isI x))
def spListX (C : Addr) : Sp := fun vs H Q _ => ∃ x d, vs = [x] ∧ Sk C H d x ∧ Ret H Q (.bl (itemsOf H x).isSome)
def spNumberX (C : Addr) : Sp := fun vs H Q _ => ∃ x d, vs = [x] ∧ Sk C H d x ∧ Ret H Q (.bl (isNum H x))
def spPolyX (C : Addr) : Sp := fun vs H Q _ => ∃ x d, vs = [x] ∧ Sk C H d x ∧ Ret H Q (.bl (isPolyV H x))
def sp_trimmed (C : Addr) : Sp := fun vs H Q _ => ∃ l us ps, vs = [.ref l] ∧ H l = some (.lst us) ∧ RatL C H us ps ∧ us.length ≤ 1000 ∧ ∀ a H' ws, Same H H' → H a = none → H' a = some (.lst ws) → RatL C H' ws (trimP ps) → Q (.ref a) H'
def sp_told (C : Addr) : Sp := fun vs H Q _ => ∃ x d, vs = [x] ∧ Sk C H d x ∧ isPolyV H x = true ∧ ∀ a H' us, Same H H' → H a = none → H' a = some (.lst us) → RatL C H' us (toldP H x) → Q (.ref a) H'
def sp_degree (C : Addr) : Sp := fun vs H Q _ => ∃ x d, vs = [x] ∧ Sk C H d x ∧ isPolyV H x = true ∧ Ret H Q (.int (((toldP H x).length : Int) - 1))
theorem fm_idxn {xs : List V} (g : V → V) : ∀ n, n ≤ xs.length → (List.range n).filterMap (fun i => (xs[i]?).map g) = (xs.take n).map g
  | 0, _ => by simp
  | n + 1, h => by
    have hn := List.getElem?_eq_getElem (show n < xs.length by omega)
    rw [fm_succ, fm_idxn g n (by omega), takeS hn, List.map_append, hn]; rfl
theorem fm_bl (xs : List V) (g : V → Bool) : (List.range xs.length).filterMap (fun i => (xs[i]?).map fun v => V.bl (g v)) = (xs.map g).map V.bl := by
  rw [fm_idxn _ xs.length (Nat.le_refl _), List.take_length, List.map_map]; rfl
-- slots: value 0; cells: 
abbrev N_is_integer : List Str := ["value"]
theorem sc_is_integer : FnScope N_is_integer ["value"] (defScope sInteger) := ⟨rfl, rfl, rfl, by decide +kernel, rfl, by decide +kernel, by decide +kernel⟩
theorem d_is_integer (B : Bnd K mg "is_integer" sInteger) (M : Mg2 mg) (R : RCls K mg C fI fR)  : Def P w K mg base (k + 1) "is_integer" sInteger ["value"] (spIntegerX C) := by
  refine def_of B sc_is_integer (by rintro _ _ _ _ ⟨x, d, rfl, _⟩; rfl) (fun _ _ _ _ _ _ us hl => match us, hl with | [_], _ => rfl) fun f cdv A outer s H vs Q E hr h => ?_
  obtain ⟨x, d, rfl, hx, q⟩ := h
  have hu := hr.units
  refine ⟨_, pss_one (ps_ret (pe_and (pe_callB call_isi (by rfl) M.isi (by decide +kernel) (pa_cons (pv 0) (pa_cons (pe_bltn (v := .ty "int") (by rfl) M.int (by decide +kernel) rfl) pa_nil))) (pe_one (pe_not (pe_callB call_isi (by rfl) M.isi (by decide +kernel) (pa_cons (pv 0) (pa_cons (pe_bltn (v := .ty "bool") (by rfl) M.bool (by decide +kernel) rfl) pa_nil))))))), ?_⟩
  obtain ⟨ty, t1, t2, t3, _⟩ := hx.kit R
  refine ⟨_, rfl, x, _, ty, _, isI x || isB x, rfl, .ty _, t1, t2, (isI x || isB x), rfl, ?_⟩
  cases e : (isI x || isB x) with
  | false =>
    have e1 : isI x = false := (Bool.or_eq_false_iff.mp e).1
    rw [e1] at q
    exact iteF (q H (Same.refl H))
  | true =>
    refine iteT ⟨_, rfl, x, _, ty, _, isB x, rfl, .ty _, t1, t3, isB x, rfl, ?_⟩
    have e2 : (!isB x) = isI x := by cases x <;> simp_all [isI, isB]
    rw [e2]
    exact q H (Same.refl H)
-- slots: value 0; cells: 
abbrev N_is_list : List Str := ["value"]
theorem sc_is_list : FnScope N_is_list ["value"] (defScope sList) := ⟨rfl, rfl, rfl, by decide +kernel, rfl, by decide +kernel, by decide +kernel⟩
theorem d_is_list (B : Bnd K mg "is_list" sList) (M : Mg2 mg) (R : RCls K mg C fI fR)  : Def P w K mg base (k + 1) "is_list" sList ["value"] (spListX C) := by
  refine def_of B sc_is_list (by rintro _ _ _ _ ⟨x, d, rfl, _⟩; rfl) (fun _ _ _ _ _ _ us hl => match us, hl with | [_], _ => rfl) fun f cdv A outer s H vs Q E hr h => ?_
  obtain ⟨x, d, rfl, hx, q⟩ := h
  have hu := hr.units
  refine ⟨_, pss_one (ps_ret (pe_callB call_isiT (by rfl) M.isi (by decide +kernel) (pa_cons (pv 0) (pa_cons (pe_tup (pa_cons (pe_bltn (v := .ty "list") (by rfl) M.list (by decide +kernel) rfl) (pa_cons (pe_bltn (v := .ty "tuple") (by rfl) M.tuple (by decide +kernel) rfl) pa_nil))) pa_nil)))), ?_⟩
  refine ⟨_, rfl, (by show 2 ≤ sizeLine; decide), fun p np => ?_⟩
  have sp := same_new (o := .tup [V.ty "list", V.ty "tuple"]) np
  obtain ⟨ty, t1, _, _, t4⟩ := (hx.same sp).kit R
  rw [itemsOf_same hx sp] at t4
  exact ⟨x, p, _, ty, _, _, rfl, upd_same, .cons (.ty _) (.cons (.ty _) .nil), t1, t4, q _ sp⟩
-- slots: value 0; cells: 
abbrev s_is_number : Stmt := top 14
abbrev N_is_number : List Str := ["value"]
theorem sc_is_number : FnScope N_is_number ["value"] (defScope s_is_number) := ⟨rfl, rfl, rfl, by decide +kernel, rfl, by decide +kernel, by decide +kernel⟩
theorem d_is_number (B : Bnd K mg "is_number" s_is_number) (M : Mg2 mg) (R : RCls K mg C fI fR) (J : RIsi K C) (D_is_integer : Def P w K mg base k "is_integer" sInteger ["value"] (spIntegerX C)) : Def P w K mg base (k + 1) "is_number" s_is_number ["value"] (spNumberX C) := by
  refine def_of B sc_is_number (by rintro _ _ _ _ ⟨x, d, rfl, _⟩; rfl) (fun _ _ _ _ _ _ us hl => match us, hl with | [_], _ => rfl) fun f cdv A outer s H vs Q E hr h => ?_
  obtain ⟨x, d, rfl, hx, q⟩ := h
  have hu := hr.units
  refine ⟨_, pss_one (ps_ret (pe_or (pe_d D_is_integer hr (by rfl) (pa_cons (pv 0) pa_nil)) (pe_one (pe_callB call_isi (by rfl) M.isi (by decide +kernel) (pa_cons (pv 0) (pa_cons (pe_glob (v := .ref C) (by rfl) R.mgC rfl) pa_nil)))))), ?_⟩
  refine ⟨_, rfl, x, d, rfl, hx, fun H1 s1 => ⟨isI x, rfl, ?_⟩⟩
  obtain ⟨ty, t1, t2⟩ := (hx.same s1).kitC R J
  unfold isNum at q
  cases e : isI x with
  | true => rw [e] at q; exact iteT (q H1 s1)
  | false =>
    rw [e] at q
    refine iteF ⟨_, rfl, x, .ref C, ty, .ref C, isOwn H1 x, rfl, .own C, t1, t2, ?_⟩
    rw [isOwn_same hx s1]
    exact q H1 s1
-- slots: value 0, one 1; cells: 
abbrev s_is_poly : Stmt := top 21
abbrev N_is_poly : List Str := ["value", "one"]
theorem sc_is_poly : FnScope N_is_poly ["value"] (defScope s_is_poly) := ⟨rfl, rfl, rfl, by decide +kernel, rfl, by decide +kernel, by decide +kernel⟩
theorem d_is_poly (B : Bnd K mg "is_poly" s_is_poly) (M : Mg2 mg) (R : RCls K mg C fI fR) (D_is_list : Def P w K mg base k "is_list" sList ["value"] (spListX C)) (D_is_number : Def P w K mg base k "is_number" s_is_number ["value"] (spNumberX C)) : Def P w K mg base (k + 1) "is_poly" s_is_poly ["value"] (spPolyX C) := by
  refine def_of B sc_is_poly (by rintro _ _ _ _ ⟨x, d, rfl, _⟩; rfl) (fun _ _ _ _ _ _ us hl => match us, hl with | [_], _ => rfl) fun f cdv A outer s H vs Q E hr h => ?_
  obtain ⟨x, d, rfl, hx, q⟩ := h
  have hu := hr.units
  obtain ⟨t_MOST_DEGREE, m_MOST_DEGREE⟩ := M.MOST_DEGREE
  refine ⟨_, pss_one (ps_ret (pe_and (pe_d D_is_list hr (by rfl) (pa_cons (pv 0) pa_nil)) (pe_and (pe_cmpR op_le (pe_callB call_len_seq (by rfl) M.len boot_len (pa_cons (pv 0) pa_nil)) (pe_op op_add (pe_glob (v := .int 48) (by rfl) m_MOST_DEGREE ⟨_, rfl⟩) pe_int) (nomark _)) (pe_one (pe_callB (cr_all rfl) (by rfl) M.all boot_all (pa_cons (pe_lc (own := [("one", 1)]) (g := (gName 1)) (tt := tYes) (te := (tD _ (tCons (tVar 1) tNil))) rfl sc_is_poly.nd (pi_sq (pv 0)) (blkOk_by (own := [("one", 1)]) (N := N_is_poly) (sc := defScope s_is_poly) (by decide +kernel)) (fun _ _ _ _ _ => pg_name (i := 1) sc_is_poly.nd rfl (.inl rfl)) (fun _ _ _ _ _ => pts_nil) (fun _ _ _ _ _ => pe_d D_is_number hr (by rfl) (pa_cons (pv 1) pa_nil))) pa_nil)))))), ?_⟩
  refine ⟨_, rfl, x, d, rfl, hx, fun H1 s1 => ⟨(itemsOf H x).isSome, rfl, ?_⟩⟩
  cases e : itemsOf H x with
  | none =>
    refine iteF (q H1 s1 |> fun z => ?_)
    unfold isPolyV at z
    rw [e] at z
    exact z
  | some xs =>
    have ev : isPolyV H x = (decide (xs.length ≤ 49) && xs.all (isNum H)) := by unfold isPolyV; rw [e]
    obtain ⟨b, rfl, hb, l60, hys⟩ := hx.items e
    have hB : Sq K H b xs := hb.elim (fun z => .inl (SqL.of z)) (fun z => .inr (SqT.of z))
    refine iteT ⟨_, rfl, b, xs, rfl, hB.same s1, 48, 1, rfl, rfl, _, _, rfl, rfl, _, rfl, ite2 (fun z => ?_) (fun z => ?_)⟩
    · have z2 : xs.length ≤ 49 := by have := of_decide_eq_true z; omega
      dsimp only [tCB, tCons, tNil]
      refine lc_sq (xs := xs) (fun i => (xs[i]?).map fun v => V.bl (isNum H v)) (fun R r => ⟨_, rfl, r⟩) (hB.same s1) (by rw [sizeLine_eq]; omega) (fun i y H4 hy s4 Y N yy nn => ?_) (fun D H4 s4 hD hD2 => ?_)
      · have sy := hys y (List.mem_of_getElem? hy)
        refine ⟨rfl, _, rfl, y, d, rfl, sy.same (s1.trans s4), fun H5 s5 => ?_⟩
        rw [isNum_same sy (s1.trans s4)]
        exact yy _ _ s5 (by show (xs[i]?).map _ = _; rw [hy]; rfl)
      rw [fm_bl] at hD2
      refine ⟨D, xs.map (isNum H), rfl, SqL.of hD2, ?_⟩
      have al : (xs.map (isNum H)).all id = xs.all (isNum H) := by rw [List.all_map]; rfl
      rw [al, show xs.all (isNum H) = isPolyV H (.ref b) by rw [ev, decide_eq_true z2, Bool.true_and]]
      exact q H4 (s1.trans s4)
    · have z2 : ¬ xs.length ≤ 49 := fun y => z (decide_eq_true (by omega))
      rw [ev, decide_eq_false z2] at q
      exact q H1 s1
-- slots: numbers 0, size 1; cells: 
abbrev s_trimmed : Stmt := top 30
abbrev N_trimmed : List Str := ["numbers", "size"]
theorem sc_trimmed : FnScope N_trimmed ["numbers"] (defScope s_trimmed) := ⟨rfl, rfl, rfl, by decide +kernel, rfl, by decide +kernel, by decide +kernel⟩
theorem d_trimmed (B : Bnd K mg "trimmed" s_trimmed) (M : Mg2 mg) (R : RCls K mg C fI fR) (J : RIsi K C) {kr : Nat} (PS : PropX P w K mg base kr C "sign" (spSgnR C)) (hk : kr + 8 ≤ k)  : Def P w K mg base (k + 1) "trimmed" s_trimmed ["numbers"] (sp_trimmed C) := by
  refine def_of B sc_trimmed (by rintro _ _ _ _ ⟨l, us, ps, rfl, _⟩; rfl) (fun _ _ _ _ _ _ us hl => match us, hl with | [_], _ => rfl) fun f cdv A outer s H vs Q E hr h => ?_
  obtain ⟨l, us, ps, rfl, hl, hR, l1, q⟩ := h
  have hu := hr.units
  refine ⟨_, pss_cons (ps_set (i := 1) sc_trimmed.nd rfl (.inl rfl) (pe_callB call_len_seq (by rfl) M.len boot_len (pa_cons (pv 0) pa_nil)))
    (pss_cons (ps_while PassesOwn.never (PW.pt (pw_and (pt_cmpR op_gt (pv 1) pe_int (nomark _)) (pw_and1 (pt_cmpR op_eq (pe_propX PS (hr.mono (by omega)) R.cl (pe_ix (r := rIxL K) ix_list (pv 0) (pe_op op_sub (pv 1) pe_int) (fun _ _ => rfl)) (by rfl)) pe_int (nomark _)))))
      (pss_one (ps_aug (i := 1) sc_trimmed.nd rfl (.inl rfl) pe_int ip_sub)))
    (pss_one (ps_ret (pe_slice (r := rSlL K) sl_list (pv 0) po_none (po_some (pv 1)))))), ?_⟩
  refine ⟨_, rfl, l, us, rfl, .inl (SqL.of hl), ?_⟩
  refine ⟨fun mm σ H' => ∃ n : Nat, σ = [some (.ref l), some (.int (n : Int))] ∧ H' = H ∧ mm = n ∧ n ≤ us.length ∧ trimP (ps.take n) = trimP ps, ⟨us.length, us.length, rfl, rfl, rfl, Nat.le_refl _, by rw [hR.len, List.take_length]⟩, ?_⟩
  rintro mm σ H' ⟨n, rfl, rfl, rfl, nl, tp⟩
  have fin : ps.take mm = trimP ps → (tRet (tSl (rSlL K) (tVar 0) tNoPart (tPart (tVar 1)))) { nx := fun _ H1 => Q .non H1, rt := Q } [some (.ref l), some (.int (mm : Int))] H' := fun e => by
    refine ⟨_, rfl, _, rfl, mm, rfl, l, us, rfl, SqL.of hl, fun c nc => q c _ _ (same_new nc) nc upd_same ?_⟩
    rw [cut_to, ← e]
    exact (hR.same (same_new nc)).take mm
  refine ⟨_, rfl, mm, 0, rfl, rfl, _, rfl, ite2 (fun z => ?_) (fun z => ?_)⟩
  · have z2 : 0 < mm := by have := of_decide_eq_true z; omega
    obtain ⟨v, hv⟩ : ∃ v, us[mm - 1]? = some v := ⟨_, List.getElem?_eq_getElem (by omega)⟩
    obtain ⟨pq, a, h1, rfl, r⟩ := hR.at_ _ _ hv
    obtain ⟨dx, r1⟩ := id r
    have tk : ps.take mm = ps.take (mm - 1) ++ [pq] := by
      rw [show mm = (mm - 1) + 1 by omega, takeS h1, show mm - 1 + 1 - 1 = mm - 1 by omega]
    refine ⟨_, rfl, _, rfl, (mm : Int), 1, rfl, rfl, l, us, (mm : Int) - 1, _, rfl, rfl, SqL.of hl, at_of (j := mm - 1) (by omega) hv, a, dx, _, rfl, r1, a, pq.1, pq.2, rfl, r, rfl, _, rfl, ite2 (fun z3 => ?_) (fun z3 => ?_)⟩
    · have p0 : pq.1 = 0 := by
        have := of_decide_eq_true z3
        injection this with this
        unfold sgnI at this
        by_cases h : pq.1 < 0
        · rw [if_pos h] at this; omega
        · rw [if_neg h] at this
          by_cases h2 : 0 < pq.1
          · rw [if_pos h2] at this; omega
          · omega
      refine ⟨fun σ' H1 => σ' = [some (.ref l), some (.int ((mm - 1 : Nat) : Int))] ∧ H1 = H', fun σ' H1 ⟨e1, e2⟩ => ⟨mm - 1, by omega, mm - 1, e1, e2, rfl, by omega, by rw [← tp, tk, trimP_zero p0]⟩, ?_⟩
      refine ⟨_, rfl, (mm : Int), 1, rfl, rfl, ?_, rfl⟩
      show [some (V.ref l), some (V.int ((mm : Int) - 1))] = _
      rw [show (mm : Int) - 1 = ((mm - 1 : Nat) : Int) by omega]
    · have p0 : pq.1 ≠ 0 := fun e => z3 (decide_eq_true (by rw [e]; rfl))
      exact fin (by rw [← tp, tk, trimP_nz p0])
  · have z2 : mm = 0 := by
      by_cases e : mm = 0
      · exact e
      · exact absurd (decide_eq_true (by omega)) z
    subst z2
    exact fin (by rw [← tp]; rfl)
-- slots: poly 0, number 1; cells: 
abbrev s_told : Stmt := top 22
abbrev N_told : List Str := ["poly", "number"]
theorem sc_told : FnScope N_told ["poly"] (defScope s_told) := ⟨rfl, rfl, rfl, by decide +kernel, rfl, by decide +kernel, by decide +kernel⟩
theorem d_told (B : Bnd K mg "told" s_told) (M : Mg2 mg) (R : RCls K mg C fI fR) (D_as_ratio : Def P w K mg base k "as_ratio" s_as_ratio ["number"] (spAs C)) (D_is_poly : Def P w K mg base k "is_poly" s_is_poly ["value"] (spPolyX C)) (D_trimmed : Def P w K mg base k "trimmed" s_trimmed ["numbers"] (sp_trimmed C)) : Def P w K mg base (k + 1) "told" s_told ["poly"] (sp_told C) := by
  refine def_of B sc_told (by rintro _ _ _ _ ⟨x, d, rfl, _⟩; rfl) (fun _ _ _ _ _ _ us hl => match us, hl with | [_], _ => rfl) fun f cdv A outer s H vs Q E hr h => ?_
  obtain ⟨x, d, rfl, hx, hp, q⟩ := h
  have hu := hr.units
  refine ⟨_, pss_cons (ps_if (pt_not (pt_val (pe_d D_is_poly hr (by rfl) (pa_cons (pv 0) pa_nil)))) pss_never pss_nil)
    (pss_one (ps_ret (pe_d D_trimmed hr (by rfl) (pa_cons (pe_lc (own := [("number", 1)]) (g := (gName 1)) (tt := tYes) (te := (tD _ (tCons (tVar 1) tNil))) rfl sc_told.nd (pi_sq (pv 0)) (blkOk_by (own := [("number", 1)]) (N := N_told) (sc := defScope s_told) (by decide +kernel)) (fun _ _ _ _ _ => pg_name (i := 1) sc_told.nd rfl (.inl rfl)) (fun _ _ _ _ _ => pts_nil) (fun _ _ _ _ _ => pe_d D_as_ratio hr (by rfl) (pa_cons (pv 1) pa_nil))) pa_nil)))), ?_⟩
  obtain ⟨xs, e, eD, l49, hn⟩ := poly_items hp
  have eT : toldP H x = trimP (xs.map (numOf H)) := by unfold toldP; rw [eD]
  obtain ⟨b, rfl, hb, l60, hys⟩ := hx.items e
  have hB : Sq K H b xs := hb.elim (fun z => .inl (SqL.of z)) (fun z => .inr (SqT.of z))
  refine ⟨_, rfl, .ref b, d, rfl, hx, fun H1 s1 => ⟨_, rfl, iteF2 (by rw [hp]; rfl) ?_⟩⟩
  dsimp only [tNext, tRet, tD, tCons, tNil]
  refine lc_relS (fun i acc Hh => RatL C Hh acc ((xs.map (numOf H)).take i)) (fun R r => ⟨_, rfl, r⟩) (hB.same s1) (by rw [sizeLine_eq]; omega) RatL.nil (fun i acc A B s r => r.same s) (fun D i y acc Ha hD hy sa ha r Yc Nc yc nc => ?_) (fun D acc H' nD sH ha r => ?_)
  · have my := List.mem_of_getElem? hy
    have nv := ((hys y my).num (hn y my)).1
    exact ⟨rfl, _, rfl, y, _, _, rfl, nv.same (s1.trans sa), fun m H4 s4 rm => yc (.ref m) H4 s4 (r.step hy s4 ha rm)⟩
  · rw [show xs.length = (xs.map (numOf H)).length by rw [List.length_map], List.take_length] at r
    have r2 := r.same (wo_le (D := D))
    refine ⟨D, acc, _, rfl, ha, r2, by rw [r2.len, List.length_map]; omega, fun a H2 ws s2 na h2 R2 => q a H2 ws ((s1.trans sH).trans s2) ((s1.trans sH).free na) h2 (by rw [eT]; exact R2)⟩
-- slots: poly 0; cells: 
abbrev s_degree : Stmt := top 23
abbrev N_degree : List Str := ["poly"]
theorem sc_degree : FnScope N_degree ["poly"] (defScope s_degree) := ⟨rfl, rfl, rfl, by decide +kernel, rfl, by decide +kernel, by decide +kernel⟩
theorem d_degree (B : Bnd K mg "degree" s_degree) (M : Mg2 mg) (R : RCls K mg C fI fR) (D_told : Def P w K mg base k "told" s_told ["poly"] (sp_told C)) : Def P w K mg base (k + 1) "degree" s_degree ["poly"] (sp_degree C) := by
  refine def_of B sc_degree (by rintro _ _ _ _ ⟨x, d, rfl, _⟩; rfl) (fun _ _ _ _ _ _ us hl => match us, hl with | [_], _ => rfl) fun f cdv A outer s H vs Q E hr h => ?_
  obtain ⟨x, d, rfl, hx, hp, q⟩ := h
  have hu := hr.units
  refine ⟨_, pss_one (ps_ret (pe_op op_sub (pe_callB call_len_seq (by rfl) M.len boot_len (pa_cons (pe_d D_told hr (by rfl) (pa_cons (pv 0) pa_nil)) pa_nil)) pe_int)), ?_⟩
  refine ⟨_, rfl, x, d, rfl, hx, hp, fun a H1 us s1 na h1 R1 => ⟨a, us, rfl, .inl (SqL.of h1), _, _, rfl, rfl, ?_⟩⟩
  rw [R1.len]
  exact q H1 s1
end
end K21

namespace Fp
/-- quotient and rest -/
structure DivR (xs ys qs rs : List Rat) : Prop where
  tq : Told qs
  tr : Told rs
  lr : rs.length < ys.length
  lq : qs.length ≤ xs.length
  eq : ∀ n, co xs n = prodc ys (co qs) n + co rs n
theorem DivR.uniq {xs ys q1 r1 q2 r2 : List Rat} (h : DivR xs ys q1 r1) (g : DivR xs ys q2 r2) (y0 : ys ≠ []) (ty : Told ys) : q1 = q2 ∧ r1 = r2 :=
  div_unique y0 ty h.tq g.tq h.tr g.tr h.lr g.lr fun n => by rw [← h.eq, ← g.eq]
def AllB (n : Nat) (xs : List Rat) : Prop := ∀ x ∈ xs, Bits n x
/-- behind some steps -/
structure QInv (xs ys : List Rat) (c : Nat) (xs' qs : List Rat) (b : Nat) : Prop where
  len : xs'.length + qs.length = xs.length
  eq : ∀ n, co xs n = prodc ys (qf (xs.length - ys.length) qs) n + co xs' n
  bx : AllB b xs'
  bb : (b + 2 * c + 1) * 2 ^ (xs'.length + 1 - ys.length) ≤ 8000
  bq : AllB 8000 qs
  st : (qs = [] ∧ xs' = xs) ∨ (qs ≠ [] ∧ ys.length ≤ xs'.length + 1 ∧ co qs 0 ≠ 0)
theorem pow_pos' (k : Nat) : 1 ≤ 2 ^ k := Nat.one_le_two_pow
theorem QInv.sizes {xs ys xs' qs : List Rat} {b c : Nat} (h : QInv xs ys c xs' qs b) (hl : ys.length ≤ xs'.length) : b + c ≤ 8000 ∧ 2 * b + 2 * c ≤ 8000 := by
  have e := h.bb
  rw [show xs'.length + 1 - ys.length = (xs'.length - ys.length) + 1 by omega, Nat.pow_succ] at e
  have p := pow_pos' (xs'.length - ys.length)
  have : (b + 2 * c + 1) * 2 ≤ (b + 2 * c + 1) * (2 ^ (xs'.length - ys.length) * 2) := Nat.mul_le_mul_left _ (by omega)
  omega
theorem prodc_add' {ys : List Rat} {f g h : Nat → Rat} (e : ∀ i, f i = g i + h i) (n : Nat) : prodc ys f n = prodc ys g n + prodc ys h n := by
  rw [← prodc_add, prodc_congr e]
theorem QInv.start {xs ys : List Rat} {b c : Nat} (bx : AllB b xs) (bb : (b + 2 * c + 1) * 2 ^ (xs.length + 1 - ys.length) ≤ 8000) : QInv xs ys c xs [] b :=
  ⟨by simp, fun n => by
    have : prodc ys (qf (xs.length - ys.length) []) n = 0 := by
      have e : ∀ i, qf (xs.length - ys.length) [] i = single 0 0 i := fun i => by rw [qf_nil]; unfold single; split <;> rfl
      rw [prodc_congr e, prodc_single]; split <;> grind
    rw [this]; grind, bx, bb, fun x h => (by cases h), .inl ⟨rfl, rfl⟩⟩
theorem mem_restOf {c : Rat} {S xs : List Rat} {z : Rat} (h : z ∈ restOf c S xs) : z ∈ xs ∨ ∃ a ∈ xs, ∃ b ∈ S, z = a - c * b := by
  unfold restOf at h
  rcases List.mem_append.mp h with h | h
  · exact .inl (List.mem_of_mem_take h)
  · have h2 := List.dropLast_subset _ h
    obtain ⟨i, hi⟩ := List.getElem?_of_mem h2
    rw [List.getElem?_zipWith] at hi
    cases e1 : (xs.drop (xs.length - S.length))[i]? with
    | none => rw [e1] at hi; simp at hi
    | some a =>
      cases e2 : S[i]? with
      | none => rw [e1, e2] at hi; simp at hi
      | some b =>
        rw [e1, e2] at hi
        simp at hi
        exact .inr ⟨a, List.mem_of_mem_drop (List.mem_of_getElem? e1), b, List.mem_of_getElem? e2, hi.symm⟩
theorem mem_last {xs : List Rat} (h : xs ≠ []) : co xs (xs.length - 1) ∈ xs := by
  have : 0 < xs.length := List.length_pos_iff.mpr h
  rw [co_at (List.getElem?_eq_getElem (show xs.length - 1 < xs.length by omega))]
  exact List.getElem_mem _
theorem Bits.mulA {n m : Nat} {x y : Rat} (h : Bits n x) (g : Bits m y) : Bits (n + m) (x * y) := by
  rw [← divInt_mul]
  exact Bits.divInt (h.1.mul g.1) (h.2.mul g.2) (by have := Int.mul_pos (den_pos x) (den_pos y); omega)
theorem Bits.subA {n m : Nat} {x y : Rat} (h : Bits n x) (g : Bits m y) : Bits (n + m + 1) (x - y) := by
  rw [← divInt_sub]
  refine Bits.divInt ((h.1.mul g.2).sub ?_) ((h.2.mul g.2).mono (by omega)) (by have := Int.mul_pos (den_pos x) (den_pos y); omega)
  have := g.1.mul h.2
  rw [Nat.add_comm m n] at this
  exact this
theorem Bits.overA {n m : Nat} {x y : Rat} (h : Bits n x) (g : Bits m y) (h0 : y ≠ 0) : Bits (n + m) (x / y) := by
  rw [← divInt_over]
  refine Bits.divInt (h.1.mul g.2) (h.2.mul g.1) fun z => ?_
  rcases Int.mul_eq_zero.mp z with e | e
  · have := den_pos x; omega
  · exact num_ne h0 e
theorem QInv.step {xs ys xs' qs : List Rat} {b c : Nat} (h : QInv xs ys c xs' qs b) (hl : ys.length ≤ xs'.length) (y0 : ys ≠ []) (tx : Told xs) (ty : Told ys) (by_ : AllB c ys) :
    QInv xs ys c (restOf (co xs' (xs'.length - 1) / co ys (ys.length - 1)) ys xs') (qs ++ [co xs' (xs'.length - 1) / co ys (ys.length - 1)]) (2 * b + 2 * c + 1) := by
  have ly : 0 < ys.length := List.length_pos_iff.mpr y0
  have t0 := told_top ty y0
  have x0 : xs' ≠ [] := fun z => by rw [z] at hl; exact absurd (Nat.le_zero.mp hl) (by omega)
  have bl := h.bx _ (mem_last x0)
  have bm := by_ _ (mem_last y0)
  have bp := bl.overA bm t0
  have sz := h.sizes hl
  generalize hp : co xs' (xs'.length - 1) / co ys (ys.length - 1) = p at *
  have hc : co xs' (xs'.length - 1) = p * co ys (ys.length - 1) := by rw [← hp, Rat.div_mul_cancel t0]
  have lr := restOf_len (c := p) ly hl
  have ll := h.len
  have lq : qs.length ≤ xs.length - ys.length := by omega
  refine ⟨by rw [lr, List.length_append, List.length_singleton]; omega, fun n => ?_, fun z hz => ?_, ?_, fun z hz => ?_, .inr ⟨by simp, by rw [lr]; omega, ?_⟩⟩
  · have e1 := restOf_co (c := p) ly hl hc n
    have e2 := h.eq n
    have e3 := prodc_add' (ys := ys) (f := qf (xs.length - ys.length) (qs ++ [p])) (g := qf (xs.length - ys.length) qs) (h := single (xs.length - ys.length - qs.length) p) (fun i => qf_snoc lq i) n
    rw [show xs.length - ys.length - qs.length = xs'.length - ys.length by omega] at e3
    rw [e3]
    grind
  · rcases mem_restOf hz with z1 | ⟨a, ha, d, hd, rfl⟩
    · exact (h.bx z z1).mono (by omega)
    · exact ((h.bx a ha).subA (bp.mulA (by_ d hd))).mono (by omega)
  · have e := h.bb
    rw [show xs'.length + 1 - ys.length = (xs'.length - ys.length) + 1 by omega, Nat.pow_succ] at e
    rw [lr, show xs'.length - 1 + 1 - ys.length = xs'.length - ys.length by omega]
    have : (2 * b + 2 * c + 1 + 2 * c + 1) * 2 ^ (xs'.length - ys.length) = (b + 2 * c + 1) * (2 ^ (xs'.length - ys.length) * 2) := by
      rw [show 2 * b + 2 * c + 1 + 2 * c + 1 = (b + 2 * c + 1) * 2 by omega, Nat.mul_assoc, Nat.mul_comm 2 (2 ^ _)]
    omega
  · rcases List.mem_append.mp hz with z1 | z1
    · exact h.bq z z1
    · rw [List.mem_singleton.mp z1]; exact bp.mono (by omega)
  · rcases h.st with ⟨e1, e2⟩ | ⟨e1, _, e3⟩
    · subst e1
      subst e2
      show p ≠ 0
      intro z
      rw [z] at hc
      exact told_top tx x0 (by rw [hc]; grind)
    · have : 0 < qs.length := List.length_pos_iff.mpr e1
      rw [co_append_left this]; exact e3
theorem QInv.done {xs ys xs' qs : List Rat} {b c : Nat} (h : QInv xs ys c xs' qs b) (hl : xs'.length < ys.length) : DivR xs ys qs.reverse (trimQ xs') ∧ AllB 8000 qs.reverse ∧ AllB 8000 (trimQ xs') := by
  have ll := h.len
  refine ⟨⟨?_, trimQ_told _, Nat.lt_of_le_of_lt (trimQ_len _) hl, by rw [List.length_reverse]; omega, fun n => ?_⟩, fun z hz => h.bq z (List.mem_reverse.mp hz), fun z hz => (h.bx z (trimQ_mem hz)).mono ?_⟩
  · rcases h.st with ⟨e1, _⟩ | ⟨e1, _, e3⟩
    · rw [e1]; exact told_nil
    · refine told_of_top fun _ => ?_
      have : 0 < qs.length := List.length_pos_iff.mpr e1
      have e : qs.reverse[qs.reverse.length - 1]? = qs[0]? := by
        rw [List.getElem?_reverse (by rw [List.length_reverse]; omega), List.length_reverse]; congr 1; omega
      unfold co at e3 ⊢
      rw [List.getD_eq_getElem?_getD, e, ← List.getD_eq_getElem?_getD]
      exact e3
  · rw [trimQ_co, h.eq n]
    rcases h.st with ⟨e1, _⟩ | ⟨e1, e2, _⟩
    · rw [e1]
      congr 1
      exact prodc_congr (fun i => by rw [qf_nil]; rfl) n
    · have : 0 < qs.length := List.length_pos_iff.mpr e1
      congr 1
      exact prodc_congr (fun i => qf_rev (by omega) i) n
  · have := h.bb
    have p := pow_pos' (xs'.length + 1 - ys.length)
    have : (b + 2 * c + 1) * 1 ≤ (b + 2 * c + 1) * 2 ^ (xs'.length + 1 - ys.length) := Nat.mul_le_mul_left _ p
    omega
end Fp

namespace Fp
/-! ### (bottom, whole numbers): the law's own polynomials -/
def ratsOf (b : Int) (zs : List Int) : List Rat := zs.map fun z : Int => (z : Rat) / (b : Rat)
theorem ratsOf_len (b : Int) (zs : List Int) : (ratsOf b zs).length = zs.length := List.length_map _
theorem cast_ne {b : Int} (h : b ≠ 0) : (b : Rat) ≠ 0 := fun z => h (by exact_mod_cast z)
theorem co_rats (b : Int) (zs : List Int) (n : Nat) : co (ratsOf b zs) n = ((zs.getD n 0 : Int) : Rat) / (b : Rat) := by
  unfold co ratsOf
  rw [List.getD_eq_getElem?_getD, List.getD_eq_getElem?_getD, List.getElem?_map]
  cases zs[n]? with
  | none => show (0 : Rat) = ((0 : Int) : Rat) / b; rw [Rat.intCast_zero, Rat.div_def, Rat.zero_mul]
  | some z => rfl
def trimI (zs : List Int) : List Int := (zs.reverse.dropWhile fun x => x == 0).reverse
theorem trimI_zero {A : List Int} {x : Int} (h : x = 0) : trimI (A ++ [x]) = trimI A := by
  unfold trimI
  rw [List.reverse_append, List.reverse_singleton, List.singleton_append, List.dropWhile_cons, if_pos (by simp [h])]
theorem trimI_nz {A : List Int} {x : Int} (h : x ≠ 0) : trimI (A ++ [x]) = A ++ [x] := by
  unfold trimI
  rw [List.reverse_append, List.reverse_singleton, List.singleton_append, List.dropWhile_cons, if_neg (by simp [h])]
  simp
theorem trimI_nil : trimI [] = [] := rfl
theorem div_eq_zero {z b : Int} (h : b ≠ 0) : (z : Rat) / (b : Rat) = 0 ↔ z = 0 := by
  constructor
  · intro e
    have : (z : Rat) = 0 := by
      have h2 := Rat.div_mul_cancel (a := (z : Rat)) (cast_ne h)
      rw [e, Rat.zero_mul] at h2
      exact h2.symm
    exact_mod_cast this
  · intro e
    rw [e, Rat.intCast_zero, Rat.div_def, Rat.zero_mul]
theorem ratsOf_trim {b : Int} (h : b ≠ 0) (zs : List Int) : ratsOf b (trimI zs) = trimQ (ratsOf b zs) := by
  induction zs using snoc_ind with
  | h0 => rfl
  | h1 A x ih =>
    have e : ratsOf b (A ++ [x]) = ratsOf b A ++ [(x : Rat) / b] := by unfold ratsOf; rw [List.map_append]; rfl
    rw [e]
    by_cases hx : x = 0
    · rw [trimI_zero hx, ih, trimQ_zero ((div_eq_zero h).mpr hx)]
    · rw [trimI_nz hx, trimQ_nz fun z => hx ((div_eq_zero h).mp z), e]
theorem trimI_len (zs : List Int) : (trimI zs).length ≤ zs.length := by
  unfold trimI
  rw [List.length_reverse]
  have := (List.dropWhile_suffix (fun x : Int => x == 0) (l := zs.reverse)).length_le
  rw [List.length_reverse] at this
  exact this
theorem trimI_mem {zs : List Int} {x : Int} (h : x ∈ trimI zs) : x ∈ zs := by
  unfold trimI at h
  exact List.mem_reverse.mp ((List.dropWhile_sublist _).mem (List.mem_reverse.mp h))
/-- no number of zs is beyond N -/
def BN (N : Nat) (zs : List Int) : Prop := ∀ z ∈ zs, z.natAbs ≤ N
theorem BN.mono {N M : Nat} {zs : List Int} (h : BN N zs) (l : N ≤ M) : BN M zs := fun z hz => Nat.le_trans (h z hz) l
theorem BN.trim {N : Nat} {zs : List Int} (h : BN N zs) : BN N (trimI zs) := fun z hz => h z (trimI_mem hz)
/-- the same polynomial -/
def crossI (b1 : Int) (zs1 : List Int) (b2 : Int) (zs2 : List Int) : Prop := (zs1.map fun z => z * b2) = (zs2.map fun z => z * b1)
theorem frac_eq {x y b1 b2 : Int} (h1 : b1 ≠ 0) (h2 : b2 ≠ 0) : (x : Rat) / b1 = (y : Rat) / b2 ↔ x * b2 = y * b1 := by
  have c1 := cast_ne h1
  have c2 := cast_ne h2
  constructor
  · intro e
    have e1 := Rat.div_mul_cancel (a := (x : Rat)) c1
    have e2 := Rat.div_mul_cancel (a := (y : Rat)) c2
    have : (x : Rat) * b2 = (y : Rat) * b1 := by
      rw [← e1, ← e2, e]; grind
    exact_mod_cast this
  · intro e
    have e3 : (x : Rat) * b2 = (y : Rat) * b1 := by exact_mod_cast e
    have e1 := Rat.div_mul_cancel (a := (x : Rat)) c1
    have e2 := Rat.div_mul_cancel (a := (y : Rat)) c2
    have : ((x : Rat) / b1 - (y : Rat) / b2) * (b1 * b2) = 0 := by
      generalize (x : Rat) / b1 = u at *
      generalize (y : Rat) / b2 = v at *
      grind
    rcases Rat.mul_eq_zero.mp this with z | z
    · grind
    · rcases Rat.mul_eq_zero.mp z with w | w
      · exact absurd w c1
      · exact absurd w c2
theorem cross_iff {b1 b2 : Int} {zs1 zs2 : List Int} (h1 : b1 ≠ 0) (h2 : b2 ≠ 0) : crossI b1 zs1 b2 zs2 ↔ ratsOf b1 zs1 = ratsOf b2 zs2 := by
  unfold crossI ratsOf
  constructor
  · intro e
    have l : zs1.length = zs2.length := by have := congrArg List.length e; simpa using this
    refine List.ext_getElem (by simpa using l) fun i i1 i2 => ?_
    rw [List.getElem_map, List.getElem_map, frac_eq h1 h2]
    have := congrArg (fun l => l[i]?) e
    simp only [List.getElem?_map] at this
    rw [List.getElem?_eq_getElem (by simpa using i1), List.getElem?_eq_getElem (by simpa using i2)] at this
    simpa using this
  · intro e
    have l : zs1.length = zs2.length := by have := congrArg List.length e; simpa using this
    refine List.ext_getElem (by simpa using l) fun i i1 i2 => ?_
    rw [List.getElem_map, List.getElem_map, ← frac_eq h1 h2]
    have := congrArg (fun l => l[i]?) e
    simp only [List.getElem?_map] at this
    rw [List.getElem?_eq_getElem (by simpa using i1), List.getElem?_eq_getElem (by simpa using i2)] at this
    simpa using this
/-! ### products and sums -/
def sumI (f : Nat → Int) : Nat → Int
  | 0 => 0
  | n + 1 => sumI f n + f n
def shI (i : Nat) (ys : List Int) (n : Nat) : Int := if n < i then 0 else ys.getD (n - i) 0
/-- the first k numbers of xs by ys, at n -/
def prodI (xs ys : List Int) (k n : Nat) : Int := sumI (fun i => xs.getD i 0 * shI i ys n) k
theorem sumI_abs {f : Nat → Int} {M : Nat} : ∀ {k : Nat}, (∀ i, i < k → (f i).natAbs ≤ M) → (sumI f k).natAbs ≤ k * M
  | 0, _ => by show (0 : Int).natAbs ≤ _; simp
  | k + 1, h => by
    show (sumI f k + f k).natAbs ≤ _
    have h1 := sumI_abs (f := f) (M := M) (k := k) fun i hi => h i (by omega)
    have h2 := h k (by omega)
    have h3 := Int.natAbs_add_le (sumI f k) (f k)
    rw [Nat.add_mul]
    omega
theorem getD_abs {zs : List Int} {N : Nat} (h : BN N zs) (i : Nat) : (zs.getD i 0).natAbs ≤ N := by
  rw [List.getD_eq_getElem?_getD]
  cases e : zs[i]? with
  | none => show (0 : Int).natAbs ≤ N; simp
  | some z => exact h z (List.mem_of_getElem? e)
theorem shI_abs {ys : List Int} {N : Nat} (h : BN N ys) (i n : Nat) : (shI i ys n).natAbs ≤ N := by
  unfold shI
  split
  · simp
  · exact getD_abs h _
theorem prodI_abs {xs ys : List Int} {N M : Nat} (h : BN N xs) (g : BN M ys) (k n : Nat) : (prodI xs ys k n).natAbs ≤ k * (N * M) :=
  sumI_abs fun i _ => by rw [Int.natAbs_mul]; exact Nat.mul_le_mul (getD_abs h i) (shI_abs g i n)
theorem sumI_cast (f : Nat → Int) : ∀ k, ((sumI f k : Int) : Rat) = sumN (fun i => (f i : Rat)) k
  | 0 => rfl
  | k + 1 => by
    show ((sumI f k + f k : Int) : Rat) = sumN _ k + (f k : Rat)
    rw [Rat.intCast_add, sumI_cast f k]
theorem prodI_rat {b1 b2 : Int} (h1 : b1 ≠ 0) (h2 : b2 ≠ 0) (xs ys : List Int) (n : Nat) : ((prodI xs ys xs.length n : Int) : Rat) / ((b1 * b2 : Int) : Rat) = prodc (ratsOf b1 xs) (co (ratsOf b2 ys)) n := by
  unfold prodI prodc
  rw [sumI_cast, ratsOf_len, Rat.div_def, Rat.mul_comm, ← sumN_mul]
  refine sumN_congr fun i _ => ?_
  rw [co_rats, Rat.intCast_mul, Rat.intCast_mul]
  have c1 := cast_ne h1
  have c2 := cast_ne h2
  have es : sh i (co (ratsOf b2 ys)) n = ((shI i ys n : Int) : Rat) / b2 := by
    unfold sh shI
    split
    · rw [Rat.intCast_zero, Rat.div_def, Rat.zero_mul]
    · rw [co_rats]
  rw [es, Rat.div_def, Rat.div_def, Rat.inv_mul_rev]
  grind
end Fp
namespace Fp
theorem getD_pad (zs : List Int) (k n : Nat) : (zs ++ List.replicate k 0).getD n 0 = zs.getD n 0 := by
  rw [List.getD_eq_getElem?_getD, List.getD_eq_getElem?_getD]
  by_cases h : n < zs.length
  · rw [List.getElem?_append_left h]
  · rw [List.getElem?_append_right (by omega), List.getElem?_eq_none (show zs.length ≤ n by omega), List.getElem?_replicate]
    split <;> rfl
theorem pad_at {zs : List Int} {k i : Nat} (h : i < zs.length + k) : (zs ++ List.replicate k 0)[i]? = some (zs.getD i 0) := by
  have e := getD_pad zs k i
  rw [List.getD_eq_getElem?_getD] at e
  cases q : (zs ++ List.replicate k 0)[i]? with
  | none => rw [List.getElem?_eq_none_iff, List.length_append, List.length_replicate] at q; omega
  | some x => rw [q] at e; rw [← e]; rfl
theorem getD_out {zs : List Int} {n : Nat} (h : zs.length ≤ n) : zs.getD n 0 = 0 := by
  rw [List.getD_eq_getElem?_getD, List.getElem?_eq_none h]; rfl
theorem getD_range {f : Nat → Int} {m n : Nat} : ((List.range m).map f).getD n 0 = if n < m then f n else 0 := by
  rw [List.getD_eq_getElem?_getD, List.getElem?_map]
  by_cases h : n < m
  · rw [List.getElem?_range h, if_pos h]; rfl
  · rw [if_neg h, List.getElem?_eq_none (by rw [List.length_range]; omega)]; rfl
/-- the sum's numbers -/
def plusI (b1 b2 : Int) (xs ys : List Int) : List Int := (List.range (max xs.length ys.length)).map fun n => xs.getD n 0 * b2 + 1 * ys.getD n 0 * b1
theorem plusI_getD (b1 b2 : Int) (xs ys : List Int) (n : Nat) : (plusI b1 b2 xs ys).getD n 0 = xs.getD n 0 * b2 + 1 * ys.getD n 0 * b1 := by
  unfold plusI
  rw [getD_range]
  split
  · rfl
  · rw [getD_out (zs := xs) (by omega), getD_out (zs := ys) (by omega)]; omega
theorem plusI_co {b1 b2 : Int} (h1 : b1 ≠ 0) (h2 : b2 ≠ 0) (xs ys : List Int) (n : Nat) : co (ratsOf (b1 * b2) (trimI (plusI b1 b2 xs ys))) n = co (ratsOf b1 xs) n + co (ratsOf b2 ys) n := by
  have h3 : b1 * b2 ≠ 0 := fun z => by rcases Int.mul_eq_zero.mp z with e | e <;> omega
  rw [ratsOf_trim h3, trimQ_co, co_rats, co_rats, co_rats, plusI_getD]
  have c1 := cast_ne h1
  have c2 := cast_ne h2
  rw [Rat.intCast_add, Rat.intCast_mul, Rat.intCast_mul, Rat.intCast_mul, Rat.intCast_mul, Rat.intCast_one]
  generalize ((xs.getD n 0 : Int) : Rat) = u
  generalize ((ys.getD n 0 : Int) : Rat) = v
  generalize (b1 : Rat) = p at *
  generalize (b2 : Rat) = q at *
  rw [Rat.div_def, Rat.div_def, Rat.div_def, Rat.inv_mul_rev]
  have i1 := Rat.mul_inv_cancel p c1
  have i2 := Rat.mul_inv_cancel q c2
  grind
theorem plusI_BN {b1 b2 : Int} {xs ys : List Int} {N1 N2 : Nat} (h : BN N1 xs) (g : BN N2 ys) : BN (N1 * b2.natAbs + N2 * b1.natAbs) (plusI b1 b2 xs ys) := fun z hz => by
  unfold plusI at hz
  obtain ⟨n, _, rfl⟩ := List.mem_map.mp hz
  refine Nat.le_trans (Int.natAbs_add_le _ _) ?_
  rw [Int.one_mul, Int.natAbs_mul, Int.natAbs_mul]
  exact Nat.add_le_add (Nat.mul_le_mul_right _ (getD_abs h n)) (Nat.mul_le_mul_right _ (getD_abs g n))
theorem plusI_len (b1 b2 : Int) (xs ys : List Int) : (plusI b1 b2 xs ys).length = max xs.length ys.length := by unfold plusI; rw [List.length_map, List.length_range]
/-- the product's numbers -/
def timesI (xs ys : List Int) : List Int := (List.range (xs.length + ys.length - 1)).map fun n => prodI xs ys xs.length n
theorem sumI_zero {f : Nat → Int} : ∀ {n : Nat}, (∀ i, i < n → f i = 0) → sumI f n = 0
  | 0, _ => rfl
  | n + 1, h => by
    show sumI f n + f n = 0
    rw [sumI_zero fun i hi => h i (by omega), h n (by omega)]; rfl
theorem timesI_getD (xs ys : List Int) (n : Nat) : (timesI xs ys).getD n 0 = prodI xs ys xs.length n := by
  unfold timesI
  rw [getD_range]
  split
  · rfl
  · symm
    refine sumI_zero fun i hi => ?_
    unfold shI
    rw [if_neg (by omega)]
    rw [getD_out (zs := ys) (by omega)]; omega
theorem timesI_co {b1 b2 : Int} (h1 : b1 ≠ 0) (h2 : b2 ≠ 0) (xs ys : List Int) (n : Nat) : co (ratsOf (b1 * b2) (trimI (timesI xs ys))) n = prodc (ratsOf b1 xs) (co (ratsOf b2 ys)) n := by
  have h3 : b1 * b2 ≠ 0 := fun z => by rcases Int.mul_eq_zero.mp z with e | e <;> omega
  rw [ratsOf_trim h3, trimQ_co, co_rats, timesI_getD, prodI_rat h1 h2]
theorem timesI_BN {xs ys : List Int} {N1 N2 : Nat} (h : BN N1 xs) (g : BN N2 ys) : BN (xs.length * (N1 * N2)) (timesI xs ys) := fun z hz => by
  unfold timesI at hz
  obtain ⟨n, _, rfl⟩ := List.mem_map.mp hz
  exact prodI_abs h g _ _
theorem timesI_len (xs ys : List Int) : (timesI xs ys).length = xs.length + ys.length - 1 := by unfold timesI; rw [List.length_map, List.length_range]
theorem told_trim {b : Int} (h : b ≠ 0) (zs : List Int) : Told (ratsOf b (trimI zs)) := by rw [ratsOf_trim h]; exact trimQ_told _
/-- in the midst of the inner loop -/
def partI (xs ys : List Int) (i j n : Nat) : Int := prodI xs ys i n + (if i ≤ n ∧ n < i + j then xs.getD i 0 * ys.getD (n - i) 0 else 0)
theorem partI_zero (xs ys : List Int) (i n : Nat) : partI xs ys i 0 n = prodI xs ys i n := by
  unfold partI; rw [if_neg (by omega)]; omega
theorem partI_all (xs ys : List Int) (i n : Nat) : partI xs ys i ys.length n = prodI xs ys (i + 1) n := by
  show _ = prodI xs ys i n + xs.getD i 0 * shI i ys n
  unfold partI shI
  congr 1
  by_cases h : n < i
  · rw [if_neg (by omega), if_pos h]; omega
  · rw [if_neg h]
    by_cases h2 : n < i + ys.length
    · rw [if_pos (by omega)]
    · rw [if_neg (by omega), getD_out (zs := ys) (by omega)]; omega
theorem partI_step {xs ys : List Int} {i j L : Nat} (h : i + j < L) : ((List.range L).map (partI xs ys i j)).set (i + j) (partI xs ys i j (i + j) + xs.getD i 0 * ys.getD j 0) = (List.range L).map (partI xs ys i (j + 1)) := by
  refine List.ext_getElem (by simp) fun n n1 n2 => ?_
  have nL : n < L := by simpa using n2
  rw [List.getElem_set]
  split
  · rename_i e
    subst e
    rw [List.getElem_map, List.getElem_range]
    unfold partI
    rw [if_neg (by omega), if_pos (by omega), show i + j - i = j by omega]; omega
  · rename_i ne
    rw [List.getElem_map, List.getElem_map, List.getElem_range]
    unfold partI
    by_cases h2 : i ≤ n ∧ n < i + j
    · rw [if_pos h2, if_pos (by omega)]
    · rw [if_neg h2, if_neg (by omega)]
end Fp

namespace Fp
/-! ### sums of lists -/
def addQ (xs ys : List Rat) : List Rat := List.zipWith (fun a b => a + b) xs ys ++ xs.drop ys.length ++ ys.drop xs.length
theorem co_drop (xs : List Rat) (k n : Nat) : co (xs.drop k) n = co xs (k + n) := by
  unfold co
  rw [List.getD_eq_getElem?_getD, List.getD_eq_getElem?_getD, List.getElem?_drop]
theorem co_append (xs ys : List Rat) (n : Nat) : co (xs ++ ys) n = if n < xs.length then co xs n else co ys (n - xs.length) := by
  split
  · exact co_append_left ‹_›
  · exact co_append_right (by omega)
theorem co_zipAdd (xs ys : List Rat) (n : Nat) : co (List.zipWith (fun a b => a + b) xs ys) n = if n < min xs.length ys.length then co xs n + co ys n else 0 := by
  split
  · rename_i h
    have h1 : n < xs.length := by omega
    have h2 : n < ys.length := by omega
    rw [co_at (x := xs[n] + ys[n])]
    · rw [co_at (List.getElem?_eq_getElem h1), co_at (List.getElem?_eq_getElem h2)]
    · rw [List.getElem?_zipWith, List.getElem?_eq_getElem h1, List.getElem?_eq_getElem h2]
  · exact co_out (by rw [List.length_zipWith]; omega)
theorem addQ_co (xs ys : List Rat) (n : Nat) : co (addQ xs ys) n = co xs n + co ys n := by
  unfold addQ
  rw [List.append_assoc, co_append, co_zipAdd, List.length_zipWith, co_append, co_drop, co_drop, List.length_drop]
  by_cases h : n < min xs.length ys.length
  · rw [if_pos h, if_pos h]
  · rw [if_neg h]
    by_cases h2 : n - min xs.length ys.length < xs.length - ys.length
    · rw [if_pos h2, co_out (xs := ys) (i := n) (by omega), show ys.length + (n - min xs.length ys.length) = n by omega]; grind
    · rw [if_neg h2]
      by_cases h3 : n < ys.length
      · rw [co_out (xs := xs) (i := n) (by omega), show xs.length + (n - min xs.length ys.length - (xs.length - ys.length)) = n by omega]; grind
      · rw [co_out (xs := ys) (by omega), co_out (xs := ys) (i := n) (by omega), co_out (xs := xs) (by omega)]; grind
theorem addQ_len (xs ys : List Rat) : (addQ xs ys).length = max xs.length ys.length := by
  unfold addQ
  rw [List.length_append, List.length_append, List.length_zipWith, List.length_drop, List.length_drop]; omega
/-! ### worths -/
def hv : List Rat → Rat → Rat
  | [], _ => 0
  | c :: cs, z => hv cs z * z + c
theorem hv_drop {xs : List Rat} {i : Nat} {x : Rat} (h : xs[i]? = some x) (z : Rat) : hv (xs.drop i) z = hv (xs.drop (i + 1)) z * z + x := by
  obtain ⟨l, e⟩ := List.getElem?_eq_some_iff.mp h
  rw [List.drop_eq_getElem_cons l, e]; rfl
theorem sumN_shift (f : Nat → Rat) : ∀ n, sumN f (n + 1) = f 0 + sumN (fun i => f (i + 1)) n
  | 0 => by show (0 : Rat) + f 0 = f 0 + 0; grind
  | n + 1 => by
    show sumN f (n + 1) + f (n + 1) = f 0 + (sumN (fun i => f (i + 1)) n + f (n + 1))
    rw [sumN_shift f n]; grind
theorem co_cons_zero (c : Rat) (cs : List Rat) : co (c :: cs) 0 = c := rfl
theorem co_cons_succ (c : Rat) (cs : List Rat) (n : Nat) : co (c :: cs) (n + 1) = co cs n := rfl
theorem hv_sum : ∀ (xs : List Rat) (z : Rat) (N : Nat), xs.length ≤ N → hv xs z = sumN (fun i => co xs i * z ^ i) N
  | [], z, N, _ => by
    symm
    exact sumN_zero fun i _ => by rw [co_nil]; grind
  | c :: cs, z, 0, h => by simp at h
  | c :: cs, z, N + 1, h => by
    rw [sumN_shift]
    show hv cs z * z + c = co (c :: cs) 0 * z ^ 0 + _
    rw [hv_sum cs z N (by simpa using h), co_cons_zero, Rat.pow_zero]
    have : sumN (fun i => co (c :: cs) (i + 1) * z ^ (i + 1)) N = z * sumN (fun i => co cs i * z ^ i) N := by
      rw [← sumN_mul]
      refine sumN_congr fun i _ => ?_
      rw [co_cons_succ, Rat.pow_succ]; grind
    rw [this]; grind
theorem hv_add {xs ys zs : List Rat} (h : ∀ n, co zs n = co xs n + co ys n) (z : Rat) : hv zs z = hv xs z + hv ys z := by
  let N := max zs.length (max xs.length ys.length)
  rw [hv_sum zs z N (by omega), hv_sum xs z N (by omega), hv_sum ys z N (by omega), ← sumN_add]
  exact sumN_congr fun i _ => by rw [h]; grind
theorem sumN_swap (f : Nat → Nat → Rat) : ∀ n m : Nat, sumN (fun i => sumN (f i) m) n = sumN (fun j => sumN (fun i => f i j) n) m
  | 0, m => by
    symm
    exact sumN_zero fun j _ => rfl
  | n + 1, m => by
    show sumN (fun i => sumN (f i) m) n + sumN (f n) m = sumN (fun j => sumN (fun i => f i j) n + f n j) m
    rw [sumN_swap f n m, sumN_add]
/-- a shifted one -/
theorem sumN_sh (g : Nat → Rat) (z : Rat) (i : Nat) : ∀ N : Nat, sumN (fun n => sh i g n * z ^ n) (i + N) = z ^ i * sumN (fun n => g n * z ^ n) N
  | 0 => by
    rw [Nat.add_zero]
    rw [sumN_zero fun n hn => by unfold sh; rw [if_pos hn]; grind]
    show (0 : Rat) = z ^ i * 0
    grind
  | N + 1 => by
    show sumN (fun n => sh i g n * z ^ n) (i + N) + sh i g (i + N) * z ^ (i + N) = z ^ i * (sumN (fun n => g n * z ^ n) N + g N * z ^ N)
    rw [sumN_sh g z i N]
    have e : sh i g (i + N) = g N := by unfold sh; rw [if_neg (by omega)]; congr 1; omega
    have p : z ^ (i + N) = z ^ i * z ^ N := by
      induction N with
      | zero => rw [Nat.add_zero, Rat.pow_zero]; grind
      | succ N ih => 
        have := ih (by unfold sh; rw [if_neg (by omega)]; congr 1; omega)
        rw [← Nat.add_assoc, Rat.pow_succ, Rat.pow_succ, this]; grind
    rw [e, p]; grind
theorem sumN_more {f : Nat → Rat} {n : Nat} : ∀ {k : Nat}, (∀ i, n ≤ i → f i = 0) → sumN f (n + k) = sumN f n
  | 0, _ => rfl
  | k + 1, h => by
    show sumN f (n + k) + f (n + k) = _
    rw [sumN_more (k := k) h, h _ (by omega)]; grind
theorem hv_mul {xs ys zs : List Rat} (h : ∀ n, co zs n = prodc xs (co ys) n) (z : Rat) : hv zs z = hv xs z * hv ys z := by
  let M := zs.length + xs.length + ys.length
  rw [hv_sum zs z (zs.length + xs.length + ys.length) (by omega), hv_sum xs z xs.length (Nat.le_refl _)]
  have e1 : sumN (fun n => co zs n * z ^ n) (zs.length + xs.length + ys.length) = sumN (fun n => sumN (fun i => co xs i * (sh i (co ys) n * z ^ n)) xs.length) (zs.length + xs.length + ys.length) := by
    refine sumN_congr fun n _ => ?_
    rw [h]
    unfold prodc
    rw [Rat.mul_comm, ← sumN_mul]
    exact sumN_congr fun i _ => by grind
  rw [e1, sumN_swap (fun n i => co xs i * (sh i (co ys) n * z ^ n))]
  have e2 : ∀ i, i < xs.length → sumN (fun n => co xs i * (sh i (co ys) n * z ^ n)) (zs.length + xs.length + ys.length) = hv ys z * (co xs i * z ^ i) := fun i hi => by
    rw [sumN_mul]
    obtain ⟨k, hk⟩ : ∃ k, zs.length + xs.length + ys.length = i + (ys.length + k) := ⟨zs.length + xs.length - i, by omega⟩
    rw [hk, sumN_sh, sumN_more fun n hn => by rw [co_out hn]; grind, ← hv_sum ys z ys.length (Nat.le_refl _)]; grind
  rw [sumN_congr e2, sumN_mul, Rat.mul_comm]
/-! ### what is derived -/
def derQ (xs : List Rat) : List Rat := ((List.range xs.length).map fun n => co xs n * ((n : Int) : Rat)).drop 1
theorem derQ_co (xs : List Rat) (n : Nat) : co (derQ xs) n = co xs (n + 1) * (((n + 1 : Nat) : Int) : Rat) := by
  unfold derQ
  rw [co_drop, Nat.add_comm 1 n]
  by_cases h : n + 1 < xs.length
  · rw [co_at (x := co xs (n + 1) * (((n + 1 : Nat) : Int) : Rat))]
    rw [List.getElem?_map, List.getElem?_range h]; rfl
  · rw [co_out (by simp; omega), co_out (xs := xs) (by omega)]; grind
theorem derQ_told {xs : List Rat} (t : Told xs) : Told (derQ xs) := told_of_top fun h => by
  have l : (derQ xs).length = xs.length - 1 := by unfold derQ; simp
  have : 0 < (derQ xs).length := List.length_pos_iff.mpr h
  rw [derQ_co]
  intro z
  rcases Rat.mul_eq_zero.mp z with e | e
  · rw [show (derQ xs).length - 1 + 1 = xs.length - 1 by omega] at e
    exact told_top t (fun e => by rw [e] at l this; rw [List.length_nil] at l; omega) e
  · have : (((derQ xs).length - 1 + 1 : Nat) : Int) = 0 := by exact_mod_cast e
    omega
/-! ### times a number -/
def scQ (c : Rat) (xs : List Rat) : List Rat := trimQ (xs.map fun x => x * c)
theorem scQ_co (c : Rat) (xs : List Rat) (n : Nat) : co (scQ c xs) n = co xs n * c := by
  unfold scQ
  rw [trimQ_co]
  unfold co
  rw [List.getD_eq_getElem?_getD, List.getD_eq_getElem?_getD, List.getElem?_map]
  cases xs[n]? with
  | none => show (0 : Rat) = 0 * c; grind
  | some x => rfl
/-- a product of told ones is told -/
theorem prod_told {xs ys zs : List Rat} (tx : Told xs) (ty : Told ys) (x0 : xs ≠ []) (y0 : ys ≠ []) (l : zs.length = xs.length + ys.length - 1) (h : ∀ n, co zs n = prodc xs (co ys) n) : Told zs := told_of_top fun _ => by
  have lx : 0 < xs.length := List.length_pos_iff.mpr x0
  have ly : 0 < ys.length := List.length_pos_iff.mpr y0
  rw [h, show zs.length - 1 = (xs.length - 1) + (ys.length - 1) by omega, prodc_top (by omega) fun i hi => co_out (by omega)]
  intro z
  rcases Rat.mul_eq_zero.mp z with e | e
  · exact told_top tx x0 e
  · exact told_top ty y0 e
theorem prodc_nil_left (g : Nat → Rat) (n : Nat) : prodc [] g n = 0 := rfl
theorem prodc_nil_right (xs : List Rat) (n : Nat) : prodc xs (co []) n = 0 := sumN_zero fun i _ => by
  unfold sh
  split
  · grind
  · rw [co_nil]; grind
end Fp
namespace Fp
theorem lbLe {n : Nat} {a b : Int} (h : LbI n b) (h0 : 0 ≤ a) (l : a ≤ b) : LbI n a := h.of_le (by omega)
theorem ownZ {B : Int} {x : Rat} {n m : Nat} (hB : 0 < B) (hd : (x.den : Int) ∣ B) (bx : Bits n x) (hm : LbI m B) : ((x.num * B.fdiv x.den : Int) : Rat) / (B : Rat) = x ∧ LbI (n + m) (x.num * B.fdiv x.den) ∧ LbI m (B.fdiv x.den) := by
  have d0 := den_pos x
  rw [fdiv_exact hd]
  obtain ⟨c, hc⟩ := hd
  have q : B / (x.den : Int) = c := by
    rw [hc]; exact Int.mul_ediv_cancel_left _ (by omega)
  rw [q]
  have c0 : 0 < c := by
    rcases Int.lt_trichotomy c 0 with z | z | z
    · have := Int.mul_neg_of_pos_of_neg d0 z; omega
    · subst z; rw [Int.mul_zero] at hc; omega
    · exact z
  have cB : c ≤ B := by
    rw [hc]
    have := Int.mul_le_mul_of_nonneg_right (show 1 ≤ (x.den : Int) by omega) (Int.le_of_lt c0)
    omega
  have lc : LbI m c := lbLe hm (by omega) cB
  refine ⟨?_, bx.1.mul lc, lc⟩
  rw [hc, ← Rat.divInt_eq_div, Rat.divInt_mul_right (by omega)]
  exact divInt_self x
theorem lcm_step {L d B : Nat} (h1 : L ∣ B) (h2 : d ∣ B) (L0 : 0 < L) (d0 : 0 < d) : Nat.lcm L d ∣ B ∧ 0 < Nat.lcm L d ∧ L ∣ Nat.lcm L d ∧ d ∣ Nat.lcm L d :=
  ⟨Nat.lcm_dvd h1 h2, Nat.lcm_pos L0 d0, Nat.dvd_lcm_left .., Nat.dvd_lcm_right ..⟩
end Fp

namespace K21
open PySem PySem.Spec PyProof.Rows L2 Fp
section
variable {P : Program} {w : World} {K : PySem.W.Frag} {mg : Str → Option Value} {base : Heap} {k : Nat} {C fI fR : Addr}
theorem RatL.wo {D : Addr} {H : Hp} {us acc : List V} {ps : List (Int × Int)} (r : RatL C H us ps) (hD : H D = some (.lst acc)) : RatL C (wo D H) us ps :=
  ⟨r.len, fun i v hv => let ⟨pq, a, h1, h2, h3⟩ := r.at_ i v hv; ⟨pq, a, h1, h2, h3.wo hD⟩⟩
/-- a polynomial of any kind that is told as xs -/
def PolyQ (C : Addr) (H : Hp) (x : V) (xs : List Rat) : Prop := Sk C H 1 x ∧ isPolyV H x = true ∧ toldP H x = xs.map nd
theorem PolyQ.same {H H' : Hp} {x : V} {xs : List Rat} (h : PolyQ C H x xs) (e : Same H H') : PolyQ C H' x xs := ⟨h.1.same e, by rw [isPolyV_same h.1 e]; exact h.2.1, by rw [toldP_same h.1 e]; exact h.2.2⟩
/-- a new list of numbers -/
def NewQ (C : Addr) (H H' : Hp) (v : V) (xs : List Rat) : Prop := ∃ a us, v = .ref a ∧ H a = none ∧ H' a = some (.lst us) ∧ QL C H' us xs
def sp_over_one (C : Addr) : Sp := fun vs H Q _ => ∃ (l : Addr) (us : List V) (xs : List Rat) (n m : Nat) (B : Nat), vs = [.ref l] ∧ H l = some (.lst us) ∧ QL C H us xs ∧ xs.length ≤ 49 ∧ AllB n xs ∧ n ≤ 4000 ∧ 0 < B ∧ B < 2 ^ m ∧ m ≤ 63 ∧ (∀ x ∈ xs, x.den ∣ B) ∧
  ∀ (t a : Addr) (H' : Hp) (bo : Int) (ts : List Int), Same H H' → H' t = some (.tup [.ref a, .int bo]) → H' a = some (.lst (VI ts)) → 0 < bo → LbI m bo → ratsOf bo ts = xs → BN (2 ^ (n + m)) ts → Q (.ref t) H'
def sp_whole_product (K : PySem.W.Frag) : Sp := fun vs H Q _ => ∃ (l1 l2 : Addr) (zs1 zs2 : List Int) (N1 N2 k1 k2 : Nat), vs = [.ref l1, .ref l2] ∧ H l1 = some (.lst (VI zs1)) ∧ H l2 = some (.lst (VI zs2)) ∧ zs1 ≠ [] ∧ zs2 ≠ [] ∧ BN N1 zs1 ∧ BN N2 zs2 ∧ N1 < 2 ^ k1 ∧ N2 < 2 ^ k2 ∧ k1 + k2 ≤ 999900 ∧ zs1.length ≤ 400 ∧ zs2.length ≤ 400 ∧
  ∀ a H', Same H H' → H a = none → H' a = some (.lst (VI (timesI zs1 zs2))) → Q (.ref a) H'
def sp_added (C : Addr) : Sp := fun vs H Q _ => ∃ (l1 l2 : Addr) (us ws : List V) (xs ys : List Rat) (n m : Nat), vs = [.ref l1, .ref l2] ∧ H l1 = some (.lst us) ∧ H l2 = some (.lst ws) ∧ QL C H us xs ∧ QL C H ws ys ∧ xs.length ≤ 400 ∧ ys.length ≤ 400 ∧ AllB n xs ∧ AllB m ys ∧ n + m ≤ 8000 ∧
  ∀ v H', Same H H' → NewQ C H H' v (trimQ (addQ xs ys)) → Q v H'
def sp_multiplied (C : Addr) : Sp := fun vs H Q _ => ∃ (l1 l2 : Addr) (us ws : List V) (xs ys : List Rat) (n m B1 B2 : Nat), vs = [.ref l1, .ref l2] ∧ H l1 = some (.lst us) ∧ H l2 = some (.lst ws) ∧ QL C H us xs ∧ QL C H ws ys ∧ xs.length ≤ 49 ∧ ys.length ≤ 49 ∧ AllB n xs ∧ AllB m ys ∧ n ≤ 4000 ∧ m ≤ 4000 ∧ 0 < B1 ∧ B1 < 2 ^ 63 ∧ 0 < B2 ∧ B2 < 2 ^ 63 ∧ (∀ x ∈ xs, x.den ∣ B1) ∧ (∀ x ∈ ys, x.den ∣ B2) ∧
  ∀ v H' zs, Same H H' → NewQ C H H' v zs → (∀ n, co zs n = prodc xs (co ys) n) → zs.length = (if xs = [] ∨ ys = [] then 0 else xs.length + ys.length - 1) → Q v H'
def sp_plus (C : Addr) : Sp := fun vs H Q _ => ∃ (x y : V) (xs ys : List Rat) (n m : Nat), vs = [x, y] ∧ PolyQ C H x xs ∧ PolyQ C H y ys ∧ xs.length ≤ 49 ∧ ys.length ≤ 49 ∧ AllB n xs ∧ AllB m ys ∧ n + m ≤ 8000 ∧ ∀ v H', Same H H' → NewQ C H H' v (trimQ (addQ xs ys)) → Q v H'
def sp_minus (C : Addr) : Sp := fun vs H Q _ => ∃ (x y : V) (xs ys : List Rat) (n m : Nat), vs = [x, y] ∧ PolyQ C H x xs ∧ PolyQ C H y ys ∧ xs.length ≤ 49 ∧ ys.length ≤ 49 ∧ AllB n xs ∧ AllB m ys ∧ n + m ≤ 8000 ∧ ∀ v H', Same H H' → NewQ C H H' v (trimQ (addQ xs (ys.map fun y => -y))) → Q v H'
def sp_scaled (C : Addr) : Sp := fun vs H Q _ => ∃ (x y : V) (xs : List Rat) (c : Rat) (n m : Nat), vs = [x, y] ∧ PolyQ C H x xs ∧ NumQ C H y c ∧ xs.length ≤ 49 ∧ AllB n xs ∧ Bits m c ∧ n + m ≤ 8000 ∧ ∀ v H', Same H H' → NewQ C H H' v (scQ c xs) → Q v H'
def sp_times (C : Addr) : Sp := fun vs H Q _ => ∃ (x y : V) (xs ys : List Rat) (n m B1 B2 : Nat), vs = [x, y] ∧ PolyQ C H x xs ∧ PolyQ C H y ys ∧ xs.length + ys.length ≤ 49 ∧ AllB n xs ∧ AllB m ys ∧ n ≤ 4000 ∧ m ≤ 4000 ∧ 0 < B1 ∧ B1 < 2 ^ 63 ∧ 0 < B2 ∧ B2 < 2 ^ 63 ∧ (∀ x ∈ xs, x.den ∣ B1) ∧ (∀ x ∈ ys, x.den ∣ B2) ∧
  ∀ v H' zs, Same H H' → NewQ C H H' v zs → (∀ n, co zs n = prodc xs (co ys) n) → zs.length = (if xs = [] ∨ ys = [] then 0 else xs.length + ys.length - 1) → Q v H'
def sp_worth (C : Addr) : Sp := fun vs H Q _ => ∃ (x y : V) (xs : List Rat) (z : Rat) (n m : Nat), vs = [x, y] ∧ PolyQ C H x xs ∧ NumQ C H y z ∧ xs.length ≤ 49 ∧ AllB n xs ∧ Bits m z ∧ (xs.length + 2) * (n + m + 2) ≤ 4000 ∧ ∀ a H', Same H H' → RQ C H' a (hv xs z) → Bits 4000 (hv xs z) → Q (.ref a) H'
def sp_derived (C : Addr) : Sp := fun vs H Q _ => ∃ (x : V) (xs : List Rat) (n : Nat), vs = [x] ∧ PolyQ C H x xs ∧ xs.length ≤ 49 ∧ AllB n xs ∧ n ≤ 4000 ∧ ∀ v H', Same H H' → NewQ C H H' v (derQ xs) → Q v H'
theorem ixn {n j : Nat} {z : Int} (e : z = (j : Int)) (h : j < n) : ixN n z = some j := by
  unfold ixN
  rw [if_pos (by omega), if_pos (by omega), e]; simp
theorem fm_map {α : Type} (xs : List α) (g : α → Int) : (List.range xs.length).filterMap (fun i => (xs[i]?).map fun x => V.int (g x)) = VI (xs.map g) := by
  have := fm_all xs fun x : α => some (V.int (g x))
  have e2 : (fun i : Nat => (xs[i]?).map fun x : α => V.int (g x)) = fun i : Nat => (xs[i]?).bind fun x : α => some (V.int (g x)) := by
    funext i; cases xs[i]? <;> rfl
  rw [e2, this, List.filterMap_eq_map']; unfold VI; rw [List.map_map]; rfl
theorem zeros (k : Nat) : (List.replicate k [V.int 0]).flatten = VI (List.replicate k 0) := by
  induction k with
  | zero => rfl
  | succ k ih => rw [List.replicate_succ, List.flatten_cons, ih]; rfl
-- slots: numbers 0, fractions 1, bottom 2, fraction 3, number 4; cells: bottom
abbrev s_over_one_bottom : Stmt := top 16
abbrev N_over_one_bottom : List Str := ["numbers", "fractions", "bottom", "fraction", "number"]
theorem sc_over_one_bottom : FnScope N_over_one_bottom ["numbers"] (defScope s_over_one_bottom) := ⟨rfl, rfl, rfl, by decide +kernel, rfl, by decide +kernel, by decide +kernel⟩
theorem d_over_one_bottom (B : Bnd K mg "over_one_bottom" s_over_one_bottom) (M : Mg2 mg) (R : RCls K mg C fI fR) {kr : Nat} (PT : PropX P w K mg base kr C "top" (spTopR C)) (PB : PropX P w K mg base kr C "bottom" (spBotR C)) (hk : kr + 8 ≤ k) (D_as_ratio : Def P w K mg base k "as_ratio" s_as_ratio ["number"] (spAs C)) : Def P w K mg base (k + 1) "over_one_bottom" s_over_one_bottom ["numbers"] (sp_over_one C) := by
  refine def_of B sc_over_one_bottom (by rintro _ _ _ _ ⟨l, us, xs, n, m, B, rfl, _⟩; rfl) (fun _ _ _ _ _ _ us hl => match us, hl with | [_], _ => rfl) fun f cdv A outer s H vs Q E hr h => ?_
  obtain ⟨l, us, xs, n, m, B, rfl, hl, hQ, lx, bx, n4, B0, Bm, m3, dv, q⟩ := h
  have hu := hr.units
  refine ⟨_, pss_cons (ps_setLc (i := 1) (own := [("number", 4)]) (g := (gName 4)) (tt := tYes) (te := (tD _ (tCons (tVar 4) tNil))) rfl sc_over_one_bottom.nd rfl rfl (sw_true rfl rfl rfl (by decide +kernel)) (pi_list (pv 0)) (blkOk_by (own := [("number", 4)]) (N := N_over_one_bottom) (sc := defScope s_over_one_bottom) (by decide +kernel)) (fun _ _ _ _ _ => pg_name (i := 4) sc_over_one_bottom.nd rfl (.inl rfl)) (fun _ _ _ _ _ => pts_nil) (fun _ _ _ _ _ => pe_d D_as_ratio hr (by rfl) (pa_cons (pv 4) pa_nil)))
    (pss_cons (ps_set (i := 2) sc_over_one_bottom.nd rfl (.inr rfl) pe_int)
    (pss_cons (ps_for PassesOwn.never rfl (pi_list (pv 1)) (pg_name (i := 3) sc_over_one_bottom.nd rfl (.inl rfl))
      (pss_one (ps_set (i := 2) sc_over_one_bottom.nd rfl (.inr rfl) (pe_callBfun cr_lcm (by rfl) M.lcm  (pa_cons (pv 2) (pa_cons (pe_propX PB (hr.mono (by omega)) R.cl (pv 3) (by rfl)) pa_nil))))))
    (pss_one (ps_ret (pe_tup (pa_cons (pe_lc (own := [("fraction", 3)]) (g := (gName 3)) (tt := tYes) (te := (tOp _ (tProp _ _ [] E0 (tVar 3)) (tOp _ (tVar 2) (tProp _ _ [] E0 (tVar 3))))) rfl sc_over_one_bottom.nd (pi_list (pv 1)) (blkOk_by (own := [("fraction", 3)]) (N := N_over_one_bottom) (sc := defScope s_over_one_bottom) (by decide +kernel)) (fun _ _ _ _ _ => pg_name (i := 3) sc_over_one_bottom.nd rfl (.inl rfl)) (fun _ _ _ _ _ => pts_nil) (fun _ _ _ _ _ => pe_op op_mulW (pe_propX PT (hr.mono (by omega)) R.cl (pv 3) (by rfl)) (pe_op op_fdivNW (pv 2) (pe_propX PB (hr.mono (by omega)) R.cl (pv 3) (by rfl))))) (pa_cons (pv 2) pa_nil))))))), ?_⟩
  have lu := QL.len hQ
  refine ⟨_, rfl, l, rfl, ⟨us, SqL.of hl⟩, fun D nD => ?_⟩
  refine lc_rel (walk_list (K := K) (a := l) (xs := us)) (fun i acc Hh => QL C Hh acc (xs.take i)) nD (by rw [sizeLine_eq]; omega) (fun Hh sh => SqL.of (sh _ _ hl)) QL.nil (fun i acc A B s r => RatL.same r s) (fun i v acc Ha Hb hi sa ha hr hy Yc Nc yc nc => ?_) (fun acc H1 s1 hD hr => ?_)
  · obtain ⟨rfl, hv⟩ := hy
    obtain ⟨x, a, hx, rfl, rx⟩ := QL.at hQ hv
    have r1 := rx.same sa
    refine ⟨rfl, _, rfl, .ref a, _, _, rfl, r1.nq, fun m' H4 s4 rm => yc _ H4 s4 ?_⟩
    rw [takeS hx]
    exact QL.snoc (RatL.same hr (wo_mono s4)) (Rat2.wo rm (s4 _ _ ha))
  rw [lu, List.take_length] at hr
  have hF := RatL.same hr (wo_le (D := D))
  have la := QL.len hF
  refine ⟨_, rfl, D, rfl, ⟨acc, SqL.of hD⟩, ?_⟩
  refine for_list (xs := acc) (fun i σ G => ∃ (L : Nat) (o3 : Option V), σ = [some (.ref l), some (.ref D), some (.int (L : Nat)), o3, none] ∧ Same H1 G ∧ 0 < L ∧ L ∣ B ∧ ∀ (j : Nat) (x : Rat), j < i → xs[j]? = some x → x.den ∣ L)
    ⟨1, none, rfl, Same.refl _, by decide, Nat.one_dvd _, fun j x h => absurd h (Nat.not_lt_zero _)⟩ (fun i σ G _ ⟨L, o, _, sm, _⟩ => SqL.of (sm _ _ hD)) (fun i v σ G hv ⟨L, o, e, sm, L0, LB, Ld⟩ => ?_) (fun σ G ⟨L, o, e, sm, L0, LB, Ld⟩ => ?_)
  · subst e
    obtain ⟨x, a, hx, rfl, rx⟩ := QL.at hF hv
    have r1 := rx.same sm
    obtain ⟨dx, r2⟩ := id r1
    have dB := dv x (List.mem_of_getElem? hx)
    have lB := Nat.le_of_dvd B0 LB
    have dl := Nat.le_of_dvd B0 dB
    have B63 : B < 2 ^ 63 := Nat.lt_of_lt_of_le Bm (Nat.pow_le_pow_right (by decide) m3)
    obtain ⟨g1, g2, g3, g4⟩ := lcm_step LB dB L0 x.den_pos
    refine ⟨_, rfl, _, rfl, a, dx, _, rfl, r2, a, _, _, rfl, r1, (L : Int), (x.den : Int), rfl, by omega, by omega, ?_⟩
    refine ⟨Nat.lcm L x.den, _, rfl, sm, g2, g1, fun j y hj hy => ?_⟩
    by_cases e : j = i
    · subst e
      rw [hx] at hy
      obtain rfl := Option.some.inj hy
      exact g4
    · exact Nat.dvd_trans (Ld j y (by omega) hy) g3
  · subst e
    have hdv : ∀ (j : Nat) (x : Rat), xs[j]? = some x → (x.den : Int) ∣ (L : Int) := fun j x hx => by
      have := Ld j x (by have := (List.getElem?_eq_some_iff.mp hx).1; omega) hx
      exact Int.natCast_dvd_natCast.mpr this
    have Lm : LbI m (L : Int) := Nat.lt_of_le_of_lt (Nat.le_of_dvd B0 LB) Bm
    have L0' : (0 : Int) < L := by omega
    have hF2 := RatL.same hF sm
    refine ⟨_, rfl, D, rfl, ⟨acc, SqL.of (sm _ _ hD)⟩, fun E nE => ?_⟩
    refine lc_l (fun i => (xs[i]?).map fun x : Rat => V.int (x.num * (L : Int).fdiv x.den)) (SqL.of (sm _ _ hD)) nE (by rw [sizeLine_eq]; omega) (fun i v H2 hv s2 Y N y nn => ?_) (fun H2 s2 hE => ?_)
    · obtain ⟨x, a, hx, rfl, rx⟩ := QL.at hF2 hv
      have r1 := rx.same s2
      obtain ⟨dx, r2⟩ := id r1
      have bX := bx x (List.mem_of_getElem? hx)
      obtain ⟨z1, z2, z3⟩ := ownZ L0' (hdv i x hx) bX Lm
      refine ⟨rfl, _, rfl, a, dx, _, rfl, r2, a, _, _, rfl, r1, _, rfl, _, rfl, a, dx, _, rfl, r2, a, _, _, rfl, r1, (L : Int), x.den, rfl, rfl, (bX.2).div (by omega) (by have := den_pos x; omega), x.num, _, rfl, rfl, bX.1.cm z3 (by omega), ?_⟩
      exact y _ _ (Same.refl _) (by show (xs[i]?).map _ = _; rw [hx]; rfl)
    · rw [la, fm_map] at hE
      refine ⟨_, rfl, by show 2 ≤ sizeLine; decide, fun t nt => ?_⟩
      have st := same_new (o := .tup [V.ref E, V.int (L : Int)]) nt
      refine q t E _ (L : Int) (xs.map fun x : Rat => x.num * (L : Int).fdiv x.den) (((s1.trans sm).trans s2).trans st) upd_same (st _ _ hE) L0' Lm ?_ fun z hz => ?_
      · unfold ratsOf
        rw [List.map_map]
        conv => rhs; rw [← List.map_id xs]
        refine List.map_congr_left fun x hx => ?_
        obtain ⟨j, hj⟩ := List.getElem?_of_mem hx
        exact (ownZ L0' (hdv j x hj) (bx x hx) Lm).1
      · obtain ⟨x, hx, rfl⟩ := List.mem_map.mp hz
        obtain ⟨j, hj⟩ := List.getElem?_of_mem hx
        exact Nat.le_of_lt (ownZ L0' (hdv j x hj) (bx x hx) Lm).2.1
-- slots: first 0, second 1, found 2, place 3, one 4, at 5, two 6; cells: 
abbrev s_whole_product : Stmt := top 18
abbrev N_whole_product : List Str := ["first", "second", "found", "place", "one", "at", "two"]
theorem sc_whole_product : FnScope N_whole_product ["first", "second"] (defScope s_whole_product) := ⟨rfl, rfl, rfl, by decide +kernel, rfl, by decide +kernel, by decide +kernel⟩
theorem d_whole_product (B : Bnd K mg "whole_product" s_whole_product) (M : Mg2 mg)   : Def P w K mg base (k + 1) "whole_product" s_whole_product ["first", "second"] (sp_whole_product K) := by
  refine def_of B sc_whole_product (by rintro _ _ _ _ ⟨l1, l2, zs1, zs2, N1, N2, k1, k2, rfl, _⟩; rfl) (fun _ _ _ _ _ _ us hl => match us, hl with | [_, _], _ => rfl) fun f cdv A outer s H vs Q E hr h => ?_
  obtain ⟨l1, l2, zs1, zs2, N1, N2, k1, k2, rfl, hl1, hl2, z1, z2, n1, n2, s1, s2, sk, e1, e2, q⟩ := h
  have hu := hr.units
  refine ⟨_, pss_cons (ps_set (i := 2) sc_whole_product.nd rfl (.inl rfl) (pe_op op_rep (pe_lst (pa_cons pe_int pa_nil)) (pe_op op_sub (pe_op op_add (pe_callB call_len_seq (by rfl) M.len boot_len (pa_cons (pv 0) pa_nil)) (pe_callB call_len_seq (by rfl) M.len boot_len (pa_cons (pv 1) pa_nil))) pe_int)))
    (pss_cons (ps_for PassesOwn.never rfl (pi_enum (by rfl) M.enum (pa_cons (pv 0) pa_nil)) (pg_tup rfl (pgs_cons (pg_name (i := 3) sc_whole_product.nd rfl (.inl rfl)) (pgs_cons (pg_name (i := 4) sc_whole_product.nd rfl (.inl rfl)) pgs_nil)))
      (pss_one (ps_for PassesOwn.never rfl (pi_enum (by rfl) M.enum (pa_cons (pv 1) pa_nil)) (pg_tup rfl (pgs_cons (pg_name (i := 5) sc_whole_product.nd rfl (.inl rfl)) (pgs_cons (pg_name (i := 6) sc_whole_product.nd rfl (.inl rfl)) pgs_nil)))
        (pss_one (ps_augS (pv 2) (pe_op op_add (pv 3) (pv 5)) pget_list (pe_op op_mulW (pv 4) (pv 6)) ip_add set_list)))))
    (pss_one (ps_ret (pv 2)))), ?_⟩
  have lv1 := vi_len zs1
  have lv2 := vi_len zs2
  have q1 : 0 < zs1.length := List.length_pos_iff.mpr z1
  have q2 : 0 < zs2.length := List.length_pos_iff.mpr z2
  refine ⟨by show 1 ≤ sizeLine; decide, fun c0 nc0 => ?_⟩
  have sc := same_new (o := .lst [V.int 0]) nc0
  refine ⟨_, rfl, l1, _, rfl, .inl (SqL.of (sc _ _ hl1)), _, rfl, l2, _, rfl, .inl (SqL.of (sc _ _ hl2)), _, _, rfl, rfl, _, 1, rfl, rfl, ?_⟩
  have em : (((VI zs1).length : Nat) : Int) + (((VI zs2).length : Nat) : Int) - 1 = ((zs1.length + zs2.length - 1 : Nat) : Int) := by omega
  dsimp only
  rw [em]
  refine ⟨c0, _, [V.int 0], rfl, rfl, upd_same, by omega, by omega, by rw [sizeLine_eq]; simp only [List.length_cons, List.length_nil]; omega, fun F nF0 => ?_⟩
  generalize hL : zs1.length + zs2.length - 1 = L
  have e0 : (List.replicate ((L : Nat) : Int).toNat [V.int 0]).flatten = VI ((List.range L).map (prodI zs1 zs2 0)) := by
    rw [Int.toNat_natCast, zeros]
    congr 1
    refine List.ext_getElem (by simp) fun n a b => ?_
    rw [List.getElem_replicate, List.getElem_map]; rfl
  rw [e0]
  have nF : H F = none := sc.free nF0
  have sF := sc.trans (same_new (o := .lst (VI ((List.range L).map (prodI zs1 zs2 0)))) nF0)
  have hF : (upd (upd H c0 (.lst [V.int 0])) F (.lst (VI ((List.range L).map (prodI zs1 zs2 0))))) F = some (.lst (VI ((List.range L).map (prodI zs1 zs2 0)))) := upd_same
  generalize upd (upd H c0 (.lst [V.int 0])) F (.lst (VI ((List.range L).map (prodI zs1 zs2 0)))) = H0 at *
  have old : ∀ {G : Hp}, Same H (wo F G) → Same H G := fun s => s.trans wo_le
  refine ⟨_, rfl, l1, _, rfl, SqL.of (sF _ _ hl1), ?_⟩
  refine for_it (walk_enum (K := K) (a := l1) (xs := VI zs1)) (fun i σ G => ∃ (o3 o4 o5 o6 : Option V), σ = [some (.ref l1), some (.ref l2), some (.ref F), o3, o4, o5, o6] ∧ Same H (wo F G) ∧ G F = some (.lst (VI ((List.range L).map (prodI zs1 zs2 i)))))
    ⟨none, none, none, none, rfl, same_wo nF sF, hF⟩ (fun i σ G _ ⟨_, _, _, _, _, sm, _⟩ => SqL.of (old sm _ _ hl1)) (fun i v σ G G2 hi ⟨o3, o4, o5, o6, e, sm, hG⟩ hy => ?_) (fun σ G ⟨o3, o4, o5, o6, e, sm, hG⟩ => ?_)
  · subst e
    obtain ⟨T, v1, v2, rfl, nT, rfl, hx1, hx2⟩ := hy
    obtain ⟨x, hx, rfl⟩ := vi_at hx2
    obtain rfl := Option.some.inj hx1
    have sT := same_new (o := .tup [V.int (i : Nat), V.int x]) nT
    have s3 := sm.trans (wo_mono (D := F) sT)
    have hG3 := sT _ _ hG
    have hT : (upd G T (.tup [V.int (i : Nat), V.int x])) T = some (.tup [V.int (i : Nat), V.int x]) := upd_same
    generalize upd G T (.tup [V.int (i : Nat), V.int x]) = G3 at *
    have hi1 : i < zs1.length := by omega
    have ex : zs1.getD i 0 = x := by rw [List.getD_eq_getElem?_getD, hx]; rfl
    refine ⟨T, _, rfl, SqT.of hT, rfl, _, _, rfl, _, _, rfl, rfl, ?_⟩
    refine ⟨_, rfl, l2, _, rfl, SqL.of (old s3 _ _ hl2), ?_⟩
    refine for_it (walk_enum (K := K) (a := l2) (xs := VI zs2)) (fun j σ G => ∃ (o5 o6 : Option V), σ = [some (.ref l1), some (.ref l2), some (.ref F), some (.int (i : Nat)), some (.int x), o5, o6] ∧ Same H (wo F G) ∧ G F = some (.lst (VI ((List.range L).map (partI zs1 zs2 i j)))))
      ⟨_, _, rfl, s3, ?_⟩ (fun j σ G _ ⟨_, _, _, sm, _⟩ => SqL.of (old sm _ _ hl2)) (fun j v σ G G2 hj ⟨o5, o6, e, sm, hG⟩ hy => ?_) (fun σ G ⟨o5, o6, e, sm, hG⟩ => ?_)
    · rw [hG3, funext (partI_zero zs1 zs2 i)]
    · subst e
      obtain ⟨T2, v1, v2, rfl, nT2, rfl, hy1, hy2⟩ := hy
      obtain ⟨y, hy, rfl⟩ := vi_at hy2
      obtain rfl := Option.some.inj hy1
      have sT := same_new (o := .tup [V.int (j : Nat), V.int y]) nT2
      have s4 := sm.trans (wo_mono (D := F) sT)
      have hG4 := sT _ _ hG
      have hT2 : (upd G T2 (.tup [V.int (j : Nat), V.int y])) T2 = some (.tup [V.int (j : Nat), V.int y]) := upd_same
      generalize upd G T2 (.tup [V.int (j : Nat), V.int y]) = G4 at *
      have hj1 : j < zs2.length := by omega
      have hij : i + j < L := by omega
      have ey : zs2.getD j 0 = y := by rw [List.getD_eq_getElem?_getD, hy]; rfl
      have hx' : LbI k1 x := Nat.lt_of_le_of_lt (n1 x (List.mem_of_getElem? hx)) s1
      have hy' : LbI k2 y := Nat.lt_of_le_of_lt (n2 y (List.mem_of_getElem? hy)) s2
      have hat : (VI ((List.range L).map (partI zs1 zs2 i j)))[((i : Int) + (j : Int)).toNat]? = some (.int (partI zs1 zs2 i j (i + j))) := by
        rw [show ((i : Int) + (j : Int)).toNat = i + j by omega]
        unfold VI
        rw [List.getElem?_map, List.getElem?_map, List.getElem?_range hij]; rfl
      refine ⟨T2, _, rfl, SqT.of hT2, rfl, _, _, rfl, _, _, rfl, rfl, ?_⟩
      refine ⟨_, rfl, _, rfl, _, rfl, _, _, rfl, rfl, F, _, _, _, rfl, rfl, SqL.of hG4, by omega, hat, _, rfl, _, rfl, x, y, rfl, rfl, hx'.cm hy' (by omega), _, _, rfl, rfl, ?_⟩
      refine ⟨F, _, _, i + j, rfl, rfl, hG4, ixn (by omega) (by rw [vi_len, List.length_map, List.length_range]; exact hij), ?_⟩
      refine ⟨_, _, rfl, ?_, ?_⟩
      · rw [wo_upd]; exact s4
      · rw [upd_same]
        have := partI_step (xs := zs1) (ys := zs2) hij
        rw [ex, ey] at this
        rw [← this]
        unfold VI
        rw [List.map_set]
    · subst e
      refine ⟨_, _, _, _, rfl, sm, ?_⟩
      rw [hG]
      have : (VI zs2).length = zs2.length := lv2
      rw [this, funext (partI_all zs1 zs2 i)]
  · subst e
    have s5 := old sm
    have hG' : G F = some (.lst (VI (timesI zs1 zs2))) := by
      rw [hG, lv1, ← hL]; rfl
    exact ⟨_, rfl, q F G s5 nF hG'⟩
-- slots: first 0, second 1, sums 2, one 3, two 4; cells: 
abbrev s_added : Stmt := top 31
abbrev N_added : List Str := ["first", "second", "sums", "one", "two"]
theorem sc_added : FnScope N_added ["first", "second"] (defScope s_added) := ⟨rfl, rfl, rfl, by decide +kernel, rfl, by decide +kernel, by decide +kernel⟩
theorem d_added (B : Bnd K mg "added" s_added) (M : Mg2 mg) (R : RCls K mg C fI fR) {kr : Nat} (AD : BinX P w K mg base kr C .Add (spAddQ C)) (hk : kr + 8 ≤ k) (D_trimmed : Def P w K mg base k "trimmed" s_trimmed ["numbers"] (sp_trimmed C)) : Def P w K mg base (k + 1) "added" s_added ["first", "second"] (sp_added C) := by
  refine def_of B sc_added (by rintro _ _ _ _ ⟨l1, l2, us, ws, xs, ys, n, m, rfl, _⟩; rfl) (fun _ _ _ _ _ _ us hl => match us, hl with | [_, _], _ => rfl) fun f cdv A outer s H vs Q E hr h => ?_
  obtain ⟨l1, l2, us, ws, xs, ys, n, m, rfl, h1, h2, Q1, Q2, lx, ly, bx, by_, nm, q⟩ := h
  have hu := hr.units
  refine ⟨_, pss_cons (ps_setLc (i := 2) (own := [("one", 3), ("two", 4)]) (g := (gTup K 2 (gCons (gName 3) (gCons (gName 4) gNil)))) (tt := tYes) (te := (tOp (rOwn C (spAddQ C)) (tVar 3) (tVar 4))) rfl sc_added.nd rfl rfl (sw_true rfl rfl rfl (by decide +kernel)) (pi_zipS (by rfl) M.zip (pa_cons (pv 0) (pa_cons (pv 1) pa_nil))) (blkOk_by (own := [("one", 3), ("two", 4)]) (N := N_added) (sc := defScope s_added) (by decide +kernel)) (fun _ _ _ _ _ => pg_tup rfl (pgs_cons (pg_name (i := 3) sc_added.nd rfl (.inl rfl)) (pgs_cons (pg_name (i := 4) sc_added.nd rfl (.inl rfl)) pgs_nil))) (fun _ _ _ _ _ => pts_nil) (fun _ _ _ _ _ => pe_op (op_ownX AD (hr.mono (by omega))) (pv 3) (pv 4)))
    (pss_one (ps_ret (pe_d D_trimmed hr (by rfl) (pa_cons (pe_op op_cat (pe_op op_cat (pv 2) (pe_slice (r := rSlL K) sl_list (pv 0) (po_some (pe_callB call_len_seq (by rfl) M.len boot_len (pa_cons (pv 1) pa_nil))) po_none)) (pe_slice (r := rSlL K) sl_list (pv 1) (po_some (pe_callB call_len_seq (by rfl) M.len boot_len (pa_cons (pv 0) pa_nil))) po_none)) pa_nil)))), ?_⟩
  have lu := QL.len Q1
  have lw := QL.len Q2
  obtain ⟨κ1, k1⟩ := sqk_of (sq_lst (K := K) h1)
  obtain ⟨κ2, k2⟩ := sqk_of (sq_lst (K := K) h2)
  refine ⟨_, rfl, _, rfl, l1, l2, us, ws, κ1, κ2, rfl, k1, k2, fun D nD => ?_⟩
  have hz : (List.zipWith (fun a b => a + b) xs ys).length = min us.length ws.length := by rw [List.length_zipWith, lu, lw]
  refine lc_rel (walk_zipS (n := min us.length ws.length) rfl) (fun i acc Hh => QL C Hh acc ((List.zipWith (fun a b => a + b) xs ys).take i)) nD (by rw [sizeLine_eq]; omega) (fun Hh sh => ⟨k1.same sh, k2.same sh⟩) QL.nil (fun i acc A B s r => RatL.same r s) (fun i v acc Ha Hb hi sa ha hr hy Yc Nc yc nc => ?_) (fun acc H1 s1 hD hr => ?_)
  · obtain ⟨Tt, v1, v2, rfl, nT, rfl, hx1, hx2⟩ := hy
    obtain ⟨x1, c1, q1, rfl, w1⟩ := QL.at Q1 hx1
    obtain ⟨x2, c2, q2, rfl, w2⟩ := QL.at Q2 hx2
    have sT := same_new (o := .tup [V.ref c1, V.ref c2]) nT
    have sb := sa.trans sT
    obtain ⟨d1, w1b⟩ := id (w1.same sb)
    refine ⟨Tt, _, rfl, SqT.of upd_same, rfl, _, _, rfl, _, _, rfl, rfl, rfl, _, rfl, _, rfl, c1, d1, _, rfl, w1b, (w2.same sb).nq.own, c1, _, x1, x2, n, m, rfl, w1.same sb, (w2.same sb).nq, bx x1 (List.mem_of_getElem? q1), by_ x2 (List.mem_of_getElem? q2), by omega, fun r1 H4 s4 rr => ⟨⟨r1, rfl⟩, yc _ H4 (sT.trans s4) ?_⟩⟩
    have hD5 := (sT.trans s4) _ _ ha
    rw [takeS (show (List.zipWith (fun a b => a + b) xs ys)[i]? = some (x1 + x2) by rw [List.getElem?_zipWith, q1, q2])]
    exact QL.snoc (RatL.same hr (wo_mono (sT.trans s4))) (Rat2.wo rr hD5)
  rw [List.take_of_length_le (Nat.le_of_eq hz)] at hr
  have hZ := RatL.same hr (wo_le (D := D))
  have lz := QL.len hZ
  refine ⟨_, rfl, _, rfl, _, rfl, l2, ws, rfl, .inl (SqL.of (s1 _ _ h2)), _, rfl, l1, us, rfl, SqL.of (s1 _ _ h1), fun c1 n1 => ?_⟩
  rw [cut_from]
  have t1 := same_new (o := .lst (us.drop ws.length)) n1
  refine ⟨D, c1, _, _, rfl, rfl, t1 _ _ hD, upd_same, by rw [List.length_drop, sizeLine_eq]; omega, fun c2 n2 => ?_⟩
  have t2 := same_new (o := .lst (acc ++ us.drop ws.length)) n2
  have t12 := (s1.trans t1).trans t2
  refine ⟨_, rfl, _, rfl, l1, us, rfl, .inl (SqL.of (t12 _ _ h1)), _, rfl, l2, ws, rfl, SqL.of (t12 _ _ h2), fun c3 n3 => ?_⟩
  rw [cut_from]
  have t3 := same_new (o := .lst (ws.drop us.length)) n3
  refine ⟨c2, c3, _, _, rfl, rfl, t3 _ _ upd_same, upd_same, by rw [List.length_append, List.length_drop, List.length_drop, sizeLine_eq]; omega, fun c4 n4 => ?_⟩
  have t4 := same_new (o := .lst ((acc ++ us.drop ws.length) ++ ws.drop us.length)) n4
  have tA := (((t1.trans t2).trans t3).trans t4)
  have hR : QL C (upd (upd (upd (upd H1 c1 (.lst (us.drop ws.length))) c2 (.lst (acc ++ us.drop ws.length))) c3 (.lst (ws.drop us.length))) c4 (.lst ((acc ++ us.drop ws.length) ++ ws.drop us.length))) ((acc ++ us.drop ws.length) ++ ws.drop us.length) (addQ xs ys) := by
    unfold addQ
    rw [← lu, ← lw]
    exact QL.app (QL.app (RatL.same hZ tA) (QL.drop (RatL.same Q1 (s1.trans tA)) _)) (QL.drop (RatL.same Q2 (s1.trans tA)) _)
  refine ⟨c4, _, _, rfl, upd_same, hR, by rw [List.length_append, List.length_append, List.length_drop, List.length_drop]; omega, fun a H2 w2 s2 na h2' R2 => ?_⟩
  rw [trimP_nd] at R2
  exact q _ H2 ((s1.trans tA).trans s2) ⟨a, w2, rfl, (s1.trans tA).free na, h2', R2⟩
-- slots: first 0, second 1, first_tops 2, first_bottom 3, second_tops 4, second_bottom 5, bottom 6, top 7; cells: bottom
abbrev s_multiplied : Stmt := top 32
abbrev N_multiplied : List Str := ["first", "second", "first_tops", "first_bottom", "second_tops", "second_bottom", "bottom", "top"]
theorem sc_multiplied : FnScope N_multiplied ["first", "second"] (defScope s_multiplied) := ⟨rfl, rfl, rfl, by decide +kernel, rfl, by decide +kernel, by decide +kernel⟩
theorem d_multiplied (B : Bnd K mg "multiplied" s_multiplied) (M : Mg2 mg) (R : RCls K mg C fI fR) {kr : Nat} (DQ : RDefQ P w K mg base kr C) (hk : kr + 8 ≤ k) (D_over_one_bottom : Def P w K mg base k "over_one_bottom" s_over_one_bottom ["numbers"] (sp_over_one C)) (D_whole_product : Def P w K mg base k "whole_product" s_whole_product ["first", "second"] (sp_whole_product K)) : Def P w K mg base (k + 1) "multiplied" s_multiplied ["first", "second"] (sp_multiplied C) := by
  refine def_of B sc_multiplied (by rintro _ _ _ _ ⟨l1, l2, us, ws, xs, ys, n, m, B1, B2, rfl, _⟩; rfl) (fun _ _ _ _ _ _ us hl => match us, hl with | [_, _], _ => rfl) fun f cdv A outer s H vs Q E hr h => ?_
  obtain ⟨l1, l2, us, ws, xs, ys, n, m, B1, B2, rfl, h1, h2, Q1, Q2, lx, ly, bx, by_, n4, m4, b10, b1m, b20, b2m, d1, d2, q⟩ := h
  have hu := hr.units
  refine ⟨_, C8.pss_cut (ps_if (PW.pt (pw_or (pt_not (pt_truth (pv 0) (by intro _; rfl))) (pw_or1 (pt_not (pt_truth (pv 1) (by intro _; rfl))))))
      (pss_one (ps_ret (pe_lst pa_nil)))
      (pss_nil))
    (pss_cons (ps_asg (pe_d D_over_one_bottom hr (by rfl) (pa_cons (pv 0) pa_nil)) (pg_tup rfl (pgs_cons (pg_name (i := 2) sc_multiplied.nd rfl (.inl rfl)) (pgs_cons (pg_name (i := 3) sc_multiplied.nd rfl (.inl rfl)) pgs_nil))))
    (pss_cons (ps_asg (pe_d D_over_one_bottom hr (by rfl) (pa_cons (pv 1) pa_nil)) (pg_tup rfl (pgs_cons (pg_name (i := 4) sc_multiplied.nd rfl (.inl rfl)) (pgs_cons (pg_name (i := 5) sc_multiplied.nd rfl (.inl rfl)) pgs_nil))))
    (pss_cons (ps_set (i := 6) sc_multiplied.nd rfl (.inr rfl) (pe_op op_mulW (pv 3) (pv 5)))
    (pss_one (ps_ret (pe_lc (own := [("top", 7)]) (g := (gName 7)) (tt := tYes) (te := (tRatQ C (tCons (tVar 7) (tCons (tVar 6) tNil)))) rfl sc_multiplied.nd (pi_list (pe_d D_whole_product hr (by rfl) (pa_cons (pv 2) (pa_cons (pv 4) pa_nil)))) (blkOk_by (own := [("top", 7)]) (N := N_multiplied) (sc := defScope s_multiplied) (by decide +kernel)) (fun _ _ _ _ _ => pg_name (i := 7) sc_multiplied.nd rfl (.inl rfl)) (fun _ _ _ _ _ => pts_nil) (fun _ _ _ _ _ => pe_ratQ DQ (hr.mono (by omega)) (by rfl) (pa_cons (pv 7) (pa_cons (pv 6) pa_nil))))))))), ?_⟩
  have lu := QL.len Q1
  have lw := QL.len Q2
  have nilCase : (xs = [] ∨ ys = []) → ∀ c, H c = none → Q (.ref c) (upd H c (.lst [])) := fun e c nc => by
    refine q _ _ [] (same_new nc) ⟨c, [], rfl, nc, upd_same, QL.nil⟩ (fun n => ?_) (by rw [if_pos e]; rfl)
    rcases e with e | e
    · rw [e, prodc_nil_left]; rfl
    · rw [e, prodc_nil_right]; rfl
  refine ⟨fun σ' G => σ' = [some (.ref l1), some (.ref l2), none, none, none, none, none, none] ∧ G = H ∧ us ≠ [] ∧ ws ≠ [], ?_, ?_⟩
  · by_cases e1 : us = []
    · refine ⟨_, rfl, false, .inl ⟨us, SqL.of h1, by rw [e1]; rfl⟩, iteT (iteT ⟨Nat.zero_le _, fun c nc => nilCase (.inl ?_) c nc⟩)⟩
      rw [e1] at lu; exact List.length_eq_zero_iff.mp lu.symm
    · refine ⟨_, rfl, true, .inl ⟨us, SqL.of h1, by cases us; exact absurd rfl e1; rfl⟩, iteF ?_⟩
      by_cases e2 : ws = []
      · refine ⟨_, rfl, false, .inl ⟨ws, SqL.of h2, by rw [e2]; rfl⟩, iteT ⟨Nat.zero_le _, fun c nc => nilCase (.inr ?_) c nc⟩⟩
        rw [e2] at lw; exact List.length_eq_zero_iff.mp lw.symm
      · exact ⟨_, rfl, true, .inl ⟨ws, SqL.of h2, by cases ws; exact absurd rfl e2; rfl⟩, iteF ⟨rfl, rfl, e1, e2⟩⟩
  rintro _ _ ⟨rfl, rfl, e1, e2⟩
  rename_i H
  have x0 : xs ≠ [] := fun e => by rw [e] at lu; exact e1 (List.length_eq_zero_iff.mp lu)
  have y0 : ys ≠ [] := fun e => by rw [e] at lw; exact e2 (List.length_eq_zero_iff.mp lw)
  refine ⟨_, rfl, l1, us, xs, n, 63, B1, rfl, h1, Q1, lx, bx, n4, b10, b1m, by omega, d1, fun t1 a1 H1 bo1 ts1 s1 ht1 ha1 p1 lb1 r1 bn1 => ?_⟩
  refine ⟨t1, _, rfl, SqT.of ht1, rfl, _, _, rfl, _, _, rfl, rfl, ?_⟩
  refine ⟨_, rfl, l2, ws, ys, m, 63, B2, rfl, s1 _ _ h2, RatL.same Q2 s1, ly, by_, m4, b20, b2m, by omega, d2, fun t2 a2 H2 bo2 ts2 s2 ht2 ha2 p2 lb2 r2 bn2 => ?_⟩
  refine ⟨t2, _, rfl, SqT.of ht2, rfl, _, _, rfl, _, _, rfl, rfl, ?_⟩
  refine ⟨_, rfl, _, rfl, bo1, bo2, rfl, rfl, lb1.cm lb2 (by omega), ?_⟩
  have l1' : ts1.length = xs.length := by rw [← r1, ratsOf_len]
  have l2' : ts2.length = ys.length := by rw [← r2, ratsOf_len]
  have lx0 : 0 < xs.length := List.length_pos_iff.mpr x0
  have ly0 : 0 < ys.length := List.length_pos_iff.mpr y0
  refine ⟨_, rfl, _, rfl, a1, a2, ts1, ts2, _, _, n + 63 + 1, m + 63 + 1, rfl, s2 _ _ ha1, ha2, (fun e => by rw [e] at l1'; simp at l1'; omega), (fun e => by rw [e] at l2'; simp at l2'; omega), bn1, bn2, Nat.pow_lt_pow_right (by decide) (by omega), Nat.pow_lt_pow_right (by decide) (by omega), by omega, by omega, by omega, fun a H3 s3 na ha => ?_⟩
  refine ⟨a, rfl, ⟨_, SqL.of ha⟩, fun D nD => ?_⟩
  have b3 : bo1 * bo2 ≠ 0 := fun z => by rcases Int.mul_eq_zero.mp z with e | e <;> omega
  have lb3 : LbI 8990 (bo1 * bo2) := (lb1.mul lb2).mono (by omega)
  have lt : (timesI ts1 ts2).length = xs.length + ys.length - 1 := by rw [timesI_len, l1', l2']
  refine lc_rel (walk_list (K := K) (a := a) (xs := VI (timesI ts1 ts2))) (fun i acc Hh => QL C Hh acc ((ratsOf (bo1 * bo2) (timesI ts1 ts2)).take i)) nD (by rw [vi_len, lt, sizeLine_eq]; omega) (fun Hh sh => SqL.of (sh _ _ ha)) QL.nil (fun i acc A B s r => RatL.same r s) (fun i v acc Ha Hb hi sa hA hr hy Yc Nc yc nc => ?_) (fun acc H4 s4 hD hr => ?_)
  · obtain ⟨rfl, hv⟩ := hy
    obtain ⟨z, hz, rfl⟩ := vi_at hv
    refine ⟨rfl, _, rfl, _, rfl, z, bo1 * bo2, rfl, b3, lb3, fun c H4 nc s4 rc => yc _ H4 s4 ?_⟩
    have hx : (ratsOf (bo1 * bo2) (timesI ts1 ts2))[i]? = some ((z : Rat) / ((bo1 * bo2 : Int) : Rat)) := by unfold ratsOf; rw [List.getElem?_map, hz]; rfl
    rw [takeS hx]
    rw [Rat.divInt_eq_div] at rc
    exact QL.snoc (RatL.same hr (wo_mono s4)) (Rat2.wo rc (s4 _ _ hA))
  · rw [vi_len, List.take_of_length_le (by rw [ratsOf_len]; exact Nat.le_refl _)] at hr
    have hZ := RatL.same hr (wo_le (D := D))
    refine q _ H4 _ (((s1.trans s2).trans s3).trans s4) ⟨D, acc, rfl, ((s1.trans s2).trans s3).free nD, hD, hZ⟩ (fun n => ?_) (by rw [if_neg (by simp [x0, y0]), ratsOf_len, lt])
    have h1' : bo1 ≠ 0 := by omega
    have h2' : bo2 ≠ 0 := by omega
    have := timesI_co h1' h2' ts1 ts2 n
    rw [ratsOf_trim b3, trimQ_co, r1, r2] at this
    exact this
-- slots: poly 0, other 1; cells: 
abbrev s_plus : Stmt := top 24
abbrev N_plus : List Str := ["poly", "other"]
theorem sc_plus : FnScope N_plus ["poly", "other"] (defScope s_plus) := ⟨rfl, rfl, rfl, by decide +kernel, rfl, by decide +kernel, by decide +kernel⟩
theorem d_plus (B : Bnd K mg "plus" s_plus) (M : Mg2 mg) (R : RCls K mg C fI fR)  (D_told : Def P w K mg base k "told" s_told ["poly"] (sp_told C)) (D_added : Def P w K mg base k "added" s_added ["first", "second"] (sp_added C)) : Def P w K mg base (k + 1) "plus" s_plus ["poly", "other"] (sp_plus C) := by
  refine def_of B sc_plus (by rintro _ _ _ _ ⟨x, y, xs, ys, n, m, rfl, _⟩; rfl) (fun _ _ _ _ _ _ us hl => match us, hl with | [_, _], _ => rfl) fun f cdv A outer s H vs Q E hr h => ?_
  obtain ⟨x, y, xs, ys, n, m, rfl, hx, hy, lx, ly, bx, by_, nm, q⟩ := h
  have hu := hr.units
  refine ⟨_, pss_one (ps_ret (pe_d D_added hr (by rfl) (pa_cons (pe_d D_told hr (by rfl) (pa_cons (pv 0) pa_nil)) (pa_cons (pe_d D_told hr (by rfl) (pa_cons (pv 1) pa_nil)) pa_nil)))), ?_⟩
  refine ⟨_, rfl, x, 1, rfl, hx.1, hx.2.1, fun a1 H1 u1 s1 n1 h1 r1 => ?_⟩
  rw [hx.2.2] at r1
  have hy1 := hy.same s1
  refine ⟨_, rfl, y, 1, rfl, hy1.1, hy1.2.1, fun a2 H2 u2 s2 n2 h2 r2 => ?_⟩
  rw [hy1.2.2] at r2
  refine ⟨a1, a2, u1, u2, xs, ys, n, m, rfl, s2 _ _ h1, h2, RatL.same r1 s2, r2, by omega, by omega, bx, by_, nm, fun v H3 s3 ⟨a, us, e, na, ha, hq⟩ => q v H3 ((s1.trans s2).trans s3) ⟨a, us, e, (s1.trans s2).free na, ha, hq⟩⟩
-- slots: poly 0, other 1, number 2; cells: 
abbrev s_minus : Stmt := top 25
abbrev N_minus : List Str := ["poly", "other", "number"]
theorem sc_minus : FnScope N_minus ["poly", "other"] (defScope s_minus) := ⟨rfl, rfl, rfl, by decide +kernel, rfl, by decide +kernel, by decide +kernel⟩
theorem d_minus (B : Bnd K mg "minus" s_minus) (M : Mg2 mg) (R : RCls K mg C fI fR) {kr : Nat} (NE : UnX P w K mg base kr C (spNegQ C)) (hk : kr + 8 ≤ k) (D_told : Def P w K mg base k "told" s_told ["poly"] (sp_told C)) (D_added : Def P w K mg base k "added" s_added ["first", "second"] (sp_added C)) : Def P w K mg base (k + 1) "minus" s_minus ["poly", "other"] (sp_minus C) := by
  refine def_of B sc_minus (by rintro _ _ _ _ ⟨x, y, xs, ys, n, m, rfl, _⟩; rfl) (fun _ _ _ _ _ _ us hl => match us, hl with | [_, _], _ => rfl) fun f cdv A outer s H vs Q E hr h => ?_
  obtain ⟨x, y, xs, ys, n, m, rfl, hx, hy, lx, ly, bx, by_, nm, q⟩ := h
  have hu := hr.units
  refine ⟨_, pss_one (ps_ret (pe_d D_added hr (by rfl) (pa_cons (pe_d D_told hr (by rfl) (pa_cons (pv 0) pa_nil)) (pa_cons (pe_lc (own := [("number", 2)]) (g := (gName 2)) (tt := tYes) (te := (tUn (rOwn1 C (spNegQ C)) (tVar 2))) rfl sc_minus.nd (pi_list (pe_d D_told hr (by rfl) (pa_cons (pv 1) pa_nil))) (blkOk_by (own := [("number", 2)]) (N := N_minus) (sc := defScope s_minus) (by decide +kernel)) (fun _ _ _ _ _ => pg_name (i := 2) sc_minus.nd rfl (.inl rfl)) (fun _ _ _ _ _ => pts_nil) (fun _ _ _ _ _ => pe_un (un_ownX NE (hr.mono (by omega))) (pv 2))) pa_nil)))), ?_⟩
  refine ⟨_, rfl, x, 1, rfl, hx.1, hx.2.1, fun a1 H1 u1 s1 n1 h1 r1 => ?_⟩
  rw [hx.2.2] at r1
  have hy1 := hy.same s1
  refine ⟨_, rfl, y, 1, rfl, hy1.1, hy1.2.1, fun a2 H2 u2 s2 n2 h2 r2 => ?_⟩
  rw [hy1.2.2] at r2
  have lu2 := QL.len r2
  refine ⟨a2, rfl, ⟨u2, SqL.of h2⟩, fun D nD => ?_⟩
  refine lc_rel (walk_list (K := K) (a := a2) (xs := u2)) (fun i acc Hh => QL C Hh acc ((ys.map fun y => -y).take i)) nD (by rw [sizeLine_eq]; omega) (fun Hh sh => SqL.of (sh _ _ h2)) QL.nil (fun i acc A B s r => RatL.same r s) (fun i v acc Ha Hb hi sa hA hr hv Yc Nc yc nc => ?_) (fun acc H3 s3 hD hr => ?_)
  · obtain ⟨rfl, hv⟩ := hv
    obtain ⟨z, a, hz, rfl, rz⟩ := QL.at r2 hv
    have rz1 := rz.same sa
    obtain ⟨dz, rz2⟩ := id rz1
    refine ⟨rfl, _, rfl, a, dz, _, rfl, rz2, a, z, m, rfl, rz1, by_ z (List.mem_of_getElem? hz), by omega, fun r H4 s4 rr => yc _ H4 s4 ?_⟩
    rw [takeS (show (ys.map fun y => -y)[i]? = some (-z) by rw [List.getElem?_map, hz]; rfl)]
    exact QL.snoc (RatL.same hr (wo_mono s4)) (Rat2.wo rr (s4 _ _ hA))
  · rw [lu2, List.take_of_length_le (by rw [List.length_map]; exact Nat.le_refl _)] at hr
    have hZ := RatL.same hr (wo_le (D := D))
    have s23 := s2.trans s3
    refine ⟨a1, D, u1, acc, xs, ys.map fun y => -y, n, m, rfl, s23 _ _ h1, hD, RatL.same r1 s23, hZ, by omega, by rw [List.length_map]; omega, bx, fun z hz => ?_, nm, fun v H4 s4 ⟨a, us, e, na, ha, hq⟩ => q v H4 ((s1.trans s23).trans s4) ⟨a, us, e, (s1.trans s23).free na, ha, hq⟩⟩
    obtain ⟨y', hy', rfl⟩ := List.mem_map.mp hz
    exact (by_ y' hy').neg
-- slots: poly 0, number 1, first 2, by 3, one 4; cells: by
abbrev s_scaled : Stmt := top 26
abbrev N_scaled : List Str := ["poly", "number", "first", "by", "one"]
theorem sc_scaled : FnScope N_scaled ["poly", "number"] (defScope s_scaled) := ⟨rfl, rfl, rfl, by decide +kernel, rfl, by decide +kernel, by decide +kernel⟩
theorem d_scaled (B : Bnd K mg "scaled" s_scaled) (M : Mg2 mg) (R : RCls K mg C fI fR) {kr : Nat} (MU : BinX P w K mg base kr C .Mult (spMulQ C)) (hk : kr + 8 ≤ k) (D_as_ratio : Def P w K mg base k "as_ratio" s_as_ratio ["number"] (spAs C)) (D_told : Def P w K mg base k "told" s_told ["poly"] (sp_told C)) (D_trimmed : Def P w K mg base k "trimmed" s_trimmed ["numbers"] (sp_trimmed C)) : Def P w K mg base (k + 1) "scaled" s_scaled ["poly", "number"] (sp_scaled C) := by
  refine def_of B sc_scaled (by rintro _ _ _ _ ⟨x, y, xs, c, n, m, rfl, _⟩; rfl) (fun _ _ _ _ _ _ us hl => match us, hl with | [_, _], _ => rfl) fun f cdv A outer s H vs Q E hr h => ?_
  obtain ⟨x, y, xs, c, n, m, rfl, hx, hy, lx, bx, by_, nm, q⟩ := h
  have hu := hr.units
  refine ⟨_, pss_cons (ps_set (i := 2) sc_scaled.nd rfl (.inl rfl) (pe_d D_told hr (by rfl) (pa_cons (pv 0) pa_nil)))
    (pss_cons (ps_set (i := 3) sc_scaled.nd rfl (.inr rfl) (pe_d D_as_ratio hr (by rfl) (pa_cons (pv 1) pa_nil)))
    (pss_one (ps_ret (pe_d D_trimmed hr (by rfl) (pa_cons (pe_lc (own := [("one", 4)]) (g := (gName 4)) (tt := tYes) (te := (tOp (rOwn C (spMulQ C)) (tVar 4) (tVar 3))) rfl sc_scaled.nd (pi_list (pv 2)) (blkOk_by (own := [("one", 4)]) (N := N_scaled) (sc := defScope s_scaled) (by decide +kernel)) (fun _ _ _ _ _ => pg_name (i := 4) sc_scaled.nd rfl (.inl rfl)) (fun _ _ _ _ _ => pts_nil) (fun _ _ _ _ _ => pe_op (op_ownX MU (hr.mono (by omega))) (pv 4) (pv 3))) pa_nil))))), ?_⟩
  refine ⟨_, rfl, x, 1, rfl, hx.1, hx.2.1, fun a1 H1 u1 s1 n1 h1 r1 => ?_⟩
  rw [hx.2.2] at r1
  have lu := QL.len r1
  refine ⟨_, rfl, y, _, _, rfl, hy.same s1, fun b H2 s2 rb => ?_⟩
  have rb : RQ C H2 b c := rb
  refine ⟨_, rfl, a1, rfl, ⟨u1, SqL.of (s2 _ _ h1)⟩, fun D nD => ?_⟩
  refine lc_rel (walk_list (K := K) (a := a1) (xs := u1)) (fun i acc Hh => QL C Hh acc ((xs.map fun x => x * c).take i)) nD (by rw [sizeLine_eq]; omega) (fun Hh sh => SqL.of (sh _ _ (s2 _ _ h1))) QL.nil (fun i acc A B s r => RatL.same r s) (fun i v acc Ha Hb hi sa hA hr hv Yc Nc yc nc => ?_) (fun acc H3 s3 hD hr => ?_)
  · obtain ⟨rfl, hv⟩ := hv
    obtain ⟨z, a, hz, rfl, rz⟩ := QL.at r1 hv
    have rz1 := rz.same (s2.trans sa)
    obtain ⟨dz, rz2⟩ := id rz1
    have rb1 := rb.same sa
    refine ⟨rfl, _, rfl, _, rfl, a, dz, _, rfl, rz2, rb1.nq.own, a, _, z, c, n, m, rfl, rz1, rb1.nq, bx z (List.mem_of_getElem? hz), by_, by omega, fun r H4 s4 rr => ⟨⟨r, rfl⟩, yc _ H4 s4 ?_⟩⟩
    rw [takeS (show (xs.map fun x => x * c)[i]? = some (z * c) by rw [List.getElem?_map, hz]; rfl)]
    exact QL.snoc (RatL.same hr (wo_mono s4)) (Rat2.wo rr (s4 _ _ hA))
  · rw [lu, List.take_of_length_le (by rw [List.length_map]; exact Nat.le_refl _)] at hr
    have hZ := RatL.same hr (wo_le (D := D))
    refine ⟨D, acc, _, rfl, hD, hZ, by have := QL.len hZ; rw [List.length_map] at this; omega, fun a H4 w4 s4 na h4 R4 => ?_⟩
    rw [trimP_nd] at R4
    exact q _ H4 (((s1.trans s2).trans s3).trans s4) ⟨a, w4, rfl, ((s1.trans s2).trans s3).free na, h4, R4⟩
-- slots: poly 0, other 1, first 2, second 3; cells: 
abbrev s_times : Stmt := top 27
abbrev N_times : List Str := ["poly", "other", "first", "second"]
theorem sc_times : FnScope N_times ["poly", "other"] (defScope s_times) := ⟨rfl, rfl, rfl, by decide +kernel, rfl, by decide +kernel, by decide +kernel⟩
theorem d_times (B : Bnd K mg "times" s_times) (M : Mg2 mg) (R : RCls K mg C fI fR)  (D_told : Def P w K mg base k "told" s_told ["poly"] (sp_told C)) (D_multiplied : Def P w K mg base k "multiplied" s_multiplied ["first", "second"] (sp_multiplied C)) : Def P w K mg base (k + 1) "times" s_times ["poly", "other"] (sp_times C) := by
  refine def_of B sc_times (by rintro _ _ _ _ ⟨x, y, xs, ys, n, m, B1, B2, rfl, _⟩; rfl) (fun _ _ _ _ _ _ us hl => match us, hl with | [_, _], _ => rfl) fun f cdv A outer s H vs Q E hr h => ?_
  obtain ⟨x, y, xs, ys, n, m, B1, B2, rfl, hx, hy, lxy, bx, by_, n4, m4, b10, b1m, b20, b2m, d1, d2, q⟩ := h
  have hu := hr.units
  obtain ⟨t_MOST_DEGREE, m_MOST_DEGREE⟩ := M.MOST_DEGREE
  refine ⟨_, pss_cons (ps_set (i := 2) sc_times.nd rfl (.inl rfl) (pe_d D_told hr (by rfl) (pa_cons (pv 0) pa_nil)))
    (pss_cons (ps_set (i := 3) sc_times.nd rfl (.inl rfl) (pe_d D_told hr (by rfl) (pa_cons (pv 1) pa_nil)))
    (pss_cons (ps_if (PW.pt (pw_and (pt_truth (pv 2) (by intro _; rfl)) (pw_and (pt_truth (pv 3) (by intro _; rfl)) (pw_and1 (pt_cmpR op_gt (pe_op op_sub (pe_op op_add (pe_callB call_len_seq (by rfl) M.len boot_len (pa_cons (pv 2) pa_nil)) (pe_callB call_len_seq (by rfl) M.len boot_len (pa_cons (pv 3) pa_nil))) pe_int) (pe_glob (v := .int 48) (by rfl) m_MOST_DEGREE ⟨_, rfl⟩) (nomark _)))))) pss_never pss_nil)
    (pss_one (ps_ret (pe_d D_multiplied hr (by rfl) (pa_cons (pv 2) (pa_cons (pv 3) pa_nil))))))), ?_⟩
  refine ⟨_, rfl, x, 1, rfl, hx.1, hx.2.1, fun a1 H1 u1 s1 n1 h1 r1 => ?_⟩
  rw [hx.2.2] at r1
  have hy1 := hy.same s1
  refine ⟨_, rfl, y, 1, rfl, hy1.1, hy1.2.1, fun a2 H2 u2 s2 n2 h2 r2 => ?_⟩
  rw [hy1.2.2] at r2
  have l1 := QL.len r1
  have l2 := QL.len r2
  have fin : (tRet (tD (sp_multiplied C) (tCons (tVar 2) (tCons (tVar 3) tNil)))) { nx := fun _ H1 => Q .non H1, rt := Q } [some x, some y, some (.ref a1), some (.ref a2)] H2 :=
    ⟨_, rfl, _, rfl, a1, a2, u1, u2, xs, ys, n, m, B1, B2, rfl, s2 _ _ h1, h2, RatL.same r1 s2, r2, by omega, by omega, bx, by_, n4, m4, b10, b1m, b20, b2m, d1, d2, fun v H3 zs s3 ⟨a, us, e, na, ha, hq⟩ co ln => q v H3 zs ((s1.trans s2).trans s3) ⟨a, us, e, (s1.trans s2).free na, ha, hq⟩ co ln⟩
  refine ⟨_, rfl, !u1.isEmpty, .inl ⟨u1, SqL.of (s2 _ _ h1), rfl⟩, ?_⟩
  cases u1.isEmpty with
  | true => exact iteF (iteF fin)
  | false =>
    refine iteT ⟨_, rfl, !u2.isEmpty, .inl ⟨u2, SqL.of h2, rfl⟩, ?_⟩
    cases u2.isEmpty with
    | true => exact iteF (iteF fin)
    | false => exact iteT ⟨_, rfl, a1, u1, rfl, .inl (SqL.of (s2 _ _ h1)), _, rfl, a2, u2, rfl, .inl (SqL.of h2), _, _, rfl, rfl, _, _, rfl, rfl, _, _, rfl, rfl, _, rfl, iteF2 (decide_eq_false (by omega)) fin⟩
-- slots: poly 0, number 1, first 2, at 3, found 4, one 5; cells: 
abbrev s_worth : Stmt := top 28
abbrev N_worth : List Str := ["poly", "number", "first", "at", "found", "one"]
theorem sc_worth : FnScope N_worth ["poly", "number"] (defScope s_worth) := ⟨rfl, rfl, rfl, by decide +kernel, rfl, by decide +kernel, by decide +kernel⟩
theorem d_worth (B : Bnd K mg "worth" s_worth) (M : Mg2 mg) (R : RCls K mg C fI fR) {kr : Nat} (RD : RDef P w K mg base kr C) (AD : BinX P w K mg base kr C .Add (spAddQ C)) (MU : BinX P w K mg base kr C .Mult (spMulQ C)) (hk : kr + 8 ≤ k) (D_as_ratio : Def P w K mg base k "as_ratio" s_as_ratio ["number"] (spAs C)) (D_told : Def P w K mg base k "told" s_told ["poly"] (sp_told C)) : Def P w K mg base (k + 1) "worth" s_worth ["poly", "number"] (sp_worth C) := by
  refine def_of B sc_worth (by rintro _ _ _ _ ⟨x, y, xs, z, n, m, rfl, _⟩; rfl) (fun _ _ _ _ _ _ us hl => match us, hl with | [_, _], _ => rfl) fun f cdv A outer s H vs Q E hr h => ?_
  obtain ⟨x, y, xs, z, n, m, rfl, hx, hy, lx, bx, by_, nm, q⟩ := h
  have hu := hr.units
  refine ⟨_, pss_cons (ps_set (i := 2) sc_worth.nd rfl (.inl rfl) (pe_d D_told hr (by rfl) (pa_cons (pv 0) pa_nil)))
    (pss_cons (ps_set (i := 3) sc_worth.nd rfl (.inl rfl) (pe_d D_as_ratio hr (by rfl) (pa_cons (pv 1) pa_nil)))
    (pss_cons (ps_set (i := 4) sc_worth.nd rfl (.inl rfl) (pe_rat RD (hr.mono (by omega)) (by rfl) (pa_cons pe_int pa_nil)))
    (pss_cons (ps_for PassesOwn.never rfl (pi_list (pe_revL (pv 2))) (pg_name (i := 5) sc_worth.nd rfl (.inl rfl))
      (pss_one (ps_set (i := 4) sc_worth.nd rfl (.inl rfl) (pe_op (op_ownX AD (hr.mono (by omega))) (pe_op (op_ownX MU (hr.mono (by omega))) (pv 4) (pv 3)) (pv 5)))))
    (pss_one (ps_ret (pv 4)))))), ?_⟩
  refine ⟨_, rfl, x, 1, rfl, hx.1, hx.2.1, fun a1 H1 u1 s1 n1 h1 r1 => ?_⟩
  rw [hx.2.2] at r1
  have lu := QL.len r1
  refine ⟨_, rfl, y, _, _, rfl, hy.same s1, fun b H2 s2 rb => ?_⟩
  have rb : RQ C H2 b z := rb
  refine ⟨0, rfl, fun f0 H3 nf s3 rf => ?_⟩
  have rf : RQ C H3 f0 0 := rf
  refine ⟨_, rfl, a1, u1, rfl, SqL.of (s3 _ _ (s2 _ _ h1)), fun c nc => ?_⟩
  have sc := same_new (o := .lst u1.reverse) nc
  have hc : (upd H3 c (.lst u1.reverse)) c = some (.lst u1.reverse) := upd_same
  have rb4 := (rb.same s3).same sc
  have rf4 := rf.same sc
  have r4 := QL.rev (RatL.same r1 ((s2.trans s3).trans sc))
  generalize upd H3 c (.lst u1.reverse) = H4 at *
  refine ⟨c, rfl, ⟨_, SqL.of hc⟩, ?_⟩
  refine for_list (xs := u1.reverse) (fun i σ G => ∃ (f : Addr) (o5 : Option V), σ = [some x, some y, some (.ref a1), some (.ref b), some (.ref f), o5] ∧ Same H4 G ∧ RQ C G f (hv (xs.drop (xs.length - i)) z) ∧ Bits ((i + 1) * (n + m + 2)) (hv (xs.drop (xs.length - i)) z))
    ⟨f0, none, rfl, Same.refl _, ?_, ?_⟩ (fun i σ G _ ⟨_, _, _, sm, _⟩ => SqL.of (sm _ _ hc)) (fun i v σ G hv ⟨f, o5, e, sm, rf5, bf⟩ => ?_) (fun σ G ⟨f, o5, e, sm, rf5, bf⟩ => ?_)
  · rw [Nat.sub_zero, List.drop_length]; exact rf4
  · rw [Nat.sub_zero, List.drop_length]; exact ⟨Nat.two_pow_pos _, Nat.one_lt_two_pow (by omega)⟩
  · subst e
    obtain ⟨x5, a5, hx5, rfl, rx5⟩ := QL.at r4 hv
    have li := (List.getElem?_eq_some_iff.mp hv).1
    rw [List.length_reverse] at li
    rw [List.getElem?_reverse (by omega)] at hx5
    have ed := hv_drop hx5 z
    rw [show xs.length - 1 - i + 1 = xs.length - i by omega] at ed
    have bx5 := bx x5 (List.mem_of_getElem? hx5)
    have rb5 := rb4.same sm
    have rx5 := rx5.same sm
    obtain ⟨df, rf6⟩ := id rf5
    have sz : (i + 1) * (n + m + 2) + (n + m + 2) ≤ (xs.length + 2) * (n + m + 2) := by
      rw [← Nat.succ_mul]; exact Nat.mul_le_mul_right _ (by omega)
    refine ⟨_, rfl, _, rfl, f, df, _, rfl, rf6, rb5.nq.own, f, _, _, z, _, m, rfl, rf5, rb5.nq, bf, by_, by omega, fun g G2 s2' rg => ⟨⟨g, rfl⟩, ?_⟩⟩
    obtain ⟨dg, rg2⟩ := id rg
    have rx6 := rx5.same s2'
    refine ⟨_, rfl, g, dg, _, rfl, rg2, rx6.nq.own, g, _, _, x5, _, n, rfl, rg, rx6.nq, bf.mul by_, bx5, by omega, fun h G3 s3' rh => ⟨⟨h, rfl⟩, ?_⟩⟩
    refine ⟨h, _, rfl, (sm.trans s2').trans s3', ?_, ?_⟩
    · rw [show xs.length - (i + 1) = xs.length - 1 - i by omega, ed]; exact rh
    · rw [show xs.length - (i + 1) = xs.length - 1 - i by omega, ed]
      refine ((bf.mul by_).add bx5).mono ?_
      rw [show (i + 1 + 1) * (n + m + 2) = (i + 1) * (n + m + 2) + (n + m + 2) from Nat.succ_mul _ _]; omega
  · subst e
    rw [List.length_reverse, lu, Nat.sub_self, List.drop_zero] at rf5 bf
    refine ⟨_, rfl, q f G ((((s1.trans s2).trans s3).trans sc).trans sm) rf5 (bf.mono ?_)⟩
    refine Nat.le_trans (Nat.mul_le_mul_right _ (by omega)) nm
-- slots: poly 0, power 1, number 2; cells: 
abbrev s_derived : Stmt := top 29
abbrev N_derived : List Str := ["poly", "power", "number"]
theorem sc_derived : FnScope N_derived ["poly"] (defScope s_derived) := ⟨rfl, rfl, rfl, by decide +kernel, rfl, by decide +kernel, by decide +kernel⟩
theorem d_derived (B : Bnd K mg "derived" s_derived) (M : Mg2 mg) (R : RCls K mg C fI fR) {kr : Nat} (MU : BinX P w K mg base kr C .Mult (spMulQ C)) (hk : kr + 8 ≤ k) (D_told : Def P w K mg base k "told" s_told ["poly"] (sp_told C)) : Def P w K mg base (k + 1) "derived" s_derived ["poly"] (sp_derived C) := by
  refine def_of B sc_derived (by rintro _ _ _ _ ⟨x, xs, n, rfl, _⟩; rfl) (fun _ _ _ _ _ _ us hl => match us, hl with | [_], _ => rfl) fun f cdv A outer s H vs Q E hr h => ?_
  obtain ⟨x, xs, n, rfl, hx, lx, bx, n4, q⟩ := h
  have hu := hr.units
  refine ⟨_, pss_one (ps_ret (pe_slice (r := rSlL K) sl_list (pe_lc (own := [("power", 1), ("number", 2)]) (g := (gTup K 2 (gCons (gName 1) (gCons (gName 2) gNil)))) (tt := tYes) (te := (tOp (rOwn C (spMulQ C)) (tVar 2) (tVar 1))) rfl sc_derived.nd (pi_enum (by rfl) M.enum (pa_cons (pe_d D_told hr (by rfl) (pa_cons (pv 0) pa_nil)) pa_nil)) (blkOk_by (own := [("power", 1), ("number", 2)]) (N := N_derived) (sc := defScope s_derived) (by decide +kernel)) (fun _ _ _ _ _ => pg_tup rfl (pgs_cons (pg_name (i := 1) sc_derived.nd rfl (.inl rfl)) (pgs_cons (pg_name (i := 2) sc_derived.nd rfl (.inl rfl)) pgs_nil))) (fun _ _ _ _ _ => pts_nil) (fun _ _ _ _ _ => pe_op (op_ownX MU (hr.mono (by omega))) (pv 2) (pv 1))) (po_some pe_int) po_none)), ?_⟩
  refine ⟨_, rfl, x, 1, rfl, hx.1, hx.2.1, fun a1 H1 u1 s1 n1 h1 r1 => ?_⟩
  rw [hx.2.2] at r1
  have lu := QL.len r1
  refine ⟨a1, u1, rfl, SqL.of h1, fun D nD => ?_⟩
  refine lc_rel (walk_enum (K := K) (a := a1) (xs := u1)) (fun i acc Hh => QL C Hh acc (((List.range xs.length).map fun n => co xs n * ((n : Int) : Rat)).take i)) nD (by rw [sizeLine_eq]; omega) (fun Hh sh => SqL.of (sh _ _ h1)) QL.nil (fun i acc A B s r => RatL.same r s) (fun i v acc Ha Hb hi sa hA hr hy Yc Nc yc nc => ?_) (fun acc H3 s3 hD hr => ?_)
  · obtain ⟨T, v1, v2, rfl, nT, rfl, hx1, hx2⟩ := hy
    obtain ⟨z, a, hz, rfl, rz⟩ := QL.at r1 hx2
    obtain rfl := Option.some.inj hx1
    have sT := same_new (o := .tup [V.int (i : Nat), V.ref a]) nT
    have rz1 := rz.same (sa.trans sT)
    obtain ⟨dz, rz2⟩ := id rz1
    have il := (List.getElem?_eq_some_iff.mp hz).1
    have bi : Bits 10 (((i : Nat) : Int) : Rat) := ⟨show ((i : Nat) : Int).natAbs < 2 ^ 10 by omega, by show (1 : Int).natAbs < 2 ^ 10; decide⟩
    refine ⟨T, _, rfl, SqT.of upd_same, rfl, _, _, rfl, _, _, rfl, rfl, rfl, _, rfl, _, rfl, a, dz, _, rfl, rz2, .inl ⟨_, rfl⟩, a, _, z, (((i : Nat) : Int) : Rat), n, 10, rfl, rz1, NumQ.int, bx z (List.mem_of_getElem? hz), bi, by omega, fun r H4 s4 rr => ⟨⟨r, rfl⟩, yc _ H4 (sT.trans s4) ?_⟩⟩
    rw [takeS (show ((List.range xs.length).map fun n => co xs n * ((n : Int) : Rat))[i]? = some (z * (((i : Nat) : Int) : Rat)) by rw [List.getElem?_map, List.getElem?_range il]; show some (co xs i * _) = _; rw [co_at hz])]
    exact QL.snoc (RatL.same hr (wo_mono (sT.trans s4))) (Rat2.wo rr ((sT.trans s4) _ _ hA))
  · rw [lu, List.take_of_length_le (by simp)] at hr
    have hZ := RatL.same hr (wo_le (D := D))
    refine ⟨1, rfl, D, acc, rfl, SqL.of hD, fun c nc => ?_⟩
    have sc := same_new (o := .lst (cutV acc (some 1) none)) nc
    have ec : cutV acc (some 1) none = acc.drop 1 := cut_from 1
    refine q _ _ ((s1.trans s3).trans sc) ⟨c, _, rfl, (s1.trans s3).free nc, upd_same, ?_⟩
    rw [ec]
    exact QL.drop (RatL.same hZ (by rw [ec] at sc; exact sc)) 1
end
end K21

namespace Fp
/-- the sum's numbers, the second ones times a factor -/
def plusF (f b1 b2 : Int) (xs ys : List Int) : List Int := (List.range (max xs.length ys.length)).map fun n => xs.getD n 0 * b2 + f * ys.getD n 0 * b1
theorem plusF_getD (f b1 b2 : Int) (xs ys : List Int) (n : Nat) : (plusF f b1 b2 xs ys).getD n 0 = xs.getD n 0 * b2 + f * ys.getD n 0 * b1 := by
  unfold plusF
  rw [getD_range]
  split
  · rfl
  · rw [getD_out (zs := xs) (by omega), getD_out (zs := ys) (by omega), Int.mul_zero, Int.zero_mul, Int.zero_mul]; rfl
theorem plusF_co {f b1 b2 : Int} (h1 : b1 ≠ 0) (h2 : b2 ≠ 0) (xs ys : List Int) (n : Nat) : co (ratsOf (b1 * b2) (trimI (plusF f b1 b2 xs ys))) n = co (ratsOf b1 xs) n + (f : Rat) * co (ratsOf b2 ys) n := by
  have h3 : b1 * b2 ≠ 0 := fun z => by rcases Int.mul_eq_zero.mp z with e | e <;> omega
  rw [ratsOf_trim h3, trimQ_co, co_rats, co_rats, co_rats, plusF_getD]
  have c1 := cast_ne h1
  have c2 := cast_ne h2
  rw [Rat.intCast_add, Rat.intCast_mul, Rat.intCast_mul, Rat.intCast_mul, Rat.intCast_mul]
  generalize ((xs.getD n 0 : Int) : Rat) = u
  generalize ((ys.getD n 0 : Int) : Rat) = v
  generalize (b1 : Rat) = p at *
  generalize (b2 : Rat) = q at *
  rw [Rat.div_def, Rat.div_def, Rat.div_def, Rat.inv_mul_rev]
  have i1 := Rat.mul_inv_cancel p c1
  have i2 := Rat.mul_inv_cancel q c2
  grind
theorem plusF_BN {f b1 b2 : Int} {xs ys : List Int} {N1 N2 : Nat} (hf : f.natAbs ≤ 1) (h : BN N1 xs) (g : BN N2 ys) : BN (N1 * b2.natAbs + N2 * b1.natAbs) (plusF f b1 b2 xs ys) := fun z hz => by
  unfold plusF at hz
  obtain ⟨n, _, rfl⟩ := List.mem_map.mp hz
  refine Nat.le_trans (Int.natAbs_add_le _ _) ?_
  rw [Int.natAbs_mul, Int.natAbs_mul, Int.natAbs_mul]
  refine Nat.add_le_add (Nat.mul_le_mul_right _ (getD_abs h n)) (Nat.mul_le_mul_right _ ?_)
  have := Nat.mul_le_mul hf (getD_abs g n)
  omega
theorem plusF_len (f b1 b2 : Int) (xs ys : List Int) : (plusF f b1 b2 xs ys).length = max xs.length ys.length := by unfold plusF; rw [List.length_map, List.length_range]
/-- own worths, by whole numbers -/
theorem worth_step {fo lo p q one : Int} (l0 : lo ≠ 0) (q0 : q ≠ 0) {h : Rat} {b : Int} (b0 : b ≠ 0) (e : ((fo * q : Int) : Rat) / ((lo * b : Int) : Rat) = h) :
    (((fo * p + one * lo) * q : Int) : Rat) / (((lo * q) * b : Int) : Rat) = h * ((p : Rat) / (q : Rat)) + (one : Rat) / (b : Rat) := by
  have cl := cast_ne l0
  have cq := cast_ne q0
  have cb := cast_ne b0
  rw [← e]
  simp only [Rat.intCast_mul, Rat.intCast_add]
  generalize (fo : Rat) = F
  generalize (p : Rat) = P
  generalize (one : Rat) = O
  generalize (lo : Rat) = L at *
  generalize (q : Rat) = Qq at *
  generalize (b : Rat) = B at *
  rw [Rat.div_def, Rat.div_def, Rat.div_def, Rat.div_def, Rat.inv_mul_rev, Rat.inv_mul_rev, Rat.inv_mul_rev]
  have i1 := Rat.mul_inv_cancel L cl
  have i2 := Rat.mul_inv_cancel Qq cq
  have i3 := Rat.mul_inv_cancel B cb
  generalize L⁻¹ = L1 at *
  generalize Qq⁻¹ = Q1 at *
  generalize B⁻¹ = B1 at *
  grind
theorem ratsOf_drop (b : Int) (zs : List Int) (n : Nat) : (ratsOf b zs).drop n = ratsOf b (zs.drop n) := by unfold ratsOf; rw [List.map_drop]
theorem ratsOf_at {b : Int} {zs : List Int} {i : Nat} {z : Int} (h : zs[i]? = some z) : (ratsOf b zs)[i]? = some ((z : Rat) / (b : Rat)) := by unfold ratsOf; rw [List.getElem?_map, h]; rfl
/-- derived, by whole numbers -/
def derI (zs : List Int) : List Int := (List.range (zs.length - 1)).map fun n => zs.getD (1 + n) 0 * ((1 + n : Nat) : Int)
theorem derI_co {b : Int} (h : b ≠ 0) (zs : List Int) (n : Nat) : co (ratsOf b (trimI (derI zs))) n = co (derQ (ratsOf b zs)) n := by
  rw [ratsOf_trim h, trimQ_co, derQ_co, co_rats, co_rats]
  unfold derI
  rw [getD_range]
  by_cases l : n < zs.length - 1
  · rw [if_pos l, Nat.add_comm 1 n, Rat.intCast_mul, Rat.div_def, Rat.div_def]; grind
  · rw [if_neg l, getD_out (by omega), Rat.intCast_zero, Rat.div_def]; grind
theorem derI_BN {zs : List Int} {N : Nat} (h : BN N zs) : BN (N * zs.length) (derI zs) := fun z hz => by
  unfold derI at hz
  obtain ⟨n, hn, rfl⟩ := List.mem_map.mp hz
  rw [List.mem_range] at hn
  rw [Int.natAbs_mul]
  exact Nat.mul_le_mul (getD_abs h _) (by omega)
theorem neg_map_co (ys : List Rat) (n : Nat) : co (ys.map fun y => -y) n = - co ys n := by
  unfold co
  rw [List.getD_eq_getElem?_getD, List.getD_eq_getElem?_getD, List.getElem?_map]
  cases ys[n]? with
  | none => show (0 : Rat) = -0; grind
  | some x => rfl
end Fp
namespace Fp
theorem sumN_le {f : Nat → Rat} {n m : Nat} (l : n ≤ m) (h : ∀ i, n ≤ i → f i = 0) : sumN f m = sumN f n := by
  obtain ⟨k, rfl⟩ : ∃ k, m = n + k := ⟨m - n, by omega⟩
  exact sumN_more h
theorem prodc_range (xs : List Rat) (g : Nat → Rat) (n : Nat) : prodc xs g n = sumN (fun i => co xs i * g (n - i)) (n + 1) := by
  unfold prodc
  have h1 : sumN (fun i => co xs i * sh i g n) (max xs.length (n + 1)) = sumN (fun i => co xs i * sh i g n) xs.length := sumN_le (by omega) fun i hi => by rw [co_out hi]; grind
  have h2 : sumN (fun i => co xs i * sh i g n) (max xs.length (n + 1)) = sumN (fun i => co xs i * sh i g n) (n + 1) := sumN_le (by omega) fun i hi => by unfold sh; rw [if_pos (by omega)]; grind
  rw [← h1, h2]
  exact sumN_congr fun i hi => by unfold sh; rw [if_neg (by omega)]
theorem sumN_rev (f : Nat → Rat) : ∀ n, sumN f (n + 1) = sumN (fun i => f (n - i)) (n + 1)
  | 0 => rfl
  | n + 1 => by
    rw [sumN_shift (fun i => f (n + 1 - i)) (n + 1)]
    show sumN f (n + 1) + f (n + 1) = f (n + 1 - 0) + sumN (fun i => f (n + 1 - (i + 1))) (n + 1)
    have e : (fun i => f (n + 1 - (i + 1))) = fun i => f (n - i) := funext fun i => by congr 1; omega
    rw [e, ← sumN_rev f n, Nat.sub_zero]; grind
theorem prodc_comm (xs ys : List Rat) (n : Nat) : prodc xs (co ys) n = prodc ys (co xs) n := by
  rw [prodc_range, prodc_range, sumN_rev]
  exact sumN_congr fun i hi => by rw [show n - (n - i) = i by omega]; grind
theorem prodc_one (xs : List Rat) (c : Rat) (zs : List Rat) (h : ∀ i, co zs i = single 0 c i) (n : Nat) : prodc xs (co zs) n = co xs n * c := by
  rw [prodc_congr h, prodc_single, if_neg (by omega), Nat.sub_zero]; grind
theorem derQ_mem {xs : List Rat} {z : Rat} (h : z ∈ derQ xs) : ∃ n, n < xs.length ∧ z = co xs n * ((n : Int) : Rat) := by
  unfold derQ at h
  obtain ⟨n, hn, rfl⟩ := List.mem_map.mp (List.mem_of_mem_drop h)
  exact ⟨n, List.mem_range.mp hn, rfl⟩
theorem co_allB {xs : List Rat} {n i : Nat} (h : AllB n xs) (n0 : 0 < n) : Bits n (co xs i) := by
  by_cases l : i < xs.length
  · rw [co_at (List.getElem?_eq_getElem l)]; exact h _ (List.getElem_mem _)
  · rw [co_out (by omega)]; exact ⟨Nat.two_pow_pos _, Nat.one_lt_two_pow (by omega)⟩
theorem derQ_allB {xs : List Rat} {n : Nat} (h : AllB n xs) (n0 : 0 < n) (l : xs.length ≤ 49) : AllB (n + 6) (derQ xs) := fun z hz => by
  obtain ⟨i, hi, rfl⟩ := derQ_mem hz
  refine (co_allB h n0).mulA ⟨?_, ?_⟩
  · show ((i : Nat) : Int).natAbs < 2 ^ 6; omega
  · show (1 : Int).natAbs < 2 ^ 6; decide
theorem scQ_allB {xs : List Rat} {n m : Nat} {c : Rat} (h : AllB n xs) (g : Bits m c) : AllB (n + m) (scQ c xs) := fun z hz => by
  obtain ⟨x, hx, rfl⟩ := List.mem_map.mp (trimQ_mem hz)
  exact (h x hx).mulA g
theorem scQ_len (c : Rat) (xs : List Rat) : (scQ c xs).length ≤ xs.length := by
  have := trimQ_len (xs.map fun x => x * c)
  rw [List.length_map] at this
  exact this
theorem derQ_len (xs : List Rat) : (derQ xs).length ≤ xs.length := by unfold derQ; simp
end Fp

namespace K21
open PySem PySem.Spec PyProof.Rows L2 Fp
section
variable {P : Program} {w : World} {K : PySem.W.Frag} {mg : Str → Option Value} {base : Heap} {k : Nat} {C fI fR : Addr}
/-! ### the law's own polynomials -/
/-- a great bound -/
def BG : Nat := 2 ^ 400500
theorem BG_lt : BG < 2 ^ 401000 := Nat.pow_lt_pow_right (by decide) (by decide)
def OwnF (H H' : Hp) (v : V) (b : Int) (zs : List Int) : Prop := ∃ t l, v = .ref t ∧ H t = none ∧ H l = none ∧ H' t = some (.tup [.int b, .ref l]) ∧ H' l = some (.lst (VI zs))
def OwnP (H : Hp) (v : V) (b : Int) (zs : List Int) : Prop := ∃ t l, v = .ref t ∧ H t = some (.tup [.int b, .ref l]) ∧ H l = some (.lst (VI zs))
def Sz (k : Nat) (N : Nat) (b : Int) : Prop := N < 2 ^ k ∧ LbI k b
def sp_law_trim (K : PySem.W.Frag) : Sp := fun vs H Q _ => ∃ (l : Addr) (zs : List Int), vs = [.ref l] ∧ H l = some (.lst (VI zs)) ∧ zs.length ≤ 1000 ∧ ∀ a H', Same H H' → H a = none → H' a = some (.lst (VI (trimI zs))) → Q (.ref a) H'
def sp_law_gcd : Sp := fun vs H Q _ => ∃ a b : Int, vs = [.int a, .int b] ∧ Ret H Q (.int (Int.gcd a b))
def sp_law_own (C : Addr) : Sp := fun vs H Q _ => ∃ (l : Addr) (us : List V) (xs : List Rat), vs = [.ref l] ∧ H l = some (.lst us) ∧ QL C H us xs ∧ AllB 8000 xs ∧ xs.length ≤ 49 ∧ ∀ v H' b zs, Same H H' → OwnF H H' v b zs → 0 < b → ratsOf b zs = xs → Sz 401000 BG b → BN BG zs → Q v H'
def sp_law_plus (K : PySem.W.Frag) : Sp := fun vs H Q _ => ∃ (v1 v2 : V) (b1 b2 : Int) (zs1 zs2 : List Int) (N1 N2 k1 k2 : Nat) (fa : Int), vs = [v1, v2, .int fa] ∧ fa.natAbs ≤ 1 ∧ OwnP H v1 b1 zs1 ∧ OwnP H v2 b2 zs2 ∧ 0 < b1 ∧ 0 < b2 ∧ BN N1 zs1 ∧ BN N2 zs2 ∧ Sz k1 N1 b1 ∧ Sz k2 N2 b2 ∧ k1 + k2 ≤ 999900 ∧ zs1.length ≤ 400 ∧ zs2.length ≤ 400 ∧
  ∀ v H' zs, Same H H' → OwnF H H' v (b1 * b2) zs → Told (ratsOf (b1 * b2) zs) → (∀ n, co (ratsOf (b1 * b2) zs) n = co (ratsOf b1 zs1) n + (fa : Rat) * co (ratsOf b2 zs2) n) → BN (N1 * b2.natAbs + N2 * b1.natAbs) zs → zs.length ≤ max zs1.length zs2.length → Q v H'
def sp_law_times (K : PySem.W.Frag) : Sp := fun vs H Q _ => ∃ (v1 v2 : V) (b1 b2 : Int) (zs1 zs2 : List Int) (N1 N2 k1 k2 : Nat), vs = [v1, v2] ∧ OwnP H v1 b1 zs1 ∧ OwnP H v2 b2 zs2 ∧ 0 < b1 ∧ 0 < b2 ∧ BN N1 zs1 ∧ BN N2 zs2 ∧ Sz k1 N1 b1 ∧ Sz k2 N2 b2 ∧ k1 + k2 ≤ 999900 ∧ zs1.length ≤ 400 ∧ zs2.length ≤ 400 ∧
  ∀ v H' zs, Same H H' → OwnF H H' v (b1 * b2) zs → Told (ratsOf (b1 * b2) zs) → (∀ n, co (ratsOf (b1 * b2) zs) n = prodc (ratsOf b1 zs1) (co (ratsOf b2 zs2)) n) → BN (zs1.length * (N1 * N2)) zs → zs.length ≤ zs1.length + zs2.length - 1 → Q v H'
def sp_law_same (K : PySem.W.Frag) : Sp := fun vs H Q _ => ∃ (v1 v2 : V) (b1 b2 : Int) (zs1 zs2 : List Int) (N1 N2 k1 k2 : Nat), vs = [v1, v2] ∧ OwnP H v1 b1 zs1 ∧ OwnP H v2 b2 zs2 ∧ 0 < b1 ∧ 0 < b2 ∧ BN N1 zs1 ∧ BN N2 zs2 ∧ Sz k1 N1 b1 ∧ Sz k2 N2 b2 ∧ k1 + k2 ≤ 999900 ∧ zs1.length ≤ 400 ∧ zs2.length ≤ 400 ∧ ratsOf b1 zs1 = ratsOf b2 zs2 ∧ Ret H Q (.bl true)
theorem vi_take (zs : List Int) (n : Nat) : (VI zs).take n = VI (zs.take n) := List.map_take.symm
theorem atI_vi {zs : List Int} {j : Nat} {z : Int} (hj : 0 < j) (l : j ≤ zs.length) (hz : zs[j - 1]? = some z) : atI (VI (zs.take j)) (-1) = some (.int z) := by
  rw [show j = (j - 1) + 1 by omega, takeS hz]
  unfold VI
  rw [List.map_append]
  exact atI_last _ _
-- slots: _law_numbers 0, _law_found 1, _law_turn 2; cells: 
abbrev s_law_trim : Stmt := top 37
abbrev N_law_trim : List Str := ["_law_numbers", "_law_found", "_law_turn"]
theorem sc_law_trim : FnScope N_law_trim ["_law_numbers"] (defScope s_law_trim) := ⟨rfl, rfl, rfl, by decide +kernel, rfl, by decide +kernel, by decide +kernel⟩
theorem d_law_trim (B : Bnd K mg "_law_trim" s_law_trim) (M : Mg2 mg)   : Def P w K mg base (k + 1) "_law_trim" s_law_trim ["_law_numbers"] (sp_law_trim K) := by
  refine def_of B sc_law_trim (by rintro _ _ _ _ ⟨l, zs, rfl, _⟩; rfl) (fun _ _ _ _ _ _ us hl => match us, hl with | [_], _ => rfl) fun f cdv A outer s H vs Q E hr h => ?_
  obtain ⟨l, zs, rfl, hl, l1, q⟩ := h
  have hu := hr.units
  refine ⟨_, pss_cons (ps_set (i := 1) sc_law_trim.nd rfl (.inl rfl) (pe_callTy call_list_of (by rfl) M.list (by decide +kernel) (pa_cons (pv 0) pa_nil)))
    (pss_cons (ps_for PassesOwn.never rfl (pi_range1 (by rfl) M.range (pa_cons (pe_callB call_len_seq (by rfl) M.len boot_len (pa_cons (pv 0) pa_nil)) pa_nil)) (pg_name (i := 2) sc_law_trim.nd rfl (.inl rfl))
      (pss_one (ps_set (i := 1) sc_law_trim.nd rfl (.inl rfl) (pe_ifExp (pt_cmpR op_eq (pe_ix (r := rIxL K) ix_list (pv 1) (pe_un un_neg pe_int) (fun _ _ => rfl)) pe_int (nomark _)) (pe_slice (r := rSlL K) sl_list (pv 1) po_none (po_some (pe_un un_neg pe_int))) (pv 1)))))
    (pss_one (ps_ret (pv 1)))), ?_⟩
  have lv := vi_len zs
  refine ⟨_, rfl, l, _, rfl, .inl (SqL.of hl), fun a0 n0 => ?_⟩
  have s0 := same_new (o := .lst (VI zs)) n0
  have ha0 : (upd H a0 (.lst (VI zs))) a0 = some (.lst (VI zs)) := upd_same
  generalize upd H a0 (.lst (VI zs)) = H0 at *
  refine ⟨_, rfl, l, _, rfl, .inl (SqL.of (s0 _ _ hl)), _, rfl, by omega, by omega, ?_⟩
  refine for_range (lo := 0) (n := (((VI zs).length : Nat) : Int).toNat) (fun i σ H' => ∃ (a : Addr) (j : Nat) (o : Option V), σ = [some (.ref l), some (.ref a), o] ∧ Same H H' ∧ H a = none ∧ H' a = some (.lst (VI (zs.take j))) ∧ j ≤ zs.length ∧ zs.length ≤ j + i ∧ trimI (zs.take j) = trimI zs ∧ (j + i = zs.length ∨ trimI (zs.take j) = zs.take j))
    ⟨a0, zs.length, none, rfl, s0, n0, by rw [List.take_length]; exact ha0, Nat.le_refl _, by omega, by rw [List.take_length], .inl (by omega)⟩ (fun i σ H' hi ⟨a, j, o, e, sm, na, ha, j1, j2, t1, t2⟩ => ?_) (fun σ H' ⟨a, j, o, e, sm, na, ha, j1, j2, t1, t2⟩ => ?_)
  · subst e
    have hi2 : i < zs.length := by omega
    have j0 : 0 < j := by omega
    have hz : zs[j - 1]? = some zs[j - 1] := List.getElem?_eq_getElem (by omega)
    have tk : zs.take j = zs.take (j - 1) ++ [zs[j - 1]] := by
      have := takeS hz
      rwa [show j - 1 + 1 = j by omega] at this
    refine ⟨_, rfl, 1, rfl, a, _, -1, _, rfl, rfl, SqL.of ha, atI_vi j0 j1 hz, rfl, _, rfl, ite2 (fun z => ?_) (fun z => ?_)⟩
    · have z0 : zs[j - 1] = 0 := by
        have := of_decide_eq_true z
        injection this
      have cl : cutV (VI (zs.take j)) none (some (-1)) = VI (zs.take (j - 1)) := by
        rw [tk]
        unfold VI
        rw [List.map_append]
        exact cut_last _ _
      refine ⟨_, rfl, 1, rfl, _, rfl, a, _, rfl, SqL.of ha, fun c nc => ?_⟩
      rw [cl]
      have sc := same_new (o := .lst (VI (zs.take (j - 1)))) nc
      refine ⟨c, j - 1, _, rfl, sm.trans sc, sm.free nc, upd_same, by omega, by omega, by rw [← t1, tk, trimI_zero z0], ?_⟩
      rcases t2 with t2 | t2
      · exact .inl (by omega)
      · rw [tk, trimI_zero z0] at t2
        have := congrArg List.length t2
        have l2 := trimI_len (zs.take (j - 1))
        rw [List.length_append, List.length_singleton] at this
        omega
    · have z0 : zs[j - 1] ≠ 0 := fun e => z (decide_eq_true (by rw [e]))
      exact ⟨_, rfl, a, j, _, rfl, sm, na, ha, j1, by omega, t1, .inr (by rw [tk]; exact trimI_nz z0)⟩
  · subst e
    refine ⟨_, rfl, q a H' sm na ?_⟩
    rcases t2 with t2 | t2
    · have : j = 0 := by omega
      subst this
      rw [← t1, ha]; rfl
    · rw [← t1, t2, ha]
theorem gcd_step {x y : Int} (hx : 0 ≤ x) (hy : 0 < y) : Int.gcd y (x % y) = Int.gcd x y := by
  obtain ⟨n, rfl⟩ := Int.eq_ofNat_of_zero_le hx
  obtain ⟨m, rfl⟩ := Int.eq_ofNat_of_zero_le (Int.le_of_lt hy)
  show Nat.gcd m (n % m) = Nat.gcd n m
  rw [Nat.gcd_comm m, ← Nat.gcd_rec, Nat.gcd_comm]
-- slots: _law_one 0, _law_other 1; cells: 
abbrev s_law_gcd : Stmt := top 38
abbrev N_law_gcd : List Str := ["_law_one", "_law_other"]
theorem sc_law_gcd : FnScope N_law_gcd ["_law_one", "_law_other"] (defScope s_law_gcd) := ⟨rfl, rfl, rfl, by decide +kernel, rfl, by decide +kernel, by decide +kernel⟩
theorem d_law_gcd (B : Bnd K mg "_law_gcd" s_law_gcd) (M : Mg2 mg)   : Def P w K mg base (k + 1) "_law_gcd" s_law_gcd ["_law_one", "_law_other"] sp_law_gcd := by
  refine def_of B sc_law_gcd (by rintro _ _ _ _ ⟨a, b, rfl, _⟩; rfl) (fun _ _ _ _ _ _ us hl => match us, hl with | [_, _], _ => rfl) fun f cdv A outer s H vs Q E hr h => ?_
  obtain ⟨a, b, rfl, q⟩ := h
  have hu := hr.units
  refine ⟨_, pss_cons (ps_par (i := 0) (j := 1) rfl sc_law_gcd.nd rfl rfl (by decide) rfl rfl (pa_cons (pe_callB call_abs (by rfl) M.abs (by decide +kernel) (pa_cons (pv 0) pa_nil)) (pa_cons (pe_callB call_abs (by rfl) M.abs (by decide +kernel) (pa_cons (pv 1) pa_nil)) pa_nil)) (by rfl))
    (pss_cons (ps_while PassesOwn.never (pt_cmpR op_gt (pv 1) pe_int (nomark _))
      (pss_one (ps_par (i := 0) (j := 1) rfl sc_law_gcd.nd rfl rfl (by decide) rfl rfl (pa_cons (pv 1) (pa_cons (pe_op op_mod (pe_callTy call_int1 (by rfl) M.int (by decide +kernel) (pa_cons (pv 0) pa_nil)) (pv 1)) pa_nil)) (by rfl))))
    (pss_one (ps_ret (pv 0)))), ?_⟩
  refine ⟨_, rfl, _, rfl, _, rfl, _, rfl, _, _, rfl, ?_⟩
  refine ⟨fun mm σ G => ∃ x y : Int, σ = [some (.int x), some (.int y)] ∧ mm = y.toNat ∧ G = H ∧ 0 ≤ x ∧ 0 ≤ y ∧ Int.gcd x y = Int.gcd a b, ⟨_, _, _, rfl, rfl, rfl, ?_, ?_, ?_⟩, ?_⟩
  · split <;> omega
  · split <;> omega
  · have e1 : (if a < 0 then -a else a) = (a.natAbs : Int) := by split <;> omega
    have e2 : (if b < 0 then -b else b) = (b.natAbs : Int) := by split <;> omega
    rw [e1, e2]; rfl
  rintro mm σ G ⟨x, y, rfl, rfl, rfl, x0, y0, e⟩
  refine ⟨_, rfl, y, 0, rfl, rfl, _, rfl, ite2 (fun z => ?_) (fun z => ?_)⟩
  · have y1 : 0 < y := of_decide_eq_true z
    refine ⟨fun σ' G' => ∃ x' y' : Int, σ' = [some (.int x'), some (.int y')] ∧ y'.toNat < y.toNat ∧ G' = G ∧ 0 ≤ x' ∧ 0 ≤ y' ∧ Int.gcd x' y' = Int.gcd a b, fun σ' G' ⟨x', y', h1, h2, h3, h4, h5, h6⟩ => ⟨y'.toNat, h2, x', y', h1, rfl, h3, h4, h5, h6⟩, ?_⟩
    have r0 := Int.emod_nonneg x (show y ≠ 0 by omega)
    have r1 := Int.emod_lt_of_pos x y1
    exact ⟨_, rfl, _, rfl, .inl ⟨x, rfl, _, rfl, x, y, rfl, rfl, y1, _, _, rfl, y, x % y, rfl, by omega, rfl, by omega, r0, by rw [gcd_step x0 y1, e]⟩⟩
  · have y1 : y = 0 := by
      by_cases h : 0 < y
      · exact absurd (decide_eq_true h) z
      · omega
    subst y1
    refine ⟨_, rfl, ?_⟩
    have ex : x = (Int.gcd a b : Int) := by
      rw [← e, Int.gcd_zero_right]; omega
    have := q G (Same.refl G)
    rw [← ex] at this
    exact this
theorem own_dvd {B d : Int} (hB : 0 < B) (hd : 0 < d) : d ∣ B.fdiv (Int.gcd B d) * d ∧ B ∣ B.fdiv (Int.gcd B d) * d ∧ 0 < B.fdiv (Int.gcd B d) ∧ B.fdiv (Int.gcd B d) ≤ B := by
  have g1 : (Int.gcd B d : Int) ∣ B := Int.gcd_dvd_left ..
  have g2 : (Int.gcd B d : Int) ∣ d := Int.gcd_dvd_right ..
  have g0 : (0 : Int) < Int.gcd B d := by
    have := Nat.gcd_pos_of_pos_right B.natAbs (show 0 < d.natAbs by omega)
    show (0 : Int) < ((Nat.gcd B.natAbs d.natAbs : Nat) : Int)
    omega
  rw [fdiv_exact g1]
  obtain ⟨c, hc⟩ := g1
  obtain ⟨e, he⟩ := g2
  generalize (Int.gcd B d : Int) = g at *
  have q : B / g = c := by
    rw [hc]; exact Int.mul_ediv_cancel_left _ (by omega)
  rw [q]
  have c0 : 0 < c := by
    rcases Int.lt_trichotomy c 0 with z | z | z
    · have := Int.mul_neg_of_pos_of_neg g0 z; omega
    · subst z; rw [Int.mul_zero] at hc; omega
    · exact z
  refine ⟨⟨c, Int.mul_comm ..⟩, ⟨e, by rw [he, hc, ← Int.mul_assoc, Int.mul_comm c g]⟩, c0, ?_⟩
  rw [hc]
  have := Int.mul_le_mul_of_nonneg_right (show 1 ≤ g by omega) (Int.le_of_lt c0)
  omega
theorem lbI_le {n : Nat} {a b : Int} (h : LbI n b) (h0 : 0 ≤ a) (l : a ≤ b) : LbI n a := h.of_le (by omega)
theorem own_z {B : Int} {x : Rat} (hB : 0 < B) (hd : (x.den : Int) ∣ B) (bx : Bits 8000 x) {m : Nat} (hm : LbI m B) : ((x.num * B.fdiv x.den : Int) : Rat) / (B : Rat) = x ∧ LbI (8000 + m) (x.num * B.fdiv x.den) ∧ LbI m (B.fdiv x.den) := by
  have d0 := den_pos x
  rw [fdiv_exact hd]
  obtain ⟨c, hc⟩ := hd
  have q : B / (x.den : Int) = c := by
    rw [hc]; exact Int.mul_ediv_cancel_left _ (by omega)
  rw [q]
  have c0 : 0 < c := by
    rcases Int.lt_trichotomy c 0 with z | z | z
    · have := Int.mul_neg_of_pos_of_neg d0 z; omega
    · subst z; rw [Int.mul_zero] at hc; omega
    · exact z
  have cB : c ≤ B := by
    rw [hc]
    have := Int.mul_le_mul_of_nonneg_right (show 1 ≤ (x.den : Int) by omega) (Int.le_of_lt c0)
    omega
  have lc : LbI m c := lbI_le hm (by omega) cB
  refine ⟨?_, bx.1.mul lc, lc⟩
  rw [hc, ← Rat.divInt_eq_div, Rat.divInt_mul_right (by omega)]
  exact divInt_self x
-- slots: _law_found 0, _law_bottom 1, _law_number 2; cells: _law_bottom
abbrev s_law_own : Stmt := top 39
abbrev N_law_own : List Str := ["_law_found", "_law_bottom", "_law_number"]
theorem sc_law_own : FnScope N_law_own ["_law_found"] (defScope s_law_own) := ⟨rfl, rfl, rfl, by decide +kernel, rfl, by decide +kernel, by decide +kernel⟩
theorem d_law_own (B : Bnd K mg "_law_own" s_law_own) (M : Mg2 mg) (R : RCls K mg C fI fR) {kr : Nat} (PT : PropX P w K mg base kr C "top" (spTopR C)) (PB : PropX P w K mg base kr C "bottom" (spBotR C)) (hk : kr + 8 ≤ k) (D_law_gcd : Def P w K mg base k "_law_gcd" s_law_gcd ["_law_one", "_law_other"] sp_law_gcd) : Def P w K mg base (k + 1) "_law_own" s_law_own ["_law_found"] (sp_law_own C) := by
  refine def_of B sc_law_own (by rintro _ _ _ _ ⟨l, us, xs, rfl, _⟩; rfl) (fun _ _ _ _ _ _ us hl => match us, hl with | [_], _ => rfl) fun f cdv A outer s H vs Q E hr h => ?_
  obtain ⟨l, us, xs, rfl, hl, hQ, bx, lx, q⟩ := h
  have hu := hr.units
  refine ⟨_, pss_cons (ps_set (i := 1) sc_law_own.nd rfl (.inr rfl) pe_int)
    (pss_cons (ps_for PassesOwn.never rfl (pi_list (pv 0)) (pg_name (i := 2) sc_law_own.nd rfl (.inl rfl))
      (pss_one (ps_set (i := 1) sc_law_own.nd rfl (.inr rfl) (pe_op op_mulW (pe_op op_fdivNW (pv 1) (pe_d D_law_gcd hr (by rfl) (pa_cons (pv 1) (pa_cons (pe_propX PB (hr.mono (by omega)) R.cl (pv 2) (by rfl)) pa_nil)))) (pe_propX PB (hr.mono (by omega)) R.cl (pv 2) (by rfl))))))
    (pss_one (ps_ret (pe_tup (pa_cons (pv 1) (pa_cons (pe_lc (own := [("_law_number", 2)]) (g := (gName 2)) (tt := tYes) (te := (tOp _ (tProp _ _ [] E0 (tVar 2)) (tOp _ (tVar 1) (tProp _ _ [] E0 (tVar 2))))) rfl sc_law_own.nd (pi_list (pv 0)) (blkOk_by (own := [("_law_number", 2)]) (N := N_law_own) (sc := defScope s_law_own) (by decide +kernel)) (fun _ _ _ _ _ => pg_name (i := 2) sc_law_own.nd rfl (.inl rfl)) (fun _ _ _ _ _ => pts_nil) (fun _ _ _ _ _ => pe_op op_mulW (pe_propX PT (hr.mono (by omega)) R.cl (pv 2) (by rfl)) (pe_op op_fdivNW (pv 1) (pe_propX PB (hr.mono (by omega)) R.cl (pv 2) (by rfl))))) pa_nil)))))), ?_⟩
  have lu := QL.len hQ
  refine ⟨_, rfl, l, rfl, ⟨us, SqL.of hl⟩, ?_⟩
  refine for_list (xs := us) (fun i σ H' => ∃ (B : Int) (o : Option V), σ = [some (.ref l), some (.int B), o] ∧ Same H H' ∧ 0 < B ∧ LbI (8000 * i + 1) B ∧ ∀ (j : Nat) (x : Rat), j < i → xs[j]? = some x → (x.den : Int) ∣ B)
    ⟨1, none, rfl, Same.refl _, by decide, by show (1 : Int).natAbs < 2 ^ 1; decide, fun j x h => absurd h (Nat.not_lt_zero _)⟩ (fun i σ H' _ ⟨B, o, _, sm, _⟩ => SqL.of (sm _ _ hl)) (fun i v σ H' hv ⟨B, o, e, sm, B0, Bb, Bd⟩ => ?_) (fun σ H' ⟨B, o, e, sm, B0, Bb, Bd⟩ => ?_)
  · subst e
    obtain ⟨x, a, hx, rfl, rx⟩ := QL.at hQ hv
    have bX := bx x (List.mem_of_getElem? hx)
    have r1 := rx.same sm
    obtain ⟨dx, r2⟩ := id r1
    have d0 := den_pos x
    obtain ⟨k1, k2, k3, k4⟩ := own_dvd B0 d0
    have g0 : (0 : Int) < Int.gcd B x.den := by
      have := Nat.gcd_pos_of_pos_right B.natAbs (show 0 < (x.den : Int).natAbs by omega)
      show (0 : Int) < ((Nat.gcd B.natAbs (x.den : Int).natAbs : Nat) : Int)
      omega
    have gl : LbI 8000 (Int.gcd B x.den) := bX.2.of_le (by
      have := Nat.gcd_le_right B.natAbs (show 0 < (x.den : Int).natAbs by omega)
      show (((Nat.gcd B.natAbs (x.den : Int).natAbs : Nat) : Int)).natAbs ≤ _
      omega)
    have hi : i < xs.length := (List.getElem?_eq_some_iff.mp hx).1
    have lB := lbI_le Bb (by omega) k4
    refine ⟨_, rfl, _, rfl, _, rfl, a, dx, _, rfl, r2, a, _, _, rfl, r1, B, x.den, rfl, fun H2 s2 => ⟨B, _, rfl, rfl, gl.div (by omega) (by omega), _, rfl, a, dx, _, rfl, s2 _ _ r2, a, _, _, rfl, r1.same s2, _, x.den, rfl, rfl, lB.cm bX.2 (by omega), ?_⟩⟩
    refine ⟨_, _, rfl, sm.trans s2, Int.mul_pos k3 d0, (lB.mul bX.2).mono (by omega), fun j y hj hy => ?_⟩
    by_cases e : j = i
    · subst e
      rw [hx] at hy
      obtain rfl := Option.some.inj hy
      exact k1
    · exact Int.dvd_trans (Bd j y (by omega) hy) k2
  · subst e
    have hdv : ∀ (j : Nat) (x : Rat), xs[j]? = some x → (x.den : Int) ∣ B := fun j x hx => Bd j x (by have := (List.getElem?_eq_some_iff.mp hx).1; omega) hx
    have Bm : LbI 392001 B := Bb.mono (by omega)
    refine ⟨_, rfl, _, rfl, l, rfl, ⟨us, SqL.of (sm _ _ hl)⟩, fun D nD => ?_⟩
    refine lc_l (fun i => (xs[i]?).map fun x : Rat => V.int (x.num * B.fdiv x.den)) (SqL.of (sm _ _ hl)) nD (by rw [sizeLine_eq]; omega) (fun i v H1 hv s1 Y N y nn => ?_) (fun H1 s1 hD => ?_)
    · obtain ⟨x, a, hx, rfl, rx⟩ := QL.at hQ hv
      have r1 := rx.same (sm.trans s1)
      obtain ⟨dx, r2⟩ := id r1
      have bX := bx x (List.mem_of_getElem? hx)
      obtain ⟨z1, z2, z3⟩ := own_z B0 (hdv i x hx) bX Bm
      refine ⟨rfl, _, rfl, a, dx, _, rfl, r2, a, _, _, rfl, r1, _, rfl, _, rfl, a, dx, _, rfl, r2, a, _, _, rfl, r1, B, x.den, rfl, rfl, bX.2.div (by omega) (by have := den_pos x; omega), x.num, _, rfl, rfl, bX.1.cm z3 (by omega), ?_⟩
      exact y _ _ (Same.refl _) (by show (xs[i]?).map _ = _; rw [hx]; rfl)
    · have e : (List.range us.length).filterMap (fun i => (xs[i]?).map fun x : Rat => V.int (x.num * B.fdiv x.den)) = VI (xs.map fun x : Rat => x.num * B.fdiv x.den) := by
        have := fm_all xs fun x : Rat => some (V.int (x.num * B.fdiv x.den))
        rw [lu]
        have e2 : (fun i : Nat => (xs[i]?).map fun x : Rat => V.int (x.num * B.fdiv x.den)) = fun i : Nat => (xs[i]?).bind fun x : Rat => some (V.int (x.num * B.fdiv x.den)) := by
          funext i; cases xs[i]? <;> rfl
        rw [e2, this, List.filterMap_eq_map']; unfold VI; rw [List.map_map]; rfl
      rw [e] at hD
      refine ⟨by show 2 ≤ sizeLine; decide, fun t nt => ?_⟩
      have st := same_new (o := .tup [V.int B, V.ref D]) nt
      refine q (.ref t) _ B (xs.map fun x : Rat => x.num * B.fdiv x.den) ((sm.trans s1).trans st) ⟨t, D, rfl, (sm.trans s1).free nt, sm.free nD, upd_same, st _ _ hD⟩ B0 ?_ ⟨BG_lt, Bm.mono (by omega)⟩ fun z hz => ?_
      · unfold ratsOf
        rw [List.map_map]
        conv => rhs; rw [← List.map_id xs]
        refine List.map_congr_left fun x hx => ?_
        obtain ⟨j, hj⟩ := List.getElem?_of_mem hx
        exact (own_z B0 (hdv j x hj) (bx x hx) Bm).1
      · obtain ⟨x, hx, rfl⟩ := List.mem_map.mp hz
        obtain ⟨j, hj⟩ := List.getElem?_of_mem hx
        have := (own_z B0 (hdv j x hj) (bx x hx) Bm).2.1
        exact Nat.le_of_lt (this.mono (show 8000 + 392001 ≤ 400500 by omega))
end
end K21

namespace K21
open PySem PySem.Spec PyProof.Rows L2 Fp
section
variable {P : Program} {w : World} {K : PySem.W.Frag} {mg : Str → Option Value} {base : Heap} {k : Nat} {C fI fR : Addr}
theorem Sz.z {k N : Nat} {b z : Int} (h : Sz k N b) (l : z.natAbs ≤ N) : LbI k z := Nat.lt_of_le_of_lt l h.1
/-- the numbers of the slot i's polynomial, filled up with noughts -/
theorem gv_pad {σ : L2.St} {H : Hp} {t l : Addr} {b : Int} {zs : List Int} {i m : Nat} (hv : σ[i]? = some (some (.ref t))) (hm : σ[3]? = some (some (.int (m : Int)))) (ht : H t = some (.tup [.int b, .ref l])) (hl : H l = some (.lst (VI zs))) (h1 : zs.length ≤ m) (h2 : m ≤ 800) :
    Gv (tOp rCat (tOp (rIxT K) (tVar i) (tC (.int 1))) (tOp rRep (tLst (tCons (tC (.int 0)) tNil)) (tOp (rI0 fun i j => V.int (i - j)) (tVar 3) (tCB (rLenS K) (tCons (tOp (rIxT K) (tVar i) (tC (.int 1))) tNil))))) σ H fun v H' => ∃ a, v = .ref a ∧ H a = none ∧ H' a = some (.lst (VI (zs ++ List.replicate (m - zs.length) 0))) := fun Q q => by
  have lv := vi_len zs
  refine ⟨_, hv, t, _, 1, .ref l, rfl, rfl, SqT.of ht, rfl, by show 1 ≤ sizeLine; decide, fun c nc => ?_⟩
  have sc := same_new (o := .lst [V.int 0]) nc
  refine ⟨_, hm, _, hv, t, _, 1, .ref l, rfl, rfl, SqT.of (sc _ _ ht), rfl, l, _, rfl, .inl (SqL.of (sc _ _ hl)), _, _, rfl, rfl, ?_⟩
  refine ⟨c, _, [V.int 0], rfl, rfl, upd_same, by omega, by omega, by rw [sizeLine_eq]; simp only [List.length_cons, List.length_nil]; omega, fun d nd => ?_⟩
  have e : (List.replicate ((m : Int) - ((VI zs).length : Int)).toNat [V.int 0]).flatten = VI (List.replicate (m - zs.length) 0) := by
    rw [lv, show ((m : Int) - (zs.length : Int)).toNat = m - zs.length by omega]
    generalize m - zs.length = k
    induction k with
    | zero => rfl
    | succ k ih => rw [List.replicate_succ, List.flatten_cons, ih]; rfl
  rw [e]
  have sd := same_new (o := .lst (VI (List.replicate (m - zs.length) 0))) nd
  refine ⟨l, d, _, _, rfl, rfl, sd _ _ (sc _ _ hl), upd_same, by rw [lv, vi_len, List.length_replicate, sizeLine_eq]; omega, fun g ng => ?_⟩
  have sg := same_new (o := .lst (VI zs ++ VI (List.replicate (m - zs.length) 0))) ng
  refine q _ _ ((sc.trans sd).trans sg) ⟨g, rfl, (sc.trans sd).free ng, ?_⟩
  rw [upd_same]
  unfold VI
  rw [List.map_append]
-- slots: _law_one 0, _law_other 1, _law_factor 2, _law_many 3, _law_near 4, _law_far 5, _law_at 6; cells: _law_factor _law_far _law_near _law_one _law_other
abbrev s_law_plus : Stmt := top 40
abbrev N_law_plus : List Str := ["_law_one", "_law_other", "_law_factor", "_law_many", "_law_near", "_law_far", "_law_at"]
theorem sc_law_plus : FnScope N_law_plus ["_law_one", "_law_other", "_law_factor"] (defScope s_law_plus) := ⟨rfl, rfl, rfl, by decide +kernel, rfl, by decide +kernel, by decide +kernel⟩
theorem d_law_plus (B : Bnd K mg "_law_plus" s_law_plus) (M : Mg2 mg)  (D_law_trim : Def P w K mg base k "_law_trim" s_law_trim ["_law_numbers"] (sp_law_trim K)) : Def P w K mg base (k + 1) "_law_plus" s_law_plus ["_law_one", "_law_other", "_law_factor"] (sp_law_plus K) := by
  refine def_of B sc_law_plus (by rintro _ _ _ _ ⟨v1, v2, b1, b2, zs1, zs2, N1, N2, k1, k2, fa, rfl, _⟩; rfl) (fun _ _ _ _ _ _ us hl => match us, hl with | [_, _, _], _ => rfl) fun f cdv A outer s H vs Q E hr h => ?_
  obtain ⟨v1, v2, b1, b2, zs1, zs2, N1, N2, k1, k2, fa, rfl, fa1, ⟨t1, l1, rfl, ht1, hl1⟩, ⟨t2, l2, rfl, ht2, hl2⟩, p1, p2, n1, n2, s1, s2, sk, e1, e2, q⟩ := h
  have hu := hr.units
  refine ⟨_, pss_cons (ps_set (i := 3) sc_law_plus.nd rfl (.inl rfl) (pe_callB (call_max2 rfl) (by rfl) M.max (by decide +kernel) (pa_cons (pe_callB call_len_seq (by rfl) M.len boot_len (pa_cons (pe_ix (r := rIxT K) ix_tup (pv 0) pe_int (fun _ _ => rfl)) pa_nil)) (pa_cons (pe_callB call_len_seq (by rfl) M.len boot_len (pa_cons (pe_ix (r := rIxT K) ix_tup (pv 1) pe_int (fun _ _ => rfl)) pa_nil)) pa_nil))))
    (pss_cons (ps_asg (pe_tup (pa_cons (pe_op op_cat (pe_ix (r := rIxT K) ix_tup (pv 0) pe_int (fun _ _ => rfl)) (pe_op op_rep (pe_lst (pa_cons pe_int pa_nil)) (pe_op op_sub (pv 3) (pe_callB call_len_seq (by rfl) M.len boot_len (pa_cons (pe_ix (r := rIxT K) ix_tup (pv 0) pe_int (fun _ _ => rfl)) pa_nil))))) (pa_cons (pe_op op_cat (pe_ix (r := rIxT K) ix_tup (pv 1) pe_int (fun _ _ => rfl)) (pe_op op_rep (pe_lst (pa_cons pe_int pa_nil)) (pe_op op_sub (pv 3) (pe_callB call_len_seq (by rfl) M.len boot_len (pa_cons (pe_ix (r := rIxT K) ix_tup (pv 1) pe_int (fun _ _ => rfl)) pa_nil))))) pa_nil))) (pg_tup rfl (pgs_cons (pg_name (i := 4) sc_law_plus.nd rfl (.inr rfl)) (pgs_cons (pg_name (i := 5) sc_law_plus.nd rfl (.inr rfl)) pgs_nil))))
    (pss_one (ps_ret (pe_tup (pa_cons (pe_op op_mulW (pe_ix (r := rIxT K) ix_tup (pv 0) pe_int (fun _ _ => rfl)) (pe_ix (r := rIxT K) ix_tup (pv 1) pe_int (fun _ _ => rfl))) (pa_cons (pe_d D_law_trim hr (by rfl) (pa_cons (pe_lc (own := [("_law_at", 6)]) (g := (gName 6)) (tt := tYes) (te := (tOp _ (tOp _ (tOp (rIxL K) (tVar 4) (tVar 6)) (tOp (rIxT K) (tVar 1) (tC (.int 0)))) (tOp _ (tOp _ (tVar 2) (tOp (rIxL K) (tVar 5) (tVar 6))) (tOp (rIxT K) (tVar 0) (tC (.int 0)))))) rfl sc_law_plus.nd (pi_range1 (by rfl) M.range (pa_cons (pv 3) pa_nil)) (blkOk_by (own := [("_law_at", 6)]) (N := N_law_plus) (sc := defScope s_law_plus) (by decide +kernel)) (fun _ _ _ _ _ => pg_name (i := 6) sc_law_plus.nd rfl (.inl rfl)) (fun _ _ _ _ _ => pts_nil) (fun _ _ _ _ _ => pe_op op_add (pe_op op_mulW (pe_ix (r := rIxL K) ix_list (pv 4) (pv 6) (fun _ _ => rfl)) (pe_ix (r := rIxT K) ix_tup (pv 1) pe_int (fun _ _ => rfl))) (pe_op op_mulW (pe_op op_mulW (pv 2) (pe_ix (r := rIxL K) ix_list (pv 5) (pv 6) (fun _ _ => rfl))) (pe_ix (r := rIxT K) ix_tup (pv 0) pe_int (fun _ _ => rfl))))) pa_nil)) pa_nil)))))), ?_⟩
  have lv1 := vi_len zs1
  have lv2 := vi_len zs2
  refine ⟨_, rfl, t1, _, 1, .ref l1, rfl, rfl, SqT.of ht1, rfl, l1, _, rfl, .inl (SqL.of hl1), _, rfl, t2, _, 1, .ref l2, rfl, rfl, SqT.of ht2, rfl, l2, _, rfl, .inl (SqL.of hl2), _, _, rfl, ?_⟩
  have em : (if (((VI zs2).length : Nat) : Int) > (((VI zs1).length : Nat) : Int) then (((VI zs2).length : Nat) : Int) else (((VI zs1).length : Nat) : Int)) = ((max zs1.length zs2.length : Nat) : Int) := by split <;> omega
  rw [em]
  refine gv_pad (K := K) (i := 0) (m := max zs1.length zs2.length) rfl rfl ht1 hl1 (by omega) (by omega) _ fun _ H1 sm1 ⟨a1, ea1, na1, ha1⟩ => ?_
  subst ea1
  refine gv_pad (K := K) (i := 1) (m := max zs1.length zs2.length) rfl rfl (sm1 _ _ ht2) (sm1 _ _ hl2) (by omega) (by omega) _ fun _ H2 sm2 ⟨a2, ea2, na2, ha2⟩ => ?_
  subst ea2
  refine ⟨by show 2 ≤ sizeLine; decide, fun T nT => ?_⟩
  have sT := same_new (o := .tup [V.ref a1, V.ref a2]) nT
  have g1 := sT _ _ (sm2 _ _ ha1)
  have g2 := sT _ _ ha2
  have sA := (sm1.trans sm2).trans sT
  have hT : (upd H2 T (.tup [V.ref a1, V.ref a2])) T = some (.tup [V.ref a1, V.ref a2]) := upd_same
  generalize upd H2 T (.tup [V.ref a1, V.ref a2]) = H3 at *
  have b10 : b1 ≠ 0 := by omega
  have b20 : b2 ≠ 0 := by omega
  refine ⟨T, _, rfl, SqT.of hT, rfl, _, _, rfl, _, _, rfl, rfl, ?_⟩
  refine ⟨_, rfl, t1, _, 0, .int b1, rfl, rfl, SqT.of (sA _ _ ht1), rfl, _, rfl, t2, _, 0, .int b2, rfl, rfl, SqT.of (sA _ _ ht2), rfl, b1, b2, rfl, rfl, s1.2.cm s2.2 (by omega), ?_⟩
  refine ⟨_, rfl, _, rfl, by omega, by omega, fun D nD => ?_⟩
  refine lc_rg (lo := 0) (n := ((max zs1.length zs2.length : Nat) : Int).toNat) (fun i => some (V.int (zs1.getD i 0 * b2 + fa * zs2.getD i 0 * b1))) nD (by rw [sizeLine_eq]; omega) (fun i H4 hi s4 Y N y nn => ?_) (fun H4 s4 hD => ?_)
  · have i1 := pad_at (zs := zs1) (k := max zs1.length zs2.length - zs1.length) (i := i) (by omega)
    have i2 := pad_at (zs := zs2) (k := max zs1.length zs2.length - zs2.length) (i := i) (by omega)
    have z1 := s1.z (getD_abs n1 i)
    have z2 := s2.z (getD_abs n2 i)
    have c1 : CMulW fa (zs2.getD i 0) := LbI.cm (n := 1) (m := k2) (show fa.natAbs < 2 ^ 1 by omega) z2 (by omega)
    have z3 : LbI k2 (fa * zs2.getD i 0) := by unfold LbI at *; rw [Int.natAbs_mul]; have := Nat.mul_le_mul_right (zs2.getD i 0).natAbs fa1; omega
    refine ⟨rfl, _, rfl, _, rfl, a1, _, _, _, rfl, rfl, SqL.of (s4 _ _ g1), at_of (j := i) (by omega) (by unfold VI; rw [List.getElem?_map, i1]; rfl), _, rfl, t2, _, 0, .int b2, rfl, rfl, SqT.of (s4 _ _ (sA _ _ ht2)), rfl, _, b2, rfl, rfl, z1.cm s2.2 (by omega), ?_⟩
    refine ⟨_, rfl, _, rfl, _, rfl, a2, _, _, _, rfl, rfl, SqL.of (s4 _ _ g2), at_of (j := i) (by omega) (by unfold VI; rw [List.getElem?_map, i2]; rfl), fa, _, rfl, rfl, c1, _, rfl, t1, _, 0, .int b1, rfl, rfl, SqT.of (s4 _ _ (sA _ _ ht1)), rfl, _, b1, rfl, rfl, z3.cm s1.2 (by omega), _, _, rfl, rfl, y _ _ (Same.refl _) rfl⟩
  have eL : (List.range ((max zs1.length zs2.length : Nat) : Int).toNat).filterMap (fun i => some (V.int (zs1.getD i 0 * b2 + fa * zs2.getD i 0 * b1))) = VI (plusF fa b1 b2 zs1 zs2) := by
    rw [List.filterMap_eq_map']
    unfold plusF VI
    rw [List.map_map]; rfl
  rw [eL] at hD
  refine ⟨D, _, rfl, hD, by rw [plusF_len]; omega, fun a H5 s5 na ha => ?_⟩
  refine ⟨by show 2 ≤ sizeLine; decide, fun t nt => ?_⟩
  have st := same_new (o := .tup [V.int (b1 * b2), V.ref a]) nt
  have sB := (sA.trans s4).trans s5
  exact q (.ref t) _ (trimI (plusF fa b1 b2 zs1 zs2)) (sB.trans st) ⟨t, a, rfl, sB.free nt, (sA.trans s4).free na, upd_same, st _ _ ha⟩ (told_trim (fun z => by rcases Int.mul_eq_zero.mp z with e | e <;> omega) _) (plusF_co b10 b20 zs1 zs2) (plusF_BN fa1 n1 n2).trim (by have := trimI_len (plusF fa b1 b2 zs1 zs2); rw [plusF_len] at this; exact this)
-- slots: _law_one 0, _law_other 1, _law_found 2, _law_at 3, _law_near 4, _law_to 5, _law_far 6; cells: 
abbrev s_law_times : Stmt := top 41
abbrev N_law_times : List Str := ["_law_one", "_law_other", "_law_found", "_law_at", "_law_near", "_law_to", "_law_far"]
theorem sc_law_times : FnScope N_law_times ["_law_one", "_law_other"] (defScope s_law_times) := ⟨rfl, rfl, rfl, by decide +kernel, rfl, by decide +kernel, by decide +kernel⟩
theorem d_law_times (B : Bnd K mg "_law_times" s_law_times) (M : Mg2 mg)  (D_law_trim : Def P w K mg base k "_law_trim" s_law_trim ["_law_numbers"] (sp_law_trim K)) : Def P w K mg base (k + 1) "_law_times" s_law_times ["_law_one", "_law_other"] (sp_law_times K) := by
  refine def_of B sc_law_times (by rintro _ _ _ _ ⟨v1, v2, b1, b2, zs1, zs2, N1, N2, k1, k2, rfl, _⟩; rfl) (fun _ _ _ _ _ _ us hl => match us, hl with | [_, _], _ => rfl) fun f cdv A outer s H vs Q E hr h => ?_
  obtain ⟨v1, v2, b1, b2, zs1, zs2, N1, N2, k1, k2, rfl, ⟨t1, l1, rfl, ht1, hl1⟩, ⟨t2, l2, rfl, ht2, hl2⟩, p1, p2, n1, n2, s1, s2, sk, e1, e2, q⟩ := h
  have hu := hr.units
  refine ⟨_, pss_cons (ps_set (i := 2) sc_law_times.nd rfl (.inl rfl) (pe_op op_rep (pe_lst (pa_cons pe_int pa_nil)) (pe_callB (call_max2 rfl) (by rfl) M.max (by decide +kernel) (pa_cons pe_int (pa_cons (pe_op op_sub (pe_op op_add (pe_callB call_len_seq (by rfl) M.len boot_len (pa_cons (pe_ix (r := rIxT K) ix_tup (pv 0) pe_int (fun _ _ => rfl)) pa_nil)) (pe_callB call_len_seq (by rfl) M.len boot_len (pa_cons (pe_ix (r := rIxT K) ix_tup (pv 1) pe_int (fun _ _ => rfl)) pa_nil))) pe_int) pa_nil)))))
    (pss_cons (ps_for PassesOwn.never rfl (pi_enum (by rfl) M.enum (pa_cons (pe_ix (r := rIxT K) ix_tup (pv 0) pe_int (fun _ _ => rfl)) pa_nil)) (pg_tup rfl (pgs_cons (pg_name (i := 3) sc_law_times.nd rfl (.inl rfl)) (pgs_cons (pg_name (i := 4) sc_law_times.nd rfl (.inl rfl)) pgs_nil)))
      (pss_one (ps_for PassesOwn.never rfl (pi_enum (by rfl) M.enum (pa_cons (pe_ix (r := rIxT K) ix_tup (pv 1) pe_int (fun _ _ => rfl)) pa_nil)) (pg_tup rfl (pgs_cons (pg_name (i := 5) sc_law_times.nd rfl (.inl rfl)) (pgs_cons (pg_name (i := 6) sc_law_times.nd rfl (.inl rfl)) pgs_nil)))
        (pss_one (ps_asg (pe_op op_add (pe_ix (r := rIxL K) ix_list (pv 2) (pe_op op_add (pv 3) (pv 5)) (fun _ _ => rfl)) (pe_op op_mulW (pv 4) (pv 6))) (pg_sub (pv 2) (pe_op op_add (pv 3) (pv 5)) set_list))))))
    (pss_one (ps_ret (pe_tup (pa_cons (pe_op op_mulW (pe_ix (r := rIxT K) ix_tup (pv 0) pe_int (fun _ _ => rfl)) (pe_ix (r := rIxT K) ix_tup (pv 1) pe_int (fun _ _ => rfl))) (pa_cons (pe_d D_law_trim hr (by rfl) (pa_cons (pv 2) pa_nil)) pa_nil)))))), ?_⟩
  have lv1 := vi_len zs1
  have lv2 := vi_len zs2
  refine ⟨by show 1 ≤ sizeLine; decide, fun c0 nc0 => ?_⟩
  have sc := same_new (o := .lst [V.int 0]) nc0
  refine ⟨_, rfl, t1, _, 1, .ref l1, rfl, rfl, SqT.of (sc _ _ ht1), rfl, l1, _, rfl, .inl (SqL.of (sc _ _ hl1)), _, rfl, t2, _, 1, .ref l2, rfl, rfl, SqT.of (sc _ _ ht2), rfl, l2, _, rfl, .inl (SqL.of (sc _ _ hl2)), _, _, rfl, rfl, _, 1, rfl, rfl, _, _, rfl, ?_⟩
  have em : (if (((VI zs1).length : Nat) : Int) + (((VI zs2).length : Nat) : Int) - 1 > 0 then (((VI zs1).length : Nat) : Int) + (((VI zs2).length : Nat) : Int) - 1 else 0) = ((zs1.length + zs2.length - 1 : Nat) : Int) := by split <;> omega
  rw [em]
  refine ⟨c0, _, [V.int 0], rfl, rfl, upd_same, by omega, by omega, by rw [sizeLine_eq]; simp only [List.length_cons, List.length_nil]; omega, fun F nF0 => ?_⟩
  generalize hL : zs1.length + zs2.length - 1 = L
  have e0 : (List.replicate ((L : Nat) : Int).toNat [V.int 0]).flatten = VI ((List.range L).map (prodI zs1 zs2 0)) := by
    rw [Int.toNat_natCast]
    clear em hL nF0
    have : ∀ k, (List.replicate k [V.int 0]).flatten = VI (List.replicate k 0) := fun k => by
      induction k with
      | zero => rfl
      | succ k ih => rw [List.replicate_succ, List.flatten_cons, ih]; rfl
    rw [this]
    congr 1
    refine List.ext_getElem (by simp) fun n a b => ?_
    rw [List.getElem_replicate, List.getElem_map]; rfl
  rw [e0]
  have nF : H F = none := sc.free nF0
  have sF := sc.trans (same_new (o := .lst (VI ((List.range L).map (prodI zs1 zs2 0)))) nF0)
  have hF : (upd (upd H c0 (.lst [V.int 0])) F (.lst (VI ((List.range L).map (prodI zs1 zs2 0))))) F = some (.lst (VI ((List.range L).map (prodI zs1 zs2 0)))) := upd_same
  generalize upd (upd H c0 (.lst [V.int 0])) F (.lst (VI ((List.range L).map (prodI zs1 zs2 0)))) = H0 at *
  have b10 : b1 ≠ 0 := by omega
  have b20 : b2 ≠ 0 := by omega
  have old : ∀ {G : Hp}, Same H (wo F G) → Same H G := fun s => s.trans wo_le
  refine ⟨_, rfl, t1, _, 1, .ref l1, rfl, rfl, SqT.of (sF _ _ ht1), rfl, l1, _, rfl, SqL.of (sF _ _ hl1), ?_⟩
  refine for_it (walk_enum (K := K) (a := l1) (xs := VI zs1)) (fun i σ G => ∃ (o3 o4 o5 o6 : Option V), σ = [some (.ref t1), some (.ref t2), some (.ref F), o3, o4, o5, o6] ∧ Same H (wo F G) ∧ G F = some (.lst (VI ((List.range L).map (prodI zs1 zs2 i)))))
    ⟨none, none, none, none, rfl, same_wo nF sF, hF⟩ (fun i σ G _ ⟨_, _, _, _, _, sm, _⟩ => SqL.of (old sm _ _ hl1)) (fun i v σ G G2 hi ⟨o3, o4, o5, o6, e, sm, hG⟩ hy => ?_) (fun σ G ⟨o3, o4, o5, o6, e, sm, hG⟩ => ?_)
  · subst e
    obtain ⟨T, v1, v2, rfl, nT, rfl, hx1, hx2⟩ := hy
    obtain ⟨x, hx, rfl⟩ := vi_at hx2
    obtain rfl := Option.some.inj hx1
    have sT := same_new (o := .tup [V.int (i : Nat), V.int x]) nT
    have s3 := sm.trans (wo_mono (D := F) sT)
    have hG3 := sT _ _ hG
    have hT : (upd G T (.tup [V.int (i : Nat), V.int x])) T = some (.tup [V.int (i : Nat), V.int x]) := upd_same
    generalize upd G T (.tup [V.int (i : Nat), V.int x]) = G3 at *
    have hi1 : i < zs1.length := by omega
    have ex : zs1.getD i 0 = x := by rw [List.getD_eq_getElem?_getD, hx]; rfl
    refine ⟨T, _, rfl, SqT.of hT, rfl, _, _, rfl, _, _, rfl, rfl, ?_⟩
    refine ⟨_, rfl, t2, _, 1, .ref l2, rfl, rfl, SqT.of (old s3 _ _ ht2), rfl, l2, _, rfl, SqL.of (old s3 _ _ hl2), ?_⟩
    refine for_it (walk_enum (K := K) (a := l2) (xs := VI zs2)) (fun j σ G => ∃ (o5 o6 : Option V), σ = [some (.ref t1), some (.ref t2), some (.ref F), some (.int (i : Nat)), some (.int x), o5, o6] ∧ Same H (wo F G) ∧ G F = some (.lst (VI ((List.range L).map (partI zs1 zs2 i j)))))
      ⟨_, _, rfl, s3, ?_⟩ (fun j σ G _ ⟨_, _, _, sm, _⟩ => SqL.of (old sm _ _ hl2)) (fun j v σ G G2 hj ⟨o5, o6, e, sm, hG⟩ hy => ?_) (fun σ G ⟨o5, o6, e, sm, hG⟩ => ?_)
    · rw [hG3, funext (partI_zero zs1 zs2 i)]
    · subst e
      obtain ⟨T2, v1, v2, rfl, nT2, rfl, hy1, hy2⟩ := hy
      obtain ⟨y, hy, rfl⟩ := vi_at hy2
      obtain rfl := Option.some.inj hy1
      have sT := same_new (o := .tup [V.int (j : Nat), V.int y]) nT2
      have s4 := sm.trans (wo_mono (D := F) sT)
      have hG4 := sT _ _ hG
      have hT2 : (upd G T2 (.tup [V.int (j : Nat), V.int y])) T2 = some (.tup [V.int (j : Nat), V.int y]) := upd_same
      generalize upd G T2 (.tup [V.int (j : Nat), V.int y]) = G4 at *
      have hj1 : j < zs2.length := by omega
      have hij : i + j < L := by omega
      have ey : zs2.getD j 0 = y := by rw [List.getD_eq_getElem?_getD, hy]; rfl
      have hx' := s1.z (n1 x (List.mem_of_getElem? hx))
      have hy' := s2.z (n2 y (List.mem_of_getElem? hy))
      have hat : (VI ((List.range L).map (partI zs1 zs2 i j)))[i + j]? = some (.int (partI zs1 zs2 i j (i + j))) := by
        unfold VI
        rw [List.getElem?_map, List.getElem?_map, List.getElem?_range hij]; rfl
      refine ⟨T2, _, rfl, SqT.of hT2, rfl, _, _, rfl, _, _, rfl, rfl, ?_⟩
      refine ⟨_, rfl, _, rfl, _, rfl, _, _, rfl, rfl, F, _, _, _, rfl, rfl, SqL.of hG4, at_of (j := i + j) (by omega) hat, _, rfl, _, rfl, x, y, rfl, rfl, hx'.cm hy' (by omega), _, _, rfl, rfl, ?_⟩
      refine ⟨_, rfl, _, rfl, _, rfl, _, _, rfl, rfl, F, _, _, i + j, rfl, rfl, hG4, ixn (by omega) (by rw [vi_len, List.length_map, List.length_range]; exact hij), ?_⟩
      refine ⟨_, _, rfl, ?_, ?_⟩
      · rw [wo_upd]; exact s4
      · rw [upd_same]
        have := partI_step (xs := zs1) (ys := zs2) hij
        rw [ex, ey] at this
        rw [← this]
        unfold VI
        rw [List.map_set]
    · subst e
      refine ⟨_, _, _, _, rfl, sm, ?_⟩
      rw [hG]
      have : (VI zs2).length = zs2.length := lv2
      rw [this, funext (partI_all zs1 zs2 i)]
  · subst e
    have s5 := old sm
    have hG' : G F = some (.lst (VI (timesI zs1 zs2))) := by
      rw [hG, lv1, ← hL]; rfl
    refine ⟨_, rfl, t1, _, 0, .int b1, rfl, rfl, SqT.of (s5 _ _ ht1), rfl, _, rfl, t2, _, 0, .int b2, rfl, rfl, SqT.of (s5 _ _ ht2), rfl, b1, b2, rfl, rfl, s1.2.cm s2.2 (by omega), ?_⟩
    refine ⟨_, rfl, F, _, rfl, hG', by rw [timesI_len]; omega, fun a H5 s6 na ha => ?_⟩
    refine ⟨by show 2 ≤ sizeLine; decide, fun t nt => ?_⟩
    have st := same_new (o := .tup [V.int (b1 * b2), V.ref a]) nt
    have sB := s5.trans s6
    exact q (.ref t) _ (trimI (timesI zs1 zs2)) (sB.trans st) ⟨t, a, rfl, sB.free nt, s5.free na, upd_same, st _ _ ha⟩ (told_trim (fun z => by rcases Int.mul_eq_zero.mp z with e | e <;> omega) _) (timesI_co b10 b20 zs1 zs2) (timesI_BN n1 n2).trim (by have := trimI_len (timesI zs1 zs2); rw [timesI_len] at this; exact this)
-- slots: _law_one 0, _law_other 1, _law_near 2, _law_far 3; cells: _law_one _law_other
abbrev s_law_same : Stmt := top 42
abbrev N_law_same : List Str := ["_law_one", "_law_other", "_law_near", "_law_far"]
theorem sc_law_same : FnScope N_law_same ["_law_one", "_law_other"] (defScope s_law_same) := ⟨rfl, rfl, rfl, by decide +kernel, rfl, by decide +kernel, by decide +kernel⟩
theorem d_law_same (B : Bnd K mg "_law_same" s_law_same) (M : Mg2 mg)   : Def P w K mg base (k + 1) "_law_same" s_law_same ["_law_one", "_law_other"] (sp_law_same K) := by
  refine def_of B sc_law_same (by rintro _ _ _ _ ⟨v1, v2, b1, b2, zs1, zs2, N1, N2, k1, k2, rfl, _⟩; rfl) (fun _ _ _ _ _ _ us hl => match us, hl with | [_, _], _ => rfl) fun f cdv A outer s H vs Q E hr h => ?_
  obtain ⟨v1, v2, b1, b2, zs1, zs2, N1, N2, k1, k2, rfl, ⟨t1, l1, rfl, ht1, hl1⟩, ⟨t2, l2, rfl, ht2, hl2⟩, p1, p2, n1, n2, s1, s2, sk, e1, e2, eq, q⟩ := h
  have hu := hr.units
  refine ⟨_, pss_one (ps_ret (pe_cmpR (op_eqH (List Int) (dle hu (by decide))) (pe_lc (own := [("_law_near", 2)]) (g := (gName 2)) (tt := tYes) (te := (tOp _ (tVar 2) (tOp (rIxT K) (tVar 1) (tC (.int 0))))) rfl sc_law_same.nd (pi_list (pe_ix (r := rIxT K) ix_tup (pv 0) pe_int (fun _ _ => rfl))) (blkOk_by (own := [("_law_near", 2)]) (N := N_law_same) (sc := defScope s_law_same) (by decide +kernel)) (fun _ _ _ _ _ => pg_name (i := 2) sc_law_same.nd rfl (.inl rfl)) (fun _ _ _ _ _ => pts_nil) (fun _ _ _ _ _ => pe_op op_mulW (pv 2) (pe_ix (r := rIxT K) ix_tup (pv 1) pe_int (fun _ _ => rfl)))) (pe_lc (own := [("_law_far", 3)]) (g := (gName 3)) (tt := tYes) (te := (tOp _ (tVar 3) (tOp (rIxT K) (tVar 0) (tC (.int 0))))) rfl sc_law_same.nd (pi_list (pe_ix (r := rIxT K) ix_tup (pv 1) pe_int (fun _ _ => rfl))) (blkOk_by (own := [("_law_far", 3)]) (N := N_law_same) (sc := defScope s_law_same) (by decide +kernel)) (fun _ _ _ _ _ => pg_name (i := 3) sc_law_same.nd rfl (.inl rfl)) (fun _ _ _ _ _ => pts_nil) (fun _ _ _ _ _ => pe_op op_mulW (pv 3) (pe_ix (r := rIxT K) ix_tup (pv 0) pe_int (fun _ _ => rfl)))) (nomark _))), ?_⟩
  have lv1 := vi_len zs1
  have lv2 := vi_len zs2
  refine ⟨_, rfl, t1, _, 1, .ref l1, rfl, rfl, SqT.of ht1, rfl, l1, rfl, ⟨_, SqL.of hl1⟩, fun D nD => ?_⟩
  refine lc_l (fun i => (zs1[i]?).map fun z : Int => V.int (z * b2)) (SqL.of hl1) nD (by rw [sizeLine_eq]; omega) (fun i v H1 hv sm1 Y N y nn => ?_) (fun H1 sm1 hD => ?_)
  · obtain ⟨z, hz, rfl⟩ := vi_at hv
    exact ⟨rfl, _, rfl, _, rfl, t2, _, 0, .int b2, rfl, rfl, SqT.of (sm1 _ _ ht2), rfl, z, b2, rfl, rfl, (s1.z (n1 z (List.mem_of_getElem? hz))).cm s2.2 (by omega), y _ _ (Same.refl _) (by show (zs1[i]?).map _ = _; rw [hz]; rfl)⟩
  refine ⟨_, rfl, t2, _, 1, .ref l2, rfl, rfl, SqT.of (sm1 _ _ ht2), rfl, l2, rfl, ⟨_, SqL.of (sm1 _ _ hl2)⟩, fun D2 nD2 => ?_⟩
  refine lc_l (fun i => (zs2[i]?).map fun z : Int => V.int (z * b1)) (SqL.of (sm1 _ _ hl2)) nD2 (by rw [sizeLine_eq]; omega) (fun i v H2 hv sm2 Y N y nn => ?_) (fun H2 sm2 hD2 => ?_)
  · obtain ⟨z, hz, rfl⟩ := vi_at hv
    exact ⟨rfl, _, rfl, _, rfl, t1, _, 0, .int b1, rfl, rfl, SqT.of (sm2 _ _ (sm1 _ _ ht1)), rfl, z, b1, rfl, rfl, (s2.z (n2 z (List.mem_of_getElem? hz))).cm s1.2 (by omega), y _ _ (Same.refl _) (by show (zs2[i]?).map _ = _; rw [hz]; rfl)⟩
  have eF : ∀ (zs : List Int) (b : Int), (List.range (VI zs).length).filterMap (fun i => (zs[i]?).map fun z : Int => V.int (z * b)) = VI (zs.map fun z => z * b) := fun zs b => by
    have := fm_all zs fun z : Int => some (V.int (z * b))
    rw [vi_len]
    have e2 : (fun i : Nat => (zs[i]?).map fun z : Int => V.int (z * b)) = fun i : Nat => (zs[i]?).bind fun z : Int => some (V.int (z * b)) := by
      funext i; cases zs[i]? <;> rfl
    rw [e2, this, List.filterMap_eq_map']; unfold VI; rw [List.map_map]; rfl
  rw [eF] at hD hD2
  refine ⟨_, _, hd_ints (SqL.of (sm2 _ _ hD)), hd_ints (SqL.of hD2), ?_⟩
  rw [decide_eq_true (show (zs1.map fun z => z * b2) = (zs2.map fun z => z * b1) from (cross_iff (by omega) (by omega)).mpr eq)]
  exact q H2 (sm1.trans sm2)
end
end K21

namespace K21
open PySem PySem.Spec PyProof.Rows L2 Fp
section
variable {P : Program} {w : World} {K : PySem.W.Frag} {mg : Str → Option Value} {base : Heap} {k : Nat} {C fI fR : Addr}
theorem pot_ne {H : Hp} {p b : Addr} (h : PotOk H p) (n : H b = none) : b ≠ p := fun z => by
  obtain ⟨u, v, e, _⟩ := h
  rw [z, e] at n; cases n
theorem wos_keep {S : List Addr} {H H' : Hp} {p : Addr} (pS : p ∈ S) (k : Keep p H H') : Same (wos S H) (wos S H') := fun b o e => by
  obtain ⟨h1, h2⟩ := wos_some.mp e
  exact wos_some.mpr ⟨h1, k b o (fun z => h1 (z ▸ pS)) h2⟩
theorem OwnP.same {H H' : Hp} {v : V} {b : Int} {zs : List Int} (h : OwnP H v b zs) (e : Same H H') : OwnP H' v b zs := let ⟨t, l, h1, h2, h3⟩ := h; ⟨t, l, h1, e _ _ h2, e _ _ h3⟩
/-- three is the most -/
structure Sm3 (b : Int) (zs : List Int) : Prop where
  b0 : 0 < b
  b3 : b ≤ 3
  z3 : BN 3 zs
  tr : trimI zs = zs
def sp_law_poly (K : PySem.W.Frag) : Sp := fun vs H Q _ => ∃ (p : Addr) (most : Int), vs = [.ref p, .int most] ∧ PotOk H p ∧ 0 ≤ most ∧ most ≤ 20 ∧ ∀ v H' b zs, PotOk H' p → Keep p H H' → OwnP (wos [p] H') v b zs → Sm3 b zs → (zs.length : Int) ≤ most + 1 → Q v H'
def sp_law_passed (C : Addr) : Sp := fun vs H Q _ => ∃ (p : Addr) (v : V) (b : Int) (zs : List Int), vs = [.ref p, v] ∧ PotOk H p ∧ OwnP (wos [p] H) v b zs ∧ 0 < b ∧ b ≤ 30 ∧ BN 200 zs ∧ zs.length ≤ 20 ∧ trimI zs = zs ∧ ∀ x H', PotOk H' p → Keep p H H' → PolyQ C (wos [p] H') x (ratsOf b zs) → Q x H'
theorem OwnF.own {H H' : Hp} {v : V} {b : Int} {zs : List Int} (h : OwnF H H' v b zs) : OwnP H' v b zs := let ⟨t, l, h1, _, _, h4, h5⟩ := h; ⟨t, l, h1, h4, h5⟩
def sp_law_is (C : Addr) : Sp := fun vs H Q _ => ∃ (a : Addr) (us : List V) (xs : List Rat) (v : V) (b : Int) (zs : List Int) (N k : Nat), vs = [.ref a, v] ∧ H a = some (.lst us) ∧ QL C H us xs ∧ AllB 8000 xs ∧ xs.length ≤ 49 ∧ OwnP H v b zs ∧ 0 < b ∧ BN N zs ∧ Sz k N b ∧ k ≤ 1000 ∧ xs = ratsOf b zs ∧ Ret H Q (.bl true)
def sp_law_worth (K : PySem.W.Frag) : Sp := fun vs H Q _ => ∃ (v : V) (b : Int) (zs : List Int) (tn : Addr) (p q' : Int), vs = [v, .ref tn] ∧ OwnP H v b zs ∧ 0 < b ∧ b ≤ 30 ∧ BN 200 zs ∧ zs.length ≤ 20 ∧ H tn = some (.tup [.int p, .int q']) ∧ 0 < q' ∧ q' ≤ 3 ∧ p.natAbs ≤ 4 ∧ ∀ v' H' d t, Same H H' → OwnF H H' v' d [t] → 0 < d → LbI 100 d → LbI 100 t → (t : Rat) / (d : Rat) = hv (ratsOf b zs) ((p : Rat) / (q' : Rat)) → Q v' H'
def sp_law_derived (K : PySem.W.Frag) : Sp := fun vs H Q _ => ∃ (v : V) (b : Int) (zs : List Int) (N : Nat), vs = [v] ∧ OwnP H v b zs ∧ 0 < b ∧ BN N zs ∧ N ≤ 1000 ∧ zs.length ≤ 20 ∧ ∀ v' H' zs', Same H H' → OwnF H H' v' b zs' → Told (ratsOf b zs') → (∀ n, co (ratsOf b zs') n = co (derQ (ratsOf b zs)) n) → BN (N * 20) zs' → Q v' H'
theorem RQ.wos {S : List Addr} {H : Hp} {a : Addr} {x : Rat} (r : RQ C H a x) (n : a ∉ S) : RQ C (wos S H) a x := let ⟨dx, h⟩ := r; ⟨dx, by rw [wos_ne n]; exact h⟩
theorem numOf_q {H : Hp} {v : V} {x : Rat} (h : NumQ C H v x) : Fp.numOf H v = nd x ∧ isNum H v = true := by
  rcases h with ⟨rfl, h1⟩ | ⟨a, rfl, dx, h1⟩
  · exact ⟨by show (x.num, (1 : Int)) = (x.num, (x.den : Int)); rw [h1], rfl⟩
  · constructor
    · show Fp.numOf H (.ref a) = nd x
      unfold Fp.numOf
      simp only [h1]; rfl
    · unfold isNum isOwn
      simp only [h1]; rfl
def SmQ (x : Rat) : Prop := okS x.num ∧ okS x.den
theorem PolyQ.mk {H : Hp} {a : Addr} {gs : List V} {xs : List Rat} (hl : H a = some (.lst gs) ∨ H a = some (.tup gs)) (len : gs.length = xs.length) (h : ∀ (i : Nat) v x, gs[i]? = some v → xs[i]? = some x → NumQ C H v x) (sm : ∀ x ∈ xs, SmQ x) (l49 : gs.length ≤ 49) : PolyQ C H (.ref a) (trimQ xs) := by
  have ei : itemsOf H (.ref a) = some gs := by
    unfold itemsOf
    rcases hl with hl | hl <;> simp only [hl]
  have ed : itemsD H (.ref a) = gs := by unfold itemsD; rw [ei]; rfl
  have at_ : ∀ v ∈ gs, ∃ x, x ∈ xs ∧ NumQ C H v x := fun v hv => by
    obtain ⟨i, hi⟩ := List.getElem?_of_mem hv
    have li := (List.getElem?_eq_some_iff.mp hi).1
    have hx : xs[i]? = some xs[i] := List.getElem?_eq_getElem (by omega)
    exact ⟨_, List.getElem_mem _, h i v _ hi hx⟩
  have sk : ∀ v ∈ gs, Sk C H 0 v := fun v hv => by
    obtain ⟨x, hx, nq⟩ := at_ v hv
    obtain ⟨o1, o2⟩ := sm x hx
    rcases nq with ⟨rfl, _⟩ | ⟨b, rfl, r⟩
    · exact Sk.int o1
    · exact Sk.own r o1 o2 RQ.red
  refine ⟨?_, ?_, ?_⟩
  · rcases hl with hl | hl
    · exact Sk.lst (d := 0) hl (by omega) sk
    · exact Sk.tup (d := 0) hl (by omega) sk
  · unfold isPolyV
    rw [ei]
    simp only [Bool.and_eq_true, decide_eq_true_eq, List.all_eq_true]
    exact ⟨l49, fun v hv => let ⟨x, _, nq⟩ := at_ v hv; (numOf_q nq).2⟩
  · unfold toldP
    rw [ed, ← trimP_nd]
    congr 1
    refine List.ext_getElem? fun i => ?_
    rw [List.getElem?_map, List.getElem?_map]
    cases e : gs[i]? with
    | none => rw [List.getElem?_eq_none (by have := List.getElem?_eq_none_iff.mp e; omega)]; rfl
    | some v =>
      have li := (List.getElem?_eq_some_iff.mp e).1
      have hx : xs[i]? = some xs[i] := List.getElem?_eq_getElem (by omega)
      rw [hx]
      show some (Fp.numOf H v) = some (nd xs[i])
      rw [(numOf_q (h i v _ e hx)).1]
theorem smq_of {z b : Int} (hz : z.natAbs ≤ 200) (b0 : 0 < b) (b30 : b ≤ 30) : SmQ ((z : Rat) / (b : Rat)) := by
  rw [← Rat.divInt_eq_div]
  have := Bits.divInt (n := 8) (t := z) (b := b) (Nat.lt_of_le_of_lt hz (by decide)) (show b.natAbs < 2 ^ 8 by omega) (by omega)
  exact ⟨Nat.lt_trans this.1 (by decide), Nat.lt_trans this.2 (by decide)⟩
theorem trimI_idem (zs : List Int) : trimI (trimI zs) = trimI zs := by
  induction zs using snoc_ind with
  | h0 => rfl
  | h1 A x ih =>
    by_cases h : x = 0
    · rw [trimI_zero h]; exact ih
    · rw [trimI_nz h, trimI_nz h]
theorem keep_same {H H' : Hp} {p : Addr} {S : List Addr} (pS : p ∈ S) (k : Keep p H H') : Same (wos S H) (wos S H') := wos_keep pS k
-- slots: _law_pot_here 0, _law_most 1, _law_numbers 2, _law_turn 3; cells: 
abbrev s_law_poly : Stmt := top 44
abbrev N_law_poly : List Str := ["_law_pot_here", "_law_most", "_law_numbers", "_law_turn"]
theorem sc_law_poly : FnScope N_law_poly ["_law_pot_here", "_law_most"] (defScope s_law_poly) := ⟨rfl, rfl, rfl, by decide +kernel, rfl, by decide +kernel, by decide +kernel⟩
theorem d_law_poly (B : Bnd K mg "_law_poly" s_law_poly) (M : Mg2 mg)  (D_law_draw : Def P w K mg base k "_law_draw" sDraw ["_law_pot_here", "_law_size"] spDraw) (D_law_pick : Def P w K mg base k "_law_pick" sPick ["_law_pot_here", "_law_some"] spPick) (D_law_trim : Def P w K mg base k "_law_trim" s_law_trim ["_law_numbers"] (sp_law_trim K)) : Def P w K mg base (k + 1) "_law_poly" s_law_poly ["_law_pot_here", "_law_most"] (sp_law_poly K) := by
  refine def_of B sc_law_poly (by rintro _ _ _ _ ⟨p, most, rfl, _⟩; rfl) (fun _ _ _ _ _ _ us hl => match us, hl with | [_, _], _ => rfl) fun f cdv A outer s H vs Q E hr h => ?_
  obtain ⟨p, most, rfl, hp, m0, m1, q⟩ := h
  have hu := hr.units
  refine ⟨_, pss_cons (ps_set (i := 2) sc_law_poly.nd rfl (.inl rfl) (pe_lst pa_nil))
    (pss_cons (ps_for PassesOwn.never rfl (pi_range1 (by rfl) M.range (pa_cons (pe_d D_law_draw hr (by rfl) (pa_cons (pv 0) (pa_cons (pe_op op_add (pv 1) pe_int) pa_nil))) pa_nil)) (pg_name (i := 3) sc_law_poly.nd rfl (.inl rfl))
      (pss_one (ps_expr (pe_bm PySem.F.plainAttrs_list PySem.F.slot_list_append PySem.F.type_list_append mt_append (pv 2) (pa_cons (pe_op op_sub (pe_d D_law_draw hr (by rfl) (pa_cons (pv 0) (pa_cons pe_int pa_nil))) pe_int) pa_nil)))))
    (pss_one (ps_ret (pe_tup (pa_cons (pe_d D_law_pick hr (by rfl) (pa_cons (pv 0) (pa_cons (pe_lst (pa_cons pe_int (pa_cons pe_int (pa_cons pe_int (pa_cons pe_int pa_nil))))) pa_nil))) (pa_cons (pe_d D_law_trim hr (by rfl) (pa_cons (pv 2) pa_nil)) pa_nil)))))), ?_⟩
  refine ⟨Nat.zero_le _, fun r nr => ?_⟩
  have ne : r ≠ p := pot_ne hp nr
  have s1 : Same H (upd H r (.lst [])) := same_new nr
  refine ⟨_, rfl, _, rfl, _, 2, rfl, rfl, p, most + 2, rfl, hp.same s1, by omega, by omega, fun d H1 d0 d1 hp1 k1 => ?_⟩
  refine ⟨d, rfl, by omega, by omega, ?_⟩
  refine for_range (lo := 0) (n := d.toNat) (fun i σ H' => ∃ (y : Option V) (ns : List Int), σ = [some (.ref p), some (.int most), some (.ref r), y] ∧ ns.length = i ∧ BN 3 ns ∧ PotOk H' p ∧ Keep p H H' ∧ H' r = some (.lst (VI ns)))
    ⟨none, [], rfl, rfl, fun c hc => absurd hc (by simp), hp1, (Keep.of s1).trans k1, k1 _ _ ne upd_same⟩ (fun i σ' H' hi ⟨y, ns, e, el, ec, pk, kk, hr'⟩ => ?_) (fun σ' H' ⟨y, ns, e, el, ec, pk, kk, hr'⟩ => ?_)
  · subst e
    refine ⟨_, rfl, Or.inl ⟨rfl, _, SqL.of hr'⟩, _, rfl, p, 7, rfl, pk, by omega, by omega, fun z H2 z0 z1 pk2 k2 => ?_⟩
    have hr2 := k2 _ _ ne hr'
    refine ⟨z, 3, rfl, rfl, r, _, _, rfl, rfl, hr2, small (by rw [vi_len]; omega), _, ns ++ [z - 3], rfl, by rw [List.length_append, el]; rfl, fun x hx => ?_, ?_, fun b o hb ho => ?_, ?_⟩
    · rcases List.mem_append.mp hx with h | h
      · exact ec x h
      · rw [List.mem_singleton.mp h]; omega
    · obtain ⟨u, v, e, x⟩ := pk2
      exact ⟨u, v, by rw [upd_ne ne.symm]; exact e, x⟩
    · rw [upd_ne (ne_of_none ho nr)]
      exact k2 _ _ hb (kk _ _ hb ho)
    · rw [upd_same]
      unfold VI
      rw [List.map_append]; rfl
  · subst e
    refine ⟨_, rfl, by show 4 ≤ sizeLine; decide, fun c nc => ?_⟩
    have sc := same_new (o := .lst [V.int 1, V.int 1, V.int 2, V.int 3]) nc
    have nec : c ≠ p := pot_ne pk nc
    refine ⟨p, c, _, rfl, pk.same sc, upd_same, nec, by decide, by decide, fun x H2 hx pk2 k2 => ?_⟩
    have hr2 := k2 _ _ ne (sc _ _ hr')
    refine ⟨_, rfl, r, ns, rfl, hr2, by omega, fun a H3 s3 na ha => ?_⟩
    have nea : a ≠ p := pot_ne pk2 na
    refine ⟨by show 2 ≤ sizeLine; decide, fun t nt => ?_⟩
    have net : t ≠ p := pot_ne (pk2.same s3) nt
    obtain ⟨b, rfl, b0, b3⟩ : ∃ b : Int, x = .int b ∧ 0 < b ∧ b ≤ 3 := by
      simp only [List.mem_cons, List.not_mem_nil, or_false] at hx
      rcases hx with h | h | h | h <;> exact ⟨_, h, by omega, by omega⟩
    have st := same_new (o := .tup [V.int b, V.ref a]) nt
    refine q (.ref t) _ b (trimI ns) ((pk2.same s3).same st) (((kk.trans (Keep.of sc)).trans k2).trans (Keep.of (s3.trans st))) ⟨t, a, rfl, ?_, ?_⟩ ⟨b0, b3, ec.trim, trimI_idem ns⟩ ?_
    · rw [wos_ne (by simp [net])]; exact upd_same
    · rw [wos_ne (by simp [nea])]; exact st _ _ ha
    · have := trimI_len ns; omega
/-- the items of a list that grows, F and the pot p left out -/
def Its (C : Addr) (S : List Addr) (G : Hp) (gs : List V) (xs : List Rat) : Prop := gs.length = xs.length ∧ ∀ (j : Nat) v x, gs[j]? = some v → xs[j]? = some x → NumQ C (wos S G) v x
theorem Its.keep {S : List Addr} {G G' : Hp} {gs : List V} {xs : List Rat} {p : Addr} (h : Its C S G gs xs) (pS : p ∈ S) (k : Keep p G G') : Its C S G' gs xs := ⟨h.1, fun j v x a b => (h.2 j v x a b).same (wos_keep pS k)⟩
theorem Its.snoc {S : List Addr} {G : Hp} {gs : List V} {xs : List Rat} {v : V} {x : Rat} (h : Its C S G gs xs) (n : NumQ C (wos S G) v x) : Its C S G (gs ++ [v]) (xs ++ [x]) :=
  ⟨by rw [List.length_append, List.length_append, h.1]; rfl, fun j u y a b => by
    by_cases l : j < gs.length
    · rw [List.getElem?_append_left l] at a
      rw [List.getElem?_append_left (by have := h.1; omega)] at b
      exact h.2 j u y a b
    · rw [List.getElem?_append_right (by omega)] at a
      rw [List.getElem?_append_right (by have := h.1; omega), ← h.1] at b
      by_cases e : j - gs.length = 0
      · rw [e] at a b
        obtain rfl := Option.some.inj a
        obtain rfl := Option.some.inj b
        exact n
      · rw [List.getElem?_eq_none (by simp; omega)] at a; cases a⟩
theorem Its.upd {S : List Addr} {G : Hp} {gs : List V} {xs : List Rat} {F : Addr} {o : HO} (h : Its C S G gs xs) (fS : F ∈ S) : Its C S (upd G F o) gs xs := ⟨h.1, fun j v x a b => by rw [wos_upd fS]; exact h.2 j v x a b⟩
theorem rats_snoc (b : Int) (A : List Int) (x : Int) : ratsOf b (A ++ [x]) = ratsOf b A ++ [(x : Rat) / (b : Rat)] := by unfold ratsOf; rw [List.map_append]; rfl
-- slots: _law_pot_here 0, _law_own_here 1, _law_bottom 2, _law_found 3, _law_number 4, _law_is_whole 5; cells: 
abbrev s_law_passed : Stmt := top 45
abbrev N_law_passed : List Str := ["_law_pot_here", "_law_own_here", "_law_bottom", "_law_found", "_law_number", "_law_is_whole"]
theorem sc_law_passed : FnScope N_law_passed ["_law_pot_here", "_law_own_here"] (defScope s_law_passed) := ⟨rfl, rfl, rfl, by decide +kernel, rfl, by decide +kernel, by decide +kernel⟩
theorem d_law_passed (B : Bnd K mg "_law_passed" s_law_passed) (M : Mg2 mg) (R : RCls K mg C fI fR) {kr : Nat} (RD : RDef P w K mg base kr C) (DQ : RDefQ P w K mg base kr C) (hk : kr + 8 ≤ k) (D_law_draw : Def P w K mg base k "_law_draw" sDraw ["_law_pot_here", "_law_size"] spDraw) (D_law_pick : Def P w K mg base k "_law_pick" sPick ["_law_pot_here", "_law_some"] spPick) : Def P w K mg base (k + 1) "_law_passed" s_law_passed ["_law_pot_here", "_law_own_here"] (sp_law_passed C) := by
  refine def_of B sc_law_passed (by rintro _ _ _ _ ⟨p, v, b, zs, rfl, _⟩; rfl) (fun _ _ _ _ _ _ us hl => match us, hl with | [_, _], _ => rfl) fun f cdv A outer s H vs Q E hr h => ?_
  obtain ⟨p, v, b, zs, rfl, hp, ho, b0, b30, zb, zl, zt, q⟩ := h
  have hu := hr.units
  refine ⟨_, pss_cons (ps_par (i := 2) (j := 3) rfl sc_law_passed.nd rfl rfl (by decide) rfl rfl (pa_cons (pe_ix (r := rIxT K) ix_tup (pv 1) pe_int (fun _ _ => rfl)) (pa_cons (pe_lst pa_nil) pa_nil)) (by rfl))
    (pss_cons (ps_for PassesOwn.never rfl (pi_list (pe_ix (r := rIxT K) ix_tup (pv 1) pe_int (fun _ _ => rfl))) (pg_name (i := 4) sc_law_passed.nd rfl (.inl rfl))
      (pss_cons (ps_set (i := 5) sc_law_passed.nd rfl (.inl rfl) (pe_cmpR op_eq (pe_op op_mulW (pe_op op_fdivNW (pv 4) (pv 2)) (pv 2)) (pv 4) (nomark _)))
      (pss_one (ps_expr (pe_bm PySem.F.plainAttrs_list PySem.F.slot_list_append PySem.F.type_list_append mt_append (pv 3) (pa_cons (pe_ifExp (PW.pt (pw_and (pt_val (pv 5)) (pw_and1 (pt_cmpR op_eq (pe_d D_law_draw hr (by rfl) (pa_cons (pv 0) (pa_cons pe_int pa_nil))) pe_int (nomark _))))) (pe_op op_fdivNW (pv 4) (pv 2)) (pe_ratQ DQ (hr.mono (by omega)) (by rfl) (pa_cons (pv 4) (pa_cons (pv 2) pa_nil)))) pa_nil))))))
    (C8.pss_cut (ps_if (pt_cmpR op_eq (pe_d D_law_draw hr (by rfl) (pa_cons (pv 0) (pa_cons pe_int pa_nil))) pe_int (nomark _))
      (pss_one (ps_expr (pe_bm PySem.F.plainAttrs_list PySem.F.slot_list_append PySem.F.type_list_append mt_append (pv 3) (pa_cons (pe_d D_law_pick hr (by rfl) (pa_cons (pv 0) (pa_cons (pe_lst (pa_cons pe_int (pa_cons (pe_rat RD (hr.mono (by omega)) (by rfl) (pa_cons pe_int pa_nil)) pa_nil))) pa_nil))) pa_nil))))
      (pss_nil))
    (pss_one (ps_ret (pe_ifExp (pt_cmpR op_eq (pe_d D_law_draw hr (by rfl) (pa_cons (pv 0) (pa_cons pe_int pa_nil))) pe_int (nomark _)) (pv 3) (pe_callTy call_tuple_of (by rfl) M.tuple (by decide +kernel) (pa_cons (pv 3) pa_nil))))))), ?_⟩
  obtain ⟨t, l, rfl, ht', hl'⟩ := ho
  have nt : t ≠ p := fun z => by have := (wos_some.mp ht').1; simp [z] at this
  have nl : l ≠ p := fun z => by have := (wos_some.mp hl').1; simp [z] at this
  have ht : H t = some (.tup [.int b, .ref l]) := wos_le _ _ ht'
  have hl : H l = some (.lst (VI zs)) := wos_le _ _ hl'
  have lv := vi_len zs
  refine ⟨_, rfl, t, _, 0, .int b, rfl, rfl, SqT.of ht, rfl, Nat.zero_le _, fun F nF => ⟨_, _, rfl, ?_⟩⟩
  have nFp : F ≠ p := pot_ne hp nF
  have sF := same_new (o := .lst []) nF
  have pS : p ∈ [F, p] := by simp
  have fS : F ∈ [F, p] := by simp
  refine ⟨_, rfl, t, _, 1, .ref l, rfl, rfl, SqT.of (sF _ _ ht), rfl, l, rfl, ⟨_, SqL.of (sF _ _ hl)⟩, ?_⟩
  refine for_list (xs := VI zs) (fun i σ G => ∃ (o4 o5 : Option V) (gs : List V), σ = [some (.ref p), some (.ref t), some (.int b), some (.ref F), o4, o5] ∧ PotOk G p ∧ Keep p H G ∧ G F = some (.lst gs) ∧ Its C [F, p] G gs (ratsOf b (zs.take i)))
    ⟨none, none, [], rfl, hp.same sF, Keep.of sF, upd_same, rfl, fun j v x a => by cases a⟩ (fun i σ G _ ⟨_, _, gs, _, _, kk, _⟩ => SqL.of (kk _ _ nl hl)) (fun i v σ G hv ⟨o4, o5, gs, e, pk, kk, hF, it⟩ => ?_) (fun σ G ⟨o4, o5, gs, e, pk, kk, hF, it⟩ => ?_)
  · subst e
    obtain ⟨z, hz, rfl⟩ := vi_at hv
    have hz2 := zb z (List.mem_of_getElem? hz)
    have bl : LbI 8990 b := Nat.lt_of_le_of_lt (show b.natAbs ≤ 30 by omega) (Nat.lt_of_lt_of_le (show 30 < 2 ^ 5 by decide) (Nat.pow_le_pow_right (by decide) (by decide)))
    have bl5 : LbI 5 b := show b.natAbs < 2 ^ 5 by omega
    have zl8 : LbI 8 z := show z.natAbs < 2 ^ 8 by omega
    have qz : (z.fdiv b).natAbs ≤ 200 := by
      rw [Int.fdiv_eq_ediv_of_nonneg z (by omega)]
      have := Int.natAbs_ediv_le_natAbs z b
      omega
    have ql8 : LbI 8 (z.fdiv b) := show (z.fdiv b).natAbs < 2 ^ 8 by omega
    have li : gs.length = i := by
      rw [it.1, ratsOf_len, List.length_take]
      have := (List.getElem?_eq_some_iff.mp hz).1
      omega
    have dn : CDivNW z b := bl.div (by omega) (by omega)
    have iz := (List.getElem?_eq_some_iff.mp hz).1
    refine ⟨_, rfl, _, rfl, z, b, rfl, rfl, dn, _, rfl, _, b, rfl, rfl, ql8.cm bl5 (by omega), _, rfl, rfl, ?_⟩
    refine ⟨_, rfl, Or.inl ⟨rfl, _, SqL.of hF⟩, ?_⟩
    have fin : ∀ (u : V) (G2 : Hp), Keep p G G2 → PotOk G2 p → NumQ C (wos [F, p] G2) u ((z : Rat) / b) → (rAppend (.ref F) [u]) G2 fun _ G3 => ∃ (o4 o5 : Option V) (gs : List V), [some (V.ref p), some (.ref t), some (.int b), some (.ref F), some (.int z), some (.bl (decide (V.int (z.fdiv b * b) = V.int z)))] = [some (.ref p), some (.ref t), some (.int b), some (.ref F), o4, o5] ∧ PotOk G3 p ∧ Keep p H G3 ∧ G3 F = some (.lst gs) ∧ Its C [F, p] G3 gs (ratsOf b (zs.take (i + 1))) := fun u G2 k2 pk2 nq => by
      have hF2 := k2 _ _ nFp hF
      refine ⟨F, gs, u, rfl, rfl, hF2, small (by omega), _, _, gs ++ [u], rfl, ?_, fun c o hc ho => ?_, upd_same, ?_⟩
      · obtain ⟨x, y, e, w⟩ := pk2
        exact ⟨x, y, by rw [upd_ne nFp.symm]; exact e, w⟩
      · rw [upd_ne (ne_of_none ho nF)]
        exact k2 _ _ hc (kk _ _ hc ho)
      · rw [takeS hz, rats_snoc]
        exact ((it.keep pS k2).snoc nq).upd fS
    have ratC : ∀ G2, Keep p G G2 → PotOk G2 p → tRatQ C (tCons (tVar 4) (tCons (tVar 2) tNil)) [some (V.ref p), some (.ref t), some (.int b), some (.ref F), some (.int z), some (.bl (decide (V.int (z.fdiv b * b) = V.int z)))] G2 fun y G3 => (rAppend (.ref F) [y]) G3 fun _ G3 => ∃ (o4 o5 : Option V) (gs : List V), [some (V.ref p), some (.ref t), some (.int b), some (.ref F), some (.int z), some (.bl (decide (V.int (z.fdiv b * b) = V.int z)))] = [some (.ref p), some (.ref t), some (.int b), some (.ref F), o4, o5] ∧ PotOk G3 p ∧ Keep p H G3 ∧ G3 F = some (.lst gs) ∧ Its C [F, p] G3 gs (ratsOf b (zs.take (i + 1))) := fun G2 k2 pk2 => by
      refine ⟨_, rfl, _, rfl, z, b, rfl, by omega, bl, fun a G3 na s3 r => ?_⟩
      have naF : a ≠ F := fun e => by rw [e, k2 _ _ nFp hF] at na; cases na
      have nap : a ≠ p := pot_ne pk2 na
      refine fin (.ref a) G3 (k2.trans (Keep.of s3)) (pk2.same s3) ?_
      rw [Rat.divInt_eq_div] at r
      exact (RQ.wos r (by simp [naF, nap])).nq
    refine ⟨_, rfl, _, rfl, ?_⟩
    by_cases hw : z.fdiv b * b = z
    · have hd : decide (V.int (z.fdiv b * b) = V.int z) = true := decide_eq_true (by rw [hw])
      refine iteT2 hd ⟨_, rfl, p, 2, rfl, pk, by omega, by omega, fun d G2 d0 d1 pk2 k2 => ⟨rfl, _, rfl, ite2 (fun _ => ?_) (fun _ => ?_)⟩⟩
      · refine ⟨_, rfl, _, rfl, z, b, rfl, rfl, dn, fin _ G2 k2 pk2 (.inl ?_)⟩
        have ez : (z : Rat) / b = ((z.fdiv b : Int) : Rat) := by
          have c1 := cast_ne (show b ≠ 0 by omega)
          have : (z : Rat) = ((z.fdiv b : Int) : Rat) * b := by rw [← Rat.intCast_mul, hw]
          rw [this, Rat.mul_div_cancel c1]
        rw [ez]
        exact ⟨rfl, rfl⟩
      · exact ratC G2 k2 pk2
    · have hd : decide (V.int (z.fdiv b * b) = V.int z) = false := decide_eq_false fun e => hw (V.int.inj e)
      refine iteF2 hd (iteF ?_)
      exact ratC G (Keep.refl _ _) pk
  · subst e
    rw [lv, List.take_length] at it
    have zero : (0 : Rat) = 0 := rfl
    have sm0 : ∀ x ∈ ratsOf b zs, SmQ x := fun x hx => by
      obtain ⟨z, hz, rfl⟩ := List.mem_map.mp hx
      exact smq_of (zb z hz) b0 b30
    have tr0 : trimQ (ratsOf b zs) = ratsOf b zs := by rw [← ratsOf_trim (by omega), zt]
    refine ⟨fun σ' G' => ∃ (o4 o5 : Option V) (gs : List V) (xs : List Rat), σ' = [some (.ref p), some (.ref t), some (.int b), some (.ref F), o4, o5] ∧ PotOk G' p ∧ Keep p H G' ∧ G' F = some (.lst gs) ∧ Its C [F, p] G' gs xs ∧ (∀ x ∈ xs, SmQ x) ∧ trimQ xs = ratsOf b zs ∧ xs.length ≤ 30, ?_, ?_⟩
    · refine ⟨_, rfl, p, 3, rfl, pk, by omega, by omega, fun d G2 d0 d1 pk2 k2 => ⟨rfl, _, rfl, ite2 (fun _ => ?_) (fun _ => ?_)⟩⟩
      · have hF2 := k2 _ _ nFp hF
        refine ⟨_, rfl, Or.inl ⟨rfl, _, SqL.of hF2⟩, _, rfl, 0, rfl, fun a G3 na s3 r => ⟨by show 2 ≤ sizeLine; decide, fun c nc => ?_⟩⟩
        have sc := same_new (o := .lst [V.int 0, V.ref a]) nc
        have nec : c ≠ p := pot_ne (pk2.same s3) nc
        refine ⟨p, c, _, rfl, (pk2.same s3).same sc, upd_same, nec, by show 1 ≤ 2; decide, by show 2 ≤ 1000; decide, fun x G4 hx pk4 k4 => ?_⟩
        have hF4 := k4 _ _ nFp (sc _ _ (s3 _ _ hF2))
        have k24 : Keep p G G4 := (k2.trans (Keep.of (s3.trans sc))).trans k4
        have naF : a ≠ F := fun e => by rw [e, hF2] at na; cases na
        have nap : a ≠ p := pot_ne pk2 na
        have nq : NumQ C (wos [F, p] G4) x 0 := by
          simp only [List.mem_cons, List.not_mem_nil, or_false] at hx
          rcases hx with h | h
          · exact .inl ⟨h, rfl⟩
          · subst h
            have r0 : RQ C G3 a 0 := r
            have w3 := RQ.wos (S := [F, p]) r0 (by simp [naF, nap])
            exact (w3.same ((wos_same sc).trans (wos_keep pS k4))).nq
        refine ⟨F, gs, x, rfl, rfl, hF4, small (by have := it.1; rw [ratsOf_len] at this; omega), _, _, gs ++ [x], ratsOf b zs ++ [0], rfl, ?_, fun c o hc ho => ?_, upd_same, ((it.keep pS k24).snoc nq).upd fS, fun x hx => ?_, ?_, ?_⟩
        · obtain ⟨x, y, e, w⟩ := pk4
          exact ⟨x, y, by rw [upd_ne nFp.symm]; exact e, w⟩
        · rw [upd_ne (ne_of_none ho nF)]
          exact k24 _ _ hc (kk _ _ hc ho)
        · rcases List.mem_append.mp hx with h | h
          · exact sm0 x h
          · rw [List.mem_singleton.mp h]; exact ⟨by decide, by decide⟩
        · rw [trimQ_zero rfl, tr0]
        · rw [List.length_append, ratsOf_len]; simp; omega
      · exact ⟨_, _, gs, ratsOf b zs, rfl, pk2, kk.trans k2, k2 _ _ nFp hF, it.keep pS k2, sm0, tr0, by rw [ratsOf_len]; omega⟩
    rintro _ G2 ⟨o4, o5, gs2, xs, rfl, pk2, k2, hF2, it2, sm, tr, lx⟩
    have l2 := it2.1
    refine ⟨_, rfl, p, 2, rfl, pk2, by omega, by omega, fun d G3 d0 d1 pk3 k3 => ⟨rfl, _, rfl, ite2 (fun _ => ?_) (fun _ => ?_)⟩⟩
    · have it3 := it2.keep pS k3
      have hF3 := k3 _ _ nFp hF2
      refine ⟨_, rfl, q (.ref F) G3 pk3 (k2.trans k3) ?_⟩
      rw [← tr]
      refine PolyQ.mk (.inl (by rw [wos_ne (by simp [nFp])]; exact hF3)) l2 (fun i v x a b => (it3.2 i v x a b).same (wos_sub fun c hc => ?_)) sm (by omega)
      exact .inl (by simp at hc; simp [hc])
    · have it3 := it2.keep pS k3
      have hF3 := k3 _ _ nFp hF2
      refine ⟨_, rfl, F, gs2, rfl, .inl ⟨SqL.of hF3, fun a na => ?_⟩⟩
      have sa := same_new (o := .tup gs2) na
      have nap : a ≠ p := pot_ne pk3 na
      refine q (.ref a) _ (pk3.same sa) ((k2.trans k3).trans (Keep.of sa)) ?_
      rw [← tr]
      refine PolyQ.mk (.inr (by rw [wos_ne (by simp [nap])]; exact upd_same)) l2 (fun i v x a b => ((it3.2 i v x a b).same (wos_same sa)).same (wos_sub fun c hc => ?_)) sm (by omega)
      exact .inl (by simp at hc; simp [hc])
-- slots: _law_found 0, _law_own_here 1, _law_number 2; cells: 
abbrev s_law_is : Stmt := top 43
abbrev N_law_is : List Str := ["_law_found", "_law_own_here", "_law_number"]
theorem sc_law_is : FnScope N_law_is ["_law_found", "_law_own_here"] (defScope s_law_is) := ⟨rfl, rfl, rfl, by decide +kernel, rfl, by decide +kernel, by decide +kernel⟩
theorem d_law_is (B : Bnd K mg "_law_is" s_law_is) (M : Mg2 mg) (R : RCls K mg C fI fR) (J : RIsi K C) (D_law_own : Def P w K mg base k "_law_own" s_law_own ["_law_found"] (sp_law_own C)) (D_law_same : Def P w K mg base k "_law_same" s_law_same ["_law_one", "_law_other"] (sp_law_same K)) : Def P w K mg base (k + 1) "_law_is" s_law_is ["_law_found", "_law_own_here"] (sp_law_is C) := by
  refine def_of B sc_law_is (by rintro _ _ _ _ ⟨a, us, xs, v, b, zs, N, k1, rfl, _⟩; rfl) (fun _ _ _ _ _ _ us hl => match us, hl with | [_, _], _ => rfl) fun f cdv A outer s H vs Q E hr h => ?_
  obtain ⟨a, us, xs, v, b, zs, N, k1, rfl, ha, hQ, bx, lx, ho, b0, zb, sz, k9, ex, q⟩ := h
  have hu := hr.units
  refine ⟨_, C8.pss_cut (ps_if (PW.pt (pw_or (pt_not (pt_val (pe_callB call_isi (by rfl) M.isi (by decide +kernel) (pa_cons (pv 0) (pa_cons (pe_bltn (v := .ty "list") (by rfl) M.list (by decide +kernel) rfl) pa_nil))))) (pw_or1 (pt_not (pt_val (pe_callB (cr_all rfl) (by rfl) M.all boot_all (pa_cons (pe_lc (own := [("_law_number", 2)]) (g := (gName 2)) (tt := tYes) (te := (tCB (rIsi K) (tCons (tVar 2) (tCons (tC (.ref C)) tNil)))) rfl sc_law_is.nd (pi_list (pv 0)) (blkOk_by (own := [("_law_number", 2)]) (N := N_law_is) (sc := defScope s_law_is) (by decide +kernel)) (fun _ _ _ _ _ => pg_name (i := 2) sc_law_is.nd rfl (.inl rfl)) (fun _ _ _ _ _ => pts_nil) (fun _ _ _ _ _ => pe_callB (show CallR _ _ (rIsi K) from call_isi) (by rfl) M.isi (by decide +kernel) (pa_cons (pv 2) (pa_cons (pe_glob (v := .ref C) (by rfl) R.mgC rfl) pa_nil)))) pa_nil)))))))
      (pss_one (ps_ret pe_bl))
      (pss_nil))
    (pss_one (ps_ret (pe_d D_law_same hr (by rfl) (pa_cons (pe_d D_law_own hr (by rfl) (pa_cons (pv 0) pa_nil)) (pa_cons (pv 1) pa_nil))))), ?_⟩
  have lu := QL.len hQ
  refine ⟨fun σ' G => σ' = [some (.ref a), some v, none] ∧ Same H G, ?_, ?_⟩
  · refine ⟨_, rfl, _, _, _, _, true, rfl, .ty _, .base (.lst ha), kit_ty (r := true) (by decide +kernel), true, rfl, iteF ?_⟩
    refine ⟨_, rfl, a, rfl, ⟨us, SqL.of ha⟩, fun D nD => ?_⟩
    refine lc_l (fun i => (us[i]?).map fun _ => V.bl true) (SqL.of ha) nD (by rw [sizeLine_eq]; omega) (fun i v H1 hv s1 Y N y nn => ?_) (fun H1 s1 hD => ?_)
    · obtain ⟨x, c, hx, rfl, r⟩ := QL.at hQ hv
      obtain ⟨dx, r1⟩ := id (r.same s1)
      exact ⟨rfl, _, rfl, _, _, _, _, true, rfl, .own C, .base (.ins r1 R.cl R.isA R.isN R.isT R.isM), J.c, y _ _ (Same.refl _) (by show (us[i]?).map _ = _; rw [hv]; rfl)⟩
    · have e := fm_bl us (fun _ => true)
      rw [e] at hD
      refine ⟨D, us.map (fun _ => true), rfl, SqL.of hD, _, rfl, iteF2 ?_ ⟨rfl, s1⟩⟩
      have : (us.map fun _ => true).all id = true := by simp
      rw [this]; rfl
  rintro _ G ⟨rfl, sG⟩
  refine ⟨_, rfl, a, us, xs, rfl, sG _ _ ha, RatL.same hQ sG, bx, lx, fun v3 H3 b3 zs3 s3 of3 p3 e3 sz3 bn3 => ?_⟩
  have l3 : zs3.length = xs.length := by rw [← e3, ratsOf_len]
  have lz : zs.length = xs.length := by rw [ex, ratsOf_len]
  exact ⟨_, rfl, v3, v, b3, b, zs3, zs, _, N, 401000, k1, rfl, of3.own, ho.same (sG.trans s3), p3, b0, bn3, zb, sz3, sz, by omega, by omega, by omega, by rw [e3, ex], fun H4 s4 => q H4 ((sG.trans s3).trans s4)⟩
-- slots: _law_own_here 0, _law_number 1, _law_found 2, _law_low 3, _law_one 4; cells: 
abbrev s_law_worth : Stmt := top 46
abbrev N_law_worth : List Str := ["_law_own_here", "_law_number", "_law_found", "_law_low", "_law_one"]
theorem sc_law_worth : FnScope N_law_worth ["_law_own_here", "_law_number"] (defScope s_law_worth) := ⟨rfl, rfl, rfl, by decide +kernel, rfl, by decide +kernel, by decide +kernel⟩
theorem d_law_worth (B : Bnd K mg "_law_worth" s_law_worth) (M : Mg2 mg)   : Def P w K mg base (k + 1) "_law_worth" s_law_worth ["_law_own_here", "_law_number"] (sp_law_worth K) := by
  refine def_of B sc_law_worth (by rintro _ _ _ _ ⟨v, b, zs, tn, p, q', rfl, _⟩; rfl) (fun _ _ _ _ _ _ us hl => match us, hl with | [_, _], _ => rfl) fun f cdv A outer s H vs Q E hr h => ?_
  obtain ⟨v, b, zs, tn, p, q', rfl, ⟨t, l, rfl, ht, hl⟩, b0, b30, zb, zl, hn, q0, q3, p4, q⟩ := h
  have hu := hr.units
  refine ⟨_, pss_cons (ps_asg (pe_tup (pa_cons pe_int (pa_cons pe_int pa_nil))) (pg_tup rfl (pgs_cons (pg_name (i := 2) sc_law_worth.nd rfl (.inl rfl)) (pgs_cons (pg_name (i := 3) sc_law_worth.nd rfl (.inl rfl)) pgs_nil))))
    (pss_cons (ps_for PassesOwn.never rfl (pi_list (pe_revL (pe_ix (r := rIxT K) ix_tup (pv 0) pe_int (fun _ _ => rfl)))) (pg_name (i := 4) sc_law_worth.nd rfl (.inl rfl))
      (pss_one (ps_par (i := 2) (j := 3) rfl sc_law_worth.nd rfl rfl (by decide) rfl rfl (pa_cons (pe_op op_add (pe_op op_mulW (pv 2) (pe_ix (r := rIxT K) ix_tup (pv 1) pe_int (fun _ _ => rfl))) (pe_op op_mulW (pv 4) (pv 3))) (pa_cons (pe_op op_mulW (pv 3) (pe_ix (r := rIxT K) ix_tup (pv 1) pe_int (fun _ _ => rfl))) pa_nil)) (by rfl))))
    (pss_one (ps_ret (pe_tup (pa_cons (pe_op op_mulW (pv 3) (pe_ix (r := rIxT K) ix_tup (pv 0) pe_int (fun _ _ => rfl))) (pa_cons (pe_lst (pa_cons (pe_op op_mulW (pv 2) (pe_ix (r := rIxT K) ix_tup (pv 1) pe_int (fun _ _ => rfl))) pa_nil)) pa_nil)))))), ?_⟩
  have lv := vi_len zs
  refine ⟨by show 2 ≤ sizeLine; decide, fun T nT => ⟨T, _, rfl, SqT.of upd_same, rfl, _, _, rfl, _, _, rfl, rfl, ?_⟩⟩
  have sT := same_new (o := .tup [V.int 0, V.int 1]) nT
  generalize upd H T (.tup [V.int 0, V.int 1]) = H1 at *
  refine ⟨_, rfl, t, _, 1, .ref l, rfl, rfl, SqT.of (sT _ _ ht), rfl, l, _, rfl, SqL.of (sT _ _ hl), fun c nc => ?_⟩
  have sc := same_new (o := .lst (VI zs).reverse) nc
  have hc : (upd H1 c (.lst (VI zs).reverse)) c = some (.lst (VI zs.reverse)) := by rw [upd_same]; unfold VI; rw [List.map_reverse]
  have s2 := sT.trans sc
  generalize upd H1 c (.lst (VI zs).reverse) = H2 at *
  have lr := vi_len zs.reverse
  have b00 : b ≠ 0 := by omega
  have q00 : q' ≠ 0 := by omega
  have lq : LbI 2 q' := show q'.natAbs < 2 ^ 2 by omega
  have lp : LbI 3 p := show p.natAbs < 2 ^ 3 by omega
  have lb : LbI 5 b := show b.natAbs < 2 ^ 5 by omega
  refine ⟨c, rfl, ⟨_, SqL.of hc⟩, ?_⟩
  refine for_list (xs := VI zs.reverse) (fun i σ G => ∃ (fo lo : Int) (o4 : Option V), σ = [some (.ref t), some (.ref tn), some (.int fo), some (.int lo), o4] ∧ G = H2 ∧ 0 < lo ∧ LbI (2 * i + 1) lo ∧ LbI (3 * i + 10) fo ∧ ((fo * q' : Int) : Rat) / ((lo * b : Int) : Rat) = hv (ratsOf b (zs.drop (zs.length - i))) ((p : Rat) / (q' : Rat)))
    ⟨0, 1, none, rfl, rfl, by decide, by show (1 : Int).natAbs < 2 ^ 1; decide, LbI.zero, ?_⟩ (fun i σ G _ ⟨_, _, _, _, e, _⟩ => by rw [e]; exact SqL.of hc) (fun i v σ G hv' ⟨fo, lo, o4, e, eG, l0, ll, lf, eh⟩ => ?_) (fun σ G ⟨fo, lo, o4, e, eG, l0, ll, lf, eh⟩ => ?_)
  · rw [Nat.sub_zero, List.drop_length, Int.zero_mul, Rat.intCast_zero, Rat.div_def, Rat.zero_mul]; rfl
  · subst e
    subst eG
    obtain ⟨z, hz, rfl⟩ := vi_at hv'
    have li := (List.getElem?_eq_some_iff.mp hz).1
    rw [List.length_reverse] at li
    rw [List.getElem?_reverse (by omega)] at hz
    have zz := zb z (List.mem_of_getElem? hz)
    have lz : LbI 8 z := show z.natAbs < 2 ^ 8 by omega
    have c1 := lf.cm lp (show 3 * i + 10 + 3 ≤ 999990 by omega)
    have c2 := lz.cm ll (show 8 + (2 * i + 1) ≤ 999990 by omega)
    have c3 := ll.cm lq (show 2 * i + 1 + 2 ≤ 999990 by omega)
    refine ⟨_, rfl, _, rfl, tn, _, 0, .int p, rfl, rfl, SqT.of (s2 _ _ hn), rfl, fo, p, rfl, rfl, c1, _, rfl, _, rfl, z, lo, rfl, rfl, c2, _, _, rfl, rfl, _, rfl, _, rfl, tn, _, 1, .int q', rfl, rfl, SqT.of (s2 _ _ hn), rfl, lo, q', rfl, rfl, c3, _, _, rfl, ?_⟩
    refine ⟨_, _, _, rfl, rfl, Int.mul_pos l0 q0, ?_, ?_, ?_⟩
    · unfold LbI at *
      rw [Int.natAbs_mul]
      have h1 := Nat.mul_le_mul (Nat.le_of_lt ll) (show q'.natAbs ≤ 3 by omega)
      have h2 := Nat.mul_lt_mul_of_lt_of_le ll (show q'.natAbs ≤ 4 by omega) (by decide)
      rw [show 2 * (i + 1) + 1 = (2 * i + 1) + 2 by omega, Nat.pow_add]
      omega
    · have h1 : (fo * p).natAbs ≤ 4 * fo.natAbs := by rw [Int.natAbs_mul, Nat.mul_comm]; exact Nat.mul_le_mul_right _ p4
      have h2 : (z * lo).natAbs ≤ 200 * lo.natAbs := by rw [Int.natAbs_mul]; exact Nat.mul_le_mul_right _ zz
      have h3 := Int.natAbs_add_le (fo * p) (z * lo)
      unfold LbI at *
      have e1 : 2 ^ (3 * (i + 1) + 10) = 2 ^ (3 * i + 10) * 8 := by rw [show 3 * (i + 1) + 10 = (3 * i + 10) + 3 by omega, Nat.pow_add]
      have e2 : 2 ^ (2 * i + 1) * 256 ≤ 2 ^ (3 * i + 10) := by
        rw [show (256 : Nat) = 2 ^ 8 by decide, ← Nat.pow_add]
        exact Nat.pow_le_pow_right (by decide) (by omega)
      rw [e1]
      generalize 2 ^ (3 * i + 10) = X at *
      generalize 2 ^ (2 * i + 1) = Y at *
      omega
    · have st := worth_step (p := p) (one := z) (show lo ≠ 0 by omega) q00 b00 eh
      have ed := hv_drop (ratsOf_at (b := b) hz) ((p : Rat) / (q' : Rat))
      rw [ratsOf_drop, ratsOf_drop, show zs.length - 1 - i + 1 = zs.length - i by omega] at ed
      rw [show zs.length - (i + 1) = zs.length - 1 - i by omega, ed]
      exact st
  · subst e
    subst eG
    rw [lr, List.length_reverse] at eh ll lf
    rw [Nat.sub_self, List.drop_zero] at eh
    refine ⟨_, rfl, _, rfl, t, _, 0, .int b, rfl, rfl, SqT.of (s2 _ _ ht), rfl, lo, b, rfl, rfl, ll.cm lb (by omega), ?_⟩
    refine ⟨_, rfl, _, rfl, tn, _, 1, .int q', rfl, rfl, SqT.of (s2 _ _ hn), rfl, fo, q', rfl, rfl, lf.cm lq (by omega), by show 1 ≤ sizeLine; decide, fun d nd' => ?_⟩
    have sd := same_new (o := .lst [V.int (fo * q')]) nd'
    refine ⟨by show 2 ≤ sizeLine; decide, fun e ne => ?_⟩
    have se := same_new (o := .tup [V.int (lo * b), V.ref d]) ne
    exact q (.ref e) _ (lo * b) (fo * q') ((s2.trans sd).trans se) ⟨e, d, rfl, (s2.trans sd).free ne, s2.free nd', upd_same, se _ _ upd_same⟩ (Int.mul_pos l0 b0) ((ll.mul lb).mono (by omega)) ((lf.mul lq).mono (by omega)) eh
-- slots: _law_own_here 0, _law_at 1; cells: _law_own_here
abbrev s_law_derived : Stmt := top 47
abbrev N_law_derived : List Str := ["_law_own_here", "_law_at"]
theorem sc_law_derived : FnScope N_law_derived ["_law_own_here"] (defScope s_law_derived) := ⟨rfl, rfl, rfl, by decide +kernel, rfl, by decide +kernel, by decide +kernel⟩
theorem d_law_derived (B : Bnd K mg "_law_derived" s_law_derived) (M : Mg2 mg)  (D_law_trim : Def P w K mg base k "_law_trim" s_law_trim ["_law_numbers"] (sp_law_trim K)) : Def P w K mg base (k + 1) "_law_derived" s_law_derived ["_law_own_here"] (sp_law_derived K) := by
  refine def_of B sc_law_derived (by rintro _ _ _ _ ⟨v, b, zs, N, rfl, _⟩; rfl) (fun _ _ _ _ _ _ us hl => match us, hl with | [_], _ => rfl) fun f cdv A outer s H vs Q E hr h => ?_
  obtain ⟨v, b, zs, N, rfl, ⟨t, l, rfl, ht, hl⟩, b0, zb, n1, zl, q⟩ := h
  have hu := hr.units
  refine ⟨_, pss_one (ps_ret (pe_tup (pa_cons (pe_ix (r := rIxT K) ix_tup (pv 0) pe_int (fun _ _ => rfl)) (pa_cons (pe_d D_law_trim hr (by rfl) (pa_cons (pe_lc (own := [("_law_at", 1)]) (g := (gName 1)) (tt := tYes) (te := (tOp _ (tOp (rIxL K) (tOp (rIxT K) (tVar 0) (tC (.int 1))) (tVar 1)) (tVar 1))) rfl sc_law_derived.nd (pi_range2 (by rfl) M.range (pa_cons pe_int (pa_cons (pe_callB call_len_seq (by rfl) M.len boot_len (pa_cons (pe_ix (r := rIxT K) ix_tup (pv 0) pe_int (fun _ _ => rfl)) pa_nil)) pa_nil))) (blkOk_by (own := [("_law_at", 1)]) (N := N_law_derived) (sc := defScope s_law_derived) (by decide +kernel)) (fun _ _ _ _ _ => pg_name (i := 1) sc_law_derived.nd rfl (.inl rfl)) (fun _ _ _ _ _ => pts_nil) (fun _ _ _ _ _ => pe_op op_mulW (pe_ix (r := rIxL K) ix_list (pe_ix (r := rIxT K) ix_tup (pv 0) pe_int (fun _ _ => rfl)) (pv 1) (fun _ _ => rfl)) (pv 1))) pa_nil)) pa_nil)))), ?_⟩
  have lv := vi_len zs
  refine ⟨_, rfl, t, _, 0, .int b, rfl, rfl, SqT.of ht, rfl, _, rfl, t, _, 1, .ref l, rfl, rfl, SqT.of ht, rfl, l, _, rfl, .inl (SqL.of hl), 1, _, rfl, ⟨by omega, by omega, by omega, by omega⟩, fun D nD => ?_⟩
  have en : ((((VI zs).length : Nat) : Int) - 1).toNat = zs.length - 1 := by omega
  rw [en]
  refine lc_rg (lo := 1) (n := zs.length - 1) (fun i => some (V.int (zs.getD (1 + i) 0 * ((1 + i : Nat) : Int)))) nD (by rw [sizeLine_eq]; omega) (fun i H1 hi s1 Y N' y nn => ?_) (fun H1 s1 hD => ?_)
  · have hz : zs[1 + i]? = some zs[1 + i] := List.getElem?_eq_getElem (by omega)
    have eg : zs.getD (1 + i) 0 = zs[1 + i] := by rw [List.getD_eq_getElem?_getD, hz]; rfl
    have lz : LbI 10 zs[1 + i] := Nat.lt_of_le_of_lt (zb _ (List.getElem_mem _)) (by omega)
    refine ⟨rfl, _, rfl, t, _, 1, .ref l, rfl, rfl, SqT.of (s1 _ _ ht), rfl, _, rfl, l, _, _, .int zs[1 + i], rfl, rfl, SqL.of (s1 _ _ hl), at_of (j := 1 + i) (by omega) (by unfold VI; rw [List.getElem?_map, hz]; rfl), _, rfl, zs[1 + i], 1 + (i : Int), rfl, rfl, lz.cm (show LbI 10 (1 + (i : Int)) from show (1 + (i : Int)).natAbs < 2 ^ 10 by omega) (by omega), y _ _ (Same.refl _) ?_⟩
    show some (V.int (zs.getD (1 + i) 0 * ((1 + i : Nat) : Int))) = some (V.int (zs[1 + i] * (1 + (i : Int))))
    rw [eg, show (((1 + i : Nat) : Nat) : Int) = 1 + (i : Int) by omega]
  · have eL : (List.range (zs.length - 1)).filterMap (fun i => some (V.int (zs.getD (1 + i) 0 * ((1 + i : Nat) : Int)))) = VI (derI zs) := by
      rw [List.filterMap_eq_map']
      unfold derI VI
      rw [List.map_map]; rfl
    rw [eL] at hD
    have ld : (derI zs).length = zs.length - 1 := by unfold derI; simp
    refine ⟨D, _, rfl, hD, by omega, fun a H2 s2 na ha => ?_⟩
    refine ⟨by show 2 ≤ sizeLine; decide, fun e ne => ?_⟩
    have se := same_new (o := .tup [V.int b, V.ref a]) ne
    exact q (.ref e) _ _ ((s1.trans s2).trans se) ⟨e, a, rfl, (s1.trans s2).free ne, s1.free na, upd_same, se _ _ ha⟩ (told_trim (by omega) _) (derI_co (by omega) zs) ((derI_BN zb).mono (Nat.mul_le_mul_left _ zl)).trim
end
end K21

namespace K21
open PySem PySem.Spec PyProof.Rows L2 Fp
section
variable {P : Program} {w : World} {K : PySem.W.Frag} {mg : Str → Option Value} {base : Heap} {k : Nat} {C fI fR : Addr}
def sp_law_worth_right (C : Addr) : Sp := fun vs H Q _ => ∃ (p : Addr) (v1 v2 x1 x2 : V) (b1 b2 : Int) (zs1 zs2 : List Int), vs = [.ref p, v1, v2, x1, x2] ∧ PotOk H p ∧ OwnP (wos [p] H) v1 b1 zs1 ∧ OwnP (wos [p] H) v2 b2 zs2 ∧ Sm3 b1 zs1 ∧ Sm3 b2 zs2 ∧ zs1.length ≤ 6 ∧ zs2.length ≤ 6 ∧ PolyQ C (wos [p] H) x1 (ratsOf b1 zs1) ∧ PolyQ C (wos [p] H) x2 (ratsOf b2 zs2) ∧ ∀ H', PotOk H' p → Keep p H H' → Q (.bl true) H'
def sp_law_right (K : PySem.W.Frag) : Sp := fun vs H Q _ => ∃ p : Addr, vs = [.ref p] ∧ PotOk H p ∧ ∀ H', Keep p H H' → Q (.bl true) H'
theorem allB_of {b : Int} {zs : List Int} {N n : Nat} (h : BN N zs) (hN : N < 2 ^ n) (b0 : 0 < b) (hb : LbI n b) : AllB n (ratsOf b zs) := fun x hx => by
  obtain ⟨z, hz, rfl⟩ := List.mem_map.mp hx
  rw [← Rat.divInt_eq_div]
  exact Bits.divInt (Nat.lt_of_le_of_lt (h z hz) hN) hb (by omega)
theorem told_of {b : Int} {zs : List Int} (b0 : 0 < b) (h : trimI zs = zs) : Told (ratsOf b zs) := by rw [← h, ratsOf_trim (by omega)]; exact trimQ_told _
theorem smq_bits {n : Nat} {x : Rat} (h : Bits n x) (l : n ≤ 90) : SmQ x := by
  have h2 := h.mono l
  exact ⟨Nat.lt_trans h2.1 (by decide), Nat.lt_trans h2.2 (by decide)⟩
theorem PolyQ.ofQL {H : Hp} {a : Addr} {us : List V} {xs : List Rat} (ha : H a = some (.lst us)) (hQ : QL C H us xs) (t : Told xs) (sm : ∀ x ∈ xs, SmQ x) (l : xs.length ≤ 49) : PolyQ C H (.ref a) xs := by
  have h := PolyQ.mk (C := C) (H := H) (a := a) (gs := us) (xs := xs) (.inl ha) (QL.len hQ) (fun i v x h1 h2 => ?_) sm (by rw [QL.len hQ]; exact l)
  · rwa [trimQ_id t] at h
  · obtain ⟨y, c, h3, rfl, r⟩ := QL.at hQ h1
    rw [h2] at h3
    obtain rfl := Option.some.inj h3
    exact r.nq
theorem addQ_allB {xs ys : List Rat} {n m : Nat} (h : AllB n xs) (g : AllB m ys) : AllB (n + m + 1) (addQ xs ys) := fun z hz => by
  unfold addQ at hz
  rcases List.mem_append.mp hz with hz | hz
  · rcases List.mem_append.mp hz with hz | hz
    · obtain ⟨i, hi⟩ := List.getElem?_of_mem hz
      rw [List.getElem?_zipWith] at hi
      cases e1 : xs[i]? with
      | none => rw [e1] at hi; simp at hi
      | some a =>
        cases e2 : ys[i]? with
        | none => rw [e1, e2] at hi; simp at hi
        | some b =>
          rw [e1, e2] at hi
          simp at hi
          rw [← hi]
          exact (h a (List.mem_of_getElem? e1)).add (g b (List.mem_of_getElem? e2))
    · exact (h z (List.mem_of_mem_drop hz)).mono (by omega)
  · exact (g z (List.mem_of_mem_drop hz)).mono (by omega)
theorem smz {b : Int} {zs : List Int} (m : Sm3 b zs) : Sz 8 3 b := ⟨by decide, show b.natAbs < 2 ^ 8 by have := m.b0; have := m.b3; omega⟩
theorem sm3_allB {b : Int} {zs : List Int} (m : Sm3 b zs) : AllB 2 (ratsOf b zs) := allB_of m.z3 (by decide) m.b0 (show b.natAbs < 2 ^ 2 by have := m.b0; have := m.b3; omega)
theorem sm3_den {b : Int} {zs : List Int} (m : Sm3 b zs) : 0 < b.natAbs ∧ b.natAbs < 2 ^ 63 ∧ ∀ x ∈ ratsOf b zs, x.den ∣ b.natAbs := by
  have b0 := m.b0
  have b3 := m.b3
  refine ⟨by omega, by omega, fun x hx => ?_⟩
  obtain ⟨z, hz, rfl⟩ := List.mem_map.mp hx
  rw [← Rat.divInt_eq_div, Rat.den_divInt, if_neg (by omega)]
  exact Nat.div_dvd_of_dvd (Int.natCast_dvd_natCast.mp (by rw [Int.dvd_natAbs]; exact Int.gcd_dvd_left ..))
/-- what the product comes to -/
theorem times_eq {b1 b2 : Int} {zs1 zs2 : List Int} {zs : List Rat} (m1 : Sm3 b1 zs1) (m2 : Sm3 b2 zs2) (h : ∀ n, co zs n = prodc (ratsOf b1 zs1) (co (ratsOf b2 zs2)) n) (l : zs.length = (if ratsOf b1 zs1 = [] ∨ ratsOf b2 zs2 = [] then 0 else (ratsOf b1 zs1).length + (ratsOf b2 zs2).length - 1)) :
    Told zs ∧ zs = ratsOf (b1 * b2) (trimI (timesI zs1 zs2)) := by
  have h1 := m1.b0
  have h2 := m2.b0
  have t : Told zs := by
    by_cases e : ratsOf b1 zs1 = [] ∨ ratsOf b2 zs2 = []
    · rw [if_pos e] at l
      rw [List.length_eq_zero_iff.mp l]; exact told_nil
    · rw [if_neg e] at l
      simp only [not_or] at e
      exact prod_told (told_of h1 m1.tr) (told_of h2 m2.tr) e.1 e.2 l h
  refine ⟨t, told_ext t (told_trim (fun z => by rcases Int.mul_eq_zero.mp z with e | e <;> omega) _) fun n => ?_⟩
  rw [h, timesI_co (by omega) (by omega)]
-- slots: _law_pot_here 0, _law_first 1, _law_second 2, _law_one 3, _law_other 4, _law_number 5, _law_handed 6, _law_low 7, _law_high 8, _law_own_here 9, _law_worth_now 10, _law_due 11; cells: 
abbrev s_law_worth_right : Stmt := top 48
theorem bk_worth_0_number_poly : BindK 0 2 true "worth" s_worth ["poly", "number"] ["number", "poly"] := fun _ _ _ _ _ _ us ws hu hw => match us, ws, hu, hw with | [], [_, _], _, _ => rfl
abbrev N_law_worth_right : List Str := ["_law_pot_here", "_law_first", "_law_second", "_law_one", "_law_other", "_law_number", "_law_handed", "_law_low", "_law_high", "_law_own_here", "_law_worth_now", "_law_due"]
theorem sc_law_worth_right : FnScope N_law_worth_right ["_law_pot_here", "_law_first", "_law_second", "_law_one", "_law_other"] (defScope s_law_worth_right) := ⟨rfl, rfl, rfl, by decide +kernel, rfl, by decide +kernel, by decide +kernel⟩
theorem d_law_worth_right (B : Bnd K mg "_law_worth_right" s_law_worth_right) (M : Mg2 mg) (R : RCls K mg C fI fR) (J : RIsi K C) {kr : Nat} (DQ : RDefQ P w K mg base kr C) (PT : PropX P w K mg base kr C "top" (spTopR C)) (PB : PropX P w K mg base kr C "bottom" (spBotR C)) (EX : EqX P w K mg base kr C) (AD : BinX P w K mg base kr C .Add (spAddQ C)) (MU : BinX P w K mg base kr C .Mult (spMulQ C)) (hk : kr + 8 ≤ k) (D_plus : Def P w K mg base k "plus" s_plus ["poly", "other"] (sp_plus C)) (D_times : Def P w K mg base k "times" s_times ["poly", "other"] (sp_times C)) (D_worth : Def P w K mg base k "worth" s_worth ["poly", "number"] (sp_worth C)) (D_law_draw : Def P w K mg base k "_law_draw" sDraw ["_law_pot_here", "_law_size"] spDraw) (D_law_pick : Def P w K mg base k "_law_pick" sPick ["_law_pot_here", "_law_some"] spPick) (D_law_worth : Def P w K mg base k "_law_worth" s_law_worth ["_law_own_here", "_law_number"] (sp_law_worth K)) : Def P w K mg base (k + 1) "_law_worth_right" s_law_worth_right ["_law_pot_here", "_law_first", "_law_second", "_law_one", "_law_other"] (sp_law_worth_right C) := by
  refine def_of B sc_law_worth_right (by rintro _ _ _ _ ⟨p, v1, v2, x1, x2, b1, b2, zs1, zs2, rfl, _⟩; rfl) (fun _ _ _ _ _ _ us hl => match us, hl with | [_, _, _, _, _], _ => rfl) fun f cdv A outer s H vs Q E hr h => ?_
  obtain ⟨p, v1, v2, x1, x2, b1, b2, zs1, zs2, rfl, hp, o1, o2, m1, m2, l1, l2, c1, c2, q⟩ := h
  have hu := hr.units
  refine ⟨_, pss_cons (ps_set (i := 5) sc_law_worth_right.nd rfl (.inl rfl) (pe_tup (pa_cons (pe_op op_sub (pe_d D_law_draw hr (by rfl) (pa_cons (pv 0) (pa_cons pe_int pa_nil))) pe_int) (pa_cons (pe_d D_law_pick hr (by rfl) (pa_cons (pv 0) (pa_cons (pe_lst (pa_cons pe_int (pa_cons pe_int (pa_cons pe_int (pa_cons pe_int pa_nil))))) pa_nil))) pa_nil))))
    (pss_cons (ps_set (i := 6) sc_law_worth_right.nd rfl (.inl rfl) (pe_ifExp (pt_cmpR op_eq (pe_ix (r := rIxT K) ix_tup (pv 5) pe_int (fun _ _ => rfl)) pe_int (nomark _)) (pe_ix (r := rIxT K) ix_tup (pv 5) pe_int (fun _ _ => rfl)) (pe_ratQ DQ (hr.mono (by omega)) (by rfl) (pa_cons (pe_ix (r := rIxT K) ix_tup (pv 5) pe_int (fun _ _ => rfl)) (pa_cons (pe_ix (r := rIxT K) ix_tup (pv 5) pe_int (fun _ _ => rfl)) pa_nil)))))
    (pss_cons (ps_par (i := 7) (j := 8) rfl sc_law_worth_right.nd rfl rfl (by decide) rfl rfl (pa_cons (pe_d D_worth hr (by rfl) (pa_cons (pv 3) (pa_cons (pv 6) pa_nil))) (pa_cons (pe_dk0 D_worth hr (by rfl) 2 true ["number", "poly"] bk_worth_0_number_poly (pk_cons (pv 6) (pk_cons (pv 4) pk_nil))) pa_nil)) (by rfl))
    (pss_cons (ps_for PassesOwn.never rfl (pi_list (pe_lst (pa_cons (pe_tup (pa_cons (pv 1) (pa_cons (pv 7) pa_nil))) (pa_cons (pe_tup (pa_cons (pv 2) (pa_cons (pv 8) pa_nil))) pa_nil)))) (pg_tup rfl (pgs_cons (pg_name (i := 9) sc_law_worth_right.nd rfl (.inl rfl)) (pgs_cons (pg_name (i := 10) sc_law_worth_right.nd rfl (.inl rfl)) pgs_nil)))
      (pss_cons (ps_set (i := 11) sc_law_worth_right.nd rfl (.inl rfl) (pe_d D_law_worth hr (by rfl) (pa_cons (pv 9) (pa_cons (pv 5) pa_nil))))
      (pss_one (ps_if (PW.pt (pw_or (pt_not (pt_val (pe_callB call_isi (by rfl) M.isi (by decide +kernel) (pa_cons (pv 10) (pa_cons (pe_glob (v := .ref C) (by rfl) R.mgC rfl) pa_nil))))) (pw_or1 (pt_cmpR op_ne (pe_op op_mulW (pe_propX PT (hr.mono (by omega)) R.cl (pv 10) (by rfl)) (pe_ix (r := rIxT K) ix_tup (pv 11) pe_int (fun _ _ => rfl))) (pe_op op_mulW (pe_ix (r := rIxL K) ix_list (pe_ix (r := rIxT K) ix_tup (pv 11) pe_int (fun _ _ => rfl)) pe_int (fun _ _ => rfl)) (pe_propX PB (hr.mono (by omega)) R.cl (pv 10) (by rfl))) (nomark _)))))
        (pss_one (ps_ret pe_bl))
        (pss_nil)))))
    (pss_one (ps_ret (pe_and (pe_cmpR (op_eqR EX (hr.mono (by omega))) (pe_d D_worth hr (by rfl) (pa_cons (pe_d D_plus hr (by rfl) (pa_cons (pv 3) (pa_cons (pv 4) pa_nil))) (pa_cons (pv 6) pa_nil))) (pe_op (op_ownX AD (hr.mono (by omega))) (pv 7) (pv 8)) (nomark _)) (pe_one (pe_cmpR (op_eqR EX (hr.mono (by omega))) (pe_d D_worth hr (by rfl) (pa_cons (pe_d D_times hr (by rfl) (pa_cons (pv 3) (pa_cons (pv 4) pa_nil))) (pa_cons (pv 6) pa_nil))) (pe_op (op_ownX MU (hr.mono (by omega))) (pv 7) (pv 8)) (nomark _))))))))), ?_⟩
  have pS : p ∈ [p] := by simp
  refine ⟨_, rfl, p, 9, rfl, hp, by omega, by omega, fun d H1 d0 d1 pk1 k1 => ⟨d, 4, rfl, rfl, _, rfl, by show 4 ≤ sizeLine; decide, fun c nc => ?_⟩⟩
  have sc := same_new (o := .lst [V.int 1, V.int 1, V.int 2, V.int 3]) nc
  have nec : c ≠ p := pot_ne pk1 nc
  refine ⟨p, c, _, rfl, pk1.same sc, upd_same, nec, by decide, by decide, fun x H2 hx pk2 k2 => ?_⟩
  obtain ⟨q', rfl, q0, q3⟩ : ∃ b : Int, x = .int b ∧ 0 < b ∧ b ≤ 3 := by
    simp only [List.mem_cons, List.not_mem_nil, or_false] at hx
    rcases hx with h | h | h | h <;> exact ⟨_, h, by omega, by omega⟩
  refine ⟨by show 2 ≤ sizeLine; decide, fun T nT => ?_⟩
  have sT := same_new (o := .tup [V.int (d - 4), V.int q']) nT
  have kk := ((k1.trans (Keep.of sc)).trans k2).trans (Keep.of sT)
  have pk3 := pk2.same sT
  have hT : (upd H2 T (.tup [V.int (d - 4), V.int q'])) T = some (.tup [V.int (d - 4), V.int q']) := upd_same
  dsimp only
  generalize upd H2 T (.tup [V.int (d - 4), V.int q']) = H3 at *
  have o1 := (o1.same (wos_keep pS kk)).same wos_le
  have o2 := (o2.same (wos_keep pS kk)).same wos_le
  have c1 := (c1.same (wos_keep pS kk)).same wos_le
  have c2 := (c2.same (wos_keep pS kk)).same wos_le
  clear hx k1 k2
  generalize hpn : d - 4 = p' at *
  have p4 : p'.natAbs ≤ 4 := by omega
  have bz : Bits 3 ((p' : Rat) / (q' : Rat)) := by
    rw [← Rat.divInt_eq_div]
    exact Bits.divInt (show p'.natAbs < 2 ^ 3 by omega) (show q'.natAbs < 2 ^ 3 by omega) (by omega)
  have lx := ratsOf_len b1 zs1
  have ly := ratsOf_len b2 zs2
  have m1b := m1.b0
  have m1c := m1.b3
  have m2b := m2.b0
  have m2c := m2.b3
  have bx := sm3_allB m1
  have by_ := sm3_allB m2
  generalize hz : (p' : Rat) / (q' : Rat) = z at *
  show tSeq (tAsg _ _) _ _ [some (.ref p), some v1, some v2, some x1, some x2, some (.ref T), none, none, none, none, none, none] H3
  refine seq_asg (φ := fun v H' => NumQ C H' v z) (fun Q' q1 => ?_) (fun y G sG nq => ?_)
  · refine ⟨_, rfl, T, _, 1, .int q', rfl, rfl, SqT.of hT, rfl, rfl, _, rfl, ite2 (fun e => ?_) (fun e => ?_)⟩
    · have e1 : q' = 1 := by have := of_decide_eq_true e; injection this
      refine ⟨_, rfl, T, _, 0, .int p', rfl, rfl, SqT.of hT, rfl, q1 _ _ (Same.refl _) ?_⟩
      rw [← hz, e1, Rat.intCast_one, Rat.div_def, show (1 : Rat)⁻¹ = 1 from Rat.inv_eq_of_mul_eq_one (Rat.mul_one 1), Rat.mul_one]
      exact NumQ.int
    · refine ⟨_, rfl, T, _, 0, .int p', rfl, rfl, SqT.of hT, rfl, _, rfl, T, _, 1, .int q', rfl, rfl, SqT.of hT, rfl, p', q', rfl, by omega, Nat.lt_of_le_of_lt (show q'.natAbs ≤ 3 by omega) (Nat.lt_of_lt_of_le (show 3 < 2 ^ 2 by decide) (Nat.pow_le_pow_right (by decide) (by decide))), fun a G na sG r => q1 _ _ sG ?_⟩
      rw [Rat.divInt_eq_div, hz] at r
      exact r.nq
  have bb1 : ((ratsOf b1 zs1).length + 2) * (2 + 3 + 2) ≤ 4000 := by omega
  have bb2 : ((ratsOf b2 zs2).length + 2) * (2 + 3 + 2) ≤ 4000 := by omega
  refine ⟨_, rfl, _, rfl, x1, y, _, z, 2, 3, rfl, c1.same sG, nq, by omega, bx, bz, bb1, fun a1 G1 s1 r1 bw1 => ?_⟩
  refine ⟨_, rfl, _, rfl, rfl, rfl, x2, y, _, z, 2, 3, rfl, c2.same (sG.trans s1), nq.same s1, by omega, by_, bz, bb2, fun a2 G2 s2 r2 bw2 => ⟨_, _, rfl, ?_⟩⟩
  have sA := (sG.trans s1).trans s2
  have r1 := r1.same s2
  have nq := nq.same (s1.trans s2)
  have c1 := c1.same sA
  have c2 := c2.same sA
  have o1 := o1.same sA
  have o2 := o2.same sA
  have hT := sA _ _ hT
  have kk := kk.trans (Keep.of sA)
  have pkA := pk3.same sA
  clear s1 s2 sG
  refine ⟨_, rfl, _, rfl, by show 2 ≤ sizeLine; decide, fun t1 nt1 => ?_⟩
  have st1 := same_new (o := .tup [v1, V.ref a1]) nt1
  refine ⟨_, rfl, _, rfl, by show 2 ≤ sizeLine; decide, fun t2 nt2 => ?_⟩
  have st2 := same_new (o := .tup [v2, V.ref a2]) nt2
  refine ⟨by show 2 ≤ sizeLine; decide, fun L nL => ?_⟩
  have sL := same_new (o := .lst [V.ref t1, V.ref t2]) nL
  have g1 := sL _ _ (st2 _ _ (upd_same : (upd G2 t1 (.tup [v1, V.ref a1])) t1 = _))
  have g2 := sL _ _ (upd_same : (upd (upd G2 t1 (.tup [v1, V.ref a1])) t2 (.tup [v2, V.ref a2])) t2 = _)
  have gL : (upd (upd (upd G2 t1 (.tup [v1, V.ref a1])) t2 (.tup [v2, V.ref a2])) L (.lst [V.ref t1, V.ref t2])) L = some (.lst [V.ref t1, V.ref t2]) := upd_same
  have sB := (st1.trans st2).trans sL
  generalize upd (upd (upd G2 t1 (.tup [v1, V.ref a1])) t2 (.tup [v2, V.ref a2])) L (.lst [V.ref t1, V.ref t2]) = G3 at *
  have item : ∀ (i : Nat) (v : V), [V.ref t1, V.ref t2][i]? = some v → ∃ (t : Addr) (u : V) (a : Addr) (b : Int) (zs : List Int), v = .ref t ∧ G3 t = some (.tup [u, .ref a]) ∧ OwnP G3 u b zs ∧ Sm3 b zs ∧ zs.length ≤ 6 ∧ RQ C G3 a (hv (ratsOf b zs) z) ∧ Bits 4000 (hv (ratsOf b zs) z) := fun i v h => by
    match i, h with
    | 0, h => obtain rfl := Option.some.inj h; exact ⟨t1, v1, a1, b1, zs1, rfl, g1, o1.same sB, m1, l1, r1.same sB, bw1⟩
    | 1, h => obtain rfl := Option.some.inj h; exact ⟨t2, v2, a2, b2, zs2, rfl, g2, o2.same sB, m2, l2, r2.same sB, bw2⟩
    | i + 2, h => cases h
  refine ⟨L, rfl, ⟨_, SqL.of gL⟩, ?_⟩
  refine for_list (xs := [V.ref t1, V.ref t2]) (fun i σ G => ∃ (o9 o10 o11 : Option V), σ = [some (.ref p), some v1, some v2, some x1, some x2, some (.ref T), some y, some (.ref a1), some (.ref a2), o9, o10, o11] ∧ Same G3 G)
    ⟨none, none, none, rfl, Same.refl _⟩ (fun i σ G _ ⟨_, _, _, _, sm⟩ => SqL.of (sm _ _ gL)) (fun i v σ G hv' ⟨o9, o10, o11, e, sm⟩ => ?_) (fun σ G ⟨o9, o10, o11, e, sm⟩ => ?_)
  · subst e
    obtain ⟨t, u, a, b, zs, rfl, ht, ho, hm, hl, hr, hb⟩ := item i v hv'
    have hmb := hm.b0
    have hmc := hm.b3
    refine ⟨t, _, rfl, SqT.of (sm _ _ ht), rfl, _, _, rfl, _, _, rfl, rfl, ?_⟩
    refine ⟨_, rfl, _, rfl, u, b, zs, T, p', q', rfl, ho.same sm, hmb, by omega, hm.z3.mono (by decide), by omega, sm _ _ (sB _ _ hT), q0, q3, p4, fun vd G4 dd td s4 of4 dd0 ld lt eq => ?_⟩
    obtain ⟨Td, Ld, rfl, _, _, hTd, hLd⟩ := of4
    have s34 := sm.trans s4
    have hr4 := hr.same s34
    obtain ⟨dx, hr5⟩ := id hr4
    refine ⟨_, rfl, _, _, _, _, true, rfl, .own C, .base (.ins hr5 R.cl R.isA R.isN R.isT R.isM), J.c, true, rfl, iteF ?_⟩
    refine ⟨_, rfl, a, dx, _, rfl, hr5, a, _, _, rfl, hr4, _, rfl, Td, _, 0, .int dd, rfl, rfl, SqT.of hTd, rfl, _, dd, rfl, rfl, hb.1.cm ld (by omega), ?_⟩
    refine ⟨_, rfl, Td, _, 1, .ref Ld, rfl, rfl, SqT.of hTd, rfl, Ld, _, 0, .int td, rfl, rfl, SqL.of hLd, rfl, _, rfl, a, dx, _, rfl, hr5, a, _, _, rfl, hr4, td, _, rfl, rfl, lt.cm hb.2 (by omega), rfl, _, rfl, iteF2 ?_ ⟨_, _, _, rfl, s34⟩⟩
    rw [hz] at eq
    have en := Rat.num_divInt_den (hv (ratsOf b zs) z)
    rw [Rat.divInt_eq_div] at en
    have dn := den_pos (hv (ratsOf b zs) z)
    have := (frac_eq (x := td) (y := (hv (ratsOf b zs) z).num) (b1 := dd) (b2 := (hv (ratsOf b zs) z).den) (by omega) (by omega)).mp (by rw [eq, en])
    show (!decide (V.int ((hv (ratsOf b zs) z).num * dd) = V.int (td * (hv (ratsOf b zs) z).den))) = false
    rw [this]; simp
  · subst e
    have sE := sB.trans sm
    have c1 := c1.same sE
    have c2 := c2.same sE
    have nq := nq.same sE
    have r1 := r1.same sE
    have r2 := r2.same sE
    have kk := kk.trans (Keep.of sE)
    have pkE := pkA.same sE
    refine ⟨_, rfl, _, rfl, x1, x2, _, _, 2, 2, rfl, c1, c2, by omega, by omega, bx, by_, by omega, fun v5 G5 s5 ⟨a5, u5, e5, na5, h5, q5⟩ => ?_⟩
    subst e5
    have ab5 : AllB 5 (trimQ (addQ (ratsOf b1 zs1) (ratsOf b2 zs2))) := fun x hx => addQ_allB bx by_ x (trimQ_mem hx)
    have ln5 : (trimQ (addQ (ratsOf b1 zs1) (ratsOf b2 zs2))).length ≤ 6 := by
      have := trimQ_len (addQ (ratsOf b1 zs1) (ratsOf b2 zs2))
      rw [addQ_len] at this; omega
    have P5 := PolyQ.ofQL h5 q5 (trimQ_told _) (fun x hx => smq_bits (ab5 x hx) (by omega)) (by omega)
    have bb5 : ((trimQ (addQ (ratsOf b1 zs1) (ratsOf b2 zs2))).length + 2) * (5 + 3 + 2) ≤ 4000 := by omega
    refine ⟨_, rfl, _, y, _, z, 5, 3, rfl, P5, nq.same s5, by omega, ab5, bz, bb5, fun a6 G6 s6 r6 bw6 => ?_⟩
    have s56 := s5.trans s6
    obtain ⟨dx1, r1b⟩ := id (r1.same s56)
    refine ⟨_, rfl, _, rfl, a1, dx1, _, rfl, r1b, (r2.same s56).nq.own, a1, _, _, _, 4000, 4000, rfl, r1.same s56, (r2.same s56).nq, bw1, bw2, by omega, fun r7 G7 s7 rr7 => ⟨⟨r7, rfl⟩, ?_⟩⟩
    have e7 := hv_add (xs := ratsOf b1 zs1) (ys := ratsOf b2 zs2) (zs := trimQ (addQ (ratsOf b1 zs1) (ratsOf b2 zs2))) (fun n => by rw [trimQ_co, addQ_co]) z
    rw [e7] at r6
    have r6' := r6.same s7
    obtain ⟨d6, r6b⟩ := id r6'
    obtain ⟨d7, r7b⟩ := id rr7
    refine ⟨⟨a6, r7, d6, d7, _, _, rfl, rfl, r6b, r7b, _, _, r6', rr7⟩, fun G8 e8 => ⟨_, rfl, iteT ?_⟩⟩
    have s8 : Same G7 G8 := e8
    have sF := (s56.trans s7).trans s8
    obtain ⟨n1, n2, n3⟩ := sm3_den m1
    obtain ⟨n4, n5, n6⟩ := sm3_den m2
    refine ⟨_, rfl, _, rfl, x1, x2, _, _, 2, 2, _, _, rfl, c1.same sF, c2.same sF, by omega, bx, by_, by omega, by omega, n1, n2, n4, n5, n3, n6, fun v9 G9 ts9 s9 ⟨a9, u9, e9, na9, h9, q9⟩ co9 ln9 => ?_⟩
    subst e9
    obtain ⟨t9, eq9⟩ := times_eq m1 m2 co9 ln9
    have ab9 : AllB 6 ts9 := by
      rw [eq9]
      refine allB_of ((timesI_BN m1.z3 m2.z3).trim.mono (show _ ≤ 54 by omega)) (by decide) (Int.mul_pos m1b m2b) ?_
      have := Int.mul_le_mul m1c m2c (by omega) (by omega)
      have := Int.mul_pos m1b m2b
      show (b1 * b2).natAbs < 2 ^ 6
      omega
    have l9 : ts9.length ≤ 11 := by rw [ln9]; split <;> omega
    have P9 := PolyQ.ofQL h9 q9 t9 (fun x hx => smq_bits (ab9 x hx) (by omega)) (by omega)
    have bb9 : (ts9.length + 2) * (6 + 3 + 2) ≤ 4000 := by omega
    have sG' := sF.trans s9
    refine ⟨_, rfl, _, y, _, z, 6, 3, rfl, P9, nq.same sG', by omega, ab9, bz, bb9, fun aA GA sA' rA bwA => ?_⟩
    have sH := sG'.trans sA'
    obtain ⟨dxA, r1A⟩ := id (r1.same sH)
    refine ⟨_, rfl, _, rfl, a1, dxA, _, rfl, r1A, (r2.same sH).nq.own, a1, _, _, _, 4000, 4000, rfl, r1.same sH, (r2.same sH).nq, bw1, bw2, by omega, fun rB GB sB' rrB => ⟨⟨rB, rfl⟩, ?_⟩⟩
    have eB := hv_mul co9 z
    rw [eB] at rA
    have rA' := rA.same sB'
    obtain ⟨dA, rAb⟩ := id rA'
    obtain ⟨dB, rBb⟩ := id rrB
    refine ⟨⟨aA, rB, dA, dB, _, _, rfl, rfl, rAb, rBb, _, _, rA', rrB⟩, fun GC eC => ?_⟩
    have sC : Same GB GC := eC
    have sZ := (sH.trans sB').trans sC
    exact q GC (pkE.same sZ) (kk.trans (Keep.of sZ))
end
end K21

namespace K21
open PySem PySem.Spec PyProof.Rows L2 Fp
section
variable {P : Program} {w : World} {K : PySem.W.Frag} {mg : Str → Option Value} {base : Heap} {k : Nat} {C fI fR : Addr}
theorem sp_is_mk {H : Hp} {Q : VK} {a : Addr} {us : List V} {xs : List Rat} {v : V} {b : Int} {zs : List Int} {N k1 : Nat} (ha : H a = some (.lst us)) (hQ : QL C H us xs) (bx : AllB 100 xs) (lx : xs.length ≤ 49) (ho : OwnP H v b zs) (b0 : 0 < b) (zb : BN N zs) (sz : Sz k1 N b) (ex : xs = ratsOf b zs) (q : Ret H Q (.bl true)) (k9 : k1 ≤ 1000 := by omega) : sp_law_is C [.ref a, v] H Q E0 :=
  ⟨a, us, xs, v, b, zs, N, k1, rfl, ha, hQ, fun x hx => (bx x hx).mono (by omega), lx, ho, b0, zb, sz, k9, ex, q⟩
theorem sh_pair {H : Hp} {a : Addr} {x1 x2 : V} {t1 t2 : Str} (h : H a = some (.lst [x1, x2])) (h1 : Sh C H 1 x1 t1) (h2 : Sh C H 1 x2 t2) : Sh C H 2 (.ref a) (listText [t1, t2]) := .lst h (by simp) rfl fun i x t g1 g2 => by
  match i, g1, g2 with
  | 0, g1, g2 => cases g1; cases g2; exact h1
  | 1, g1, g2 => cases g1; cases g2; exact h2
  | i + 2, g1, _ => cases g1
theorem pair_len {t1 t2 : Str} (h1 : t1.length ≤ Bz 1) (h2 : t2.length ≤ Bz 1) : (listText [t1, t2]).length ≤ sizeLine := by
  have := listText_le [t1, t2]
  have := piled_all (ts := [t1, t2]) (L := Bz 1) (fun t ht => by simp at ht; rcases ht with h | h <;> rw [h] <;> assumption)
  have e : Bz 1 = 36200 := rfl
  rw [e] at this
  rw [sizeLine_eq]
  simp at this
  omega
theorem OwnF.ownW {H H' : Hp} {p : Addr} {v : V} {b : Int} {zs : List Int} (h : OwnF H H' v b zs) (hp : PotOk H p) : OwnP (wos [p] H') v b zs := by
  obtain ⟨t, l, h1, h2, h3, h4, h5⟩ := h
  have n1 := pot_ne hp h2
  have n2 := pot_ne hp h3
  exact ⟨t, l, h1, by rw [wos_ne (by simp [n1])]; exact h4, by rw [wos_ne (by simp [n2])]; exact h5⟩
theorem told_len {H : Hp} {x : V} {b : Int} {zs : List Int} (h : PolyQ C H x (ratsOf b zs)) : (toldP H x).length = zs.length := by rw [h.2.2, List.length_map, ratsOf_len]
theorem int_sk {i : Int} (h : i.natAbs < 100) : okS i := Nat.lt_trans h (by decide)
theorem sum_rats {f b1 b2 : Int} {zs1 zs2 zs : List Int} {xs : List Rat} (t : Told (ratsOf (b1 * b2) zs)) (c : ∀ n, co (ratsOf (b1 * b2) zs) n = co (ratsOf b1 zs1) n + (f : Rat) * co (ratsOf b2 zs2) n) (e : ∀ n, co xs n = co (ratsOf b1 zs1) n + (f : Rat) * co (ratsOf b2 zs2) n) : trimQ xs = ratsOf (b1 * b2) zs :=
  told_ext (trimQ_told _) t fun n => by rw [trimQ_co, e, c]
theorem neg_allB {ys : List Rat} {n : Nat} (h : AllB n ys) : AllB n (ys.map fun y => -y) := fun z hz => by
  obtain ⟨y, hy, rfl⟩ := List.mem_map.mp hz
  exact (h y hy).neg
theorem trim_allB {ys : List Rat} {n m : Nat} (h : AllB n ys) (l : n ≤ m) : AllB m (trimQ ys) := fun z hz => (h z (trimQ_mem hz)).mono l
def by_ (top : Int) : List Int := if top = 0 then [] else [top]
theorem by_co {top b : Int} (i : Nat) : co (ratsOf b (by_ top)) i = single 0 ((top : Rat) / (b : Rat)) i := by
  unfold by_ single
  by_cases h : top = 0
  · rw [if_pos h, h, Rat.intCast_zero, Rat.div_def, Rat.zero_mul]
    split <;> rfl
  · rw [if_neg h]
    by_cases e : i = 0
    · rw [if_pos e, e]; rfl
    · rw [if_neg e]; exact co_out (by rw [ratsOf_len]; simp; omega)
theorem scQ_told (c : Rat) (xs : List Rat) : Told (scQ c xs) := trimQ_told _
theorem prod27 {b1 b2 : Int} {zs1 zs2 : List Int} (m1 : Sm3 b1 zs1) (m2 : Sm3 b2 zs2) : 0 < b1 * b2 ∧ b1 * b2 ≤ 9 := by
  have h1 := m1.b0
  have h2 := m1.b3
  have h3 := m2.b0
  have h4 := m2.b3
  have := Int.mul_le_mul h2 h4 (by omega) (by omega)
  exact ⟨Int.mul_pos h1 h3, by omega⟩
-- slots: _law_pot_here 0, _law_first 1, _law_second 2, _law_one 3, _law_other 4, _law_shown 5, _law_sums 6, _law_turned 7, _law_due 8, _law_made 9, _law_top 10, _law_bottom 11, _law_by 12, _law_at 13; cells: _law_due _law_sums
abbrev s_law_right : Stmt := top 49
theorem bk_told_0_poly : BindK 0 1 false "told" s_told ["poly"] ["poly"] := fun _ _ _ _ _ _ us ws hu hw => match us, ws, hu, hw with | [], [_], _, _ => rfl
theorem bk_degree_0_poly : BindK 0 1 false "degree" s_degree ["poly"] ["poly"] := fun _ _ _ _ _ _ us ws hu hw => match us, ws, hu, hw with | [], [_], _, _ => rfl
theorem bk_minus_0_other_poly : BindK 0 2 true "minus" s_minus ["poly", "other"] ["other", "poly"] := fun _ _ _ _ _ _ us ws hu hw => match us, ws, hu, hw with | [], [_, _], _, _ => rfl
theorem bk_plus_0_other_poly : BindK 0 2 true "plus" s_plus ["poly", "other"] ["other", "poly"] := fun _ _ _ _ _ _ us ws hu hw => match us, ws, hu, hw with | [], [_, _], _, _ => rfl
theorem bk_times_0_other_poly : BindK 0 2 true "times" s_times ["poly", "other"] ["other", "poly"] := fun _ _ _ _ _ _ us ws hu hw => match us, ws, hu, hw with | [], [_, _], _, _ => rfl
theorem bk_scaled_0_number_poly : BindK 0 2 true "scaled" s_scaled ["poly", "number"] ["number", "poly"] := fun _ _ _ _ _ _ us ws hu hw => match us, ws, hu, hw with | [], [_, _], _, _ => rfl
theorem bk_derived_0_poly : BindK 0 1 false "derived" s_derived ["poly"] ["poly"] := fun _ _ _ _ _ _ us ws hu hw => match us, ws, hu, hw with | [], [_], _, _ => rfl
abbrev N_law_right : List Str := ["_law_pot_here", "_law_first", "_law_second", "_law_one", "_law_other", "_law_shown", "_law_sums", "_law_turned", "_law_due", "_law_made", "_law_top", "_law_bottom", "_law_by", "_law_at"]
theorem sc_law_right : FnScope N_law_right ["_law_pot_here"] (defScope s_law_right) := ⟨rfl, rfl, rfl, by decide +kernel, rfl, by decide +kernel, by decide +kernel⟩
theorem d_law_right (B : Bnd K mg "_law_right" s_law_right) (M : Mg2 mg) (R : RCls K mg C fI fR) {kr : Nat} (RD : RDef P w K mg base kr C) (DQ : RDefQ P w K mg base kr C) (hk : kr + 8 ≤ k) (D_is_poly : Def P w K mg base k "is_poly" s_is_poly ["value"] (spPolyX C)) (D_told : Def P w K mg base k "told" s_told ["poly"] (sp_told C)) (D_degree : Def P w K mg base k "degree" s_degree ["poly"] (sp_degree C)) (D_plus : Def P w K mg base k "plus" s_plus ["poly", "other"] (sp_plus C)) (D_minus : Def P w K mg base k "minus" s_minus ["poly", "other"] (sp_minus C)) (D_scaled : Def P w K mg base k "scaled" s_scaled ["poly", "number"] (sp_scaled C)) (D_times : Def P w K mg base k "times" s_times ["poly", "other"] (sp_times C)) (D_derived : Def P w K mg base k "derived" s_derived ["poly"] (sp_derived C)) (D_law_draw : Def P w K mg base k "_law_draw" sDraw ["_law_pot_here", "_law_size"] spDraw) (D_law_pick : Def P w K mg base k "_law_pick" sPick ["_law_pot_here", "_law_some"] spPick) (D_law_plus : Def P w K mg base k "_law_plus" s_law_plus ["_law_one", "_law_other", "_law_factor"] (sp_law_plus K)) (D_law_times : Def P w K mg base k "_law_times" s_law_times ["_law_one", "_law_other"] (sp_law_times K)) (D_law_is : Def P w K mg base k "_law_is" s_law_is ["_law_found", "_law_own_here"] (sp_law_is C)) (D_law_poly : Def P w K mg base k "_law_poly" s_law_poly ["_law_pot_here", "_law_most"] (sp_law_poly K)) (D_law_passed : Def P w K mg base k "_law_passed" s_law_passed ["_law_pot_here", "_law_own_here"] (sp_law_passed C)) (D_law_derived : Def P w K mg base k "_law_derived" s_law_derived ["_law_own_here"] (sp_law_derived K)) (D_law_worth_right : Def P w K mg base k "_law_worth_right" s_law_worth_right ["_law_pot_here", "_law_first", "_law_second", "_law_one", "_law_other"] (sp_law_worth_right C)) : DefG P w K mg base (k + 1) "_law_right" s_law_right ["_law_pot_here"] (sp_law_right K) := by
  refine defG_of B sc_law_right (by rintro _ _ _ _ ⟨p, rfl, _⟩; rfl) (fun _ _ _ _ _ _ us hl => match us, hl with | [_], _ => rfl) fun f cdv A outer s H vs Q E hgd hr h => ?_
  obtain ⟨p, rfl, hp, q⟩ := h
  have hu := hr.units
  have hg2 : (A.deeper (envOfC "_law_right" (defScope s_law_right) s.heap.objs.size f cdv)).guards = some [] := hgd
  refine ⟨_, pss_cons (ps_par (i := 1) (j := 2) rfl sc_law_right.nd rfl rfl (by decide) rfl rfl (pa_cons (pe_d D_law_poly hr (by rfl) (pa_cons (pv 0) (pa_cons pe_int pa_nil))) (pa_cons (pe_d D_law_poly hr (by rfl) (pa_cons (pv 0) (pa_cons pe_int pa_nil))) pa_nil)) (by rfl))
    (pss_cons (ps_par (i := 3) (j := 4) rfl sc_law_right.nd rfl rfl (by decide) rfl rfl (pa_cons (pe_d D_law_passed hr (by rfl) (pa_cons (pv 0) (pa_cons (pv 1) pa_nil))) (pa_cons (pe_d D_law_passed hr (by rfl) (pa_cons (pv 0) (pa_cons (pv 2) pa_nil))) pa_nil)) (by rfl))
    (pss_cons (ps_set (i := 5) sc_law_right.nd rfl (.inl rfl) (pe_callB (cr_sh (RD.own (hr.mono (by omega))) (hr.mono (by omega)) hg2) (by rfl) M.repr (by decide +kernel) (pa_cons (pe_lst (pa_cons (pv 3) (pa_cons (pv 4) pa_nil))) pa_nil)))
    (C8.pss_cut (ps_if (PW.pt (pw_or (pt_not (pt_val (pe_d D_law_is hr (by rfl) (pa_cons (pe_d D_told hr (by rfl) (pa_cons (pv 3) pa_nil)) (pa_cons (pv 1) pa_nil))))) (pw_or (pt_not (pt_val (pe_d D_law_is hr (by rfl) (pa_cons (pe_dk0 D_told hr (by rfl) 1 false ["poly"] bk_told_0_poly (pk_cons (pv 4) pk_nil)) (pa_cons (pv 2) pa_nil))))) (pw_or1 (pt_cmpR op_notBl (pe_d D_is_poly hr (by rfl) (pa_cons (pv 3) pa_nil)) pe_bl (nomark _))))))
      (pss_one (ps_ret pe_bl))
      (pss_nil))
    (C8.pss_cut (ps_if (pt_cmpR op_ne (pe_callB (cr_sh (RD.own (hr.mono (by omega))) (hr.mono (by omega)) hg2) (by rfl) M.repr (by decide +kernel) (pa_cons (pe_lst (pa_cons (pe_d D_degree hr (by rfl) (pa_cons (pv 3) pa_nil)) (pa_cons (pe_dk0 D_degree hr (by rfl) 1 false ["poly"] bk_degree_0_poly (pk_cons (pv 4) pk_nil)) pa_nil))) pa_nil)) (pe_callB (cr_sh (RD.own (hr.mono (by omega))) (hr.mono (by omega)) hg2) (by rfl) M.repr (by decide +kernel) (pa_cons (pe_lst (pa_cons (pe_op op_sub (pe_callB call_len_seq (by rfl) M.len boot_len (pa_cons (pe_ix (r := rIxT K) ix_tup (pv 1) pe_int (fun _ _ => rfl)) pa_nil)) pe_int) (pa_cons (pe_op op_sub (pe_callB call_len_seq (by rfl) M.len boot_len (pa_cons (pe_ix (r := rIxT K) ix_tup (pv 2) pe_int (fun _ _ => rfl)) pa_nil)) pe_int) pa_nil))) pa_nil)) (nomark _))
      (pss_one (ps_ret pe_bl))
      (pss_nil))
    (pss_cons (ps_set (i := 6) sc_law_right.nd rfl (.inr rfl) (pe_lst (pa_cons (pe_d D_plus hr (by rfl) (pa_cons (pv 3) (pa_cons (pv 4) pa_nil))) (pa_cons (pe_dk0 D_plus hr (by rfl) 2 true ["other", "poly"] bk_plus_0_other_poly (pk_cons (pv 3) (pk_cons (pv 4) pk_nil))) (pa_cons (pe_d D_minus hr (by rfl) (pa_cons (pv 3) (pa_cons (pv 4) pa_nil))) (pa_cons (pe_dk0 D_minus hr (by rfl) 2 true ["other", "poly"] bk_minus_0_other_poly (pk_cons (pv 3) (pk_cons (pv 4) pk_nil))) pa_nil))))))
    (pss_cons (ps_set (i := 7) sc_law_right.nd rfl (.inl rfl) (pe_d D_law_plus hr (by rfl) (pa_cons (pv 2) (pa_cons (pv 1) (pa_cons (pe_un un_neg pe_int) pa_nil)))))
    (pss_cons (ps_set (i := 8) sc_law_right.nd rfl (.inr rfl) (pe_lst (pa_cons (pe_d D_law_plus hr (by rfl) (pa_cons (pv 1) (pa_cons (pv 2) (pa_cons pe_int pa_nil)))) (pa_cons (pe_d D_law_plus hr (by rfl) (pa_cons (pv 1) (pa_cons (pv 2) (pa_cons pe_int pa_nil)))) (pa_cons (pe_d D_law_plus hr (by rfl) (pa_cons (pv 1) (pa_cons (pv 2) (pa_cons (pe_un un_neg pe_int) pa_nil)))) (pa_cons (pv 7) pa_nil))))))
    (C8.pss_cut (ps_if (pt_not (pt_val (pe_callB (cr_all rfl) (by rfl) M.all boot_all (pa_cons (pe_lc (own := [("_law_at", 13)]) (g := (gName 13)) (tt := tYes) (te := (tD _ (tCons (tOp (rIxL K) (tVar 6) (tVar 13)) (tCons (tOp (rIxL K) (tVar 8) (tVar 13)) tNil)))) rfl sc_law_right.nd (pi_range1 (by rfl) M.range (pa_cons pe_int pa_nil)) (blkOk_by (own := [("_law_at", 13)]) (N := N_law_right) (sc := defScope s_law_right) (by decide +kernel)) (fun _ _ _ _ _ => pg_name (i := 13) sc_law_right.nd rfl (.inl rfl)) (fun _ _ _ _ _ => pts_nil) (fun _ _ _ _ _ => pe_d D_law_is hr (by rfl) (pa_cons (pe_ix (r := rIxL K) ix_list (pv 6) (pv 13) (fun _ _ => rfl)) (pa_cons (pe_ix (r := rIxL K) ix_list (pv 8) (pv 13) (fun _ _ => rfl)) pa_nil)))) pa_nil))))
      (pss_one (ps_ret pe_bl))
      (pss_nil))
    (pss_cons (ps_set (i := 9) sc_law_right.nd rfl (.inl rfl) (pe_d D_law_times hr (by rfl) (pa_cons (pv 1) (pa_cons (pv 2) pa_nil))))
    (C8.pss_cut (ps_if (PW.pt (pw_or (pt_not (pt_val (pe_d D_law_is hr (by rfl) (pa_cons (pe_d D_times hr (by rfl) (pa_cons (pv 3) (pa_cons (pv 4) pa_nil))) (pa_cons (pv 9) pa_nil))))) (pw_or1 (pt_not (pt_val (pe_d D_law_is hr (by rfl) (pa_cons (pe_dk0 D_times hr (by rfl) 2 true ["other", "poly"] bk_times_0_other_poly (pk_cons (pv 3) (pk_cons (pv 4) pk_nil))) (pa_cons (pv 9) pa_nil))))))))
      (pss_one (ps_ret pe_bl))
      (pss_nil))
    (pss_cons (ps_par (i := 10) (j := 11) rfl sc_law_right.nd rfl rfl (by decide) rfl rfl (pa_cons (pe_op op_sub (pe_d D_law_draw hr (by rfl) (pa_cons (pv 0) (pa_cons pe_int pa_nil))) pe_int) (pa_cons (pe_d D_law_pick hr (by rfl) (pa_cons (pv 0) (pa_cons (pe_lst (pa_cons pe_int (pa_cons pe_int (pa_cons pe_int pa_nil)))) pa_nil))) pa_nil)) (by rfl))
    (pss_cons (ps_set (i := 12) sc_law_right.nd rfl (.inl rfl) (pe_tup (pa_cons (pv 11) (pa_cons (pe_ifExp (pt_cmpR op_ne (pv 10) pe_int (nomark _)) (pe_lst (pa_cons (pv 10) pa_nil)) (pe_lst pa_nil)) pa_nil))))
    (C8.pss_cut (ps_if (PW.pt (pw_or (pt_not (pt_val (pe_d D_law_is hr (by rfl) (pa_cons (pe_d D_scaled hr (by rfl) (pa_cons (pv 3) (pa_cons (pe_ratQ DQ (hr.mono (by omega)) (by rfl) (pa_cons (pv 10) (pa_cons (pv 11) pa_nil))) pa_nil))) (pa_cons (pe_d D_law_times hr (by rfl) (pa_cons (pv 1) (pa_cons (pv 12) pa_nil))) pa_nil))))) (pw_or1 (pt_not (pt_val (pe_d D_law_is hr (by rfl) (pa_cons (pe_dk0 D_scaled hr (by rfl) 2 true ["number", "poly"] bk_scaled_0_number_poly (pk_cons pe_int (pk_cons (pv 3) pk_nil))) (pa_cons (pe_tup (pa_cons pe_int (pa_cons (pe_lst pa_nil) pa_nil))) pa_nil))))))))
      (pss_one (ps_ret pe_bl))
      (pss_nil))
    (C8.pss_cut (ps_if (PW.pt (pw_or (pt_not (pt_val (pe_d D_law_is hr (by rfl) (pa_cons (pe_d D_derived hr (by rfl) (pa_cons (pv 3) pa_nil)) (pa_cons (pe_d D_law_derived hr (by rfl) (pa_cons (pv 1) pa_nil)) pa_nil))))) (pw_or1 (pt_not (pt_val (pe_d D_law_is hr (by rfl) (pa_cons (pe_dk0 D_derived hr (by rfl) 1 false ["poly"] bk_derived_0_poly (pk_cons (pv 4) pk_nil)) (pa_cons (pe_d D_law_derived hr (by rfl) (pa_cons (pv 2) pa_nil)) pa_nil))))))))
      (pss_one (ps_ret pe_bl))
      (pss_nil))
    (pss_one (ps_ret (pe_and (pe_d D_law_worth_right hr (by rfl) (pa_cons (pv 0) (pa_cons (pv 1) (pa_cons (pv 2) (pa_cons (pv 3) (pa_cons (pv 4) pa_nil)))))) (pe_one (pe_cmpR op_eq (pe_callB (cr_sh (RD.own (hr.mono (by omega))) (hr.mono (by omega)) hg2) (by rfl) M.repr (by decide +kernel) (pa_cons (pe_lst (pa_cons (pv 3) (pa_cons (pv 4) pa_nil))) pa_nil)) (pv 5) (nomark _)))))))))))))))))))), ?_⟩
  have pS : p ∈ [p] := by simp
  refine ⟨_, rfl, p, 5, rfl, hp, by omega, by omega, fun v1 H1 b1 zs1 pk1 k1 o1 m1 l1 => ?_⟩
  refine ⟨_, rfl, p, 5, rfl, pk1, by omega, by omega, fun v2 H2 b2 zs2 pk2 k2 o2 m2 l2 => ⟨_, _, rfl, ?_⟩⟩
  have o1 := o1.same (wos_keep pS k2)
  have m1b := m1.b0
  have m1c := m1.b3
  have m2b := m2.b0
  have m2c := m2.b3
  refine ⟨_, rfl, _, rfl, p, v1, b1, zs1, rfl, pk2, o1, m1b, by omega, m1.z3.mono (by decide), by omega, m1.tr, fun x1 H3 pk3 k3 c1 => ?_⟩
  have o1 := o1.same (wos_keep pS k3)
  have o2 := o2.same (wos_keep pS k3)
  refine ⟨_, rfl, _, rfl, p, v2, b2, zs2, rfl, pk3, o2, m2b, by omega, m2.z3.mono (by decide), by omega, m2.tr, fun x2 H4 pk4 k4 c2 => ⟨_, _, rfl, ?_⟩⟩
  have kk := ((k1.trans k2).trans k3).trans k4
  have o1 := o1.same (wos_keep pS k4)
  have o2 := o2.same (wos_keep pS k4)
  have c1 := c1.same (wos_keep pS k4)
  clear k1 k2 k3 k4 pk1 pk2 pk3
  obtain ⟨tt1, sh1, st1⟩ := id c1.1
  obtain ⟨tt2, sh2, st2⟩ := id c2.1
  have lx := ratsOf_len b1 zs1
  have ly := ratsOf_len b2 zs2
  have bx := sm3_allB m1
  have by' := sm3_allB m2
  have tx := told_of m1b m1.tr
  have ty := told_of m2b m2.tr
  have l1 : zs1.length ≤ 6 := by omega
  have l2 : zs2.length ≤ 6 := by omega
  obtain ⟨b12, b12c⟩ := prod27 m1 m2
  obtain ⟨b21, b21c⟩ := prod27 m2 m1
  -- shown
  refine ⟨_, rfl, _, rfl, by show 2 ≤ sizeLine; decide, fun a na => ?_⟩
  have sa := same_new (o := .lst [x1, x2]) na
  refine ⟨.ref a, listText [tt1, tt2], 2, rfl, sh_pair upd_same ((sh1.same wos_le).same sa) ((sh2.same wos_le).same sa), pair_len st1 st2, by omega, fun H5 s5 => ?_⟩
  have s5 := sa.trans s5
  have o1 := o1.same (wos_same s5)
  have o2 := o2.same (wos_same s5)
  have c1 := c1.same (wos_same s5)
  have c2 := c2.same (wos_same s5)
  have sh1 := sh1.same (wos_same s5)
  have sh2 := sh2.same (wos_same s5)
  have pk5 := pk4.same s5
  have kk := kk.trans (Keep.of s5)
  clear s5 sa na pk4
  -- told and is_poly
  refine ⟨fun σ' G => σ' = [some (.ref p), some v1, some v2, some x1, some x2, some (.str (listText [tt1, tt2])), none, none, none, none, none, none, none, none] ∧ Same H5 G, ?_, ?_⟩
  · have P1 := c1.same wos_le
    have P2 := c2.same wos_le
    refine ⟨_, rfl, x1, 1, rfl, P1.1, P1.2.1, fun a G1 us g1 na ha r => ⟨_, rfl, ?_⟩⟩
    rw [P1.2.2] at r
    refine sp_is_mk ha r (fun x hx => (bx x hx).mono (by omega)) (by omega) ((o1.same wos_le).same g1) m1b m1.z3 (smz m1) rfl (fun G2 g2 => ⟨true, rfl, iteF ?_⟩)
    have g12 := g1.trans g2
    have P2' := P2.same g12
    refine ⟨_, rfl, rfl, rfl, x2, 1, rfl, P2'.1, P2'.2.1, fun a G3 us g3 na ha r => ⟨_, rfl, ?_⟩⟩
    rw [P2'.2.2] at r
    refine sp_is_mk ha r (fun x hx => (by' x hx).mono (by omega)) (by omega) (((o2.same wos_le).same g12).same g3) m2b m2.z3 (smz m2) rfl (fun G4 g4 => ⟨true, rfl, iteF ?_⟩)
    have g14 := (g12.trans g3).trans g4
    have P1' := P1.same g14
    refine ⟨_, rfl, x1, 1, rfl, P1'.1, fun G5 g5 => ⟨_, true, rfl, rfl, _, rfl, iteF2 ?_ ⟨rfl, g14.trans g5⟩⟩⟩
    rw [P1'.2.1]; rfl
  rintro _ G0 ⟨rfl, s0⟩
  have o1 := o1.same (wos_same s0)
  have o2 := o2.same (wos_same s0)
  have c1 := c1.same (wos_same s0)
  have c2 := c2.same (wos_same s0)
  have sh1 := sh1.same (wos_same s0)
  have sh2 := sh2.same (wos_same s0)
  have pk5 := pk5.same s0
  have kk := kk.trans (Keep.of s0)
  clear s0
  -- degrees
  refine ⟨fun σ' G => σ' = [some (.ref p), some v1, some v2, some x1, some x2, some (.str (listText [tt1, tt2])), none, none, none, none, none, none, none, none] ∧ Same G0 G, ?_, ?_⟩
  · have P1 := c1.same wos_le
    have P2 := c2.same wos_le
    have e1 := told_len P1
    refine ⟨_, rfl, x1, 1, rfl, P1.1, P1.2.1, fun G1 g1 => ?_⟩
    have P2' := P2.same g1
    have e2 := told_len P2'
    refine ⟨_, rfl, rfl, rfl, x2, 1, rfl, P2'.1, P2'.2.1, fun G2 g2 => ⟨by show 2 ≤ sizeLine; decide, fun a na => ?_⟩⟩
    rw [e1, e2]
    have d1 : okS ((zs1.length : Int) - 1) := int_sk (by omega)
    have d2 : okS ((zs2.length : Int) - 1) := int_sk (by omega)
    have lt : ∀ i : Int, okS i → (Str.ofString (toString i)).length ≤ Bz 1 := fun i h => by
      have := Fp.int_short h
      have e : Bz 1 = 36200 := rfl
      omega
    refine ⟨.ref a, _, 2, rfl, sh_pair upd_same (.int d1) (.int d2), pair_len (lt _ d1) (lt _ d2), by omega, fun G3 g3 => ?_⟩
    have g13 := ((g1.trans g2).trans (same_new na)).trans g3
    obtain ⟨T1, L1, rfl, hT1, hL1⟩ := (o1.same wos_le).same g13
    obtain ⟨T2, L2, rfl, hT2, hL2⟩ := (o2.same wos_le).same g13
    have lv1 := vi_len zs1
    have lv2 := vi_len zs2
    refine ⟨_, rfl, T1, _, 1, .ref L1, rfl, rfl, SqT.of hT1, rfl, L1, _, rfl, .inl (SqL.of hL1), _, 1, rfl, rfl, _, rfl, T2, _, 1, .ref L2, rfl, rfl, SqT.of hT2, rfl, L2, _, rfl, .inl (SqL.of hL2), _, 1, rfl, rfl, by show 2 ≤ sizeLine; decide, fun b nb => ?_⟩
    dsimp only
    rw [lv1, lv2]
    refine ⟨.ref b, _, 2, rfl, sh_pair upd_same (.int d1) (.int d2), pair_len (lt _ d1) (lt _ d2), by omega, fun G4 g4 => ⟨rfl, _, rfl, iteF2 (by simp) ⟨rfl, (g13.trans (same_new nb)).trans g4⟩⟩⟩
  rintro _ G1 ⟨rfl, s1⟩
  have o1 := o1.same (wos_same s1)
  have o2 := o2.same (wos_same s1)
  have c1 := c1.same (wos_same s1)
  have c2 := c2.same (wos_same s1)
  have sh1 := sh1.same (wos_same s1)
  have sh2 := sh2.same (wos_same s1)
  have pk5 := pk5.same s1
  have kk := kk.trans (Keep.of s1)
  clear s1
  have P1 := c1.same wos_le
  have P2 := c2.same wos_le
  have O1 := o1.same wos_le
  have O2 := o2.same wos_le
  have nx := neg_allB by'
  have ny := neg_allB bx
  -- sums
  refine ⟨_, rfl, _, rfl, x1, x2, _, _, 2, 2, rfl, P1, P2, by omega, by omega, bx, by', by omega, fun _ J1 j1 ⟨a1, u1, e1, na1, h1, q1⟩ => ?_⟩
  subst e1
  refine ⟨_, rfl, _, rfl, rfl, rfl, x2, x1, _, _, 2, 2, rfl, P2.same j1, P1.same j1, by omega, by omega, by', bx, by omega, fun _ J2 j2 ⟨a2, u2, e2, na2, h2, q2⟩ => ?_⟩
  subst e2
  have j12 := j1.trans j2
  refine ⟨_, rfl, _, rfl, x1, x2, _, _, 2, 2, rfl, P1.same j12, P2.same j12, by omega, by omega, bx, by', by omega, fun _ J3 j3 ⟨a3, u3, e3, na3, h3, q3⟩ => ?_⟩
  subst e3
  have j13 := j12.trans j3
  refine ⟨_, rfl, _, rfl, rfl, rfl, x2, x1, _, _, 2, 2, rfl, P2.same j13, P1.same j13, by omega, by omega, by', bx, by omega, fun _ J4 j4 ⟨a4, u4, e4, na4, h4, q4⟩ => ?_⟩
  subst e4
  refine ⟨by show 4 ≤ sizeLine; decide, fun S nS => ?_⟩
  have sS := same_new (o := .lst [V.ref a1, V.ref a2, V.ref a3, V.ref a4]) nS
  have j14 := (j13.trans j4).trans sS
  have j24 := ((j2.trans j3).trans j4).trans sS
  have j34 := (j3.trans j4).trans sS
  have j44 := j4.trans sS
  have hS : (upd J4 S (.lst [V.ref a1, V.ref a2, V.ref a3, V.ref a4])) S = some (.lst [V.ref a1, V.ref a2, V.ref a3, V.ref a4]) := upd_same
  have h1 := j24 _ _ h1
  have h2 := j34 _ _ h2
  have h3 := j44 _ _ h3
  have h4 := sS _ _ h4
  have q1 := RatL.same q1 j24
  have q2 := RatL.same q2 j34
  have q3 := RatL.same q3 j44
  have q4 := RatL.same q4 sS
  generalize upd J4 S (.lst [V.ref a1, V.ref a2, V.ref a3, V.ref a4]) = J5 at *
  clear j12 j13 j24 j34 j44 j1 j2 j3 j4 sS
  have m1z := m1.z3
  have m2z := m2.z3
  -- turned and due
  refine ⟨_, rfl, _, rfl, 1, rfl, v2, v1, b2, b1, zs2, zs1, 3, 3, 8, 8, -1, rfl, by decide, O2.same j14, O1.same j14, m2b, m1b, m2z, m1z, smz m2, smz m1, by omega, by omega, by omega, fun v7 L1 zs7 g1 of7 t7 co7 bn7 ln7 => ?_⟩
  have jL1 := j14.trans g1
  refine ⟨_, rfl, _, rfl, v1, v2, b1, b2, zs1, zs2, 3, 3, 8, 8, 1, rfl, by decide, O1.same jL1, O2.same jL1, m1b, m2b, m1z, m2z, smz m1, smz m2, by omega, by omega, by omega, fun v4 L2 zs4 g2 of4 t4 co4 bn4 ln4 => ?_⟩
  have jL2 := jL1.trans g2
  refine ⟨_, rfl, _, rfl, v1, v2, b1, b2, zs1, zs2, 3, 3, 8, 8, 1, rfl, by decide, O1.same jL2, O2.same jL2, m1b, m2b, m1z, m2z, smz m1, smz m2, by omega, by omega, by omega, fun v5 L3 zs5 g3 of5 t5 co5 bn5 ln5 => ?_⟩
  have jL3 := jL2.trans g3
  refine ⟨_, rfl, _, rfl, 1, rfl, v1, v2, b1, b2, zs1, zs2, 3, 3, 8, 8, -1, rfl, by decide, O1.same jL3, O2.same jL3, m1b, m2b, m1z, m2z, smz m1, smz m2, by omega, by omega, by omega, fun v6 L4 zs6 g4 of6 t6 co6 bn6 ln6 => ?_⟩
  refine ⟨_, rfl, by show 4 ≤ sizeLine; decide, fun U nU => ?_⟩
  have sU := same_new (o := .lst [v4, v5, v6, v7]) nU
  have O7 := (((of7.own.same g2).same g3).same g4).same sU
  have O4 := ((of4.own.same g3).same g4).same sU
  have O5 := (of5.own.same g4).same sU
  have O6 := of6.own.same sU
  have jU := (jL3.trans g4).trans sU
  have gU := ((((g1.trans g2).trans g3).trans g4)).trans sU
  have hU : (upd L4 U (.lst [v4, v5, v6, v7])) U = some (.lst [v4, v5, v6, v7]) := upd_same
  generalize upd L4 U (.lst [v4, v5, v6, v7]) = L5 at *
  clear jL1 jL2 jL3 g1 g2 g3 g4 sU
  have szS : Sz 8 (3 * b2.natAbs + 3 * b1.natAbs) (b1 * b2) := ⟨by omega, show (b1 * b2).natAbs < 2 ^ 8 by omega⟩
  have szT : Sz 8 (3 * b1.natAbs + 3 * b2.natAbs) (b2 * b1) := ⟨by omega, show (b2 * b1).natAbs < 2 ^ 8 by omega⟩
  have aS := addQ_allB bx by'
  have aT := addQ_allB by' bx
  have aU := addQ_allB bx nx
  have aV := addQ_allB by' ny
  have E1 := sum_rats (xs := addQ (ratsOf b1 zs1) (ratsOf b2 zs2)) t4 co4 (fun n => by rw [addQ_co, Rat.intCast_one]; grind)
  have E2 := sum_rats (xs := addQ (ratsOf b2 zs2) (ratsOf b1 zs1)) t5 co5 (fun n => by rw [addQ_co, Rat.intCast_one]; grind)
  have E3 := sum_rats (xs := addQ (ratsOf b1 zs1) ((ratsOf b2 zs2).map fun y => -y)) t6 co6 (fun n => by rw [addQ_co, neg_map_co, show (((-1 : Int) : Int) : Rat) = -1 from rfl]; grind)
  have E4 := sum_rats (xs := addQ (ratsOf b2 zs2) ((ratsOf b1 zs1).map fun y => -y)) t7 co7 (fun n => by rw [addQ_co, neg_map_co, show (((-1 : Int) : Int) : Rat) = -1 from rfl]; grind)
  have item : ∀ i : Nat, i < 4 → ∃ (a : Addr) (us : List V) (xs : List Rat) (v : V) (b : Int) (zs : List Int) (N : Nat), [V.ref a1, V.ref a2, V.ref a3, V.ref a4][i]? = some (.ref a) ∧ [v4, v5, v6, v7][i]? = some v ∧ L5 a = some (.lst us) ∧ QL C L5 us xs ∧ AllB 100 xs ∧ xs.length ≤ 49 ∧ OwnP L5 v b zs ∧ 0 < b ∧ BN N zs ∧ Sz 8 N b ∧ xs = ratsOf b zs := fun i hi => by
    match i, hi with
    | 0, _ => exact ⟨a1, u1, _, v4, _, zs4, _, rfl, rfl, gU _ _ h1, RatL.same q1 gU, trim_allB aS (by omega), by rw [E1, ratsOf_len]; omega, O4, b12, bn4, szS, E1⟩
    | 1, _ => exact ⟨a2, u2, _, v5, _, zs5, _, rfl, rfl, gU _ _ h2, RatL.same q2 gU, trim_allB aT (by omega), by rw [E2, ratsOf_len]; omega, O5, b12, bn5, szS, E2⟩
    | 2, _ => exact ⟨a3, u3, _, v6, _, zs6, _, rfl, rfl, gU _ _ h3, RatL.same q3 gU, trim_allB aU (by omega), by rw [E3, ratsOf_len]; omega, O6, b12, bn6, szS, E3⟩
    | 3, _ => exact ⟨a4, u4, _, v7, _, zs7, _, rfl, rfl, gU _ _ h4, RatL.same q4 gU, trim_allB aV (by omega), by rw [E4, ratsOf_len]; omega, O7, b21, bn7, szT, E4⟩
    | i + 4, h => omega
  have hS := gU _ _ hS
  clear E1 E2 E3 E4 co4 co5 co6 co7 q1 q2 q3 q4 h1 h2 h3 h4 gU O4 O5 O6 O7 of4 of5 of6 of7 t4 t5 t6 t7
  refine ⟨fun σ' G => σ' = [some (.ref p), some v1, some v2, some x1, some x2, some (.str (listText [tt1, tt2])), some (.ref S), some v7, some (.ref U), none, none, none, none, none] ∧ Same L5 G, ?_, ?_⟩
  · refine ⟨4, rfl, by omega, by omega, fun D nD => ?_⟩
    refine lc_rg (lo := 0) (n := (4 : Int).toNat) (fun _ => some (.bl true)) nD (Nat.le_of_lt (small (by decide))) (fun i H1 hi s1 Y N y nn => ?_) (fun H1 s1 hD1 => ?_)
    · obtain ⟨a, us, xs, v, b, zs, N', g1, g2, g3, g4, g5, g6, g7, g8, g9, g10, g11⟩ := item i (by have e : (4 : Int).toNat = 4 := rfl; omega)
      refine ⟨rfl, _, rfl, _, rfl, S, _, _, _, rfl, rfl, SqL.of (s1 _ _ hS), at_of (j := i) (by omega) g1, _, rfl, _, rfl, U, _, _, v, rfl, rfl, SqL.of (s1 _ _ hU), at_of (j := i) (by omega) g2, ?_⟩
      exact sp_is_mk (s1 _ _ g3) (RatL.same g4 s1) g5 g6 (g7.same s1) g8 g9 g10 g11 fun H2 s2 => y _ _ s2 rfl
    · rw [all_true] at hD1
      refine ⟨D, List.replicate 4 true, rfl, SqL.of hD1, _, rfl, iteF2 (by rw [all_rep]; rfl) ⟨rfl, s1⟩⟩
  rintro _ R0 ⟨rfl, r0⟩
  have jR := jU.trans r0
  have P1 := P1.same jR
  have P2 := P2.same jR
  have O1 := O1.same jR
  have O2 := O2.same jR
  clear item hS hU
  -- products
  refine ⟨_, rfl, _, rfl, v1, v2, b1, b2, zs1, zs2, 3, 3, 8, 8, rfl, O1, O2, m1b, m2b, m1z, m2z, smz m1, smz m2, by omega, by omega, by omega, fun v9 R1 zs9 r1 of9 t9 co9 bn9 ln9 => ?_⟩
  have P1 := P1.same r1
  have P2 := P2.same r1
  have O9 := of9.own
  have bn9 := bn9.mono (show zs1.length * (3 * 3) ≤ 54 by omega)
  have sz9 : Sz 8 54 (b1 * b2) := ⟨by decide, show (b1 * b2).natAbs < 2 ^ 8 by omega⟩
  obtain ⟨n1, n2, n3⟩ := sm3_den m1
  obtain ⟨n4, n5, n6⟩ := sm3_den m2
  have ab9 : AllB 100 (ratsOf (b1 * b2) zs9) := allB_of bn9 (Nat.lt_of_lt_of_le (show 54 < 2 ^ 8 by decide) (Nat.pow_le_pow_right (by decide) (by decide))) b12 (sz9.2.mono (by decide))
  refine ⟨fun σ' G => σ' = [some (.ref p), some v1, some v2, some x1, some x2, some (.str (listText [tt1, tt2])), some (.ref S), some v7, some (.ref U), some v9, none, none, none, none] ∧ Same R1 G, ?_, ?_⟩
  · refine ⟨_, rfl, _, rfl, x1, x2, _, _, 2, 2, _, _, rfl, P1, P2, by omega, bx, by', by omega, by omega, n1, n2, n4, n5, n3, n6, fun _ G1 ts1 g1 ⟨a, us, e, na, ha, hq⟩ co1 ln1 => ⟨_, rfl, ?_⟩⟩
    subst e
    have tt := (times_eq m1 m2 co1 ln1).1
    have e1 : ts1 = ratsOf (b1 * b2) zs9 := told_ext tt t9 fun n => by rw [co1, co9]
    refine sp_is_mk ha hq (by rw [e1]; exact ab9) (by rw [e1, ratsOf_len]; omega) (O9.same g1) b12 bn9 sz9 e1 fun G2 g2 => ⟨true, rfl, iteF ?_⟩
    have g12 := g1.trans g2
    refine ⟨_, rfl, _, rfl, rfl, rfl, x2, x1, _, _, 2, 2, _, _, rfl, P2.same g12, P1.same g12, by omega, by', bx, by omega, by omega, n4, n5, n1, n2, n6, n3, fun _ G3 ts2 g3 ⟨a, us, e, na, ha, hq⟩ co2 ln2 => ⟨_, rfl, ?_⟩⟩
    subst e
    have tt := (times_eq m2 m1 co2 ln2).1
    have e2 : ts2 = ratsOf (b1 * b2) zs9 := told_ext tt t9 fun n => by rw [co2, co9, prodc_comm]
    exact sp_is_mk ha hq (by rw [e2]; exact ab9) (by rw [e2, ratsOf_len]; omega) ((O9.same g12).same g3) b12 bn9 sz9 e2 fun G4 g4 => ⟨true, rfl, iteF ⟨rfl, (g12.trans g3).trans g4⟩⟩
  rintro _ R2 ⟨rfl, r2⟩
  have jR2 := ((jR.trans r1).trans r2)
  have o1 := o1.same (wos_same jR2)
  have o2 := o2.same (wos_same jR2)
  have c1 := c1.same (wos_same jR2)
  have c2 := c2.same (wos_same jR2)
  have sh1 := sh1.same (wos_same jR2)
  have sh2 := sh2.same (wos_same jR2)
  have pk5 := pk5.same jR2
  have kk := kk.trans (Keep.of jR2)
  clear P1 P2 O1 O2 O9 jR2 jR jU j14 r0 r1 r2 of9 ab9 bn9 sz9 co9 t9 ln9
  -- top and bottom
  refine ⟨_, rfl, p, 7, rfl, pk5, by omega, by omega, fun d W1 d0 d1 pw1 w1 => ⟨d, 3, rfl, rfl, _, rfl, by show 3 ≤ sizeLine; decide, fun c nc => ?_⟩⟩
  have sc := same_new (o := .lst [V.int 1, V.int 2, V.int 5]) nc
  have nec : c ≠ p := pot_ne pw1 nc
  refine ⟨p, c, _, rfl, pw1.same sc, upd_same, nec, by decide, by decide, fun x W2 hx pw2 w2 => ⟨_, _, rfl, ?_⟩⟩
  obtain ⟨bo, rfl, bo0, bo5⟩ : ∃ b : Int, x = .int b ∧ 0 < b ∧ b ≤ 5 := by
    simp only [List.mem_cons, List.not_mem_nil, or_false] at hx
    rcases hx with h | h | h <;> exact ⟨_, h, by omega, by omega⟩
  have kW := (w1.trans (Keep.of sc)).trans w2
  have o1 := o1.same (wos_keep pS kW)
  have o2 := o2.same (wos_keep pS kW)
  have c1 := c1.same (wos_keep pS kW)
  have c2 := c2.same (wos_keep pS kW)
  have sh1 := sh1.same (wos_keep pS kW)
  have sh2 := sh2.same (wos_keep pS kW)
  have kk := kk.trans kW
  clear kW w1 w2 sc hx pw1 pk5
  dsimp only
  generalize hto : d - 3 = top at *
  have top3 : top.natAbs ≤ 3 := by omega
  show tSeq (tAsg _ _) _ _ [some (.ref p), some v1, some v2, some x1, some x2, some (.str (listText [tt1, tt2])), some (.ref S), some v7, some (.ref U), some v9, some (.int top), some (.int bo), none, none] W2
  refine seq_asg (φ := fun v H' => OwnP H' v bo (by_ top)) (fun Q' q1 => ?_) (fun vb W3 w3 ob => ?_)
  · refine ⟨_, rfl, _, rfl, rfl, _, rfl, ite2 (fun e => ?_) (fun e => ?_)⟩
    · have t0 : top ≠ 0 := fun z => by rw [z] at e; simp at e
      refine ⟨_, rfl, by show 1 ≤ sizeLine; decide, fun a na => ⟨by show 2 ≤ sizeLine; decide, fun t nt => q1 _ _ ((same_new na).trans (same_new nt)) ⟨t, a, rfl, upd_same, ?_⟩⟩⟩
      rw [same_new nt _ _ upd_same]
      unfold by_
      rw [if_neg t0]; rfl
    · have t0 : top = 0 := by
        by_cases z : top = 0
        · exact z
        · exact absurd (by simp [z]) e
      refine ⟨Nat.zero_le _, fun a na => ⟨by show 2 ≤ sizeLine; decide, fun t nt => q1 _ _ ((same_new na).trans (same_new nt)) ⟨t, a, rfl, upd_same, ?_⟩⟩⟩
      rw [same_new nt _ _ upd_same]
      unfold by_
      rw [if_pos t0]; rfl
  have bnb : BN 3 (by_ top) := fun z hz => by
    unfold by_ at hz
    split at hz
    · cases hz
    · rw [List.mem_singleton.mp hz]; exact top3
  have szb : Sz 8 3 bo := ⟨by decide, show bo.natAbs < 2 ^ 8 by omega⟩
  have lnb : (by_ top).length ≤ 1 := by unfold by_; split <;> simp
  have o1 := o1.same (wos_same w3)
  have o2 := o2.same (wos_same w3)
  have c1 := c1.same (wos_same w3)
  have c2 := c2.same (wos_same w3)
  have sh1 := sh1.same (wos_same w3)
  have sh2 := sh2.same (wos_same w3)
  have pw3 := pw2.same w3
  have kk := kk.trans (Keep.of w3)
  clear w3 pw2
  have bt : Bits 3 ((top : Rat) / (bo : Rat)) := by
    rw [← Rat.divInt_eq_div]
    exact Bits.divInt (show top.natAbs < 2 ^ 3 by omega) (show bo.natAbs < 2 ^ 3 by omega) (by omega)
  refine ⟨fun σ' G => σ' = [some (.ref p), some v1, some v2, some x1, some x2, some (.str (listText [tt1, tt2])), some (.ref S), some v7, some (.ref U), some v9, some (.int top), some (.int bo), some vb, none] ∧ Same W3 G, ?_, ?_⟩
  · have P1 := c1.same wos_le
    have O1 := o1.same wos_le
    refine ⟨_, rfl, _, rfl, _, rfl, top, bo, rfl, by omega, Nat.lt_of_le_of_lt (show bo.natAbs ≤ 5 by omega) (Nat.lt_of_lt_of_le (show 5 < 2 ^ 3 by decide) (Nat.pow_le_pow_right (by decide) (by decide))), fun a G1 na g1 ra => ?_⟩
    rw [Rat.divInt_eq_div] at ra
    refine ⟨x1, .ref a, _, _, 2, 3, rfl, P1.same g1, ra.nq, by omega, bx, bt, by omega, fun _ G2 g2 ⟨a2, us, e, na2, ha, hq⟩ => ?_⟩
    subst e
    have g12 := g1.trans g2
    refine ⟨_, rfl, _, rfl, v1, vb, b1, bo, zs1, by_ top, 3, 3, 8, 8, rfl, O1.same g12, ob.same g12, m1b, bo0, m1z, bnb, smz m1, szb, by omega, by omega, by omega, fun vt G3 zst g3 oft tt cot bnt lnt => ?_⟩
    have b1o : 0 < b1 * bo := Int.mul_pos m1b bo0
    have b1oc : b1 * bo ≤ 15 := by
      have := Int.mul_le_mul m1c bo5 (by omega) (by omega)
      omega
    have es : scQ ((top : Rat) / (bo : Rat)) (ratsOf b1 zs1) = ratsOf (b1 * bo) zst := told_ext (scQ_told _ _) tt fun n => by rw [scQ_co, cot, prodc_one _ _ _ by_co]
    have sab := scQ_allB bx bt
    have sln := scQ_len ((top : Rat) / (bo : Rat)) (ratsOf b1 zs1)
    refine sp_is_mk (g3 _ _ ha) (RatL.same hq g3) (fun x hx => (sab x hx).mono (by omega)) (by omega) oft.own b1o (bnt.mono (show zs1.length * (3 * 3) ≤ 54 by omega)) ⟨by decide, show (b1 * bo).natAbs < 2 ^ 8 by omega⟩ es (fun G4 g4 => ⟨true, rfl, iteF ?_⟩)
    have g14 := (g12.trans g3).trans g4
    refine ⟨_, rfl, rfl, rfl, x1, .int 0, _, ((0 : Int) : Rat), 2, 1, rfl, P1.same g14, NumQ.int, by omega, bx, ⟨Nat.two_pow_pos _, by show (1 : Int).natAbs < 2 ^ 1; decide⟩, by omega, fun _ G5 g5 ⟨a5, us5, e, na5, ha5, hq5⟩ => ?_⟩
    subst e
    have es5 : scQ ((0 : Int) : Rat) (ratsOf b1 zs1) = [] := told_ext (scQ_told _ _) told_nil fun n => by rw [scQ_co, co_nil, Rat.intCast_zero]; grind
    rw [es5] at hq5
    refine ⟨Nat.zero_le _, fun b nb => ⟨by show 2 ≤ sizeLine; decide, fun t nt => ?_⟩⟩
    have sb := (same_new (o := .lst []) nb)
    have st := same_new (o := .tup [V.int 1, V.ref b]) nt
    refine sp_is_mk (st _ _ (sb _ _ ha5)) (RatL.same hq5 (sb.trans st)) (fun x hx => by cases hx) (by show 0 ≤ 49; decide) ⟨t, b, rfl, upd_same, st _ _ upd_same⟩ (b := 1) (zs := []) (N := 3) (k1 := 8) (by decide) (fun z hz => by cases hz) ⟨by decide, by show (1 : Int).natAbs < 2 ^ 8; decide⟩ rfl (fun G6 g6 => ⟨true, rfl, iteF ⟨rfl, (((g14.trans g5).trans sb).trans st).trans g6⟩⟩)
  rintro _ X0 ⟨rfl, y0⟩
  have o1 := o1.same (wos_same y0)
  have o2 := o2.same (wos_same y0)
  have c1 := c1.same (wos_same y0)
  have c2 := c2.same (wos_same y0)
  have sh1 := sh1.same (wos_same y0)
  have sh2 := sh2.same (wos_same y0)
  have pw3 := pw3.same y0
  have kk := kk.trans (Keep.of y0)
  clear y0 ob
  -- derived
  refine ⟨fun σ' G => σ' = [some (.ref p), some v1, some v2, some x1, some x2, some (.str (listText [tt1, tt2])), some (.ref S), some v7, some (.ref U), some v9, some (.int top), some (.int bo), some vb, none] ∧ Same X0 G, ?_, ?_⟩
  · have P1 := c1.same wos_le
    have O1 := o1.same wos_le
    have P2 := c2.same wos_le
    have O2 := o2.same wos_le
    have dl1 := derQ_len (ratsOf b1 zs1)
    have dl2 := derQ_len (ratsOf b2 zs2)
    refine ⟨_, rfl, x1, _, 2, rfl, P1, by omega, bx, by omega, fun _ G1 g1 ⟨a1', us1, e, na1', ha1, hq1⟩ => ?_⟩
    subst e
    refine ⟨_, rfl, v1, b1, zs1, 3, rfl, O1.same g1, m1b, m1z, by omega, by omega, fun vd G2 zsd g2 ofd td cod bnd' => ?_⟩
    have ed := told_ext (derQ_told tx) td fun n => (cod n).symm
    refine sp_is_mk (g2 _ _ ha1) (RatL.same hq1 g2) (fun x hx => (derQ_allB bx (by omega) (by omega) x hx).mono (by omega)) (by omega) ofd.own m1b (bnd'.mono (show 3 * 20 ≤ 60 by omega)) ⟨by decide, (smz m1).2⟩ ed (fun G3 g3 => ⟨true, rfl, iteF ?_⟩)
    have g13 := (g1.trans g2).trans g3
    refine ⟨_, rfl, rfl, rfl, x2, _, 2, rfl, P2.same g13, by omega, by', by omega, fun _ G4 g4 ⟨a2', us2, e, na2', ha2, hq2⟩ => ?_⟩
    subst e
    refine ⟨_, rfl, v2, b2, zs2, 3, rfl, O2.same (g13.trans g4), m2b, m2z, by omega, by omega, fun vd G5 zsd g5 ofd td cod bnd' => ?_⟩
    have ed := told_ext (derQ_told ty) td fun n => (cod n).symm
    exact sp_is_mk (g5 _ _ ha2) (RatL.same hq2 g5) (fun x hx => (derQ_allB by' (by omega) (by omega) x hx).mono (by omega)) (by omega) ofd.own m2b (bnd'.mono (show 3 * 20 ≤ 60 by omega)) ⟨by decide, (smz m2).2⟩ ed (fun G6 g6 => ⟨true, rfl, iteF ⟨rfl, ((g13.trans g4).trans g5).trans g6⟩⟩)
  rintro _ Y0 ⟨rfl, y0⟩
  have o1 := o1.same (wos_same y0)
  have o2 := o2.same (wos_same y0)
  have c1 := c1.same (wos_same y0)
  have c2 := c2.same (wos_same y0)
  have sh1 := sh1.same (wos_same y0)
  have sh2 := sh2.same (wos_same y0)
  have pw3 := pw3.same y0
  have kk := kk.trans (Keep.of y0)
  clear y0
  -- worths
  refine ⟨_, rfl, _, rfl, _, rfl, _, rfl, _, rfl, p, v1, v2, x1, x2, b1, b2, zs1, zs2, rfl, pw3, o1, o2, m1, m2, l1, l2, c1, c2, fun Z1 pz z1 => ⟨_, rfl, iteT ?_⟩⟩
  refine ⟨_, rfl, _, rfl, by show 2 ≤ sizeLine; decide, fun a na => ?_⟩
  have sa := same_new (o := .lst [x1, x2]) na
  have sz1 := ((sh1.same (wos_keep pS z1)).same wos_le).same sa
  have sz2 := ((sh2.same (wos_keep pS z1)).same wos_le).same sa
  refine ⟨.ref a, listText [tt1, tt2], 2, rfl, sh_pair upd_same sz1 sz2, pair_len st1 st2, by omega, fun Z2 z2 => ⟨_, rfl, rfl, ?_⟩⟩
  have := q Z2 ((kk.trans z1).trans (Keep.of (sa.trans z2)))
  simpa using this
end
end K21

namespace K21
open PySem PySem.Spec PyProof.Rows L2 Fp
section
variable {P : Program} {w : World} {K : PySem.W.Frag} {mg : Str → Option Value} {base : Heap} {k : Nat}
def spLaw (K : PySem.W.Frag) : Sp := fun vs H Q _ => ∃ (a : Addr) (ns : List Int), vs = [.ref a] ∧ SqL K H a (VI ns) ∧ ns.length ≤ 63 ∧ ∀ H', Q (.bl true) H'
abbrev sLaw : Stmt := top 50
theorem sc_law : FnScope ["_law_script", "_law_k"] ["_law_script"] (defScope sLaw) := ⟨rfl, rfl, rfl, by decide +kernel, rfl, by decide +kernel, by decide +kernel⟩
theorem d_law (B : Bnd K mg "law" sLaw) (M : Mg2 mg) (DP : Def P w K mg base k "_law_pot" sPot ["_law_script", "_law_k"] (spPot K)) (DR : DefG P w K mg base k "_law_right" s_law_right ["_law_pot_here"] (sp_law_right K)) : DefG P w K mg base (k + 1) "law" sLaw ["_law_script"] (spLaw K) := by
  refine defG_of B sc_law (by rintro _ _ _ _ ⟨a, ns, rfl, _⟩; rfl) (fun _ _ _ _ _ _ us hl => match us, hl with | [_], _ => rfl) fun f cdv A outer s H vs Q E hgd hr h => ?_
  obtain ⟨a, ns, rfl, hS, hl, q⟩ := h
  have hg2 : (A.deeper (envOfC "law" (defScope sLaw) s.heap.objs.size f cdv)).guards = some [] := hgd
  refine ⟨_, pss_one (ps_ret (pe_callB (cr_all rfl) (by rfl) M.all (by decide +kernel) (pa_cons (pe_lc (own := [("_law_k", 1)]) (g := gName 1) (tt := tYes) rfl sc_law.nd
      (pi_range1 (by rfl) M.range (pa_cons (pe_callB (call_max2 rfl) (by rfl) M.max (by decide +kernel) (pa_cons pe_int (pa_cons (pe_callB (call_min2 rfl) (by rfl) M.min (by decide +kernel) (pa_cons pe_int (pa_cons (pe_callB call_len_seq (by rfl) M.len boot_len (pa_cons (pv 0) pa_nil)) pa_nil))) pa_nil))) pa_nil))
      (blkOk_by (own := [("_law_k", 1)]) (N := ["_law_script", "_law_k"]) (sc := defScope sLaw) (by decide +kernel)) (fun _ _ _ _ _ => pg_name (i := 1) sc_law.nd rfl (Or.inl rfl)) (fun _ _ _ _ _ => pts_nil)
      (fun _ _ _ _ _ => pe_dG DR hg2 hr (by rfl) (pa_cons (pe_d DP hr (by rfl) (pa_cons (pv 0) (pa_cons (pv 1) pa_nil))) pa_nil))) pa_nil))), ?_⟩
  have ln := vi_len ns
  refine ⟨_, rfl, a, _, rfl, .inl hS, 3, _, rfl, 1, _, rfl, _, rfl, ?_, ?_, fun D nD => ?_⟩
  · split <;> split <;> omega
  · split <;> split <;> omega
  generalize hn : (if (if (((VI ns).length : Int)) < 3 then (((VI ns).length : Int)) else 3) > 1 then (if (((VI ns).length : Int)) < 3 then (((VI ns).length : Int)) else 3) else (1 : Int)) = n
  have hn2 : n ≤ 3 := by rw [← hn]; split <;> split <;> omega
  refine lc_rg (lo := 0) (n := n.toNat) (fun _ => some (.bl true)) nD (Nat.le_of_lt (small (by omega))) (fun i H1 hi s1 Y N y nn => ?_) (fun H1 s1 hD1 => ?_)
  · refine ⟨rfl, _, rfl, _, rfl, a, ns, 0 + (i : Int), rfl, s1.seq hS, by omega, by omega, fun p H2 s2 np hp => ⟨p, rfl, hp, fun H3 k3 => ?_⟩⟩
    exact y _ _ (fun b o hb => k3 _ _ (ne_of_none hb np) (s2 _ _ hb)) rfl
  · rw [all_true] at hD1
    refine ⟨D, List.replicate n.toNat true, rfl, SqL.of hD1, ?_⟩
    rw [all_rep]
    exact q _
end
theorem bnd {K : PySem.W.Frag} {h : Heap} {mg : Str → Option Value} (X : K.In h) (G : h.Ns mainGlobals mg) {x : Str} {st : Stmt} {f : Addr} {oc kV dc pm cd ct : Value} {od an : Option Addr} {sl : Array (Option Value)} (a : PySem.W.nsIn K mainGlobals x = some (some (.ref f)))
    (l : K.lookup f = some ⟨oc, od, .func (PySem.W.fnOf x x (defArgs st) (defBody st) (defScope st) .none kV dc pm an cd ct), sl⟩) (c : PySem.W.codeIn K cd x = true) (k : PySem.W.keepIn K (.ref f) = true) : Bnd K mg x st :=
  ⟨f, _, PySem.W.mg_of X G a, fun_mk (st := st) l c k⟩
theorem cls_mk {K : PySem.W.Frag} {h : Heap} {mg : Str → Option Value} (X : K.In h) (G : h.Ns mainGlobals mg) {C fI fR T p3 f3 p4 f4 p5 f5 f6 u6 f7 u7 f8 f9 : Addr} {od1 an1 od2 an2 od3 an3 od4 an4 od5 an5 od6 an6 od7 an7 od8 an8 od9 an9 odT : Option Addr} {sl1 sl2 sl3 sl4 sl5 sl6 sl7 sl8 sl9 slT : Array (Option Value)} {oc1 kV1 dc1 pm1 cd1 ct1 oc2 kV2 dc2 pm2 cd2 ct2 oc3 kV3 dc3 pm3 cd3 ct3 oc4 kV4 dc4 pm4 cd4 ct4 oc5 kV5 dc5 pm5 cd5 ct5 oc6 kV6 dc6 pm6 cd6 ct6 oc7 kV7 dc7 pm7 cd7 ct7 oc8 kV8 dc8 pm8 cd8 ct8 oc9 kV9 dc9 pm9 cd9 ct9 ocT : Value} {n : Nat} {tk : Tok} {rest3 rest4 rest5 : List Value} {fo6 ro6 fo7 ro7 : Option Value}
    (aC : PySem.W.nsIn K mainGlobals "Ratio" = some (some (.ref C)))
    (pg : PySem.W.plainGet K C Str.empty = true)
    (hd : PySem.W.hasDictIn K C = true)
    (po : PySem.W.plainOver K C = true)
    (sa : PySem.W.findIn K (.ref C) "__setattr__" = some (some (.builtin "object.__setattr__")))
    (nT : PySem.W.findIn K (.ref C) "_top" = some none)
    (nB : PySem.W.findIn K (.ref C) "_bottom" = some none)
    (mk : PySem.W.makesIn K C = true)
    (kc : PySem.W.keepIn K (.ref C) = true)
    (a1 : PySem.W.findIn K (.ref C) "__init__" = some (some (.ref fI)))
    (i1 : PySem.W.isFn K (.ref fI) = true)
    (a2 : PySem.W.findIn K (.ref C) "__repr__" = some (some (.ref fR)))
    (i2 : PySem.W.isFn K (.ref fR) = true)
    (isA : PySem.W.findIn K (.ref C) "__class__" = some (some (.builtin "object.__class__")))
    (isN : PySem.W.specialIn K (.builtin "object.__class__") "__get__" = some (some (.builtin "getset_descriptor.__get__")))
    (isT : PySem.W.takesIn K (.builtin "object.__class__") = some true)
    (isM : PySem.W.mroIn K C (.type "object") = some true)
    (kI : PySem.W.kitOne K (.ref C) (.type "int") = some false)
    (kB : PySem.W.kitOne K (.ref C) (.type "bool") = some false)
    (kL : PySem.W.kitOne K (.ref C) (.type "list") = some false)
    (kT : PySem.W.kitOne K (.ref C) (.type "tuple") = some false)
    (l1 : K.lookup fI = some ⟨oc1, od1, .func (PySem.W.fnOf "__init__" "Ratio.__init__" (defArgs s_Ratio___init__) (defBody s_Ratio___init__) (defScope s_Ratio___init__) (.ref T) kV1 dc1 pm1 an1 cd1 ct1), sl1⟩)
    (c1 : PySem.W.codeIn K cd1 "Ratio.__init__" = true)
    (k1 : PySem.W.keepIn K (.ref fI) = true)
    (lT : K.lookup T = some ⟨ocT, odT, .seq #[.int 1 tk] n, slT⟩)
    (l2 : K.lookup fR = some ⟨oc2, od2, .func (PySem.W.fnOf "__repr__" "Ratio.__repr__" (defArgs s_Ratio___repr__) (defBody s_Ratio___repr__) (defScope s_Ratio___repr__) .none kV2 dc2 pm2 an2 cd2 ct2), sl2⟩)
    (c2 : PySem.W.codeIn K cd2 "Ratio.__repr__" = true)
    (k2 : PySem.W.keepIn K (.ref fR) = true)
    (ji : PySem.W.kitOne K (.type "int") (.ref C) = some false)
    (jb : PySem.W.kitOne K (.type "bool") (.ref C) = some false)
    (jn : PySem.W.kitOne K (.type "NoneType") (.ref C) = some false)
    (js : PySem.W.kitOne K (.type "str") (.ref C) = some false)
    (jl : PySem.W.kitOne K (.type "list") (.ref C) = some false)
    (jt : PySem.W.kitOne K (.type "tuple") (.ref C) = some false)
    (jd : PySem.W.kitOne K (.type "dict") (.ref C) = some false)
    (jc : PySem.W.kitOne K (.ref C) (.ref C) = some true)
    (q3 : PySem.W.findIn K (.ref C) "top" = some (some (.ref p3)))
    (g3 : PySem.W.specialIn K (.ref p3) "__get__" = some (some (.builtin "property.__get__")))
    (t3 : PySem.W.takesIn K (.ref p3) = some true)
    (r3 : PySem.W.recIn K p3 "property" = some (.ref f3 :: rest3))
    (l3 : K.lookup f3 = some ⟨oc3, od3, .func (PySem.W.fnOf "top" "Ratio.top" (defArgs s_Ratio_top) (defBody s_Ratio_top) (defScope s_Ratio_top) .none kV3 dc3 pm3 an3 cd3 ct3), sl3⟩)
    (c3 : PySem.W.codeIn K cd3 "Ratio.top" = true)
    (k3 : PySem.W.keepIn K (.ref f3) = true)
    (q4 : PySem.W.findIn K (.ref C) "bottom" = some (some (.ref p4)))
    (g4 : PySem.W.specialIn K (.ref p4) "__get__" = some (some (.builtin "property.__get__")))
    (t4 : PySem.W.takesIn K (.ref p4) = some true)
    (r4 : PySem.W.recIn K p4 "property" = some (.ref f4 :: rest4))
    (l4 : K.lookup f4 = some ⟨oc4, od4, .func (PySem.W.fnOf "bottom" "Ratio.bottom" (defArgs s_Ratio_bottom) (defBody s_Ratio_bottom) (defScope s_Ratio_bottom) .none kV4 dc4 pm4 an4 cd4 ct4), sl4⟩)
    (c4 : PySem.W.codeIn K cd4 "Ratio.bottom" = true)
    (k4 : PySem.W.keepIn K (.ref f4) = true)
    (q5 : PySem.W.findIn K (.ref C) "sign" = some (some (.ref p5)))
    (g5 : PySem.W.specialIn K (.ref p5) "__get__" = some (some (.builtin "property.__get__")))
    (t5 : PySem.W.takesIn K (.ref p5) = some true)
    (r5 : PySem.W.recIn K p5 "property" = some (.ref f5 :: rest5))
    (l5 : K.lookup f5 = some ⟨oc5, od5, .func (PySem.W.fnOf "sign" "Ratio.sign" (defArgs s_Ratio_sign) (defBody s_Ratio_sign) (defScope s_Ratio_sign) .none kV5 dc5 pm5 an5 cd5 ct5), sl5⟩)
    (c5 : PySem.W.codeIn K cd5 "Ratio.sign" = true)
    (k5 : PySem.W.keepIn K (.ref f5) = true)
    (sf : PySem.W.selfFirst K C = true)
    (a6 : PySem.W.findIn K (.ref C) "__add__" = some (some (.ref f6)))
    (i6 : PySem.W.isFn K (.ref f6) = true)
    (ra6 : PySem.W.findIn K (.ref C) "__radd__" = some (some (.ref u6)))
    (h16 : PySem.W.findIn K (.type "int") "__add__" = some fo6)
    (h26 : PySem.W.findIn K (.type "int") "__radd__" = some ro6)
    (hs : PySem.W.subIn K (.type "int") (.ref C) = some false)
    (l6 : K.lookup f6 = some ⟨oc6, od6, .func (PySem.W.fnOf "__add__" "Ratio.__add__" (defArgs s_Ratio___add__) (defBody s_Ratio___add__) (defScope s_Ratio___add__) .none kV6 dc6 pm6 an6 cd6 ct6), sl6⟩)
    (c6 : PySem.W.codeIn K cd6 "Ratio.__add__" = true)
    (k6 : PySem.W.keepIn K (.ref f6) = true)
    (a7 : PySem.W.findIn K (.ref C) "__mul__" = some (some (.ref f7)))
    (i7 : PySem.W.isFn K (.ref f7) = true)
    (ra7 : PySem.W.findIn K (.ref C) "__rmul__" = some (some (.ref u7)))
    (h17 : PySem.W.findIn K (.type "int") "__mul__" = some fo7)
    (h27 : PySem.W.findIn K (.type "int") "__rmul__" = some ro7)
    (l7 : K.lookup f7 = some ⟨oc7, od7, .func (PySem.W.fnOf "__mul__" "Ratio.__mul__" (defArgs s_Ratio___mul__) (defBody s_Ratio___mul__) (defScope s_Ratio___mul__) .none kV7 dc7 pm7 an7 cd7 ct7), sl7⟩)
    (c7 : PySem.W.codeIn K cd7 "Ratio.__mul__" = true)
    (k7 : PySem.W.keepIn K (.ref f7) = true)
    (a8 : PySem.W.findIn K (.ref C) "__neg__" = some (some (.ref f8)))
    (i8 : PySem.W.isFn K (.ref f8) = true)
    (l8 : K.lookup f8 = some ⟨oc8, od8, .func (PySem.W.fnOf "__neg__" "Ratio.__neg__" (defArgs s_Ratio___neg__) (defBody s_Ratio___neg__) (defScope s_Ratio___neg__) .none kV8 dc8 pm8 an8 cd8 ct8), sl8⟩)
    (c8 : PySem.W.codeIn K cd8 "Ratio.__neg__" = true)
    (k8 : PySem.W.keepIn K (.ref f8) = true)
    (a9 : PySem.W.findIn K (.ref C) "__eq__" = some (some (.ref f9)))
    (i9 : PySem.W.isFn K (.ref f9) = true)
    (l9 : K.lookup f9 = some ⟨oc9, od9, .func (PySem.W.fnOf "__eq__" "Ratio.__eq__" (defArgs s_Ratio___eq__) (defBody s_Ratio___eq__) (defScope s_Ratio___eq__) .none kV9 dc9 pm9 an9 cd9 ct9), sl9⟩)
    (c9 : PySem.W.codeIn K cd9 "Ratio.__eq__" = true)
    (k9 : PySem.W.keepIn K (.ref f9) = true) :
    ∃ (C fI fR : Addr) (fdI fdR : FuncData), RCls K mg C fI fR ∧ FunD K "__init__" "Ratio.__init__" (defArgs s_Ratio___init__) (defBody s_Ratio___init__) (defScope s_Ratio___init__) [V.int 1] [] fI fdI ∧ Fun K "__repr__" "Ratio.__repr__" s_Ratio___repr__ fR fdR ∧ RIsi K C ∧ (∃ (p g : Addr) (fd : FuncData), PropOf K C "top" p g ∧ Fun K "top" "Ratio.top" s_Ratio_top g fd) ∧ (∃ (p g : Addr) (fd : FuncData), PropOf K C "bottom" p g ∧ Fun K "bottom" "Ratio.bottom" s_Ratio_bottom g fd) ∧ (∃ (p g : Addr) (fd : FuncData), PropOf K C "sign" p g ∧ Fun K "sign" "Ratio.sign" s_Ratio_sign g fd) ∧ (∃ (f : Addr) (fd : FuncData), BinF K C f .Add ∧ Fun K "__add__" "Ratio.__add__" s_Ratio___add__ f fd) ∧ (∃ (f : Addr) (fd : FuncData), BinF K C f .Mult ∧ Fun K "__mul__" "Ratio.__mul__" s_Ratio___mul__ f fd) ∧ (∃ (f : Addr) (fd : FuncData), Meth K C "__neg__" f ∧ Fun K "__neg__" "Ratio.__neg__" s_Ratio___neg__ f fd) ∧ (∃ (f : Addr) (fd : FuncData), PySem.W.findIn K (.ref C) "__eq__" = some (some (.ref f)) ∧ PySem.W.isFn K (.ref f) = true ∧ Fun K "__eq__" "Ratio.__eq__" s_Ratio___eq__ f fd) := by
  refine ⟨C, fI, fR, _, _, ⟨⟨pg, hd, po, sa⟩, nT, nB, PySem.W.mg_of X G aC, ⟨mk, a1, i1, kc⟩, a2, i2, isA, isN, isT, isM, kI, kB, kL, kT⟩,
    ⟨⟨oc1, od1, .ref T, kV1, dc1, pm1, an1, cd1, ct1, sl1, rfl, l1, c1, .inr ⟨List.cons_ne_nil _ _, T, _, [.int 1 tk], n, rfl, lT, rfl, .cons ⟨tk, rfl⟩ .nil⟩, .inl rfl⟩, k1⟩, fun_mk (st := s_Ratio___repr__) l2 c2 k2, ⟨ji, jb, jn, js, jl, jt, jd, jc⟩,
    ⟨p3, f3, _, ⟨q3, g3, t3, rest3, r3⟩, fun_mk (st := s_Ratio_top) l3 c3 k3⟩, ⟨p4, f4, _, ⟨q4, g4, t4, rest4, r4⟩, fun_mk (st := s_Ratio_bottom) l4 c4 k4⟩, ⟨p5, f5, _, ⟨q5, g5, t5, rest5, r5⟩, fun_mk (st := s_Ratio_sign) l5 c5 k5⟩, ⟨f6, _, ⟨sf, ?_, i6, ⟨u6, ?_⟩, ⟨fo6, ?_⟩, ⟨ro6, ?_⟩, hs⟩, fun_mk (st := s_Ratio___add__) l6 c6 k6⟩, ⟨f7, _, ⟨sf, ?_, i7, ⟨u7, ?_⟩, ⟨fo7, ?_⟩, ⟨ro7, ?_⟩, hs⟩, fun_mk (st := s_Ratio___mul__) l7 c7 k7⟩, ⟨f8, _, ⟨a8, i8, k8⟩, fun_mk (st := s_Ratio___neg__) l8 c8 k8⟩, ⟨f9, _, a9, i9, fun_mk (st := s_Ratio___eq__) l9 c9 k9⟩⟩
  · show PySem.W.findIn K (.ref C) (PySem.dunder "add") = _
    rw [show PySem.dunder "add" = ("__add__" : Str) by decide +kernel]; exact a6
  · show PySem.W.findIn K (.ref C) (PySem.dunderR "add") = _
    rw [show PySem.dunderR "add" = ("__radd__" : Str) by decide +kernel]; exact ra6
  · show PySem.W.findIn K (.type "int") (PySem.dunder "add") = _
    rw [show PySem.dunder "add" = ("__add__" : Str) by decide +kernel]; exact h16
  · show PySem.W.findIn K (.type "int") (PySem.dunderR "add") = _
    rw [show PySem.dunderR "add" = ("__radd__" : Str) by decide +kernel]; exact h26
  · show PySem.W.findIn K (.ref C) (PySem.dunder "mul") = _
    rw [show PySem.dunder "mul" = ("__mul__" : Str) by decide +kernel]; exact a7
  · show PySem.W.findIn K (.ref C) (PySem.dunderR "mul") = _
    rw [show PySem.dunderR "mul" = ("__rmul__" : Str) by decide +kernel]; exact ra7
  · show PySem.W.findIn K (.type "int") (PySem.dunder "mul") = _
    rw [show PySem.dunder "mul" = ("__mul__" : Str) by decide +kernel]; exact h17
  · show PySem.W.findIn K (.type "int") (PySem.dunderR "mul") = _
    rw [show PySem.dunderR "mul" = ("__rmul__" : Str) by decide +kernel]; exact h27
structure All (K : PySem.W.Frag) (mg : Str → Option Value) : Prop where
  g : Mg2 mg
  R : ∃ (C fI fR : Addr) (fdI fdR : FuncData), RCls K mg C fI fR ∧ FunD K "__init__" "Ratio.__init__" (defArgs s_Ratio___init__) (defBody s_Ratio___init__) (defScope s_Ratio___init__) [V.int 1] [] fI fdI ∧ Fun K "__repr__" "Ratio.__repr__" s_Ratio___repr__ fR fdR ∧ RIsi K C ∧ (∃ (p g : Addr) (fd : FuncData), PropOf K C "top" p g ∧ Fun K "top" "Ratio.top" s_Ratio_top g fd) ∧ (∃ (p g : Addr) (fd : FuncData), PropOf K C "bottom" p g ∧ Fun K "bottom" "Ratio.bottom" s_Ratio_bottom g fd) ∧ (∃ (p g : Addr) (fd : FuncData), PropOf K C "sign" p g ∧ Fun K "sign" "Ratio.sign" s_Ratio_sign g fd) ∧ (∃ (f : Addr) (fd : FuncData), BinF K C f .Add ∧ Fun K "__add__" "Ratio.__add__" s_Ratio___add__ f fd) ∧ (∃ (f : Addr) (fd : FuncData), BinF K C f .Mult ∧ Fun K "__mul__" "Ratio.__mul__" s_Ratio___mul__ f fd) ∧ (∃ (f : Addr) (fd : FuncData), Meth K C "__neg__" f ∧ Fun K "__neg__" "Ratio.__neg__" s_Ratio___neg__ f fd) ∧ (∃ (f : Addr) (fd : FuncData), PySem.W.findIn K (.ref C) "__eq__" = some (some (.ref f)) ∧ PySem.W.isFn K (.ref f) = true ∧ Fun K "__eq__" "Ratio.__eq__" s_Ratio___eq__ f fd)
  b10 : Bnd K mg "is_integer" sInteger
  b11 : Bnd K mg "is_list" sList
  b14 : Bnd K mg "is_number" s_is_number
  b15 : Bnd K mg "as_ratio" s_as_ratio
  b16 : Bnd K mg "over_one_bottom" s_over_one_bottom
  b18 : Bnd K mg "whole_product" s_whole_product
  b21 : Bnd K mg "is_poly" s_is_poly
  b22 : Bnd K mg "told" s_told
  b23 : Bnd K mg "degree" s_degree
  b24 : Bnd K mg "plus" s_plus
  b25 : Bnd K mg "minus" s_minus
  b26 : Bnd K mg "scaled" s_scaled
  b27 : Bnd K mg "times" s_times
  b28 : Bnd K mg "worth" s_worth
  b29 : Bnd K mg "derived" s_derived
  b30 : Bnd K mg "trimmed" s_trimmed
  b31 : Bnd K mg "added" s_added
  b32 : Bnd K mg "multiplied" s_multiplied
  b34 : Bnd K mg "_law_pot" sPot
  b35 : Bnd K mg "_law_draw" sDraw
  b36 : Bnd K mg "_law_pick" sPick
  b37 : Bnd K mg "_law_trim" s_law_trim
  b38 : Bnd K mg "_law_gcd" s_law_gcd
  b39 : Bnd K mg "_law_own" s_law_own
  b40 : Bnd K mg "_law_plus" s_law_plus
  b41 : Bnd K mg "_law_times" s_law_times
  b42 : Bnd K mg "_law_same" s_law_same
  b43 : Bnd K mg "_law_is" s_law_is
  b44 : Bnd K mg "_law_poly" s_law_poly
  b45 : Bnd K mg "_law_passed" s_law_passed
  b46 : Bnd K mg "_law_worth" s_law_worth
  b47 : Bnd K mg "_law_derived" s_law_derived
  b48 : Bnd K mg "_law_worth_right" s_law_worth_right
  b49 : Bnd K mg "_law_right" s_law_right
  b50 : Bnd K mg "law" sLaw
theorem all_law {P : Program} {w : World} {K : PySem.W.Frag} {mg : Str → Option Value} {base : Heap} (A : All K mg) : DefG P w K mg base 26 "law" sLaw ["_law_script"] (spLaw K) := by
  obtain ⟨C, fI, fR, fdI, fdR, R, FI, FR, J, ⟨pr0, gr0, fr0, Pr0, Fr0⟩, ⟨pr1, gr1, fr1, Pr1, Fr1⟩, ⟨pr2, gr2, fr2, Pr2, Fr2⟩, ⟨fo0, fdo0, BO0, FO0⟩, ⟨fo1, fdo1, BO1, FO1⟩, ⟨fm0, fdm0, MM0, FM0⟩, ⟨fe, fde, ae, ie, FE⟩⟩ := A.R
  have bI := FI.binds1 (ps := ["self", "top", "bottom"]) 2 0 (List.cons_ne_nil _ _) rfl fun T kV doc pm an cdv ct us its hu hi => match us, its, hu, hi with | [_, _], [_], _, _ => ⟨_, rfl, rfl⟩
  have bI2 : Binds K fdI ["self", "top", "bottom"] [] := by
    obtain ⟨ds, hv, hb⟩ := FI.binds1 (ps := ["self", "top", "bottom"]) 3 1 (List.cons_ne_nil _ _) rfl fun T kV doc pm an cdv ct us its hu hi => match us, its, hu, hi with | [_, _, _], [_], _, _ => ⟨_, rfl, rfl⟩
    cases hv
    exact hb
  have bR := FR.binds (ps := ["self"]) fun _ _ _ _ _ _ us hl => match us, hl with | [_], _ => rfl
  have br0 := Fr0.binds (ps := ["self"]) fun _ _ _ _ _ _ us hl => match us, hl with | [_], _ => rfl
  have br1 := Fr1.binds (ps := ["self"]) fun _ _ _ _ _ _ us hl => match us, hl with | [_], _ => rfl
  have br2 := Fr2.binds (ps := ["self"]) fun _ _ _ _ _ _ us hl => match us, hl with | [_], _ => rfl
  have bo0 := FO0.binds (ps := ["self", "other"]) fun _ _ _ _ _ _ us hl => match us, hl with | [_, _], _ => rfl
  have bo1 := FO1.binds (ps := ["self", "other"]) fun _ _ _ _ _ _ us hl => match us, hl with | [_, _], _ => rfl
  have bm0 := FM0.binds (ps := ["self"]) fun _ _ _ _ _ _ us hl => match us, hl with | [_], _ => rfl
  have be := FE.binds (ps := ["self", "other"]) fun _ _ _ _ _ _ us hl => match us, hl with | [_, _], _ => rfl
  have N_is_integer : Def P w K mg base 1 _ _ _ _ := d_integer (k := 0) A.b10 A.g.toMg
  have RD : RDef P w K mg base 2 C := ⟨fI, fR, fdI, fdR, R, d_rinit (k := 1) FI R A.g.toMg N_is_integer, bI, bI2, d_rrepr (k := 1) FR R, bR⟩
  have DQ : RDefQ P w K mg base 2 C := ⟨fI, fR, fdI, R, d_rinitQ (k := 1) FI R A.g.toMg N_is_integer, bI2⟩
  have PT : PropX P w K mg base 2 C "top" (spTopR C) := ⟨pr0, gr0, fr0, Pr0, d_rtop (k := 1) Fr0 R, br0⟩
  have PB : PropX P w K mg base 2 C "bottom" (spBotR C) := ⟨pr1, gr1, fr1, Pr1, d_rbot (k := 1) Fr1 R, br1⟩
  have PS : PropX P w K mg base 2 C "sign" (spSgnR C) := ⟨pr2, gr2, fr2, Pr2, d_rsgn (k := 1) Fr2 R, br2⟩
  have EX : EqX P w K mg base 2 C := ⟨fe, fde, ae, ie, d_req (k := 1) FE R J A.g.toMg, be⟩
  have X_as : Def P w K mg base 11 _ _ _ _ := d_as_ratio (k := 10) A.b15 A.g.toMg R J RD (by omega)
  have AD : BinX P w K mg base 12 C .Add (spAddQ C) := ⟨fo0, fdo0, BO0, d_radd (k := 11) FO0 R DQ PT PB (by omega) X_as, bo0⟩
  have MU : BinX P w K mg base 12 C .Mult (spMulQ C) := ⟨fo1, fdo1, BO1, d_rmul (k := 11) FO1 R DQ PT PB (by omega) X_as, bo1⟩
  have NE : UnX P w K mg base 12 C (spNegQ C) := ⟨fm0, fdm0, MM0.at_, MM0.fn, d_rneg (k := 11) FM0 R DQ (by omega), bm0⟩
  have RD12 : RDef P w K mg base 12 C := ⟨fI, fR, fdI, fdR, R, (d_rinit (k := 1) FI R A.g.toMg N_is_integer).mono (by omega), bI, bI2, (d_rrepr (k := 1) FR R).mono (by omega), bR⟩
  have DQ12 : RDefQ P w K mg base 12 C := ⟨fI, fR, fdI, R, (d_rinitQ (k := 1) FI R A.g.toMg N_is_integer).mono (by omega), bI2⟩
  have PT12 : PropX P w K mg base 12 C "top" (spTopR C) := ⟨pr0, gr0, fr0, Pr0, (d_rtop (k := 1) Fr0 R).mono (by omega), br0⟩
  have PB12 : PropX P w K mg base 12 C "bottom" (spBotR C) := ⟨pr1, gr1, fr1, Pr1, (d_rbot (k := 1) Fr1 R).mono (by omega), br1⟩
  have EX12 : EqX P w K mg base 12 C := ⟨fe, fde, ae, ie, (d_req (k := 1) FE R J A.g.toMg).mono (by omega), be⟩
  have X_int : Def P w K mg base 1 _ _ _ _ := d_is_integer (k := 0) A.b10 A.g R
  have X_list : Def P w K mg base 1 _ _ _ _ := d_is_list (k := 0) A.b11 A.g R
  have X_num : Def P w K mg base 2 _ _ _ _ := d_is_number (k := 1) A.b14 A.g R J X_int
  have X_over : Def P w K mg base 12 _ _ _ _ := d_over_one_bottom (k := 11) A.b16 A.g R PT PB (by omega) X_as
  have X_whole : Def P w K mg base 1 _ _ _ _ := d_whole_product (k := 0) A.b18 A.g
  have X_poly : Def P w K mg base 3 _ _ _ _ := d_is_poly (k := 2) A.b21 A.g R (X_list.mono (by omega)) X_num
  have X_trim : Def P w K mg base 11 _ _ _ _ := d_trimmed (k := 10) A.b30 A.g R J PS (by omega)
  have X_told : Def P w K mg base 13 _ _ _ _ := d_told (k := 12) A.b22 A.g R (X_as.mono (by omega)) (X_poly.mono (by omega)) (X_trim.mono (by omega))
  have X_deg : Def P w K mg base 14 _ _ _ _ := d_degree (k := 13) A.b23 A.g R X_told
  have X_added : Def P w K mg base 21 _ _ _ _ := d_added (k := 20) A.b31 A.g R AD (by omega) (X_trim.mono (by omega))
  have X_mult : Def P w K mg base 13 _ _ _ _ := d_multiplied (k := 12) A.b32 A.g R DQ (by omega) X_over (X_whole.mono (by omega))
  have X_plus : Def P w K mg base 22 _ _ _ _ := d_plus (k := 21) A.b24 A.g R (X_told.mono (by omega)) X_added
  have X_minus : Def P w K mg base 22 _ _ _ _ := d_minus (k := 21) A.b25 A.g R NE (by omega) (X_told.mono (by omega)) X_added
  have X_scaled : Def P w K mg base 21 _ _ _ _ := d_scaled (k := 20) A.b26 A.g R MU (by omega) (X_as.mono (by omega)) (X_told.mono (by omega)) (X_trim.mono (by omega))
  have X_times : Def P w K mg base 14 _ _ _ _ := d_times (k := 13) A.b27 A.g R X_told X_mult
  have X_worth : Def P w K mg base 21 _ _ _ _ := d_worth (k := 20) A.b28 A.g R RD12 AD MU (by omega) (X_as.mono (by omega)) (X_told.mono (by omega))
  have X_derived : Def P w K mg base 21 _ _ _ _ := d_derived (k := 20) A.b29 A.g R MU (by omega) (X_told.mono (by omega))
  have L_trim : Def P w K mg base 1 _ _ _ _ := d_law_trim (k := 0) A.b37 A.g
  have L_gcd : Def P w K mg base 1 _ _ _ _ := d_law_gcd (k := 0) A.b38 A.g
  have L_own : Def P w K mg base 11 _ _ _ _ := d_law_own (k := 10) A.b39 A.g R PT PB (by omega) (L_gcd.mono (by omega))
  have L_plus : Def P w K mg base 2 _ _ _ _ := d_law_plus (k := 1) A.b40 A.g L_trim
  have L_times : Def P w K mg base 2 _ _ _ _ := d_law_times (k := 1) A.b41 A.g L_trim
  have L_same : Def P w K mg base 1 _ _ _ _ := d_law_same (k := 0) A.b42 A.g
  have L_is : Def P w K mg base 12 _ _ _ _ := d_law_is (k := 11) A.b43 A.g R J L_own (L_same.mono (by omega))
  have L_draw : Def P w K mg base 1 _ _ _ _ := d_draw (k := 0) A.b35 A.g.toMg
  have L_pick : Def P w K mg base 2 _ _ _ _ := d_pick (k := 1) A.b36 A.g.toMg L_draw
  have L_poly : Def P w K mg base 3 _ _ _ _ := d_law_poly (k := 2) A.b44 A.g (L_draw.mono (by omega)) L_pick (L_trim.mono (by omega))
  have L_passed : Def P w K mg base 11 _ _ _ _ := d_law_passed (k := 10) A.b45 A.g R RD DQ (by omega) (L_draw.mono (by omega)) (L_pick.mono (by omega))
  have L_worth : Def P w K mg base 1 _ _ _ _ := d_law_worth (k := 0) A.b46 A.g
  have L_derived : Def P w K mg base 2 _ _ _ _ := d_law_derived (k := 1) A.b47 A.g L_trim
  have L_wr : Def P w K mg base 23 _ _ _ _ := d_law_worth_right (k := 22) A.b48 A.g R J DQ12 PT12 PB12 EX12 AD MU (by omega) X_plus (X_times.mono (by omega)) (X_worth.mono (by omega)) (L_draw.mono (by omega)) (L_pick.mono (by omega)) (L_worth.mono (by omega))
  have L_right : DefG P w K mg base 25 _ _ _ _ := d_law_right (k := 24) A.b49 A.g R RD DQ (by omega) (X_poly.mono (by omega)) (X_told.mono (by omega)) (X_deg.mono (by omega)) (X_plus.mono (by omega)) (X_minus.mono (by omega)) (X_scaled.mono (by omega)) (X_times.mono (by omega)) (X_derived.mono (by omega)) (L_draw.mono (by omega)) (L_pick.mono (by omega)) (L_plus.mono (by omega)) (L_times.mono (by omega)) (L_is.mono (by omega)) (L_poly.mono (by omega)) (L_passed.mono (by omega)) (L_derived.mono (by omega)) (L_wr.mono (by omega))
  have L_pot : Def P w K mg base 1 _ _ _ _ := d_pot (k := 0) A.b34 A.g.toMg
  exact d_law (k := 25) A.b50 A.g (L_pot.mono (by omega)) L_right
theorem mg_int {K : PySem.W.Frag} {h : Heap} {mg : Str → Option Value} {x : Str} {z : Int} {t : Tok} (X : K.In h) (G : h.Ns mainGlobals mg) (a : PySem.W.nsIn K mainGlobals x = some (some (.int z t))) : ∃ t, mg x = some (.int z t) := ⟨t, PySem.W.mg_of X G a⟩
theorem fun_fd {K : PySem.W.Frag} {x : Str} {st : Stmt} {f : Addr} {fd fd' : FuncData} (a : Fun K x x st f fd) (b : Fun K x x st f fd') : fd = fd' := by
  obtain ⟨_, _, _, _, _, _, _, _, _, _, l1, _⟩ := a.ex
  obtain ⟨_, _, _, _, _, _, _, _, _, _, l2, _⟩ := b.ex
  rw [l1] at l2
  cases l2
  rfl
theorem fin {l : PySem.W.OpenLaw} {w : World} {K : PySem.W.Frag} {mg : Str → Option Value} {fa : Addr} (hfa : mg "law" = some (.ref fa)) (A : All K mg) :
    ∃ fd : FuncData, (∀ (s : Shared) (v : Value), BindsTo s fd ⟨[v], []⟩ [("_law_script", v)]) ∧ ∀ base : Heap, K.In base → base.Ns mainGlobals mg → FnG l.prog w K mg base CX0 26 fa fd ["_law_script"] (spLaw K) := by
  obtain ⟨f, fd, hm, F⟩ := A.b50.ex
  obtain rfl : f = fa := by
    rw [hfa] at hm
    cases hm
    rfl
  refine ⟨fd, fun s v => ?_, fun base _ _ => ?_⟩
  · obtain ⟨_, _, _, _, _, _, _, _, _, rfl, _⟩ := F.ex
    exact .of_eq rfl
  · obtain ⟨f', fd', hm', F', _, ok⟩ := (all_law (P := l.prog) (w := w) (base := base) A).ex
    obtain rfl : f = f' := by
      rw [hm] at hm'
      cases hm'
      rfl
    rw [fun_fd F F']
    exact ok
end K21
open PySem PySem.W PyProof.Rows
set_option maxRecDepth 100000 in
set_option maxHeartbeats 0 in
theorem PySem.Challenge.cw_fromplaces_k12_whole_reckoned_and_worths_holds : PySem.Challenge.rw_fromplaces_k12_whole_reckoned_and_worths.Holds := by
  w_on; o_law; k_head; (case hw => w_witness2)
  k_fill
  refine Fp.walk_ofG (l := PySem.Challenge.rw_fromplaces_k12_whole_reckoned_and_worths) (n := 63) (k := 26) (x := "_law_script") (sp := K21.spLaw) rfl (by decide) rfl ⟨rfl, by decide, by decide⟩ (fun w h Y => PySem.W.kIn_of Y) ?F (fun K H a ns hl _ hS => ⟨a, ns, rfl, hS, hl, fun _ => rfl⟩)
  case F =>
    intro w mg fa h KX G hmg
    refine' K21.fin hmg ?_
    refine' ⟨⟨⟨?_, ?_, ?_, ?_, ?_, ?_, ?_, ?_, ?_, ?_, ?_, ?_, ?_, ?_, ?_, ?_, ?_, ?_, ?_, ?_, ?_⟩, ?_⟩, ?R, ?_, ?_, ?_, ?_, ?_, ?_, ?_, ?_, ?_, ?_, ?_, ?_, ?_, ?_, ?_, ?_, ?_, ?_, ?_, ?_, ?_, ?_, ?_, ?_, ?_, ?_, ?_, ?_, ?_, ?_, ?_, ?_, ?_, ?_, ?_⟩
    (case R => (refine' K21.cls_mk KX G ?aC ?pg ?hd ?po ?sa ?nT ?nB ?mk ?kc ?a1 ?i1 ?a2 ?i2 ?isA ?isN ?isT ?isM ?kI ?kB ?kL ?kT ?l1 ?c1 ?k1 ?lT ?l2 ?c2 ?k2 ?ji ?jb ?jn ?js ?jl ?jt ?jd ?jc ?q3 ?g3 ?t3 ?r3 ?l3 ?c3 ?k3 ?q4 ?g4 ?t4 ?r4 ?l4 ?c4 ?k4 ?q5 ?g5 ?t5 ?r5 ?l5 ?c5 ?k5 ?sf ?a6 ?i6 ?ra6 ?h16 ?h26 ?hs ?l6 ?c6 ?k6 ?a7 ?i7 ?ra7 ?h17 ?h27 ?l7 ?c7 ?k7 ?a8 ?i8 ?l8 ?c8 ?k8 ?a9 ?i9 ?l9 ?c9 ?k9); (case aC => k_is); (case pg => k_is); (case hd => k_is); (case po => k_is); (case sa => k_is); (case nT => k_is); (case nB => k_is); (case mk => k_is); (case kc => k_is); (case a1 => k_is); (case i1 => k_is); (case a2 => k_is); (case i2 => k_is); (case isA => k_is); (case isN => k_is); (case isT => k_is); (case isM => k_is); (case kI => kit_is); (case kB => kit_is); (case kL => kit_is); (case kT => kit_is); (case l1 => k_is); (case c1 => k_is); (case k1 => k_is); (case lT => k_is); (case l2 => k_is); (case c2 => k_is); (case k2 => k_is); (case ji => kit_is); (case jb => kit_is); (case jn => kit_is); (case js => kit_is); (case jl => kit_is); (case jt => kit_is); (case jd => kit_is); (case jc => kit_is); (case q3 => k_is); (case g3 => k_is); (case t3 => k_is); (case r3 => k_is); (case l3 => k_is); (case c3 => k_is); (case k3 => k_is); (case q4 => k_is); (case g4 => k_is); (case t4 => k_is); (case r4 => k_is); (case l4 => k_is); (case c4 => k_is); (case k4 => k_is); (case q5 => k_is); (case g5 => k_is); (case t5 => k_is); (case r5 => k_is); (case l5 => k_is); (case c5 => k_is); (case k5 => k_is); (case sf => k_is); (case a6 => k_is); (case i6 => k_is); (case ra6 => k_is); (case h16 => k_is); (case h26 => k_is); (case hs => k_is); (case l6 => k_is); (case c6 => k_is); (case k6 => k_is); (case a7 => k_is); (case i7 => k_is); (case ra7 => k_is); (case h17 => k_is); (case h27 => k_is); (case l7 => k_is); (case c7 => k_is); (case k7 => k_is); (case a8 => k_is); (case i8 => k_is); (case l8 => k_is); (case c8 => k_is); (case k8 => k_is); (case a9 => k_is); (case i9 => k_is); (case l9 => k_is); (case c9 => k_is); (case k9 => k_is))
    (refine' PySem.W.mg_none_of KX G ?a; (case a => k_is))
    (refine' PySem.W.mg_none_of KX G ?a; (case a => k_is))
    (refine' PySem.W.mg_none_of KX G ?a; (case a => k_is))
    (refine' PySem.W.mg_none_of KX G ?a; (case a => k_is))
    (refine' PySem.W.mg_none_of KX G ?a; (case a => k_is))
    (refine' PySem.W.mg_none_of KX G ?a; (case a => k_is))
    (refine' PySem.W.mg_none_of KX G ?a; (case a => k_is))
    (refine' PySem.W.mg_none_of KX G ?a; (case a => k_is))
    (refine' PySem.W.mg_none_of KX G ?a; (case a => k_is))
    (refine' PySem.W.mg_none_of KX G ?a; (case a => k_is))
    (refine' PySem.W.mg_none_of KX G ?a; (case a => k_is))
    (refine' PySem.W.mg_none_of KX G ?a; (case a => k_is))
    (refine' PySem.W.mg_none_of KX G ?a; (case a => k_is))
    (refine' PySem.W.mg_none_of KX G ?a; (case a => k_is))
    (refine' PySem.W.mg_none_of KX G ?a; (case a => k_is))
    (refine' PySem.W.mg_none_of KX G ?a; (case a => k_is))
    (refine' PySem.W.mg_none_of KX G ?a; (case a => k_is))
    (refine' PySem.W.mg_none_of KX G ?a; (case a => k_is))
    (refine' PySem.W.mg_none_of KX G ?a; (case a => k_is))
    (refine' PySem.W.mg_of KX G ?a; (case a => k_is))
    (refine' PySem.W.mg_of KX G ?a; (case a => k_is))
    (refine' K21.mg_int KX G ?a; (case a => k_is))
    all_goals (refine' K21.bnd KX G ?a ?l ?c ?k; (case a => k_is); (case l => k_is); (case c => k_is); (case k => k_is))
