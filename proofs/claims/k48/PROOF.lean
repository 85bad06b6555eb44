import PyProof.Rows.All
import Wide.All
import OpenK.AllK
import Wide.FinOn
import HandS.ForMost
import HandS.IsInst
import HandS.Gcd
import HandS.Style
import HandS.SetFor
import HandS.Strs
import PyProof.ReprRoads
import KE.Datum
import KE.SortData
import KE.GoesMore
import KE.GoesZip
import HandS.Walk
import HandS.TupAny
import HandS.Star
import HandS.Deep
import HandS.Codes
import HandS.Conv
import KE.GoesEnum
import HandS.SortInts
import HandS.OwnEq
import HandS.Property
import PyProof.ReprNest
import PyProof.ReprReads
import PyProof.Rows.RegStrFacts
import KE.KOpsOwn
import PyProof.ReprBulk
import HandS.FStr
import HandS.Defaults
import OpenK.KMeth
import PyProof.NeKinds
import HandS.Wide
import KE.KMathGC
import PyProof.Walk
import PyProof.WalkLemmas
import PyProof.TwoTypes
import PyProof.EqKinds
import HandS.DictComp
import HandS.WideBits
import KE.RegKIsAll
import PySem.Challenge.RW_fromplaces_k48_any_value_as_making
set_option Elab.async false
set_option linter.all false
set_option maxRecDepth 100000
set_option maxHeartbeats 8000000
namespace Fp
open PySem PySem.Spec PyProof.Rows L2

/-! ### heaps -/
theorem same_new {H : Hp} {p : Addr} {o : HO} (h : H p = none) : Same H (upd H p o) := fun b u q => by rw [upd_ne (ne_of_none q h)]; exact q
theorem same_sqT {K : PySem.W.Frag} {H H' : Hp} {a : Addr} {xs : List V} (e : Same H H') (h : SqT K H a xs) : SqT K H' a xs := by
  rcases h with (h | ⟨o, h⟩) | h
  · exact Or.inl (Or.inl (e _ _ h))
  · exact Or.inl (Or.inr ⟨o, e _ _ h⟩)
  · exact Or.inr h
/-- a list or a tuple that is read -/
def Sq (K : PySem.W.Frag) (H : Hp) (a : Addr) (xs : List V) : Prop := SqL K H a xs ∨ SqT K H a xs
theorem Sq.same {K : PySem.W.Frag} {H H' : Hp} {a : Addr} {xs : List V} (h : Sq K H a xs) (e : Same H H') : Sq K H' a xs := h.imp (fun q => e.seq q) (fun q => same_sqT e q)
theorem sq_lst {K : PySem.W.Frag} {H : Hp} {a : Addr} {xs : List V} (h : H a = some (.lst xs)) : Sq K H a xs := Or.inl (SqL.of h)
theorem sq_tup {K : PySem.W.Frag} {H : Hp} {a : Addr} {xs : List V} (h : H a = some (.tup xs)) : Sq K H a xs := Or.inr (SqT.of h)
/-- all but p as it was -/
def Keep (p : Addr) (H H' : Hp) : Prop := ∀ b o, b ≠ p → H b = some o → H' b = some o
theorem Keep.refl (p : Addr) (H : Hp) : Keep p H H := fun _ _ _ h => h
theorem Keep.trans {p : Addr} {H H1 H2 : Hp} (a : Keep p H H1) (b : Keep p H1 H2) : Keep p H H2 := fun c o n h => b c o n (a c o n h)
theorem Keep.of {p : Addr} {H H' : Hp} (a : Same H H') : Keep p H H' := fun c o _ h => a c o h
theorem keep_upd {p : Addr} {H : Hp} {o : HO} : Keep p H (upd H p o) := fun b u n q => by rw [upd_ne n]; exact q

/-! ### what is walked: a list or a tuple -/
section
variable {X : Cx} {tg : Expr}
theorem pi_or {l : Expr} {w1 w2 : TI} (h1 : PI X tg l w1) (h2 : PI X tg l w2) : PI X tg l (fun σ H R => w1 σ H R ∨ w2 σ H R) :=
  ⟨fun pins s σ H R I h => h.elim (fun q => h1.run pins s σ H R I q) (fun q => h2.run pins s σ H R I q)⟩
def iSq (K : PySem.W.Frag) (tl : TE) : TI := fun σ H R => iList K tl σ H R ∨ iTup K tl σ H R
theorem pi_sq {l : Expr} {tl : TE} (hl : PE X l tl) : PI X tg l (iSq X.K tl) := pi_or (pi_list hl) (pi_tup hl)
end
section
variable {K : PySem.W.Frag} {tl : TE} {a : Addr} {xs : List V} {g : TG} {tt : TT} {te : TE} {vs : List Nat} {σ : L2.St} {H : Hp} {Q : VK} {tb : TS} {D : Ends}
/-- for x in a list or a tuple that stood at H0 and stands still -/
theorem for_sq {H0 : Hp} (Pv : Nat → L2.St → Hp → Prop) (hv : ∀ R : V → Hp → Prop, R (.ref a) H → tl σ H R) (hS : Sq K H0 a xs) (e0 : Same H0 H) (h0 : Pv 0 σ H) (hl : ∀ i σ' H', Pv i σ' H' → Same H0 H')
    (hs : ∀ i x σ H, xs[i]? = some x → Pv i σ H → g x σ H fun σ2 H2 => tb { D with nx := Pv (i + 1), ct := Pv (i + 1), bk := D.nx } σ2 H2) (hd : ∀ σ H, Pv xs.length σ H → D.nx σ H) : tFor (iSq K tl) g tb D σ H := by
  rcases hS with hS | hS
  · exact Or.inl (hv _ ⟨a, rfl, ⟨xs, e0.seq hS⟩, for_list (xs := xs) Pv h0 (fun i σ' H' _ p => (hl i σ' H' p).seq hS) hs hd⟩)
  · exact Or.inr (hv _ ⟨a, rfl, ⟨xs, same_sqT e0 hS⟩, for_tup (xs := xs) Pv h0 (fun i σ' H' _ p => same_sqT (hl i σ' H' p) hS) hs hd⟩)

/-! ### comprehensions whose elements leave what is tracked as it was: index i yields f i (or is left out) -/
theorem fm_succ {α : Type} (f : Nat → Option α) (i : Nat) : (List.range (i + 1)).filterMap f = (List.range i).filterMap f ++ (match f i with | some y => [y] | none => []) := by
  rw [List.range_succ, List.filterMap_append]
  cases e : f i <;> simp [e]
theorem fm_len {α : Type} (f : Nat → Option α) (n : Nat) : ((List.range n).filterMap f).length ≤ n := by
  have q := List.length_filterMap_le f (List.range n)
  rw [List.length_range] at q
  exact q
/-- the part of a reading that a turn of such a comprehension is -/
def LcTurn (f : Nat → Option V) (g : TG) (tt : TT) (te : TE) (vs : List Nat) (σ : L2.St) (i : Nat) (x : V) (H0 H1 : Hp) : Prop :=
  ∀ (Y : V → Hp → Prop) (N : Hp → Prop), (∀ y H2, Same H0 H2 → f i = some y → Y y H2) → (∀ H2, Same H0 H2 → f i = none → N H2) →
    g x (wipe σ vs) H1 fun σ2 H2 => wipe σ2 vs = wipe σ vs ∧ tt σ2 H2 fun b H3 => if b = true then te σ2 H3 Y else N H3
/-- the invariant -/
def LcInv (f : Nat → Option V) (H : Hp) (Dd : Addr) (i : Nat) (H1 : Hp) : Prop := Same H H1 ∧ H1 Dd = some (.lst ((List.range i).filterMap f))
theorem LcInv.start {f : Nat → Option V} {Dd : Addr} (hD : H Dd = none) : LcInv f H Dd 0 (upd H Dd (.lst [])) := ⟨same_new hD, by rw [upd_same]; rfl⟩
theorem LcInv.turn {f : Nat → Option V} {Dd : Addr} (hD : H Dd = none) {i : Nat} (hz : i < sizeLine) {x : V} {H1 H0 : Hp} (h : LcInv f H Dd i H1) (h0 : Same H1 H0) (t : LcTurn f g tt te vs σ i x H1 H0) :
    g x (wipe σ vs) H0 fun σ2 H2 => wipe σ2 vs = wipe σ vs ∧ tt σ2 H2 fun b H3 =>
      if b = true then te σ2 H3 fun y H4 => ∃ acc, H4 Dd = some (.lst acc) ∧ acc.length < sizeLine ∧ LcInv f H Dd (i + 1) (upd H4 Dd (.lst (acc ++ [y]))) else LcInv f H Dd (i + 1) H3 := by
  refine t _ _ (fun y H2 sm e => ?_) fun H2 sm e => ?_
  · refine ⟨_, sm _ _ h.2, Nat.lt_of_le_of_lt (fm_len f i) hz, fun b o q => ?_, ?_⟩
    · rw [upd_ne (ne_of_none q hD)]
      exact sm _ _ (h.1 _ _ q)
    · rw [upd_same, fm_succ, e]
  · refine ⟨fun b o q => sm _ _ (h.1 _ _ q), ?_⟩
    rw [sm _ _ h.2, fm_succ, e, List.append_nil]
theorem lc_sq (f : Nat → Option V) (hv : ∀ R : V → Hp → Prop, R (.ref a) H → tl σ H R) (hS : Sq K H a xs) (hz : xs.length ≤ sizeLine)
    (hs : ∀ i x H1, xs[i]? = some x → Same H H1 → LcTurn f g tt te vs σ i x H1 H1)
    (hd : ∀ Dd H1, Same H H1 → H Dd = none → H1 Dd = some (.lst ((List.range xs.length).filterMap f)) → Q (.ref Dd) H1) : tLc (iSq K tl) g tt te vs σ H Q := by
  have hi : ∀ {i : Nat} {x : V}, xs[i]? = some x → i < sizeLine := fun {i x} e => Nat.lt_of_lt_of_le (List.getElem?_eq_some_iff.mp e).1 hz
  rcases hS with hS | hS
  · exact Or.inl (hv _ ⟨a, rfl, ⟨xs, hS⟩, fun Dd hD => lc_list (xs := xs) (LcInv f H Dd) (LcInv.start hD) (fun i H1 _ p => p.1.seq hS)
      (fun i x H1 hx p => p.turn hD (hi hx) (Same.refl _) (hs i x H1 hx p.1)) fun H1 p => hd Dd H1 p.1 hD p.2⟩)
  · exact Or.inr (hv _ ⟨a, rfl, ⟨xs, hS⟩, fun Dd hD => lc_tup (xs := xs) (LcInv f H Dd) (LcInv.start hD) (fun i H1 _ p => same_sqT p.1 hS)
      (fun i x H1 hx p => p.turn hD (hi hx) (Same.refl _) (hs i x H1 hx p.1)) fun H1 p => hd Dd H1 p.1 hD p.2⟩)
/-- over a range: ahead of it stand the range's own words -/
theorem lc_rg {lo : Int} {n : Nat} {Dd : Addr} {Qd : Hp → Prop} (f : Nat → Option V) (hD : H Dd = none) (hz : n ≤ sizeLine)
    (hs : ∀ i H1, i < n → Same H H1 → LcTurn f g tt te vs σ i (.int (lo + i)) H1 H1)
    (hd : ∀ H1, Same H H1 → H1 Dd = some (.lst ((List.range n).filterMap f)) → Qd H1) : ∃ W : Nat → Nat → Hp → Prop, (∃ m, W 0 m (upd H Dd (.lst []))) ∧ ∀ i m H, W i m H →
      ((Itr lo n).stop i H ∧ Qd H) ∨ ((Itr lo n).go i H ∧ ∃ Nx : Hp → Prop, (∀ H', Nx H' → ∃ m', m' < m ∧ W (i + 1) m' H') ∧ ∀ x H', (Itr lo n).yld i H x H' → g x (wipe σ vs) H' fun σ2 H2 => wipe σ2 vs = wipe σ vs ∧ tt σ2 H2 fun b H3 =>
        if b = true then te σ2 H3 fun y H4 => ∃ acc, H4 Dd = some (.lst acc) ∧ acc.length < sizeLine ∧ Nx (upd H4 Dd (.lst (acc ++ [y]))) else Nx H3) :=
  lc_range (lo := lo) (n := n) (LcInv f H Dd) (LcInv.start hD) (fun i H1 hi p => p.turn hD (Nat.lt_of_lt_of_le hi hz) (Same.refl _) (hs i H1 hi p.1)) fun H1 p => hd H1 p.1 p.2
/-- over enumerate of a list -/
theorem lc_en {Dd : Addr} {Qd : Hp → Prop} (f : Nat → Option V) (hS : SqL K H a xs) (hD : H Dd = none) (hz : xs.length ≤ sizeLine)
    (hs : ∀ i x H1 T, xs[i]? = some x → Same H H1 → H1 T = none → LcTurn f g tt te vs σ i (.ref T) H1 (upd H1 T (.tup [.int (i : Nat), x])))
    (hd : ∀ H1, Same H H1 → H1 Dd = some (.lst ((List.range xs.length).filterMap f)) → Qd H1) : ∃ W : Nat → Nat → Hp → Prop, (∃ m, W 0 m (upd H Dd (.lst []))) ∧ ∀ i m H, W i m H →
      ((Ite K a).stop i H ∧ Qd H) ∨ ((Ite K a).go i H ∧ ∃ Nx : Hp → Prop, (∀ H', Nx H' → ∃ m', m' < m ∧ W (i + 1) m' H') ∧ ∀ x H', (Ite K a).yld i H x H' → g x (wipe σ vs) H' fun σ2 H2 => wipe σ2 vs = wipe σ vs ∧ tt σ2 H2 fun b H3 =>
        if b = true then te σ2 H3 fun y H4 => ∃ acc, H4 Dd = some (.lst acc) ∧ acc.length < sizeLine ∧ Nx (upd H4 Dd (.lst (acc ++ [y]))) else Nx H3) := by
  refine ⟨fun i m H1 => m = xs.length - i ∧ i ≤ xs.length ∧ LcInv f H Dd i H1, ⟨xs.length, rfl, Nat.zero_le _, LcInv.start hD⟩, ?_⟩
  rintro i m H1 ⟨rfl, hi, p⟩
  have q : SqL K H1 a xs := p.1.seq hS
  by_cases hlt : i < xs.length
  · have hx : xs[i]? = some xs[i] := List.getElem?_eq_getElem hlt
    refine Or.inr ⟨⟨xs, xs[i], q, hx⟩, LcInv f H Dd (i + 1), fun H' p' => ⟨xs.length - (i + 1), by omega, rfl, hlt, p'⟩, ?_⟩
    rintro v H' ⟨T, x, rfl, hT, rfl, hy⟩
    have ex : x = xs[i] := Option.some.inj ((hy xs q).symm.trans hx)
    subst ex
    exact p.turn hD (Nat.lt_of_lt_of_le hlt hz) (same_new hT) (hs i _ H1 T hx p.1 hT)
  · have e : i = xs.length := by omega
    subst e
    exact Or.inl ⟨⟨xs, q, Nat.le_refl _⟩, hd H1 p.1 p.2⟩
end
/-- from an index to the items -/
theorem fm_take {α : Type} (xs : List α) (h : α → Option V) : ∀ n, (List.range n).filterMap (fun i => (xs[i]?).bind h) = (xs.take n).filterMap h
  | 0 => by rw [List.take_zero]; rfl
  | n + 1 => by
    rw [fm_succ, fm_take xs h n, List.take_add_one, List.filterMap_append]
    cases e : xs[n]? with
    | none => rfl
    | some x =>
      cases e2 : h x <;> simp [e2]
theorem fm_all {α : Type} (xs : List α) (h : α → Option V) : (List.range xs.length).filterMap (fun i => (xs[i]?).bind h) = xs.filterMap h := by
  rw [fm_take, List.take_length]
end Fp

namespace Fp
open PySem PySem.Spec PyProof.Rows L2

/-! ### isinstance(x, (list, tuple)) -/
theorem tyx_of {K : PySem.W.Frag} {H : Hp} {a : Addr} {xs : List V} (h : Sq K H a xs) : TyX K H (.ref a) (.type "list") ∨ TyX K H (.ref a) (.type "tuple") := by
  rcases h with ((h | ⟨o, h⟩) | ⟨o, its, n, hk, hc, _⟩) | ((h | ⟨o, h⟩) | ⟨o, its, n, hk, hc, _⟩)
  · exact Or.inl (.base (.lst h))
  · exact Or.inl (.base (.frz h))
  · exact Or.inl (.kList hk hc)
  · exact Or.inr (.base (.tup h))
  · exact Or.inr (.fTuple h)
  · exact Or.inr (.kTuple hk hc)
theorem kit_lt {K : PySem.W.Frag} : PySem.W.kitAny K (.type "list") [.type "list", .type "tuple"] = some true ∧ PySem.W.kitAny K (.type "tuple") [.type "list", .type "tuple"] = some true := by
  refine ⟨kitAny_cons (kit_ty (r := true) (by decide +kernel)) (fun z => nomatch z) (fun _ => rfl), ?_⟩
  exact kitAny_cons (kit_ty (r := false) (by decide +kernel)) (fun _ => kitAny_cons (kit_ty (r := true) (by decide +kernel)) (fun z => nomatch z) (fun _ => rfl)) (fun z => nomatch z)
theorem isi_lt {K : PySem.W.Frag} {H : Hp} {a tp : Addr} {xs : List V} {Q : VK} (h : Sq K H a xs) (ht : H tp = some (.tup [.ty "list", .ty "tuple"])) (q : Q (.bl true) H) : rIsiT K [.ref a, .ref tp] H Q := by
  rcases tyx_of h with t | t
  · exact ⟨_, tp, _, _, _, true, rfl, ht, .cons (.ty _) (.cons (.ty _) .nil), t, kit_lt.1, q⟩
  · exact ⟨_, tp, _, _, _, true, rfl, ht, .cons (.ty _) (.cons (.ty _) .nil), t, kit_lt.2, q⟩
theorem kit_int {K : PySem.W.Frag} : PySem.W.kitOne K (.type "int") (.type "int") = some true := kit_ty (by decide +kernel)
theorem kit_int_bool {K : PySem.W.Frag} : PySem.W.kitOne K (.type "int") (.type "bool") = some false := kit_ty (by decide +kernel)
theorem isi_int {K : PySem.W.Frag} {H : Hp} {i : Int} {Q : VK} (q : Q (.bl true) H) : rIsi K [.int i, .ty "int"] H Q := ⟨_, _, _, _, true, rfl, .ty _, .base (.int i), kit_int, q⟩
theorem isi_bool {K : PySem.W.Frag} {H : Hp} {i : Int} {Q : VK} (q : Q (.bl false) H) : rIsi K [.int i, .ty "bool"] H Q := ⟨_, _, _, _, false, rfl, .ty _, .base (.int i), kit_int_bool, q⟩

/-! ### len of a list or a tuple -/
theorem len_sq {K : PySem.W.Frag} {H : Hp} {a : Addr} {xs : List V} {Q : VK} (h : Sq K H a xs) (q : Q (.int xs.length) H) : ∃ p ys, [V.ref a] = [.ref p] ∧ (SqL K H p ys ∨ SqT K H p ys) ∧ Q (.int ys.length) H := ⟨a, xs, rfl, h, q⟩

/-! ### set(..) of a list or a tuple of ints -/
abbrev eset (w : World) : Obj := { cls := .type "set", dict := none, data := .set #[] 0 (.fresh 0 0 (!w.params.followText "set-order")) }
section
variable {P : Program} {w : World} {A : Around} {E : Value → Shared → Prop} {s : Shared}
theorem call_set_lstI {l : Addr} {xs : Array Value} (ns : List Int) {Q : Value → Shared → Prop} (hh : A.handled = none) (hl : s.heap.IsList l xs) (hi : IntsAre xs.toList ns) (hb : ns.length + 1 < scanBound)
    (q : ∀ (h' : Heap) (tk c : Nat), SetR w h' s.heap.objs.size (fun j => decide (j ∈ ns)) c → c ≤ ns.length → (∀ b o, s.heap.get? b = some o → h'.get? b = some o) → Q (.ref s.heap.objs.size) { s with heap := h', toks := tk }) :
    wpAny (model P w) A (call (.type "set") [.ref l]) Q E s := by
  have sz : xs.size = ns.length := by have z := IntsAre.length hi; rw [Array.length_toList] at z; exact z
  obtain ⟨c0, tl0, mro0⟩ := F.called_set.mro
  have f1 := F.called_set.made
  have f2 := F.called_set.sub
  have f3 := F.called_set.notType
  have f4 := F.called_set.canCreate
  have f5 := F.typeCall_set_1 (.ref l)
  refine wpAny_call (codeAny_of_tree (wpAny_pure ⟨Code.quiet_builtin _ (by decide +kernel), codeAny_builtin F.entry_type_call ?_⟩))
  rw [Around.under_plain (weight_type_call_type "set" [.ref l] []) rfl]
  repeat (any_goals (first | assumption | wp_step))
  refine codeAny_mono (code_set_led1 (.ref l) (E := E) (Q₁ := fun ob sb => ob = .ref s.heap.objs.size ∧ sb = { s with heap := s.heap.push (eset w) }) ⟨rfl, rfl⟩) ?_
  rintro (e | fl) s1 hr
  · exact hr
  cases fl with
  | next => exact hr.elim
  | brk => exact hr.elim
  | cont => exact hr.elim
  | ret ob =>
    obtain ⟨rfl, rfl⟩ := hr
    have g0 : (s.heap.push (eset w)).get? s.heap.objs.size = some (eset w) := Heap.get?_push_size _ rfl
    have gT : Shared.TypeIs { s with heap := s.heap.push (eset w) } (.ref s.heap.objs.size) "set" := ⟨_, g0, rfl⟩
    have i1 := F.called_set.init.lookup
    have i2 := F.called_set.init.bind (.ref s.heap.objs.size)
    repeat (any_goals (first | assumption | wp_step))
    refine codeAny_mono (codeAny_call_builtin (R := wants (fun r sb => r = .none ∧ ∃ h' tk c, sb = { s with heap := h', toks := tk } ∧ SetR w h' s.heap.objs.size (fun j => decide (j ∈ ns)) c ∧ c ≤ ns.length ∧
        (∀ b o, s.heap.get? b = some o → h'.get? b = some o)) E) F.called_set.init.plain F.entry_set_init (check_set_init_1 gT ?_)) ?_
    · obtain ⟨⟨ocls, odict, odata, oslots⟩, hol, hcl, nl, hdl⟩ := hl
      simp only at hcl hdl
      subst hcl; subst hdl
      have hl0 : l < s.heap.objs.size := Heap.lt_size hol
      have hol1 : (s.heap.push (eset w)).get? l = some { cls := .type "list", dict := odict, data := .seq xs nl, slots := oslots } := Heap.get?_push_of_some _ hol
      have hl1 : (s.heap.push (eset w)).IsList l xs := ⟨_, hol1, rfl, nl, rfl⟩
      have u1 := F.sub_list_set
      have u2 := F.sub_list_frozenset
      have u3 : (Value.type "list" == Value.type "dict") = false := by decide
      unfold Builtin.«set.__init__» noKeywords Builtin.Frozenset.updateFrom
      generalize hPI : pyIter = PI
      wp_walk
      subst hPI
      refine wpAny_pyIter_list hl1 ?_
      refine wpAny_bind (wpAny_runValue ?_)
      have z1 : (s.heap.push (eset w)).objs.size = s.heap.objs.size + 1 := Heap.size_push ..
      have n1 : l ≠ (s.heap.push (eset w)).objs.size := Nat.ne_of_lt (by rw [z1]; exact Nat.lt_succ_of_lt hl0)
      have n2 : s.heap.objs.size ∉ [(s.heap.push (eset w)).objs.size, l] := by
        simp only [List.mem_cons, List.not_mem_nil, or_false, not_or]
        exact ⟨Nat.ne_of_lt (by rw [z1]; exact Nat.lt_succ_self _), Nat.ne_of_gt hl0⟩
      have it : ∀ (i : Nat) (v : Value), xs[i]? = some v → ∃ k t, ns[i]? = some k ∧ v = .int k t := fun i v hv => by
        have hlt : i < ns.length := by rw [← sz]; exact (Array.getElem?_eq_some_iff.mp hv).1
        obtain ⟨t, e⟩ := PyProof.Rows.IntsAre.int_at hi i v (by rw [Array.getElem?_toList]; exact hv)
        refine ⟨ns[i], t, List.getElem?_eq_getElem hlt, e.trans ?_⟩
        rw [List.getD_eq_getElem?_getD, List.getElem?_eq_getElem hlt]; rfl
      have hA3 : A.in1.in1.in1.handled = none := by simp [hh]
      refine set_update_ints ((Walks.list hA3 _ l n1 xs).toS) s.heap.objs.size n2 ns sz hb it (xs.size - 0) 0 _ (by omega) (Nat.zero_le _) ⟨⟨_, Heap.get?_push_size _ rfl, rfl, rfl⟩, (hl1.push _)⟩ ?_ ?_
      · exact ⟨0, Nat.le_refl 0, setR_new_at (Heap.get?_push_of_some _ g0)⟩
      · rintro ⟨h', g2, d', tk', os'⟩ c' hm hc' hS'
        obtain rfl : g2 = s.gens := hm.gens
        obtain rfl : d' = s.drawn := hm.drawn
        obtain rfl : os' = s.os := hm.os
        rw [sz] at hc'
        refine wpAny_pure (wpAny_pure ⟨rfl, h', tk', c', rfl, hS', hc', fun b o e => ?_⟩)
        have hb0 : b < s.heap.objs.size := Heap.lt_size e
        refine hm.heap b o ?_ (Heap.get?_push_of_some _ (Heap.get?_push_of_some _ e))
        simp only [List.mem_cons, List.not_mem_nil, or_false, not_or]
        exact ⟨Nat.ne_of_lt hb0, Nat.ne_of_lt (by rw [z1]; exact Nat.lt_succ_of_lt hb0)⟩
    · rintro (e | f2) s2 hr2
      · exact hr2
      cases f2 with
      | next => exact hr2.elim
      | brk => exact hr2.elim
      | cont => exact hr2.elim
      | ret r =>
        obtain ⟨rfl, h', tk, c', rfl, hS', hc', hk'⟩ := hr2
        repeat (any_goals (first | assumption | wp_step))
        exact q _ _ _ hS' hc' hk'
end
end Fp

namespace Fp
open PySem PySem.Spec PyProof.Rows L2

/-! ### repr(..) of data, where nothing is being shown -/
def rRepr (K : PySem.W.Frag) : List V → Hp → VK → Prop := fun vs H Q => ∃ (a : Addr) (d : PyData), vs = [.ref a] ∧ Dp K H (.ref a) d ∧ d.showable = true ∧ d.hasDict = false ∧ d.depth ≤ 8 ∧ d.shown.length ≤ sizeLine ∧ Q (.str d.shown) H
theorem cr_repr {X : Cx} (hu : X.A.units + 64 < cLine) (hg : X.A.guards = some []) : CallR X (.builtin "repr") (rRepr X.K) := by
  intro pins s σ H xs us Q I r h
  obtain ⟨a, d, rfl, hd, h1, h2, h3, h4, q⟩ := h
  rw [Vals.ref1 r]
  obtain ⟨as, hr⟩ := Dp.reads I d _ (.ref a) hd rfl
  refine repr_of_reads' hr h1 (fun z => by rw [h2] at z; cases z) hg (by omega) (fun _ _ e => e) (fun h' u tk k => ?_) h4
  exact ⟨.str d.shown, H, I.kept (t' := tk) k, ⟨u, rfl⟩, q⟩

/-! ### defs that are called where nothing is being shown -/
structure FnG (P : Program) (w : World) (K : PySem.W.Frag) (mg : Str → Option Value) (base : Heap) (CX : CXT) (k : Nat) (f : Addr) (fd : FuncData) (ps : List Str) (sp : Sp) : Prop where
  len : ∀ vs H Q E, sp vs H Q E → vs.length = ps.length
  go : ∀ (A : Around) (outer : List Env) (s : Shared) (H : Hp) (args : Args) (us : List Value) (vs : List V) (Q : VK) (E : XK), A.guards = some [] → Room k A → Env0 P w K mg base A outer s H → BindsTo s fd args (ps.zip us) → Vals vs us → sp vs H Q E →
    codeAny (model P w) A (.call (.ref f) args) (CR CX outer P w H s Q E) s
section
variable {P : Program} {w : World} {K : PySem.W.Frag} {mg : Str → Option Value} {base : Heap} {CX : CXT} {k : Nat} {f : Addr}
theorem fnG_of {name qual : Str} {params : Arguments} {body : List Stmt} {scope : Scope} {dV kV doc pm cdv ct oc : Value} {an od : Option Addr} {osl : Array (Option Value)} {N ps : List Str} {sp : Sp}
    (lk : K.lookup f = some ⟨oc, od, .func (PySem.W.fnOf name qual params body scope dV kV doc pm an cdv ct), osl⟩) (hcd : PySem.W.codeIn K cdv qual = true) (S : FnScope N ps scope) (len : ∀ vs H Q E, sp vs H Q E → vs.length = ps.length)
    (hb : ∀ (A : Around) (outer : List Env) (s : Shared) (H : Hp) (vs : List V) (Q : VK) (E : XK), A.guards = some [] → Room k (A.deeper (envOfC qual scope s.heap.objs.size f cdv)) → sp vs H Q E →
      ∃ t, PSs (cxOf CX P w K mg base N qual scope f cdv A outer s H E) body t ∧ t { nx := fun _ H1 => Q .non H1, rt := Q } (start N vs) H) :
    FnG P w K mg base CX (k + 1) f (PySem.W.fnOf name qual params body scope dV kV doc pm an cdv ct) ps sp := by
  constructor
  · exact len
  intro A outer s H args us vs Q E hgd hr e0 hbd rv hsp
  have z := len _ _ _ _ hsp
  have KX : K.In s.heap := e0.mod.kin.keeps (fun b o e => (e0.bs b o e).1)
  have nl : s.heap.NoLimit := e0.mod.nolimit.keeps (fun b o e => (e0.bs b o e).1)
  have par : ∀ y ∈ ps.zip us, scope.names.lookup y.1 = some .local ∨ (scope.names.lookup y.1 = some .cell ∧ ((cellsFrom (s.heap.objs.size + 1) scope.names []).lookup y.1).isSome = true) := by
    rintro ⟨n, v⟩ hy
    exact (S.par n (List.of_mem_zip hy).1).imp id fun q => ⟨q, PySem.W.cellsFrom_some _ _ _ (.inl q)⟩
  refine codeAny_call_function hr.depth (KX _ _ lk) rfl S.co S.gen rfl (PySem.W.codeRec_of KX hcd) (hbd _ _ _ _ (wpAny_newFunctionEnv_cells S.kind par ?_))
  rintro env rfl s1 x
  refine ⟨nl.keeps x.toInCall.keep, codeAny_func ?_⟩
  obtain ⟨t, ht, hq⟩ := hb A outer s H vs Q E hgd (hr.deeper _) hsp
  have I := inv_start (CX := CX) (cd := cdv) (f := f) (E := E) S hr.hd e0 z rv x
  refine wpAny_mono (ht.run [] s1 (start N vs) H _ I hq) ?_ (fun e s' h => h)
  rintro (_ | _ | _ | u) s' h
  · obtain ⟨σ', H', J, q⟩ := h
    exact ⟨.non, H', J.os, J.bare, J.base, J.hok, rfl, q⟩
  · obtain ⟨_, _, _, q⟩ := h
    exact q.elim
  · obtain ⟨_, _, _, q⟩ := h
    exact q.elim
  · obtain ⟨v, σ', H', J, r, q⟩ := h
    exact ⟨v, H', J.os, J.bare, J.base, J.hok, r, q⟩
/-- the rule for such a def -/
theorem fun_okG {x qual : Str} {st : Stmt} {fd : FuncData} {N ps : List Str} {sp : Sp} (F : Fun K x qual st f fd) (S : FnScope N ps (defScope st)) (len : ∀ vs H Q E, sp vs H Q E → vs.length = ps.length)
    (hb : ∀ (cdv : Value) (A : Around) (outer : List Env) (s : Shared) (H : Hp) (vs : List V) (Q : VK) (E : XK), A.guards = some [] → Room k (A.deeper (envOfC qual (defScope st) s.heap.objs.size f cdv)) → sp vs H Q E →
      ∃ t, PSs (cxOf CX0 P w K mg base N qual (defScope st) f cdv A outer s H E).nox (defBody st) t ∧ t { nx := fun _ H' => Q .non H', rt := Q } (start N vs) H) : FnG P w K mg base CX0 (k + 1) f fd ps sp := by
  obtain ⟨oc, od, kV, doc, pm, an, cdv, ct, osl, rfl, lk, hcd⟩ := F.ex
  refine fnG_of lk hcd S len fun A outer s H vs Q E hg hr hsp => ?_
  obtain ⟨t, h, q⟩ := hb cdv A outer s H vs Q E hg hr hsp
  exact ⟨t, h.nox, q⟩
end
section
variable {X : Cx} {CX : CXT} {k : Nat} {f : Addr} {fd : FuncData} {ps : List Str} {sp : Sp} {E : XK} {x : Str} {p pos : Pos} {e : Expr} {es : List Expr} {t : TA}
theorem pe_callG (F : FnG X.prog X.w X.K X.mg X.base CX k f fd ps sp) (hgd : X.A.guards = some []) (hr : Room k X.A) (hg : Gl X x) (hm : X.mg x = some (.ref f)) (hk : PySem.W.keepIn X.K (.ref f) = true) (hb : Binds X.K fd ps []) (hx : Passes CX X E)
    (ha : PA X (e :: es) t) (hdb : (x == ("__debug__" : Str)) = false := by decide) (he : starEach (e :: es) X.env = (false, eval e X.env) :: starEach es X.env := by rfl) (hpl : (backTo pos (starEach es X.env)).any (·.1) = false := by rfl) :
    PE X (.Call (.Name x p) (e :: es) [] pos) (fun σ H Q => t σ H fun vs H1 => sp vs H1 Q E) := by
  constructor
  intro pins s σ H Q I h
  refine wpAny_Call_Name_kw (ld_glob I hg hm (PySem.W.callWith_K (h₀ := X.base) I.ok.mod.kin hk (thn (ha.run pos pins s σ H _ I h) ?_) he hpl) hdb)
  rintro us s1 ⟨vs, H1, I1, r, q⟩
  refine ⟨I1.kIn, ?_⟩
  have hl : us.length = ps.length := by rw [← r.length]; exact F.len _ _ _ _ q
  have hb' : BindsTo s1 fd ⟨us, []⟩ (ps.zip us) := by
    have z := hb s1 us I1.kIn (by rw [List.append_nil]; exact hl)
    rw [List.append_nil] at z
    exact z
  refine wpAny_call (codeAny_mono (F.go X.A X.stack s1 H1 ⟨us, []⟩ us vs Q E hgd hr I1.env0 hb' r q) ?_)
  rintro (e | fl) s' hq
  · exact hx pins σ H1 s1 e s' I1 hq
  · cases fl with
    | ret u => exact I1.after hq
    | next => exact hq.elim
    | brk => exact hq.elim
    | cont => exact hq.elim
end
end Fp

namespace Fp
open PySem PySem.Spec PyProof.Rows L2

/-! ### the law's own call, by FnG -/
theorem only_base {P : Program} {w : World} {K : PySem.W.Frag} {mg mb : Str → Option Value} {a : Addr} {s : Shared} {vs : List Value} {H : Hp} (KX : K.In s.heap) (hns : s.heap.Ns mainGlobals mg) (hb : s.heap.Ns builtinsNs mb)
    (hbb : ∀ x : Str, x ≠ "__name__" → mb x = bootBuiltins x) (hlim : s.heap.NoLimit) (hgen : s.gens = #[]) (ha : s.heap.get? a = some { cls := .type "list", data := .seq vs.toArray }) (hok : HOk P w H s.heap)
    (hA : ∀ b, H b ≠ none → b = a) (hK : H a ≠ none → K.lookup a = none) : K.In (hidT s.heap H) ∧ (hidT s.heap H).Ns mainGlobals mg ∧ Env0 P w K mg (hidT s.heap H) callerA [] s H := by
  have fr : ∀ {b : Addr}, b ≠ a → H b = none := fun {b} n => by
    cases q : H b with
    | none => rfl
    | some u => exact absurd (hA b fun z => by rw [q] at z; cases z) n
  have dn : ∀ {b : Addr} {m : Str → Option Value}, s.heap.Ns b m → (hidT s.heap H).Ns b m := fun {b m} ⟨o, es, ep, e, d, r⟩ => by
    refine ⟨o, es, ep, hidT_get e (fr fun z => ?_), d, r⟩
    subst z
    obtain rfl := Option.some.inj (e.symm.trans ha)
    cases (show Data.seq vs.toArray _ = Data.dict es ep from d)
  have k0 : K.In (hidT s.heap H) := fun b o e => by
    by_cases z : H b = none
    · exact hidT_get (KX b o e) z
    · have eb := hA b z
      subst eb
      rw [hK z] at e
      cases e
  obtain ⟨mc, l1, l2⟩ := hlim
  exact ⟨k0, dn hns, ⟨rfl, ⟨k0, dn hns, ⟨mb, dn hb, hbb⟩, ⟨mc, dn l1, l2⟩⟩, fun b o e => of_hidT e, Nat.le_of_eq (hidT_size _ _), trivial, fun b z => absurd (show b ∈ ([] : List Addr) from z) (by simp), hok, .of_eq hgen⟩⟩
theorem law_callG {P : Program} {w : World} {K : PySem.W.Frag} {mg mb : Str → Option Value} {CX : CXT} {k : Nat} {fa a : Addr} {fd : FuncData} {x : Str} {sp : Sp} {s : Shared} {vs : List Value} {ns : List Int}
    (KX : K.In s.heap) (hns : s.heap.Ns mainGlobals mg) (hb : s.heap.Ns builtinsNs mb) (hbb : ∀ x : Str, x ≠ "__name__" → mb x = bootBuiltins x) (hlim : s.heap.NoLimit) (hgen : s.gens = #[])
    (ha : s.heap.get? a = some { cls := .type "list", data := .seq vs.toArray }) (hi : IntsAre vs ns) (hl : ns.length ≤ sizeLine) (hr : Room k callerA)
    (F : ∀ base : Heap, K.In base → base.Ns mainGlobals mg → FnG P w K mg base CX k fa fd [x] sp) (hbind : ∀ (s : Shared) (u : Value), BindsTo s fd ⟨[u], []⟩ [(x, u)])
    (hsp : ∀ H : Hp, Only H → SqL K H a (ns.map V.int) → sp [.ref a] H (fun v _ => v = .bl true) fun _ _ _ => False) (hCX : ∀ H e s', CX [] H s (fun _ _ _ => False) e s' → False) :
    codeAny (model P w) callerA (.call (.ref fa) ⟨[.ref a], []⟩) (fun r s' => r = .ok (.ret (.bool true)) ∧ OldK s.heap s'.heap ∧ s'.os = s.os ∧ AllBare s'.gens) s := by
  have rv := vals_ints hi
  have core : ∀ H : Hp, Only H → SqL K H a (ns.map V.int) → HOk P w H s.heap → (∀ b, H b ≠ none → b = a) → (H a ≠ none → K.lookup a = none) →
      codeAny (model P w) callerA (.call (.ref fa) ⟨[.ref a], []⟩) (fun r s' => r = .ok (.ret (.bool true)) ∧ OldK s.heap s'.heap ∧ s'.os = s.os ∧ AllBare s'.gens) s := by
    intro H hO hS hok hA hK
    obtain ⟨k0, n0, e0⟩ := only_base (P := P) (w := w) KX hns hb hbb hlim hgen ha hok hA hK
    refine codeAny_mono ((F _ k0 n0).go callerA [] s H ⟨[.ref a], []⟩ [.ref a] [.ref a] _ _ rfl hr e0 (hbind s (.ref a)) (.cons rfl .nil) (hsp H hO hS)) ?_
    rintro (e | fl) s' h
    · exact (hCX H e s' h).elim
    cases fl with
    | next => exact h.elim
    | brk => exact h.elim
    | cont => exact h.elim
    | ret u =>
      obtain ⟨v, H', os, bare, un, hok', r, q⟩ := h
      obtain rfl : v = .bl true := q
      obtain rfl : u = Value.bool true := r
      refine ⟨rfl, OldK.of_keep fun b o e => ?_, os, bare⟩
      rcases hO b with z | ⟨ob, xs, z⟩
      · exact un.keep b o e z (fun z => absurd (show b ∈ ([] : List Addr) from z) (by simp)) (by simp)
      · obtain ⟨e1, _⟩ := hok b _ z
        obtain ⟨e2, _⟩ := hok' b _ (un.frzs b ob _ z)
        exact e2.trans (e1.symm.trans e)
  cases hk : K.lookup a with
  | some o =>
    obtain rfl := Option.some.inj ((KX a o hk).symm.trans ha)
    exact core (fun _ => none) (fun _ => .inl rfl) (.inr ⟨_, vs.toArray, _, hk, rfl, rfl, rfl, by rw [List.size_toArray, hi.length]; exact hl, by simpa using rv⟩) (fun b u z => by cases (show (none : Option HO) = some u from z)) (fun b z => absurd rfl z) (fun z => absurd rfl z)
  | none =>
    have up : ∀ {b : Addr} {u : HO}, (fun c => if c = a then some (HO.frz { cls := .type "list", data := .seq vs.toArray } (.lst (ns.map V.int))) else none) b = some u → b = a ∧ u = HO.frz { cls := .type "list", data := .seq vs.toArray } (.lst (ns.map V.int)) := fun {b u} z => by
      by_cases hb : b = a
      · exact ⟨hb, (Option.some.inj ((if_pos hb).symm.trans z)).symm⟩
      · cases (if_neg hb).symm.trans z
    refine core (fun c => if c = a then some (HO.frz { cls := .type "list", data := .seq vs.toArray } (.lst (ns.map V.int))) else none) (fun b => ?_) (.inl (.inr ⟨_, if_pos rfl⟩)) (fun b u z => ?_) (fun b z => ?_) (fun _ => hk)
    · by_cases hb : b = a
      · exact .inr ⟨_, _, if_pos hb⟩
      · exact .inl (if_neg hb)
    · obtain ⟨rfl, rfl⟩ := up z
      exact ⟨ha, by rw [List.length_map]; exact hl, vs, _, rv, ha⟩
    · by_cases hb : b = a
      · exact hb
      · exact absurd (if_neg hb) z
theorem walk_ofG {l : PySem.W.OpenLaw} {n k : Nat} {q : Program} {loose : List Str} {XP : (Str → Option Value) → Heap → Prop} {YP : World → Heap → Prop} {d : DefRec} {K : Params → PySem.W.Frag} {sp : PySem.W.Frag → Sp} {x : Str}
    (hn : l.most = some n) (hn2 : n ≤ sizeLine) (hdf : d.params.defaults = []) (hr : Room k callerA) (hY : ∀ (w : World) (h : Heap), YP w h → (K w.params).In h)
    (F : ∀ (w : World) (mg : Str → Option Value) (fa : Addr) (h : Heap), (K w.params).In h → h.Ns mainGlobals mg → mg d.name = some (.ref fa) →
      ∃ fd : FuncData, (∀ (s : Shared) (u : Value), BindsTo s fd ⟨[u], []⟩ [(x, u)]) ∧ ∀ base : Heap, (K w.params).In base → base.Ns mainGlobals mg → FnG l.prog w (K w.params) mg base CX0 k fa fd [x] (sp (K w.params)))
    (hsp : ∀ (K : PySem.W.Frag) (H : Hp) (a : Addr) (ns : List Int), ns.length ≤ n → Only H → SqL K H a (ns.map V.int) → sp K [.ref a] H (fun v _ => v = .bl true) fun _ _ _ => False) :
    PySem.W.WalkO q loose XP YP l.row.toRowW d [] (fun f vs => PySem.call f vs) := by
  refine Att.attach_call hn hdf ?_
  intro w s₀ s₁ mg mb fa o pm cd doc a vs ns G Y ho hd hcd hmg hobj hints hlen hg
  have KX := hY w _ Y
  obtain ⟨fd, hb, hF⟩ := F w mg fa _ KX G.T.g hmg
  exact law_callG KX G.T.g G.T.b G.T.builtins G.T.nolimit hg hobj hints (Nat.le_trans hlen hn2) hr hF hb (fun H hO hS => hsp (K w.params) H a ns hlen hO hS) (fun H e s' h => h.elim)
end Fp

namespace Fp
open PySem PySem.Spec PyProof.Rows L2

/-- the def that stands at the module's name x -/
structure Bnd (K : PySem.W.Frag) (mg : Str → Option Value) (x : Str) (st : Stmt) : Prop where
  ex : ∃ (f : Addr) (fd : FuncData), mg x = some (.ref f) ∧ Fun K x x st f fd
/-- the def at the module's name x keeps its promise -/
structure Def (P : Program) (w : World) (K : PySem.W.Frag) (mg : Str → Option Value) (base : Heap) (k : Nat) (x : Str) (st : Stmt) (ps : List Str) (sp : Sp) : Prop where
  ex : ∃ (f : Addr) (fd : FuncData), mg x = some (.ref f) ∧ Fun K x x st f fd ∧ Binds K fd ps [] ∧ FnOk P w K mg base CX0 k f fd ps sp
structure DefG (P : Program) (w : World) (K : PySem.W.Frag) (mg : Str → Option Value) (base : Heap) (k : Nat) (x : Str) (st : Stmt) (ps : List Str) (sp : Sp) : Prop where
  ex : ∃ (f : Addr) (fd : FuncData), mg x = some (.ref f) ∧ Fun K x x st f fd ∧ Binds K fd ps [] ∧ FnG P w K mg base CX0 k f fd ps sp
/-- how a def without defaults binds -/
abbrev Bind (x : Str) (st : Stmt) (ps : List Str) : Prop := ∀ (kV doc pm : Value) (an : Option Addr) (cdv ct : Value) (us : List Value), us.length = ps.length → bindArgs (PySem.W.fnOf x x (defArgs st) (defBody st) (defScope st) .none kV doc pm an cdv ct) ⟨us, []⟩ = pure (ps.zip us)
section
variable {P : Program} {w : World} {K : PySem.W.Frag} {mg : Str → Option Value} {base : Heap} {k : Nat} {x : Str} {st : Stmt} {N ps : List Str} {sp : Sp}
theorem Def.mono {j : Nat} (D : Def P w K mg base k x st ps sp) (h : k ≤ j) : Def P w K mg base j x st ps sp := by
  obtain ⟨f, fd, a, b, c, d⟩ := D.ex
  exact ⟨f, fd, a, b, c, d.mono h⟩
theorem def_of (B : Bnd K mg x st) (S : FnScope N ps (defScope st)) (len : ∀ vs H Q E, sp vs H Q E → vs.length = ps.length) (hbi : Bind x st ps)
    (hb : ∀ (f : Addr) (cdv : Value) (A : Around) (outer : List Env) (s : Shared) (H : Hp) (vs : List V) (Q : VK) (E : XK), Room k (A.deeper (envOfC x (defScope st) s.heap.objs.size f cdv)) → sp vs H Q E →
      ∃ t, PSs (cxOf CX0 P w K mg base N x (defScope st) f cdv A outer s H E).nox (defBody st) t ∧ t { nx := fun _ H' => Q .non H', rt := Q } (start N vs) H) : Def P w K mg base (k + 1) x st ps sp := by
  obtain ⟨f, fd, hm, F⟩ := B.ex
  exact ⟨f, fd, hm, F, F.binds hbi, F.ok S len (hb f)⟩
theorem defG_of (B : Bnd K mg x st) (S : FnScope N ps (defScope st)) (len : ∀ vs H Q E, sp vs H Q E → vs.length = ps.length) (hbi : Bind x st ps)
    (hb : ∀ (f : Addr) (cdv : Value) (A : Around) (outer : List Env) (s : Shared) (H : Hp) (vs : List V) (Q : VK) (E : XK), A.guards = some [] → Room k (A.deeper (envOfC x (defScope st) s.heap.objs.size f cdv)) → sp vs H Q E →
      ∃ t, PSs (cxOf CX0 P w K mg base N x (defScope st) f cdv A outer s H E).nox (defBody st) t ∧ t { nx := fun _ H' => Q .non H', rt := Q } (start N vs) H) : DefG P w K mg base (k + 1) x st ps sp := by
  obtain ⟨f, fd, hm, F⟩ := B.ex
  exact ⟨f, fd, hm, F, F.binds hbi, fun_okG F S len (hb f)⟩
end
def tD (sp : Sp) (t : TA) : TE := fun σ H Q => t σ H fun vs H1 => sp vs H1 Q E0
def tDK (n m : Nat) (b : Bool) (sp : Sp) (t tk : TA) : TE := fun σ H Q => t σ H fun vs H1 => tk σ H1 fun zs H2 => vs.length = n ∧ zs.length = m ∧ sp (vs ++ if b = true then zs.reverse else zs) H2 Q E0
/-- how a def without defaults binds n values by place and m by the names ks (b: turned about) -/
abbrev BindK (n m : Nat) (b : Bool) (x : Str) (st : Stmt) (ps ks : List Str) : Prop := ∀ (kV doc pm : Value) (an : Option Addr) (cdv ct : Value) (us ws : List Value), us.length = n → ws.length = m →
  bindArgs (PySem.W.fnOf x x (defArgs st) (defBody st) (defScope st) .none kV doc pm an cdv ct) ⟨us, ks.zip ws⟩ = pure (ps.zip (us ++ if b = true then ws.reverse else ws))
section
variable {X : Cx} {k : Nat} {x : Str} {st : Stmt} {ps ks : List Str} {sp : Sp} {p pos : Pos} {e : Expr} {es : List Expr} {t tk : TA} {kws : List Keyword} {n m : Nat} {b : Bool}
/-- f(e, ..) -/
theorem pe_d (D : Def X.prog X.w X.K X.mg X.base k x st ps sp) (hr : Room k X.A) (hg : Gl X x) (ha : PA X (e :: es) t)
    (hdb : (x == ("__debug__" : Str)) = false := by decide) (he : starEach (e :: es) X.env = (false, eval e X.env) :: starEach es X.env := by rfl) (hpl : (backTo pos (starEach es X.env)).any (·.1) = false := by rfl) :
    PE X (.Call (.Name x p) (e :: es) [] pos) (tD sp t) := by
  obtain ⟨f, fd, hm, F, hb, ok⟩ := D.ex
  have q := pe_call (p := p) ok hr hg hm F.kp hb .nil (pass0 (X := X)) ha hdb he hpl
  have z : tCall sp [] E0 t = tD sp t := by
    funext σ H Q
    unfold tCall tD
    simp only [List.append_nil]
  rw [z] at q
  exact q
theorem pe_dG (D : DefG X.prog X.w X.K X.mg X.base k x st ps sp) (hgd : X.A.guards = some []) (hr : Room k X.A) (hg : Gl X x) (ha : PA X (e :: es) t)
    (hdb : (x == ("__debug__" : Str)) = false := by decide) (he : starEach (e :: es) X.env = (false, eval e X.env) :: starEach es X.env := by rfl) (hpl : (backTo pos (starEach es X.env)).any (·.1) = false := by rfl) :
    PE X (.Call (.Name x p) (e :: es) [] pos) (tD sp t) := by
  obtain ⟨f, fd, hm, F, hb, ok⟩ := D.ex
  exact pe_callG (p := p) ok hgd hr hg hm F.kp hb (pass0 (X := X)) ha hdb he hpl
theorem run_dk {pins : List (Addr × Obj)} {σ : L2.St} {H : Hp} {s : Shared} {Q : VK} {us ws : List Value} {vs zs : List V} {f : Addr} {fd : FuncData} (F : Fun X.K x x st f fd) (ok : FnOk X.prog X.w X.K X.mg X.base CX0 k f fd ps sp) (hr : Room k X.A)
    (hb : BindK n m b x st ps ks) (I : Inv X pins σ H s) (r : Vals vs us) (rz : Vals zs ws) (hn : vs.length = n) (hm : zs.length = m) (h : sp (vs ++ if b = true then zs.reverse else zs) H Q E0) :
    wpAny (model X.prog X.w) X.A (call (.ref f) us (ks.zip ws)) (EP X pins σ Q) X.xe s := by
  obtain ⟨oc, od, kV, doc, pm, an, cdv, ct, osl, efd, lk, hcd⟩ := F.ex
  have rr : Vals (vs ++ if b = true then zs.reverse else zs) (us ++ if b = true then ws.reverse else ws) := by
    refine r.append ?_
    cases b with
    | true => rw [if_pos rfl, if_pos rfl]; exact rz.reverse
    | false => rw [if_neg Bool.false_ne_true, if_neg Bool.false_ne_true]; exact rz
  have hbd : BindsTo s fd ⟨us, ks.zip ws⟩ (ps.zip (us ++ if b = true then ws.reverse else ws)) := by
    rw [efd]
    exact .of_eq (hb kV doc pm an cdv ct us ws (r.length.symm.trans hn) (rz.length.symm.trans hm))
  refine wpAny_call (codeAny_mono (ok.run X.A X.stack s H ⟨us, ks.zip ws⟩ _ _ Q E0 hr I.env0 hbd rr h) ?_)
  rintro (e | fl) s' hq
  · exact pass0 (X := X) pins σ H s e s' I hq
  · cases fl with
    | ret u => exact I.after hq
    | next => exact hq.elim
    | brk => exact hq.elim
    | cont => exact hq.elim
/-- f(e, .., k = v, ..) -/
theorem pe_dk (D : Def X.prog X.w X.K X.mg X.base k x st ps sp) (hr : Room k X.A) (hg : Gl X x) (n m : Nat) (b : Bool) (ks : List Str) (hb : BindK n m b x st ps ks) (ha : PA X (e :: es) t) (hkw : PK X kws tk)
    (hks : (backToKw pos (keywordEach kws X.env)).filterMap (·.1) = ks := by rfl) (hall : (backToKw pos (keywordEach kws X.env)).all (·.1.isSome) = true := by rfl) (hdb : (x == ("__debug__" : Str)) = false := by decide)
    (he : starEach (e :: es) X.env = (false, eval e X.env) :: starEach es X.env := by rfl) (hpl : ((backTo pos (starEach (e :: es) X.env)).any (·.1) || (backToKw pos (keywordEach kws X.env)).any (·.1.isNone)) = false := by rfl) :
    PE X (.Call (.Name x p) (e :: es) kws pos) (tDK n m b sp t tk) := by
  obtain ⟨f, fd, hm, F, _, ok⟩ := D.ex
  constructor
  intro pins s σ H Q I h
  refine wpAny_Call_Name_kw (ld_glob I hg hm (PySem.W.callWith_KW (h₀ := X.base) I.ok.mod.kin F.kp hall (thn (ha.run pos pins s σ H _ I h) ?_) hpl he) hdb)
  rintro us s1 ⟨vs, H1, I1, r, q⟩
  refine thn (hkw.run pos pins s1 σ H1 _ I1 q) ?_
  rintro ws s2 ⟨zs, H2, I2, rz, q2⟩
  refine ⟨I2.kIn, ?_⟩
  rw [hks]
  exact run_dk F ok hr hb I2 r rz q2.1 q2.2.1 q2.2.2
/-- f(k = v, ..) -/
theorem pe_dk0 (D : Def X.prog X.w X.K X.mg X.base k x st ps sp) (hr : Room k X.A) (hg : Gl X x) (m : Nat) (b : Bool) (ks : List Str) (hb : BindK 0 m b x st ps ks) (hkw : PK X kws tk)
    (hks : (backToKw pos (keywordEach kws X.env)).filterMap (·.1) = ks := by rfl) (hall : (backToKw pos (keywordEach kws X.env)).all (·.1.isSome) = true := by rfl) (hdb : (x == ("__debug__" : Str)) = false := by decide)
    (hpl : ((backTo pos (starEach [] X.env)).any (·.1) || (backToKw pos (keywordEach kws X.env)).any (·.1.isNone)) = false := by rfl) :
    PE X (.Call (.Name x p) [] kws pos) (tDK 0 m b sp tNil tk) := by
  obtain ⟨f, fd, hm, F, _, ok⟩ := D.ex
  constructor
  intro pins s σ H Q I h
  refine wpAny_Call_Name_kw (ld_glob I hg hm (PySem.W.callWith_KW0 (h₀ := X.base) I.ok.mod.kin F.kp hall (thn (hkw.run pos pins s σ H _ I h) ?_) hpl) hdb)
  rintro ws s2 ⟨zs, H2, I2, rz, q2⟩
  refine ⟨I2.kIn, ?_⟩
  rw [hks]
  exact run_dk F ok hr hb I2 .nil rz q2.1 q2.2.1 q2.2.2
end
/-- sorted(set(..)) and set(..) -/
def rSetI (K : PySem.W.Frag) (w : World) : List V → Hp → VK → Prop := fun vs H Q => ∃ (a : Addr) (ns : List Int), vs = [.ref a] ∧ Sq K H a (ns.map V.int) ∧ ns.length ≤ 60 ∧
  ∀ (p : Addr) (n : Nat), n ≤ ns.length → H p = none → Q (.ref p) (upd H p (SetO w p (fun j => decide (j ∈ ns)) n))
theorem cr_setI {X : Cx} (hc : X.calm = true) : CallR X (.type "set") (rSetI X.K X.w) := by
  intro pins s σ H vs us Q I r h
  obtain ⟨a, ns, rfl, hS, hz, q⟩ := h
  rw [Vals.ref1 r]
  have hb : ns.length + 1 < scanBound := by unfold scanBound; omega
  have fin : ∀ (h' : Heap) (tk c : Nat), SetR X.w h' s.heap.objs.size (fun j => decide (j ∈ ns)) c → c ≤ ns.length → (∀ b o, s.heap.get? b = some o → h'.get? b = some o) → EP X pins σ Q (.ref s.heap.objs.size) { s with heap := h', toks := tk } :=
    fun h' tk c R hc k => ⟨.ref s.heap.objs.size, _, I.laid (t' := tk) k (Nat.le_refl _) (setO_new R), rfl, q _ c hc (I.hok.fresh (Nat.le_refl _))⟩
  rcases hS with hS | hS
  · obtain ⟨its, rv, pl, _⟩ := I.list hS
    exact call_set_lstI ns (I.ok.hd hc) pl.isList (by simpa using Vals.ints rv) hb fin
  · obtain ⟨its, rv, pl, _⟩ := I.tuple hS
    exact call_set_tupI ns (I.ok.hd hc) pl (by simpa using Vals.ints rv) hb fin
end Fp

namespace Fp
open PySem PySem.Spec PyProof.Rows L2 PySem.W

/-! ### data by a Lean type -/
section
variable {K : PySem.W.Frag} {H H' : Hp}
mutual
theorem dp_same (e : Same H H') : ∀ (d : PyData) (v : V), Dp K H v d → Dp K H' v d
  | .none, _, h => by cases h; exact .non
  | .bool _, _, h => by cases h; exact .bl _
  | .int _, _, h => by cases h; exact .int _
  | .str _, _, h => by cases h; exact .str _
  | .list ds, _, h => by
    cases h with
    | lst a b => exact .lst (e.seq a) (dpAll_same e ds _ b)
  | .tuple ds, _, h => by
    cases h with
    | tup a b => exact .tup (same_sqT e a) (dpAll_same e ds _ b)
  | .dict _, _, h => by cases h
theorem dpAll_same (e : Same H H') : ∀ (ds : List PyData) (vs : List V), DpAll K H vs ds → DpAll K H' vs ds
  | [], _, h => by cases h; exact .nil
  | d :: ds, _, h => by
    cases h with
    | cons a b => exact .cons (dp_same e d _ a) (dpAll_same e ds _ b)
end
theorem dpAll_len : ∀ {vs : List V} {ds : List PyData}, DpAll K H vs ds → vs.length = ds.length
  | _, _, .nil => rfl
  | _, _, .cons _ b => congrArg (· + 1) (dpAll_len b)
theorem dpAll_app : ∀ {vs ws : List V} {ds es : List PyData}, DpAll K H vs ds → DpAll K H ws es → DpAll K H (vs ++ ws) (ds ++ es)
  | _, _, _, _, .nil, b => b
  | _, _, _, _, .cons a r, b => .cons a (dpAll_app r b)
theorem dpAll_at : ∀ {vs : List V} {ds : List PyData}, DpAll K H vs ds → ∀ {i : Nat} {v : V}, vs[i]? = some v → ∃ d, ds[i]? = some d ∧ Dp K H v d
  | _, _, .nil, i, v, h => by cases h
  | _, _, .cons a r, 0, v, h => by obtain rfl := Option.some.inj h; exact ⟨_, rfl, a⟩
  | _, _, .cons a r, i + 1, v, h => dpAll_at r (i := i) h
theorem dpAll_get : ∀ {vs : List V} {ds : List PyData}, DpAll K H vs ds → ∀ {i : Nat} {d : PyData}, ds[i]? = some d → ∃ v, vs[i]? = some v ∧ Dp K H v d
  | _, _, .nil, i, v, h => by cases h
  | _, _, .cons a r, 0, v, h => by obtain rfl := Option.some.inj h; exact ⟨_, rfl, a⟩
  | _, _, .cons a r, i + 1, v, h => dpAll_get r (i := i) h
theorem dpAll_rev : ∀ {vs : List V} {ds : List PyData}, DpAll K H vs ds → DpAll K H vs.reverse ds.reverse
  | _, _, .nil => .nil
  | _, _, .cons a r => by
    rw [List.reverse_cons, List.reverse_cons]
    exact dpAll_app (dpAll_rev r) (.cons a .nil)
theorem dpAll_take : ∀ {vs : List V} {ds : List PyData}, DpAll K H vs ds → ∀ n, DpAll K H (vs.take n) (ds.take n)
  | _, _, .nil, n => by rw [List.take_nil, List.take_nil]; exact .nil
  | _, _, .cons a r, 0 => .nil
  | _, _, .cons a r, n + 1 => .cons a (dpAll_take r n)
theorem dpAll_drop : ∀ {vs : List V} {ds : List PyData}, DpAll K H vs ds → ∀ n, DpAll K H (vs.drop n) (ds.drop n)
  | _, _, .nil, n => by rw [List.drop_nil, List.drop_nil]; exact .nil
  | _, _, .cons a r, 0 => .cons a r
  | _, _, .cons a r, n + 1 => dpAll_drop r n
theorem dpAll_ints : ∀ ns : List Int, DpAll K H (ns.map V.int) (ns.map Datum.toD)
  | [] => .nil
  | n :: r => .cons (.int n) (dpAll_ints r)
theorem ints_dpAll : ∀ {vs : List V} {ns : List Int}, DpAll K H vs (ns.map Datum.toD) → vs = ns.map V.int
  | [], [], _ => rfl
  | [], _ :: _, h => by cases h
  | _ :: _, [], h => by cases h
  | v :: vs, n :: ns, h => by
    cases h with
    | cons a r =>
      have e : v = .int n := by
        have a' : Dp K H v (.int n) := a
        cases a'; rfl
      rw [e, ints_dpAll r]; rfl
section
variable {α β : Type} [DecidableEq α] [Datum α] [DecidableEq β] [Datum β]
/-- v holds x -/
abbrev Hd (K : PySem.W.Frag) (H : Hp) (v : V) (x : α) : Prop := Dp K H v (Datum.toD x)
/-- the values hold the items -/
abbrev Hs (K : PySem.W.Frag) (H : Hp) (vs : List V) (xs : List α) : Prop := DpAll K H vs (xs.map Datum.toD)
theorem Hd.same {v : V} {x : α} (h : Hd K H v x) (e : Same H H') : Hd K H' v x := dp_same e _ _ h
theorem Hs.same {vs : List V} {xs : List α} (h : Hs K H vs xs) (e : Same H H') : Hs K H' vs xs := dpAll_same e _ _ h
theorem hd_lst {a : Addr} {vs : List V} {xs : List α} (h : SqL K H a vs) (r : Hs K H vs xs) : Hd K H (.ref a) xs := Dp.lst h r
theorem hd_pair {a : Addr} {u v : V} {x : α} {y : β} (h : SqT K H a [u, v]) (r : Hd K H u x) (q : Hd K H v y) : Hd K H (.ref a) (x, y) := Dp.tup h (.cons r (.cons q .nil))
theorem hd_int (i : Int) : Hd K H (.int i) i := .int i
theorem lst_hd {v : V} {xs : List α} (h : Hd K H v xs) : ∃ a vs, v = .ref a ∧ SqL K H a vs ∧ Hs K H vs xs := by
  have h' : Dp K H v (.list (xs.map Datum.toD)) := h
  cases h' with
  | lst a b => exact ⟨_, _, rfl, a, b⟩
theorem pair_hd {v : V} {p : α × β} (h : Hd K H v p) : ∃ a x y, v = .ref a ∧ SqT K H a [x, y] ∧ Hd K H x p.1 ∧ Hd K H y p.2 := by
  have h' : Dp K H v (.tuple [Datum.toD p.1, Datum.toD p.2]) := h
  cases h' with
  | tup a b =>
    cases b with
    | cons b1 b2 =>
      cases b2 with
      | cons b2 b3 =>
        cases b3
        exact ⟨_, _, _, rfl, a, b1, b2⟩
theorem hd_ints {a : Addr} {ns : List Int} (h : SqL K H a (ns.map V.int)) : Hd K H (.ref a) ns := hd_lst h (dpAll_ints ns)
theorem ints_hd {v : V} {ns : List Int} (h : Hd K H v ns) : ∃ a, v = .ref a ∧ SqL K H a (ns.map V.int) := by
  obtain ⟨a, vs, e, hs, r⟩ := lst_hd h
  rw [ints_dpAll r] at hs
  exact ⟨a, e, hs⟩
theorem int_hd {v : V} {n : Int} (h : Hd K H v n) : v = .int n := by
  have h' : Dp K H v (.int n) := h
  cases h'; rfl
theorem Hs.len {vs : List V} {xs : List α} (h : Hs K H vs xs) : vs.length = xs.length := by rw [dpAll_len h, List.length_map]
theorem Hs.at {vs : List V} {xs : List α} (h : Hs K H vs xs) {i : Nat} {v : V} (e : vs[i]? = some v) : ∃ x, xs[i]? = some x ∧ Hd K H v x := by
  obtain ⟨d, e2, hd⟩ := dpAll_at h e
  rw [List.getElem?_map] at e2
  cases q : xs[i]? with
  | none => rw [q] at e2; cases e2
  | some x =>
    rw [q] at e2
    obtain rfl : Datum.toD x = d := Option.some.inj e2
    exact ⟨x, rfl, hd⟩
theorem Hs.get {vs : List V} {xs : List α} (h : Hs K H vs xs) {i : Nat} {x : α} (e : xs[i]? = some x) : ∃ v, vs[i]? = some v ∧ Hd K H v x :=
  dpAll_get h (by rw [List.getElem?_map, e]; rfl)
theorem Hs.app {vs ws : List V} {xs ys : List α} (h : Hs K H vs xs) (r : Hs K H ws ys) : Hs K H (vs ++ ws) (xs ++ ys) := by
  show DpAll K H (vs ++ ws) ((xs ++ ys).map Datum.toD)
  rw [List.map_append]
  exact dpAll_app h r
theorem Hs.one {v : V} {x : α} (h : Hd K H v x) : Hs K H [v] [x] := .cons h .nil
theorem Hs.snoc {vs : List V} {xs : List α} {v : V} {x : α} (h : Hs K H vs xs) (r : Hd K H v x) : Hs K H (vs ++ [v]) (xs ++ [x]) := h.app (.one r)
theorem Hs.rev {vs : List V} {xs : List α} (h : Hs K H vs xs) : Hs K H vs.reverse xs.reverse := by
  show DpAll K H vs.reverse (xs.reverse.map Datum.toD)
  rw [List.map_reverse]
  exact dpAll_rev h
theorem Hs.take {vs : List V} {xs : List α} (h : Hs K H vs xs) (n : Nat) : Hs K H (vs.take n) (xs.take n) := by
  show DpAll K H (vs.take n) ((xs.take n).map Datum.toD)
  rw [List.map_take]
  exact dpAll_take h n
theorem Hs.drop {vs : List V} {xs : List α} (h : Hs K H vs xs) (n : Nat) : Hs K H (vs.drop n) (xs.drop n) := by
  show DpAll K H (vs.drop n) ((xs.drop n).map Datum.toD)
  rw [List.map_drop]
  exact dpAll_drop h n
end
end

/-! ### ==, !=, in, not in of such -/
section
variable {X : Cx}
def rEqH (α : Type) [DecidableEq α] [Datum α] (K : PySem.W.Frag) : R2 := fun x y H Q => ∃ a b : α, Hd K H x a ∧ Hd K H y b ∧ Q (.bl (decide (a = b))) H
def rNeH (α : Type) [DecidableEq α] [Datum α] (K : PySem.W.Frag) : R2 := fun x y H Q => ∃ a b : α, Hd K H x a ∧ Hd K H y b ∧ Q (.bl (decide (a ≠ b))) H
def rInH (α : Type) [DecidableEq α] [Datum α] (K : PySem.W.Frag) : R2 := fun x y H Q => ∃ (a : α) (bs : List α), Hd K H x a ∧ Hd K H y bs ∧ Q (.bl (decide (a ∈ bs))) H
def rNiH (α : Type) [DecidableEq α] [Datum α] (K : PySem.W.Frag) : R2 := fun x y H Q => ∃ (a : α) (bs : List α), Hd K H x a ∧ Hd K H y bs ∧ Q (.bl (decide (a ∉ bs))) H
theorem op_eqH (α : Type) [DecidableEq α] [Datum α] (hu : X.A.units + Datum.depth α < cLine) : OpR X (compareOp .Eq) (rEqH α X.K) := by
  intro pins s σ H x y v u Q I rx ry h
  obtain ⟨a, b, ha, hb, q⟩ := h
  exact eq_datum (Dp.reads I _ x v ha rx) (Dp.reads I _ y u hb ry) hu ⟨.bl _, H, I, rfl, q⟩
theorem op_neH (α : Type) [DecidableEq α] [Datum α] (hu : X.A.units + Datum.depth α < cLine) : OpR X (compareOp .NotEq) (rNeH α X.K) := by
  intro pins s σ H x y v u Q I rx ry h
  obtain ⟨a, b, ha, hb, q⟩ := h
  exact ne_datum (Dp.reads I _ x v ha rx) (Dp.reads I _ y u hb ry) hu ⟨.bl _, H, I, rfl, q⟩
theorem op_inH (α : Type) [DecidableEq α] [Datum α] (hu : X.A.units + 1 + Datum.depth α < cLine) : OpR X (compareOp .In) (rInH α X.K) := by
  intro pins s σ H x y v u Q I rx ry h
  obtain ⟨a, bs, ha, hb, q⟩ := h
  obtain ⟨l, vs, rfl, hs, r⟩ := lst_hd hb
  obtain ⟨its, rv, pl, _⟩ := I.list hs
  cases ry
  exact in_list_datum pl.isList (Dp.readsAll I _ vs its r rv) (Dp.reads I _ x v ha rx) hu ⟨.bl _, H, I, rfl, q⟩
theorem op_niH (α : Type) [DecidableEq α] [Datum α] (hu : X.A.units + 1 + Datum.depth α < cLine) : OpR X (compareOp .NotIn) (rNiH α X.K) := by
  intro pins s σ H x y v u Q I rx ry h
  obtain ⟨a, bs, ha, hb, q⟩ := h
  obtain ⟨l, vs, rfl, hs, r⟩ := lst_hd hb
  obtain ⟨its, rv, pl, _⟩ := I.list hs
  cases ry
  exact notIn_list_datum pl.isList (Dp.readsAll I _ vs its r rv) (Dp.reads I _ x v ha rx) hu ⟨.bl _, H, I, rfl, q⟩
end

/-! ### sorted of such, any number -/
section
variable {X : Cx}
/-- data that a sort takes: all of one build, no tuples -/
class Srt1 (α : Type) [DecidableEq α] [Datum α] : Prop where
  like : ∀ a b : α, alike (Datum.toD a) (Datum.toD b) = true
  other : ∀ a : α, Datum.toD a ≠ .none ∧ ∀ xs, Datum.toD a ≠ .tuple xs
theorem like_all {α : Type} [DecidableEq α] [Datum α] (h : ∀ a b : α, alike (Datum.toD a) (Datum.toD b) = true) : ∀ xs ys : List α, alikeAll (xs.map Datum.toD) (ys.map Datum.toD) = true
  | [], _ => by simp [alikeAll]
  | _ :: _, [] => by simp [alikeAll]
  | x :: xs, y :: ys => by
    show alikeAll (Datum.toD x :: xs.map Datum.toD) (Datum.toD y :: ys.map Datum.toD) = true
    rw [alikeAll, h x y, like_all h xs ys]; rfl
instance : Srt1 Int where
  like _ _ := by simp [Datum.toD, alike]
  other _ := ⟨(fun z => by cases z), (fun _ z => by cases z)⟩
instance {α : Type} [DecidableEq α] [Datum α] [Srt1 α] : Srt1 (List α) where
  like a b := by
    show alike (.list (a.map Datum.toD)) (.list (b.map Datum.toD)) = true
    simpa [alike] using like_all Srt1.like a b
  other _ := ⟨(fun z => by cases z), (fun _ z => by cases z)⟩
theorem vals_of_each {R : Value → V → Prop} : ∀ {out : List Value}, (∀ v ∈ out, ∃ x, R v x) → ∃ ws : List V, EachIs R out ws
  | [], _ => ⟨[], .nil⟩
  | v :: out, h => by
    obtain ⟨x, hx⟩ := h v List.mem_cons_self
    obtain ⟨ws, e⟩ := vals_of_each (out := out) fun u hu => h u (List.mem_cons_of_mem _ hu)
    exact ⟨x :: ws, .cons hx e⟩
def SrR (K : PySem.W.Frag) (H : Hp) (vs : List V) {α : Type} [DecidableEq α] [Datum α] (v : Value) (b : α) : Prop := ∃ x, x ∈ vs ∧ RelV x v ∧ Hd K H x b
theorem srt_in {α : Type} [DecidableEq α] [Datum α] {K : PySem.W.Frag} {H : Hp} {all : List V} : ∀ {vs : List V} {its : List Value} {xs : List α}, (∀ v ∈ vs, v ∈ all) → Vals vs its → Hs K H vs xs → EachIs (SrR K H all) its xs
  | [], _, [], _, r, _ => by cases r; exact .nil
  | [], _, _ :: _, _, _, h => by cases h
  | _ :: _, _, [], _, _, h => by cases h
  | v :: vs, _, x :: xs, m, r, h => by
    cases r with
    | cons r1 r2 =>
      cases h with
      | cons h1 h2 => exact .cons ⟨v, m v List.mem_cons_self, r1, h1⟩ (srt_in (fun u hu => m u (List.mem_cons_of_mem _ hu)) r2 h2)
theorem srt_out {α : Type} [DecidableEq α] [Datum α] {K : PySem.W.Frag} {H : Hp} {all : List V} : ∀ {its : List Value} {xs : List α}, EachIs (SrR K H all) its xs → ∃ ws, Vals ws its ∧ Hs K H ws xs ∧ ∀ w ∈ ws, w ∈ all
  | _, _, .nil => ⟨[], .nil, .nil, fun w h => by cases h⟩
  | _, _, .cons h r => by
    obtain ⟨x, m, rx, hx⟩ := h
    obtain ⟨ws, r1, r2, r3⟩ := srt_out r
    exact ⟨x :: ws, .cons rx r1, .cons hx r2, fun w hw => by
      rcases List.mem_cons.mp hw with e | e
      · rw [e]; exact m
      · exact r3 w e⟩
/-- the order of sorted -/
def leH {α : Type} [DecidableEq α] [Datum α] : α → α → Bool := dataLe false Datum.toD
def rSortH (α : Type) [DecidableEq α] [Datum α] (K : PySem.W.Frag) : List V → Hp → VK → Prop := fun vs H Q => ∃ (a : Addr) (xs : List V) (L : List α), vs = [V.ref a] ∧ SqL K H a xs ∧ Hs K H xs L ∧
  ∀ p ws, (∀ w ∈ ws, w ∈ xs) → Hs K H ws (L.mergeSort leH) → H p = none → Q (.ref p) (upd H p (.lst ws))
theorem cr_sortH (α : Type) [DecidableEq α] [Datum α] [Srt1 α] (hu : X.A.units + 2 + Datum.depth α < cLine) : CallR X (.builtin "sorted") (rSortH α X.K) := by
  intro pins s σ H vs us Q I r h
  obtain ⟨a, xs, L, rfl, hs, hL, q⟩ := h
  obtain ⟨its, rv, hl, hz⟩ := I.list hs
  rw [Vals.ref1 r]
  have el := srt_in (all := xs) (fun _ m => m) rv hL
  have n1 : L.length = xs.length := hL.len.symm
  have er : EachIs (fun v (b : α) => ∃ as, Reads s.heap v (Datum.toD b) as) its L := el.mono fun v b ⟨x, _, rx, hx⟩ => Dp.reads I _ x v hx rx
  refine sorted_data (enc := Datum.toD) hl.isList el er (AllAlike.of Srt1.like) (Sortable.others Srt1.other) (by rw [n1]; exact hz) (fun b _ => Nat.lt_of_le_of_lt (Nat.add_le_add_left (Datum.depth_le b) _) hu) fun out ho eo => ?_
  obtain ⟨ws, r1, r2, r3⟩ := srt_out eo
  obtain ⟨ep, he'⟩ := PyProof.Rows.sortedAll_at s.heap its out.toArray
  have hlen : ws.length ≤ sizeLine := by rw [r1.length, ho, n1]; exact hz
  exact ⟨.ref _, upd H (s.heap.objs.size + 1) (.lst ws), I.laid (t' := s.toks) (fun _ _ => PyProof.Rows.sortedAll_old) (Nat.le_succ _) ⟨hlen, out, ep, r1, he'⟩, rfl, q _ _ r3 r2 (I.hok.fresh (Nat.le_succ _))⟩
end

/-! ### zip of lists and tuples -/
def SqK (κ : Bool) (K : PySem.W.Frag) (H : Hp) (a : Addr) (xs : List V) : Prop := if κ = true then SqT K H a xs else SqL K H a xs
theorem sqk_of {K : PySem.W.Frag} {H : Hp} {a : Addr} {xs : List V} (h : Sq K H a xs) : ∃ κ, SqK κ K H a xs := h.elim (fun q => ⟨false, q⟩) (fun q => ⟨true, q⟩)
theorem SqK.same {κ : Bool} {K : PySem.W.Frag} {H H' : Hp} {a : Addr} {xs : List V} (e : Same H H') (h : SqK κ K H a xs) : SqK κ K H' a xs := by
  cases κ with
  | false => exact e.seq (show SqL K H a xs from h)
  | true => exact same_sqT e (show SqT K H a xs from h)
theorem sqk_lst {K : PySem.W.Frag} {H : Hp} {a : Addr} {xs : List V} (h : H a = some (.lst xs)) : SqK false K H a xs := SqL.of h
theorem SqK.sq {κ : Bool} {K : PySem.W.Frag} {H : Hp} {a : Addr} {xs : List V} (h : SqK κ K H a xs) : Sq K H a xs := by
  cases κ with
  | false => exact .inl h
  | true => exact .inr h
def ItAtK (κ : Bool) (h : Heap) (it l : Addr) (i : Nat) : Prop := if κ = true then h.IsTupleIter it l i else h.IsListIter it l i
def SqAtK (κ : Bool) (h : Heap) (l : Addr) (its : Array Value) : Prop := if κ = true then h.IsTuple l its else h.IsList l its
theorem ItAtK.at {κ : Bool} {h h' : Heap} {it l : Addr} {i : Nat} (a : ItAtK κ h it l i) (k : ∀ o, h.get? it = some o → h'.get? it = some o) : ItAtK κ h' it l i := by
  cases κ with
  | false => exact Heap.IsListIter.at (show h.IsListIter it l i from a) k
  | true => exact Heap.IsTupleIter.at (show h.IsTupleIter it l i from a) k
theorem ItAtK.obj {κ : Bool} {h : Heap} {it l : Addr} {i : Nat} (a : ItAtK κ h it l i) : ∃ o, h.get? it = some o ∧ ∀ v, o.data ≠ .cell v := by
  cases κ with
  | false => obtain ⟨o, e, _, d⟩ := (show h.IsListIter it l i from a); exact ⟨o, e, fun v q => by rw [d] at q; cases q⟩
  | true => obtain ⟨o, e, _, d⟩ := (show h.IsTupleIter it l i from a); exact ⟨o, e, fun v q => by rw [d] at q; cases q⟩
theorem draws_k {prog : Program} {w : World} {A : Around} (κ : Bool) (hh : A.handled = none) (it l : Addr) (ne : l ≠ it) (its : Array Value) :
    Draws prog w A it [it, l] its.size (fun i v => its[i]? = some v) (fun i h => ItAtK κ h it l i ∧ SqAtK κ h l its) := by
  cases κ with
  | false => exact Draws.list hh it l ne its
  | true => exact Draws.tuple hh it l ne its
theorem Inv.seqK {X : Cx} {pins : List (Addr × Obj)} {σ : L2.St} {H : Hp} {s : Shared} {κ : Bool} {a : Addr} {xs : List V} (I : L2.Inv X pins σ H s) (h : SqK κ X.K H a xs) : ∃ its : List Value, Vals xs its ∧ SqAtK κ s.heap a its.toArray ∧ a < s.heap.objs.size := by
  cases κ with
  | false =>
    obtain ⟨its, rv, p, _⟩ := I.list (show SqL X.K H a xs from h)
    exact ⟨its, rv, p.isList, p.lt⟩
  | true =>
    obtain ⟨its, rv, p, _⟩ := I.tuple (show SqT X.K H a xs from h)
    obtain ⟨o, ho, _⟩ := id p
    exact ⟨its, rv, p, Heap.lt_size ho⟩
theorem Inv.seqK_inj {X : Cx} {pins : List (Addr × Obj)} {σ : L2.St} {H : Hp} {s : Shared} {κ : Bool} {a : Addr} {xs ys : List V} (I : L2.Inv X pins σ H s) (h : SqK κ X.K H a xs) (g : SqK κ X.K H a ys) : xs = ys := by
  cases κ with
  | false => exact I.list_inj (show SqL X.K H a xs from h) (show SqL X.K H a ys from g)
  | true => exact I.tuple_inj (show SqT X.K H a xs from h) (show SqT X.K H a ys from g)
def ItZ (K : PySem.W.Frag) (κ1 κ2 : Bool) (a b : Addr) (xs ys : List V) : It :=
  ⟨fun i H => SqK κ1 K H a xs ∧ SqK κ2 K H b ys ∧ i < xs.length ∧ i < ys.length,
    fun i H v H' => ∃ T x y, v = .ref T ∧ H T = none ∧ H' = upd H T (.tup [x, y]) ∧ xs[i]? = some x ∧ ys[i]? = some y,
    fun i H => SqK κ1 K H a xs ∧ SqK κ2 K H b ys ∧ i ≤ xs.length ∧ i ≤ ys.length ∧ (i = xs.length ∨ i = ys.length)⟩
def TnZ (κ1 κ2 : Bool) (z TI TO i1 i2 a b : Addr) (i : Nat) (h : Heap) : Prop := IsZip h z TI TO .none ∧ IsPair h TI (.ref i1) (.ref i2) ∧ (∃ x y, IsPair h TO x y) ∧ ItAtK κ1 h i1 a i ∧ ItAtK κ2 h i2 b i
theorem zip_turns {P : Program} {w : World} {K : PySem.W.Frag} {elts : List Expr} {kk : Nat} {tpos : Pos} {κ1 κ2 : Bool} {a b z TI TO i1 i2 : Addr} {xs ys : List V} (D : ZipApart z TI TO i1 i2 a b) :
    Turn P w K (.Tuple elts kk tpos) (ItZ K κ1 κ2 a b xs ys) [z, TI, TO, i1, i2] z (TnZ κ1 κ2 z TI TO i1 i2 a b) := by
  have S : ZipSep2 z TI TO i1 i2 [i1, a] [i2, b] := by
    refine ⟨D.TIz, D.TOz, D.TITO, D.TIi1, by simp, ?_, ?_, D.TIi2, by simp, ?_, ?_, ?_, ?_⟩ <;>
      · simp only [List.mem_cons, List.not_mem_nil, or_false, not_or]
        first
          | exact ⟨D.i1z.symm, D.l1z.symm⟩ | exact ⟨D.TOi1, D.l1TO.symm⟩ | exact ⟨D.i2z.symm, D.l2z.symm⟩ | exact ⟨D.TOi2, D.l2TO.symm⟩ | exact ⟨D.i12, D.l2i1.symm⟩ | exact ⟨D.i12.symm, D.l1i2.symm⟩
  refine ⟨by simp, ?_, ?_, ?_, ?_, ?_⟩
  · rintro i h ⟨hz, hTI, ⟨x, y, hTO⟩, h1, h2⟩ c hc
    have e' : c = z ∨ c = TI ∨ c = TO ∨ c = i1 ∨ c = i2 := by simpa using hc
    rcases e' with q | q | q | q | q <;> subst q
    · exact ⟨_, hz, fun v q => nomatch q⟩
    · exact ⟨_, hTI, fun v q => nomatch q⟩
    · exact ⟨_, hTO, fun v q => nomatch q⟩
    · exact h1.obj
    · exact h2.obj
  · rintro i h h' ⟨hz, hTI, ⟨x, y, hTO⟩, h1, h2⟩ k
    exact ⟨k z (by simp) _ hz, k TI (by simp) _ hTI, ⟨x, y, k TO (by simp) _ hTO⟩, h1.at fun o q => k i1 (by simp) o q, h2.at fun o q => k i2 (by simp) o q⟩
  · intro X hP hw hK hc i pins s σ H E I hf st hg
    subst hP hw hK
    obtain ⟨hz, hTI, ⟨x0, y0, hTO⟩, h1, h2⟩ := st
    obtain ⟨qx, qy, l1, l2⟩ := hg
    obtain ⟨its, rv, p, _⟩ := Inv.seqK I qx
    obtain ⟨its2, rv2, p2, _⟩ := Inv.seqK I qy
    have hA : X.A.in1.handled = none := by
      have q := I.ok.hd hc
      simpa using q
    have zl : z < s.heap.objs.size := Heap.lt_size hz
    have n1 := rv.length
    have n2 := rv2.length
    refine wpAny_pyNext_zipD2_item S (draws_k κ1 hA i1 a D.l1i1 its.toArray) (draws_k κ2 hA i2 b D.l2i2 its2.toArray) hz hTI hTO ⟨h1, p⟩ ⟨h2, p2⟩ (by simp; omega) (by simp; omega) ?_
    intro u u2 h' tk hu hu2 z' TO' st1 st2 hT hsz hk
    obtain ⟨x, hx, ru⟩ : ∃ x, xs[i]? = some x ∧ RelV x u := by
      obtain ⟨u', e1, e2⟩ := rv.get (List.getElem?_eq_getElem l1)
      have e3 : its[i]? = some u := by simpa using hu
      rw [e1] at e3
      obtain rfl := Option.some.inj e3
      exact ⟨_, List.getElem?_eq_getElem l1, e2⟩
    obtain ⟨y, hy, ru2⟩ : ∃ y, ys[i]? = some y ∧ RelV y u2 := by
      obtain ⟨u', e1, e2⟩ := rv2.get (List.getElem?_eq_getElem l2)
      have e3 : its2[i]? = some u2 := by simpa using hu2
      rw [e1] at e3
      obtain rfl := Option.some.inj e3
      exact ⟨_, List.getElem?_eq_getElem l2, e2⟩
    refine ⟨_, rfl, wpAny_letOwnedTupleGo_zip (s := { s with heap := h', toks := tk }) z' fun h'' z'' sb => ?_⟩
    have T2 : h''.get? s.heap.objs.size = some { cls := .type "tuple", data := .seq #[u, u2] } := (sb.2 _ (Nat.ne_of_gt zl)).trans hT
    have far : ∀ c o, c ∉ [z, TI, TO, i1, i2] → s.heap.get? c = some o → h''.get? c = some o := fun c o hb q => by
      simp only [List.mem_cons, List.not_mem_nil, or_false, not_or] at hb
      exact (sb.2 c hb.1).trans (hk c o hb.1 hb.2.2.1 hb.2.2.2.1 hb.2.2.2.2 q)
    have I1 : L2.Inv X pins σ (upd H s.heap.objs.size (.tup [x, y])) { s with heap := h'', toks := tk } :=
      I.turnedNew (t' := tk) (ch := [z, TI, TO, i1, i2]) far hf (Nat.le_refl _) ⟨by show 2 ≤ sizeLine; decide, [u, u2], .cons ru (.cons ru2 .nil), ⟨_, T2, rfl, _, rfl⟩⟩
    refine ⟨.ref s.heap.objs.size, _, I1, rfl, ⟨_, x, y, rfl, I.hok.fresh (Nat.le_refl _), rfl, hx, hy⟩, ⟨z'', ?_, ⟨u, u2, ?_⟩, ?_, ?_⟩, fun c hcm => ?_⟩
    · exact (sb.2 _ D.TIz).trans (hk _ _ D.TIz D.TITO D.TIi1 D.TIi2 hTI)
    · exact (sb.2 _ D.TOz).trans TO'
    · exact st1.1.at fun o q => (sb.2 _ D.i1z).trans q
    · exact st2.1.at fun o q => (sb.2 _ D.i2z).trans q
    · have lt : c < s.heap.objs.size := by
        have e' : c = z ∨ c = TI ∨ c = TO ∨ c = i1 ∨ c = i2 := by simpa using hcm
        rcases e' with q | q | q | q | q <;> subst q
        · exact zl
        · exact Heap.lt_size hTI
        · exact Heap.lt_size hTO
        · obtain ⟨_, e1, _⟩ := h1.obj; exact Heap.lt_size e1
        · obtain ⟨_, e2, _⟩ := h2.obj; exact Heap.lt_size e2
      rw [upd_ne (Nat.ne_of_lt lt)]
      exact (hf c hcm).1
  · intro X hP hw hK hc i pins s σ H E I hf st hg
    subst hP hw hK
    obtain ⟨hz, hTI, ⟨x0, y0, hTO⟩, h1, h2⟩ := st
    obtain ⟨qx, qy, l1, l2, l3⟩ := hg
    obtain ⟨its, rv, p, _⟩ := Inv.seqK I qx
    obtain ⟨its2, rv2, p2, _⟩ := Inv.seqK I qy
    have hA : X.A.in1.handled = none := by
      have q := I.ok.hd hc
      simpa using q
    have n1 := rv.length
    have n2 := rv2.length
    refine wpAny_pyNext_zipD2_end S (draws_k κ1 hA i1 a D.l1i1 its.toArray) (draws_k κ2 hA i2 b D.l2i2 its2.toArray) hz hTI hTO ⟨h1, p⟩ ⟨h2, p2⟩ (by simp; omega) (by simp; omega) (by simp; omega) fun h' tk hk => ?_
    refine ⟨rfl, I.turnedL (t' := tk) (ch := [z, TI, TO, i1, i2]) (fun c o hb q => ?_) hf⟩
    simp only [List.mem_cons, List.not_mem_nil, or_false, not_or] at hb
    exact hk c o hb.1 hb.2.2.1 hb.2.2.2.1 hb.2.2.2.2 q
  · intro A i s Q E st h
    exact wpAny_pyIter_zip st.1 h
def iZipS (K : PySem.W.Frag) (ta : TA) : TI := fun σ H R => ta σ H fun vs H1 => ∃ a b xs ys κ1 κ2, vs = [.ref a, .ref b] ∧ SqK κ1 K H1 a xs ∧ SqK κ2 K H1 b ys ∧ R (ItZ K κ1 κ2 a b xs ys) H1
theorem zip_made {prog : Program} {w : World} {A : Around} {E : Value → Shared → Prop} {s : Shared} {κ1 κ2 : Bool} {l1 l2 : Addr} {xs ys : Array Value} {Q : Value → Shared → Prop} (h1 : SqAtK κ1 s.heap l1 xs) (h2 : SqAtK κ2 s.heap l2 ys)
    (h : ∀ h', IsZip h' (s.heap.objs.size + 4) (s.heap.objs.size + 2) (s.heap.objs.size + 3) .none → IsPair h' (s.heap.objs.size + 2) (.ref s.heap.objs.size) (.ref (s.heap.objs.size + 1)) → IsPair h' (s.heap.objs.size + 3) .none .none →
      ItAtK κ1 h' s.heap.objs.size l1 0 → ItAtK κ2 h' (s.heap.objs.size + 1) l2 0 → (∀ c o, s.heap.get? c = some o → h'.get? c = some o) → Q (.ref (s.heap.objs.size + 4)) { s with heap := h' }) :
    wpAny (model prog w) A (call (.type "zip") [.ref l1, .ref l2]) Q E s := by
  cases κ1 <;> cases κ2
  · exact zip_begins2 (begins_list l1 xs) (begins_list l2 ys) h1 h2 fun h' a b c d e _ f => h h' a b c ⟨_, d, rfl, rfl⟩ ⟨_, e, rfl, rfl⟩ f
  · exact zip_begins2 (begins_list l1 xs) (begins_tuple l2 ys) h1 h2 fun h' a b c d e _ f => h h' a b c ⟨_, d, rfl, rfl⟩ ⟨_, e, rfl, rfl⟩ f
  · exact zip_begins2 (begins_tuple l1 xs) (begins_list l2 ys) h1 h2 fun h' a b c d e _ f => h h' a b c ⟨_, d, rfl, rfl⟩ ⟨_, e, rfl, rfl⟩ f
  · exact zip_begins2 (begins_tuple l1 xs) (begins_tuple l2 ys) h1 h2 fun h' a b c d e _ f => h h' a b c ⟨_, d, rfl, rfl⟩ ⟨_, e, rfl, rfl⟩ f
theorem pi_zipS {X : Cx} {e e2 : Expr} {ta : TA} {p pos tpos : Pos} {elts : List Expr} {kk : Nat} (hg : Gl X "zip") (hm : X.mg "zip" = none) (ha : PA X [e, e2] ta)
    (hs : starEach [e, e2] X.env = (false, eval e X.env) :: starEach [e2] X.env := by rfl) (hpl : (backTo pos (starEach [e2] X.env)).any (·.1) = false := by rfl) :
    PI X (.Tuple elts kk tpos) (.Call (.Name "zip" p) [e, e2] [] pos) (iZipS X.K ta) := by
  refine ⟨fun pins s σ H R I h => Call_ (ld_blt I hg hm PyProof.Rows.boot_zip (PyProof.Rows.callWith_type1 (thn (ha.run pos pins s σ H _ I h) ?_) hs hpl))⟩
  rintro us s1 ⟨vs, H1, I1, r1, a, b, xs, ys, κ1, κ2, rfl, kx, ky, q⟩
  obtain ⟨u1, u2, rfl, ra, rb⟩ := vals2 r1
  cases ra
  cases rb
  obtain ⟨its, rv, p1, la⟩ := Inv.seqK I1 kx
  obtain ⟨its2, rv2, p2, lb⟩ := Inv.seqK I1 ky
  refine zip_made p1 p2 fun h' hz hTI hTO h1 h2 hk => wpAny_pyIter_zip hz ?_
  refine ⟨s1.heap.objs.size + 4, _, _, _, H1, rfl, I1.kept (t' := s1.toks) hk, zip_turns (PySem.W.ktu_apart s1.heap.objs.size a b la lb), ⟨hz, hTI, ⟨_, _, hTO⟩, h1, h2⟩, fun c hcm => ?_, q⟩
  have le : s1.heap.objs.size ≤ c := by
    have e' : c = s1.heap.objs.size + 4 ∨ c = s1.heap.objs.size + 2 ∨ c = s1.heap.objs.size + 3 ∨ c = s1.heap.objs.size ∨ c = s1.heap.objs.size + 1 := by simpa using hcm
    rcases e' with z | z | z | z | z <;> rw [z] <;> first | exact Nat.le_refl _ | exact Nat.le_add_right _ _
  exact I1.fpOk le (I1.hok.fresh le)
theorem walk_zipS {K : PySem.W.Frag} {κ1 κ2 : Bool} {a b : Addr} {xs ys : List V} {n : Nat} (hn : n = min xs.length ys.length) :
    Walk (ItZ K κ1 κ2 a b xs ys) n (fun H => SqK κ1 K H a xs ∧ SqK κ2 K H b ys) (YPair (fun i => xs[i]?) (fun i => ys[i]?)) := by
  subst hn
  refine ⟨fun i _ hi q => ⟨q.1, q.2, by omega, by omega⟩, fun _ q => ⟨q.1, q.2, by omega, by omega, by omega⟩, fun i H v H' _ q y => ?_⟩
  obtain ⟨T, x, z, h1, h2, h3, h4, h5⟩ := y
  exact ⟨T, x, z, h1, h2, h3, h4, h5⟩

/-! ### comprehensions whose elements make new objects: Rel by the turn and what was made so far -/
/-- the heap without D -/
def wo (D : Addr) (H : Hp) : Hp := fun b => if b = D then none else H b
theorem wo_upd {D : Addr} {H : Hp} {o : HO} : wo D (upd H D o) = wo D H := by
  funext b
  unfold wo
  by_cases e : b = D
  · rw [if_pos e, if_pos e]
  · rw [if_neg e, if_neg e, upd_ne e]
theorem wo_same {D : Addr} {H H' : Hp} (e : Same H H') : Same (wo D H) (wo D H') := fun b o q => by
  unfold wo at q ⊢
  by_cases z : b = D
  · rw [if_pos z] at q; cases q
  · rw [if_neg z] at q ⊢; exact e _ _ q
theorem same_wo {D : Addr} {H H' : Hp} (n : H D = none) (e : Same H H') : Same H (wo D H') := fun b o q => by
  unfold wo
  rw [if_neg (ne_of_none q n)]
  exact e _ _ q
theorem wo_le {D : Addr} {H : Hp} : Same (wo D H) H := fun b o q => by
  unfold wo at q
  by_cases z : b = D
  · rw [if_pos z] at q; cases q
  · rw [if_neg z] at q; exact q
theorem wo_ne {D b : Addr} {H : Hp} (h : b ≠ D) : wo D H b = H b := if_neg h
/-- a new object beside D -/
theorem wo_new {D p : Addr} {H : Hp} {o : HO} {acc : List V} (hD : H D = some (.lst acc)) (hp : H p = none) : wo D (upd H p o) = upd (wo D H) p o := by
  have ne : p ≠ D := fun z => by rw [z, hD] at hp; cases hp
  funext b
  by_cases e : b = D
  · subst e
    rw [upd_ne ne.symm]
    exact (if_pos rfl).trans (if_pos rfl).symm
  · rw [wo_ne e]
    by_cases z : b = p
    · subst z
      rw [upd_same, upd_same]
    · rw [upd_ne z, upd_ne z, wo_ne e]
section
variable {J : It} {n : Nat} {G : Hp → Prop} {Y : Nat → Hp → V → Hp → Prop} {g : TG} {tt : TT} {te : TE} {vs : List Nat} {σ : L2.St} {H1 : Hp} {D : Addr} {Qd : Hp → Prop}
def RInv (Rel : Nat → List V → Hp → Prop) (H1 : Hp) (D : Addr) (i : Nat) (H : Hp) : Prop := Same H1 H ∧ ∃ acc, H D = some (.lst acc) ∧ acc.length ≤ i ∧ Rel i acc (wo D H)
theorem lc_rel (w : Walk J n G Y) (Rel : Nat → List V → Hp → Prop) (hD : H1 D = none) (hz : n ≤ sizeLine) (hG : ∀ H', Same H1 H' → G H') (h0 : Rel 0 [] H1) (hm : ∀ i acc A B, Same A B → Rel i acc A → Rel i acc B)
    (hs : ∀ i x acc Ha Hb, i < n → Same H1 Ha → Ha D = some (.lst acc) → Rel i acc (wo D Ha) → Y i Ha x Hb → ∀ (Yc : V → Hp → Prop) (Nc : Hp → Prop), (∀ y H4, Same Ha H4 → Rel (i + 1) (acc ++ [y]) (wo D H4) → Yc y H4) → (∀ H3, Same Ha H3 → Rel (i + 1) acc (wo D H3) → Nc H3) →
      g x (wipe σ vs) Hb fun σ2 H2 => wipe σ2 vs = wipe σ vs ∧ tt σ2 H2 fun b H3 => if b = true then te σ2 H3 Yc else Nc H3)
    (hd : ∀ acc H', Same H1 H' → H' D = some (.lst acc) → Rel n acc (wo D H') → Qd H') :
    ∃ W : Nat → Nat → Hp → Prop, (∃ m, W 0 m (upd H1 D (.lst []))) ∧ ∀ i m H, W i m H →
      (J.stop i H ∧ Qd H) ∨ (J.go i H ∧ ∃ Nx : Hp → Prop, (∀ H', Nx H' → ∃ m', m' < m ∧ W (i + 1) m' H') ∧ ∀ x H', J.yld i H x H' → g x (wipe σ vs) H' fun σ2 H2 => wipe σ2 vs = wipe σ vs ∧ tt σ2 H2 fun b H3 =>
        if b = true then te σ2 H3 fun y H4 => ∃ acc, H4 D = some (.lst acc) ∧ acc.length < sizeLine ∧ Nx (upd H4 D (.lst (acc ++ [y]))) else Nx H3) := by
  refine lc_it w (RInv Rel H1 D) ⟨same_new hD, [], upd_same, Nat.le_refl _, ?_⟩ (fun i H hi p => hG H p.1) (fun i x H H' hi ⟨s1, acc, ha, hl, hr⟩ y => ?_) (fun H ⟨s1, acc, ha, _, hr⟩ => hd acc H s1 ha hr)
  · rw [wo_upd]
    exact hm _ _ _ _ (same_wo hD (Same.refl _)) h0
  · refine hs i x acc H H' hi s1 ha hr y _ _ (fun y H4 s2 r => ?_) (fun H3 s2 r => ?_)
    · refine ⟨acc, s2 _ _ ha, by omega, ?_, acc ++ [y], upd_same, ?_, ?_⟩
      · intro b o q
        rw [upd_ne (ne_of_none q hD)]
        exact s2 _ _ (s1 _ _ q)
      · rw [List.length_append]; simp only [List.length_cons, List.length_nil]; omega
      · rw [wo_upd]; exact r
    · exact ⟨s1.trans s2, acc, s2 _ _ ha, by omega, r⟩
end
end Fp

namespace Fp
open PySem PySem.Spec PyProof.Rows L2 PySem.W
theorem dle {u d : Nat} (hu : u + 64 < cLine) (h : d ≤ 60) : u + d < cLine := by omega
theorem dle1 {u d : Nat} (hu : u + 64 < cLine) (h : d ≤ 60) : u + 1 + d < cLine := by omega
theorem dle2 {u d : Nat} (hu : u + 64 < cLine) (h : d ≤ 60) : u + 2 + d < cLine := by omega
theorem iteT2 {b : Bool} {A B : Prop} (h : b = true) (a : A) : if b = true then A else B := by subst h; exact iteT a
theorem iteF2 {b : Bool} {A B : Prop} (h : b = false) (a : B) : if b = true then A else B := by subst h; exact iteF a
section
variable {X : Cx}
/-! ### subscripts and slices of a list or a tuple -/
def rIxQ (K : PySem.W.Frag) : R2 := fun x y H Q => rIxL K x y H Q ∨ rIxT K x y H Q
theorem ix_sq : IxR X (rIxQ X.K) := ix_list.or ix_tup
theorem ixq {K : PySem.W.Frag} {H : Hp} {a : Addr} {xs : List V} {i : Int} {v : V} {Q : VK} (h : Sq K H a xs) (e : atI xs i = some v) (q : Q v H) : rIxQ K (.ref a) (.int i) H Q :=
  h.elim (fun s => .inl ⟨a, xs, i, v, rfl, rfl, s, e, q⟩) (fun s => .inr ⟨a, xs, i, v, rfl, rfl, s, e, q⟩)
theorem sl_or {r r' : V → Option Int → Option Int → Hp → VK → Prop} (h : SlR X r) (h' : SlR X r') : SlR X (fun x lo hi H Q => r x lo hi H Q ∨ r' x lo hi H Q) := by
  intro pins s σ H x v vl vu lo hi sl Q I rx hs pl pu q
  rcases q with q | q
  · exact h pins s σ H x v vl vu lo hi sl Q I rx hs pl pu q
  · exact h' pins s σ H x v vl vu lo hi sl Q I rx hs pl pu q
def rSlS (K : PySem.W.Frag) : V → Option Int → Option Int → Hp → VK → Prop := fun x lo hi H Q => rSlL K x lo hi H Q ∨ rSlA K x lo hi H Q
theorem sl_sq : SlR X (rSlS X.K) := sl_or sl_list sl_tupA
/-- a slice of a list or a tuple: something that is read as its part -/
theorem slq {K : PySem.W.Frag} {H : Hp} {a : Addr} {xs : List V} {lo hi : Option Int} {Q : VK} (h : Sq K H a xs) (q : ∀ p H', Same H H' → Sq K H' p (cutV xs lo hi) → Q (.ref p) H') : rSlS K (.ref a) lo hi H Q := by
  rcases h with h | h
  · exact .inl ⟨a, xs, rfl, h, fun p hp => q p _ (same_new hp) (sq_lst upd_same)⟩
  · refine .inr ⟨a, xs, rfl, h, fun z => q a H (Same.refl H) (.inr ?_), fun _ p hp => q p _ (same_new hp) (sq_tup upd_same)⟩
    have e : cutV xs lo hi = xs := by
      unfold cutV
      rw [z.1, z.2]; simp
    rw [e]; exact h
theorem cut_from {xs : List V} (n : Nat) : cutV xs (some (n : Int)) none = xs.drop n := by
  have e : HT.sIx xs.length 0 (some (n : Int)) = min n xs.length := by
    show (if (n : Int) < 0 then ((n : Int) + (xs.length : Int)).toNat else min (n : Int).toNat xs.length) = min n xs.length
    rw [if_neg (by omega), Int.toNat_natCast]
  unfold cutV
  rw [e, HT.sIx_none, List.take_of_length_le (by rw [List.length_drop]; omega)]
  rcases Nat.le_total n xs.length with h | h
  · rw [Nat.min_eq_left h]
  · rw [Nat.min_eq_right h, List.drop_of_length_le (Nat.le_refl _), List.drop_of_length_le h]
theorem cut_to {xs : List V} (n : Nat) : cutV xs none (some (n : Int)) = xs.take n := by
  have e : HT.sIx xs.length xs.length (some (n : Int)) = min n xs.length := by
    show (if (n : Int) < 0 then ((n : Int) + (xs.length : Int)).toNat else min (n : Int).toNat xs.length) = min n xs.length
    rw [if_neg (by omega), Int.toNat_natCast]
  have e0 : HT.sIx xs.length 0 none = 0 := rfl
  unfold cutV
  rw [e, e0, List.drop_zero, Nat.sub_zero]
  rcases Nat.le_total n xs.length with h | h
  · rw [Nat.min_eq_left h]
  · rw [Nat.min_eq_right h, List.take_of_length_le (Nat.le_refl _), List.take_of_length_le h]
/-! ### xs[i] op= e -/
theorem pget_list : PGet X (fun o i H Q => ∃ p xs k v, o = .ref p ∧ i = .int k ∧ SqL X.K H p xs ∧ 0 ≤ k ∧ xs[k.toNat]? = some v ∧ Q v H) := by
  intro pins s σ H o i ov iv Q I ro ri h
  obtain ⟨p, xs, k, v, rfl, rfl, hq, h0, he, q⟩ := h
  cases ro
  obtain ⟨t, rfl⟩ := ri
  obtain ⟨its, r, pl, hz⟩ := I.list hq
  obtain ⟨w, ew, rw'⟩ := r.get he
  have hl := r.length
  have hn := line63
  have hk := (List.getElem?_eq_some_iff.mp he).1
  exact wpAny_getItem_list (x := w) pl.isList h0 (by omega) (by simpa using ew) ⟨v, H, I, rw', q⟩
end
/-! ### truth of lists of bools, tables -/
theorem hs_bls {K : PySem.W.Frag} {H : Hp} : ∀ bs : List Bool, Hs K H (bs.map V.bl) bs
  | [] => .nil
  | b :: r => .cons (.bl b) (hs_bls r)
theorem bls_hs {K : PySem.W.Frag} {H : Hp} : ∀ {vs : List V} {bs : List Bool}, Hs K H vs bs → vs = bs.map V.bl
  | [], [], _ => rfl
  | [], _ :: _, h => by cases h
  | _ :: _, [], h => by cases h
  | v :: vs, b :: bs, h => by
    cases h with
    | cons a r =>
      have e : v = .bl b := by
        have a' : Dp K H v (.bool b) := a
        cases a'; rfl
      rw [e, bls_hs r]; rfl
theorem bls_hd {K : PySem.W.Frag} {H : Hp} {v : V} {bs : List Bool} (h : Hd K H v bs) : ∃ a, v = .ref a ∧ SqL K H a (bs.map V.bl) := by
  obtain ⟨a, vs, e, hs, r⟩ := lst_hd h
  rw [bls_hs r] at hs
  exact ⟨a, e, hs⟩
/-! ### comprehensions with two fors -/
section
variable {J : It} {n : Nat} {G : Hp → Prop} {Y : Nat → Hp → V → Hp → Prop} {g : TG} {tt : TT} {te : TE} {vs : List Nat} {σ : L2.St} {H1 : Hp} {D : Addr} {Qd : Hp → Prop}
/-- the inner loop's own reading -/
def In2 (D : Addr) (σ2 : L2.St) (vs1 : List Nat) (g1 : TG) (tt1 : TT) (te : TE) (Nx : Hp → Prop) (J1 : It) (H4 : Hp) : Prop := ∃ W1 : Nat → Nat → Hp → Prop, (∃ m, W1 0 m H4) ∧ ∀ j k H, W1 j k H →
  (J1.stop j H ∧ Nx H) ∨ (J1.go j H ∧ ∃ Nx1 : Hp → Prop, (∀ H', Nx1 H' → ∃ k', k' < k ∧ W1 (j + 1) k' H') ∧ ∀ x H', J1.yld j H x H' → g1 x (wipe σ2 vs1) H' fun σ3 H5 => wipe σ3 vs1 = wipe σ2 vs1 ∧ tt1 σ3 H5 fun b H6 =>
    if b = true then te σ3 H6 fun y H7 => ∃ acc, H7 D = some (.lst acc) ∧ acc.length < sizeLine ∧ Nx1 (upd H7 D (.lst (acc ++ [y]))) else Nx1 H6)
theorem lc2_in {σ2 : L2.St} {vs1 : List Nat} {g1 : TG} {tt1 : TT} {Nx : Hp → Prop} {H4 : Hp} {acc0 : List V} (w : Walk J n G Y) (Rel : Nat → List V → Hp → Prop) (hD : H4 D = some (.lst acc0)) (h0 : Rel 0 acc0 (wo D H4)) (hz : ∀ i acc H, i ≤ n → Rel i acc H → acc.length < sizeLine) (hG : ∀ H', Same (wo D H4) (wo D H') → G H')
    (hs : ∀ i x acc Ha Hb, i < n → Same (wo D H4) (wo D Ha) → Ha D = some (.lst acc) → Rel i acc (wo D Ha) → Y i Ha x Hb → ∀ (Yc : V → Hp → Prop) (Nc : Hp → Prop), (∀ y Hc, Same Ha Hc → Rel (i + 1) (acc ++ [y]) (wo D Hc) → Yc y Hc) → (∀ Hc, Same Ha Hc → Rel (i + 1) acc (wo D Hc) → Nc Hc) →
      g1 x (wipe σ2 vs1) Hb fun σ3 H5 => wipe σ3 vs1 = wipe σ2 vs1 ∧ tt1 σ3 H5 fun b H6 => if b = true then te σ3 H6 Yc else Nc H6)
    (hd : ∀ acc H', Same (wo D H4) (wo D H') → H' D = some (.lst acc) → Rel n acc (wo D H') → Nx H') : In2 D σ2 vs1 g1 tt1 te Nx J H4 := by
  refine ⟨fun i m H => m = n - i ∧ i ≤ n ∧ Same (wo D H4) (wo D H) ∧ ∃ acc, H D = some (.lst acc) ∧ Rel i acc (wo D H), ⟨n, by simp, Nat.zero_le _, Same.refl _, acc0, hD, h0⟩, ?_⟩
  rintro i m H ⟨rfl, hi, s1, acc, ha, hr⟩
  have q := hG H s1
  by_cases hlt : i < n
  · refine .inr ⟨w.goes i H hlt q, fun H' => i + 1 ≤ n ∧ Same (wo D H4) (wo D H') ∧ ∃ acc, H' D = some (.lst acc) ∧ Rel (i + 1) acc (wo D H'), fun H' p' => ⟨n - (i + 1), by omega, rfl, p'.1, p'.2⟩, fun x H' y => ?_⟩
    refine hs i x acc H H' hlt s1 ha hr (w.yields i H x H' hlt q y) _ _ (fun y Hc s2 r => ?_) (fun Hc s2 r => ?_)
    · refine ⟨acc, s2 _ _ ha, hz i acc _ hi hr, hlt, ?_, acc ++ [y], upd_same, ?_⟩
      · rw [wo_upd]; exact s1.trans (wo_same s2)
      · rw [wo_upd]; exact r
    · exact ⟨hlt, s1.trans (wo_same s2), acc, s2 _ _ ha, r⟩
  · have e : i = n := by omega
    subst e
    exact .inl ⟨w.stops H q, hd acc H s1 ha hr⟩
theorem lc2_rel {wi1 : TI} {vs1 : List Nat} {g1 : TG} {tt1 : TT} (w : Walk J n G Y) (Rel : Nat → List V → Hp → Prop) (hD : H1 D = none) (hG : ∀ H', Same H1 H' → G H') (h0 : Rel 0 [] H1) (hm : ∀ i acc A B, Same A B → Rel i acc A → Rel i acc B)
    (hs : ∀ i x acc Ha Hb, i < n → Same H1 Ha → Ha D = some (.lst acc) → Rel i acc (wo D Ha) → Y i Ha x Hb → ∀ Nx : Hp → Prop, (∀ acc' H', Same H1 H' → H' D = some (.lst acc') → Rel (i + 1) acc' (wo D H') → Nx H') →
      g x (wipe σ vs) Hb fun σ2 H2 => wipe σ2 vs = wipe σ vs ∧ tt σ2 H2 fun b H3 => if b = true then wi1 σ2 H3 (In2 D σ2 vs1 g1 tt1 te Nx) else Nx H3)
    (hd : ∀ acc H', Same H1 H' → H' D = some (.lst acc) → Rel n acc (wo D H') → Qd H') :
    ∃ W : Nat → Nat → Hp → Prop, (∃ m, W 0 m (upd H1 D (.lst []))) ∧ ∀ i m H, W i m H →
      (J.stop i H ∧ Qd H) ∨ (J.go i H ∧ ∃ Nx : Hp → Prop, (∀ H', Nx H' → ∃ m', m' < m ∧ W (i + 1) m' H') ∧ ∀ x H', J.yld i H x H' → g x (wipe σ vs) H' fun σ2 H2 => wipe σ2 vs = wipe σ vs ∧ tt σ2 H2 fun b H3 =>
        if b = true then wi1 σ2 H3 (In2 D σ2 vs1 g1 tt1 te Nx) else Nx H3) := by
  refine ⟨fun i m H => m = n - i ∧ i ≤ n ∧ Same H1 H ∧ ∃ acc, H D = some (.lst acc) ∧ Rel i acc (wo D H), ⟨n, by simp, Nat.zero_le _, same_new hD, [], upd_same, ?_⟩, ?_⟩
  · rw [wo_upd]
    exact hm _ _ _ _ (same_wo hD (Same.refl _)) h0
  rintro i m H ⟨rfl, hi, s1, acc, ha, hr⟩
  have q := hG H s1
  by_cases hlt : i < n
  · refine .inr ⟨w.goes i H hlt q, fun H' => i + 1 ≤ n ∧ Same H1 H' ∧ ∃ acc, H' D = some (.lst acc) ∧ Rel (i + 1) acc (wo D H'), fun H' p' => ⟨n - (i + 1), by omega, rfl, p'.1, p'.2⟩, fun x H' y => ?_⟩
    exact hs i x acc H H' hlt s1 ha hr (w.yields i H x H' hlt q y) _ fun acc' H' a b c => ⟨hlt, a, acc', b, c⟩
  · have e : i = n := by omega
    subst e
    exact .inl ⟨w.stops H q, hd acc H s1 ha hr⟩
end
/-! ### repr(..) of a truth value -/
theorem cr_reprB {X : Cx} : CallR X (.builtin "repr") (fun xs H Q => ∃ b : Bool, xs = [.bl b] ∧ Q (.str (if b then "True" else "False")) H) := by
  intro pins s σ H xs us Q I r h
  obtain ⟨b, rfl, q⟩ := h
  obtain ⟨u, rfl, ru⟩ := vals1 r
  cases ru
  exact PySem.P.repr_of_bool ⟨.str _, H, I.tok _, ⟨_, rfl⟩, q⟩
theorem cut_neg {xs : List V} (n : Nat) (h : 0 < n) : cutV xs (some (-(n : Int))) none = xs.drop (xs.length - n) := by
  have e : HT.sIx xs.length 0 (some (-(n : Int))) = xs.length - n := by
    show (if (-(n : Int)) < 0 then ((-(n : Int)) + (xs.length : Int)).toNat else min (-(n : Int)).toNat xs.length) = xs.length - n
    rw [if_pos (by omega)]; omega
  unfold cutV
  rw [e, HT.sIx_none, List.take_of_length_le (by rw [List.length_drop]; omega)]
/-! ### lists of new lists of ints -/
structure A2 {β : Type} (R : V → β → Prop) (vs : List V) (bs : List β) : Prop where
  len : vs.length = bs.length
  at_ : ∀ (i : Nat) (v : V), vs[i]? = some v → ∃ b, bs[i]? = some b ∧ R v b
section
variable {β : Type} {R S : V → β → Prop}
theorem A2.nil : A2 R [] [] := ⟨rfl, fun i v h => by cases h⟩
theorem A2.snoc {vs : List V} {bs : List β} {v : V} {b : β} (h : A2 R vs bs) (r : R v b) : A2 R (vs ++ [v]) (bs ++ [b]) := by
  refine ⟨by rw [List.length_append, List.length_append, h.len]; rfl, fun i u hu => ?_⟩
  by_cases e : i < vs.length
  · rw [List.getElem?_append_left e] at hu
    obtain ⟨b', e1, e2⟩ := h.at_ i u hu
    exact ⟨b', by rw [List.getElem?_append_left (by rw [← h.len]; exact e)]; exact e1, e2⟩
  · rw [List.getElem?_append_right (by omega)] at hu
    have z : i - vs.length = 0 := by
      have := (List.getElem?_eq_some_iff.mp hu).1
      simp only [List.length_cons, List.length_nil] at this
      omega
    rw [z] at hu
    obtain rfl := Option.some.inj hu
    exact ⟨b, by rw [List.getElem?_append_right (by rw [← h.len]; omega), ← h.len, z]; rfl, r⟩
theorem A2.mono {vs : List V} {bs : List β} (h : A2 R vs bs) (k : ∀ v b, R v b → S v b) : A2 S vs bs := ⟨h.len, fun i v e => let ⟨b, e1, e2⟩ := h.at_ i v e; ⟨b, e1, k v b e2⟩⟩
theorem A2.tail {v : V} {vs : List V} {b : β} {bs : List β} (h : A2 R (v :: vs) (b :: bs)) : R v b ∧ A2 R vs bs := by
  refine ⟨?_, by simpa using h.len, fun i u e => h.at_ (i + 1) u e⟩
  obtain ⟨b', e1, e2⟩ := h.at_ 0 v rfl
  obtain rfl : b = b' := Option.some.inj e1
  exact e2
theorem A2.cons {v : V} {vs : List V} {b : β} {bs : List β} (r : R v b) (h : A2 R vs bs) : A2 R (v :: vs) (b :: bs) := by
  refine ⟨by rw [List.length_cons, List.length_cons, h.len], fun i u e => ?_⟩
  cases i with
  | zero => obtain rfl := Option.some.inj e; exact ⟨b, rfl, r⟩
  | succ i => exact h.at_ i u e
theorem A2.app {vs ws : List V} {bs cs : List β} (h : A2 R vs bs) (g : A2 R ws cs) : A2 R (vs ++ ws) (bs ++ cs) := by
  induction vs generalizing bs with
  | nil =>
    cases bs with
    | nil => exact g
    | cons _ _ => have := h.len; cases this
  | cons v vs ih =>
    cases bs with
    | nil => have := h.len; cases this
    | cons b bs => exact .cons h.tail.1 (ih h.tail.2)
theorem A2.get {vs : List V} {bs : List β} (h : A2 R vs bs) {i : Nat} {b : β} (e : bs[i]? = some b) : ∃ v, vs[i]? = some v ∧ R v b := by
  have l := (List.getElem?_eq_some_iff.mp e).1
  have hv : vs[i]? = some (vs[i]'(by rw [h.len]; exact l)) := List.getElem?_eq_getElem _
  obtain ⟨b', e1, e2⟩ := h.at_ i _ hv
  rw [e] at e1
  obtain rfl := Option.some.inj e1
  exact ⟨_, hv, e2⟩
end
theorem a2_hs {K : PySem.W.Frag} {H : Hp} {α : Type} [DecidableEq α] [Datum α] {R : V → α → Prop} (k : ∀ v b, R v b → Hd K H v b) : ∀ {vs : List V} {bs : List α}, A2 R vs bs → Hs K H vs bs
  | [], [], _ => .nil
  | [], _ :: _, h => by have := h.len; cases this
  | _ :: _, [], h => by have := h.len; cases this
  | _ :: _, _ :: _, h => .cons (k _ _ h.tail.1) (a2_hs k h.tail.2)
/-- a list of ints that is new since H0 -/
def Rw (H0 H : Hp) (v : V) (l : List Int) : Prop := ∃ b, v = .ref b ∧ H0 b = none ∧ H b = some (.lst (l.map V.int))
theorem Rw.same {H0 H H' : Hp} {v : V} {l : List Int} (e : Same H H') (h : Rw H0 H v l) : Rw H0 H' v l := let ⟨b, a, c, d⟩ := h; ⟨b, a, c, e _ _ d⟩
theorem Rw.old {H0 G0 H : Hp} {v : V} {l : List Int} (e : Same G0 H0) (h : Rw H0 H v l) : Rw G0 H v l := let ⟨b, a, c, d⟩ := h; ⟨b, a, e.free c, d⟩
theorem Rw.hd {K : PySem.W.Frag} {H0 H : Hp} {v : V} {l : List Int} (h : Rw H0 H v l) : Hd K H v l := by
  obtain ⟨b, rfl, _, d⟩ := h
  exact hd_ints (SqL.of d)
theorem rws_hs {K : PySem.W.Frag} {H0 H : Hp} {vs : List V} {L : List (List Int)} (h : A2 (Rw H0 H) vs L) : Hs K H vs L := a2_hs (fun _ _ r => r.hd) h
end Fp

namespace Fp
open PySem PySem.Spec PyProof.Rows L2 PySem.W
/-! ### enumerate of a list or a tuple -/
abbrev eObj (it : Addr) : Obj := { cls := .type "enumerate", data := .fields #[.none, .bool false, .ref it, rawInt 0, .none, .none] }
theorem meets_enum1 {v : Value} {o : Obj} {G : Heap → Prop} (B : Begins v o G) :
    Meets (Builtin.«enumerate.__new__» ⟨[.type "enumerate", v], []⟩) (fun _ R s => G s.heap ∧ R (.ok (.ret (.ref (s.heap.push o).objs.size))) { s with heap := (s.heap.push o).push (eObj s.heap.objs.size) }) :=
  .of_wp fun prog w A R s0 hyp => by
    obtain ⟨hp0, gens0, drawn0, tok0, os0⟩ := s0
    obtain ⟨ground, fin⟩ := hyp
    have subE := sub_enumerate
    have first : ∀ {A' : Around} {E : Value → Shared → Prop} {Q : Value → Shared → Prop}, Q (.ref hp0.objs.size) ⟨hp0.push o, gens0, drawn0, tok0, os0⟩ → wpAny (model prog w) A' (pyIter v) Q E ⟨hp0, gens0, drawn0, tok0, os0⟩ :=
      fun z => B.iter prog w _ _ ⟨hp0, gens0, drawn0, tok0, os0⟩ _ ground z
    wp_walk using first
    refine wpAny_stack_any fun frames => wpAny_pure ?_
    split
    · rename_i cl _ _ _ _ _
      cases (cl == Value.type "enumerate") <;>
      · wp_walk using first
        exact ⟨_, rfl, fin⟩
    · wp_walk using first
      exact ⟨_, rfl, fin⟩
section
variable {prog : Program} {w : World} {A : Around} {E : Value → Shared → Prop} {s : Shared}
theorem enum_made {κ : Bool} {l : Addr} {xs : Array Value} {Q : Value → Shared → Prop} (h1 : SqAtK κ s.heap l xs)
    (h : ∀ h', IsEnum h' (s.heap.objs.size + 1) s.heap.objs.size 0 .none → ItAtK κ h' s.heap.objs.size l 0 → (∀ b o, s.heap.get? b = some o → h'.get? b = some o) → Q (.ref (s.heap.objs.size + 1)) { s with heap := h' }) :
    wpAny (model prog w) A (call (.type "enumerate") [.ref l]) Q E s := by
  have key : ∀ {o : Obj} {G : Heap → Prop}, Begins (.ref l) o G → G s.heap → (∀ h' : Heap, h'.get? s.heap.objs.size = some o → ItAtK κ h' s.heap.objs.size l 0) → wpAny (model prog w) A (call (.type "enumerate") [.ref l]) Q E s := by
    intro o G B hG hit
    refine callType_new F.called_enumerate (by decide) (F.typeCall_enumerate_1 _) (F.newCall_enumerate_1 _) (fun obj => F.args_object_init_2 obj _) F.entry_enumerate_new (meets_enum1 B) ⟨hG, ?_⟩
    have sz : (s.heap.push o).objs.size = s.heap.objs.size + 1 := Heap.size_push ..
    have at1 : ((s.heap.push o).push (eObj s.heap.objs.size)).get? (s.heap.objs.size + 1) = some (eObj s.heap.objs.size) := by
      have z := Heap.get?_push_size (s.heap.push o) (o := eObj s.heap.objs.size) rfl
      rw [sz] at z
      exact z
    show _ ∧ _
    rw [sz]
    exact ⟨⟨_, at1, rfl⟩, h _ at1 (hit _ (Heap.get?_push_of_some _ (Heap.get?_push_size _ B.free))) fun b o x => Heap.get?_push_of_some _ (Heap.get?_push_of_some _ x)⟩
  cases κ with
  | false => exact key (begins_list l xs) h1 fun h' e => ⟨_, e, rfl, rfl⟩
  | true => exact key (begins_tuple l xs) h1 fun h' e => ⟨_, e, rfl, rfl⟩
end
def ItN (K : PySem.W.Frag) (κ : Bool) (a : Addr) (xs : List V) : It :=
  ⟨fun i H => SqK κ K H a xs ∧ i < xs.length, fun i H v H' => ∃ T x, v = .ref T ∧ H T = none ∧ H' = upd H T (.tup [.int (i : Nat), x]) ∧ xs[i]? = some x, fun i H => SqK κ K H a xs ∧ i = xs.length⟩
def TnN (κ : Bool) (e it a : Addr) (i : Nat) (h : Heap) : Prop := (∃ old, IsEnum h e it ((i : Nat) : Int) old) ∧ ItAtK κ h it a i ∧ e ≠ it ∧ e ≠ a ∧ a ≠ it
theorem enum_turns {P : Program} {w : World} {K : PySem.W.Frag} {elts : List Expr} {kk : Nat} {tpos : Pos} {κ : Bool} {a e it : Addr} {xs : List V} :
    Turn P w K (.Tuple elts kk tpos) (ItN K κ a xs) [e, it] e (TnN κ e it a) := by
  refine ⟨by simp, ?_, ?_, ?_, ?_, ?_⟩
  · rintro i h ⟨⟨old, he⟩, hi, _⟩ b hb
    have e' : b = e ∨ b = it := by simpa using hb
    rcases e' with z | z <;> subst z
    · exact ⟨_, he, fun v q => nomatch q⟩
    · exact hi.obj
  · rintro i h h' ⟨⟨old, he⟩, hi, n1, n2, n3⟩ k
    exact ⟨⟨old, k e (by simp) _ he⟩, hi.at fun o q => k it (by simp) o q, n1, n2, n3⟩
  · intro X hP hw hK hc i pins s σ H E I hf st hg
    subst hP hw hK
    obtain ⟨⟨old, he⟩, hit, n1, n2, n3⟩ := st
    obtain ⟨qx, lx⟩ := hg
    obtain ⟨its, rv, p, _⟩ := Inv.seqK I qx
    have hA : X.A.in1.handled = none := by
      have q := I.ok.hd hc
      simpa using q
    have el : e < s.heap.objs.size := Heap.lt_size he
    have il : it < s.heap.objs.size := by obtain ⟨_, q, _⟩ := hit.obj; exact Heap.lt_size q
    have len := rv.length
    refine wpAny_pyNext_enum_itemC (draws_k κ hA it a n3 its.toArray) he ⟨hit, p⟩ (by simp; omega) n1 (by simp only [List.mem_cons, List.not_mem_nil, or_false, not_or]; exact ⟨n1, n2⟩) ?_
    intro u h' tk hu ho st' hT hsz hk
    obtain ⟨x, hx, ru⟩ : ∃ x, xs[i]? = some x ∧ RelV x u := by
      obtain ⟨u', e1, e2⟩ := rv.get (List.getElem?_eq_getElem lx)
      have e3 : its[i]? = some u := by simpa using hu
      rw [e1] at e3
      obtain rfl := Option.some.inj e3
      exact ⟨_, List.getElem?_eq_getElem lx, e2⟩
    refine ⟨_, rfl, wpAny_letOwnedTupleGo_enum (s := { s with heap := h', toks := tk + 1 }) ho fun h'' he' sb => ?_⟩
    have T2 : h''.get? s.heap.objs.size = some { cls := .type "tuple", data := .seq #[.int i tk, u] } := (sb.2 _ (Nat.ne_of_gt el)).trans hT
    have I1 : L2.Inv X pins σ (upd H s.heap.objs.size (.tup [.int (i : Nat), x])) { s with heap := h'', toks := tk + 1 } :=
      I.turnedNew (ch := [e, it]) (fun b ob hb q => (sb.2 b (fun z => hb (by simp [z]))).trans (hk b ob (fun z => hb (by simp [z])) (fun z => hb (by simp [z])) q)) hf (Nat.le_refl _)
        ⟨by show 2 ≤ sizeLine; decide, [.int i tk, u], .cons ⟨_, rfl⟩ (.cons ru .nil), ⟨_, T2, rfl, _, rfl⟩⟩
    refine ⟨.ref s.heap.objs.size, _, I1, rfl, ⟨_, x, rfl, I.hok.fresh (Nat.le_refl _), rfl, hx⟩, ⟨⟨u, ?_⟩, st'.1.at fun o q => (sb.2 it (Ne.symm n1)).trans q, n1, n2, n3⟩, fun b hb => ?_⟩
    · have e1 : ((i + 1 : Nat) : Int) = (i : Int) + 1 := by omega
      rw [e1]; exact he'
    · have lt : b < s.heap.objs.size := by
        have e' : b = e ∨ b = it := by simpa using hb
        rcases e' with z | z <;> subst z
        · exact el
        · exact il
      rw [upd_ne (Nat.ne_of_lt lt)]
      exact (hf b hb).1
  · intro X hP hw hK hc i pins s σ H E I hf st hg
    subst hP hw hK
    obtain ⟨⟨old, he⟩, hit, n1, n2, n3⟩ := st
    obtain ⟨qx, lx⟩ := hg
    obtain ⟨its, rv, p, _⟩ := Inv.seqK I qx
    have hA : X.A.in1.handled = none := by
      have q := I.ok.hd hc
      simpa using q
    have len := rv.length
    obtain ⟨f0, f1, f2, f3, f4, f5⟩ := hf it (by simp)
    have le : its.toArray.size = i := by simp; omega
    refine wpAny_pyNext_enum_endD (draws_k κ hA it a n3 its.toArray) he (by rw [le]; exact ⟨hit, p⟩) fun h' eb => ⟨rfl, I.turned (t' := s.toks) (fun b o hb q => eb b o hb q) f0 f1 f3 f4 f5⟩
  · rintro A i s Q E ⟨⟨old, he⟩, _⟩ h
    exact wpAny_pyIter_enum he h
def iEnumS (K : PySem.W.Frag) (ta : TA) : TI := fun σ H R => ta σ H fun vs H1 => ∃ a xs κ, vs = [.ref a] ∧ SqK κ K H1 a xs ∧ R (ItN K κ a xs) H1
theorem pi_enumS {X : Cx} {e : Expr} {ta : TA} {p pos tpos : Pos} {elts : List Expr} {kk : Nat} (hg : Gl X "enumerate") (hm : X.mg "enumerate" = none) (ha : PA X [e] ta) (hs : starEach [e] X.env = [(false, eval e X.env)] := by rfl) :
    PI X (.Tuple elts kk tpos) (.Call (.Name "enumerate" p) [e] [] pos) (iEnumS X.K ta) := by
  refine ⟨fun pins s σ H R I h => Call_ (ld_blt I hg hm boot_enumerate (PyProof.Rows.callWith_type1 (thn (ha.run pos pins s σ H _ I h) ?_) hs rfl))⟩
  rintro us s1 ⟨vs, H1, I1, r1, a, xs, κ, rfl, kx, q⟩
  obtain ⟨u1, rfl, ra⟩ := vals1 r1
  cases ra
  obtain ⟨its, rv, p1, la⟩ := Inv.seqK I1 kx
  refine enum_made p1 fun h' he hit hk => wpAny_pyIter_enum he ?_
  refine ⟨s1.heap.objs.size + 1, _, _, _, H1, rfl, I1.kept (t' := s1.toks) hk, enum_turns, ⟨⟨.none, he⟩, hit, Nat.succ_ne_self _, Nat.ne_of_gt (Nat.lt_succ_of_lt la), Nat.ne_of_lt la⟩, fun b hb => ?_, q⟩
  have le : s1.heap.objs.size ≤ b := by
    have e' : b = s1.heap.objs.size + 1 ∨ b = s1.heap.objs.size := by simpa using hb
    rcases e' with z | z <;> rw [z]
    · exact Nat.le_succ _
    · exact Nat.le_refl _
  exact I1.fpOk le (I1.hok.fresh le)
theorem walk_enumS {K : PySem.W.Frag} {κ : Bool} {a : Addr} {xs : List V} {n : Nat} (hn : n = xs.length) : Walk (ItN K κ a xs) n (fun H => SqK κ K H a xs) (YPair (fun i => some (.int (i : Nat))) (fun i => xs[i]?)) := by
  subst hn
  refine ⟨fun i _ hi q => ⟨q, hi⟩, fun _ q => ⟨q, rfl⟩, fun i H v H' _ q y => ?_⟩
  obtain ⟨T, x, h1, h2, h3, h4⟩ := y
  exact ⟨T, .int (i : Nat), x, h1, h2, h3, rfl, h4⟩
end Fp

namespace PyProof.Rows
open PySem PySem.Spec PySem.W
theorem collect_tupI {prog : Program} {w : World} {A : Around} {E : Value → Shared → Prop} {s : Shared} {l : Addr} {vs : List Value} {Q : List Value → Shared → Prop} (hl : s.heap.IsTuple l vs.toArray)
    (h : Q vs { s with heap := (s.heap.push (seqObj "list" #[] 0)).update s.heap.objs.size (Obj.mapSeq (· ++ vs.toArray)) }) (hsz : vs.length ≤ sizeLine) :
    wpAny (model prog w) A (collect (.ref l)) Q E s := by
  obtain ⟨o, ho, hc, n, hd⟩ := id hl
  unfold collect
  refine wpAny_bind (wpAny_runValue (codeAny_builtin entry_proto_collect' ?_))
  show wpAny _ _ (do again (.builtin "list.__iadd__" ⟨[← newList [], .ref l], []⟩)) _ _ s
  refine wpAny_bind (wpAny_newList (wpAny_pure ⟨Code.quiet_builtin _ (by decide +kernel), codeAny_builtin entry_list_iadd' ?_⟩))
  show wpAny _ _ (Builtin.List.listExtendWith (.ref s.heap.objs.size) (.ref l) (.ref s.heap.objs.size)) _ _ { s with heap := s.heap.push (seqObj "list" #[] 0) }
  unfold Builtin.List.listExtendWith
  have ho' : (s.heap.push (seqObj "list" #[] 0)).get? l = some o := Heap.get?_push_of_some _ ho
  refine wpAny_bind (wpAny_typeOf (T := "tuple") ⟨o, ho', hc⟩ ?_)
  have ht : (Value.type "tuple" == Value.type "tuple") = true := by rfl
  rw [if_pos (by rw [ht]; simp)]
  refine wpAny_bind (listItems_at ho' hd ?_)
  refine wpAny_bind (listItems_at (xs := #[]) (n := 0) (Heap.get?_push_size _ rfl) rfl ?_)
  rw [if_neg (by simp)]
  refine wpAny_bind (listUpdate_at (xs := #[]) (n := 0) (Heap.get?_push_size _ rfl) rfl ?_ (Nat.zero_le _) (by show (#[] ++ vs.toArray).size ≤ sizeLine + 1; simp only [Array.size_append, List.size_toArray, List.length_nil]; omega))
  refine wpAny_pure ?_
  show wpAny (model prog w) A (do
      let o ← load s.heap.objs.size
      match o.data with
      | .seq xs _ => pure xs.toList
      | _ => unsupported "internal:collect") Q E { s with heap := (s.heap.push (seqObj "list" #[] 0)).update s.heap.objs.size (Obj.mapSeq (· ++ vs.toArray)) }
  refine wpAny_bind (wpAny_load (get?_update_seq (Heap.get?_push_size _ rfl) _) ?_)
  show wpAny _ _ (pure ((#[] : Array Value) ++ vs.toArray).toList) Q E _
  refine wpAny_pure ?_
  simpa using h
end PyProof.Rows
namespace SrtO
open PySem PySem.Spec PyProof.Rows PySem.W
theorem sorted_ordT {prog : Program} {w : World} {A : Around} {E : Value → Shared → Prop} {s : Shared} {l : Addr} {vs : List Value} {ltv : Value → Value → Bool} {Q : Value → Shared → Prop} (O : Swo ltv) (hl : s.heap.IsTuple l vs.toArray) (hz : vs.length ≤ sizeLine)
    (hS : 2 ≤ vs.length → ∀ (h₁ : Heap) (a : Addr), h₁.get? a = some (seqObj "list" vs.toArray 0) → (∀ b o, s.heap.get? b = some o → b ≠ a ∧ h₁.get? b = some o) → SortableO prog w A.in1.in1 { s with heap := h₁ } a vs ltv)
    (h : ∀ out : List Value, Srtd ltv out → Stb ltv out vs → Q (.ref (s.heap.objs.size + 1)) { s with heap := sortedAll s.heap vs out.toArray }) :
    wpAny (model prog w) A (call (.builtin "sorted") [.ref l]) Q E s := by
  refine Calls.call_function_entry kind_sorted plain_sorted entry_sorted (args_sorted1 _) ?_
  unfold Builtin.«sorted»
  refine wpAny_bind (m := checkCount "sorted" 1 1 _) (wpAny_pure ?_)
  refine wpAny_bind (collect_tupI hl ?_ hz)
  refine wpAny_bind (wpAny_newList ?_ hz)
  have hsz : ((s.heap.push (seqObj "list" #[] 0)).update s.heap.objs.size (Obj.mapSeq (· ++ vs.toArray))).objs.size = s.heap.objs.size + 1 := by
    rw [Heap.size_update, size_push']
  have hoL : (((s.heap.push (seqObj "list" #[] 0)).update s.heap.objs.size (Obj.mapSeq (· ++ vs.toArray))).push (seqObj "list" vs.toArray 0)).get? (s.heap.objs.size + 1) = some (seqObj "list" vs.toArray 0) := by
    rw [← hsz]; exact Heap.get?_push_size _ rfl
  have keep : ∀ b o, s.heap.get? b = some o → b ≠ s.heap.objs.size + 1 ∧ (((s.heap.push (seqObj "list" #[] 0)).update s.heap.objs.size (Obj.mapSeq (· ++ vs.toArray))).push (seqObj "list" vs.toArray 0)).get? b = some o := fun b o q => by
    have hlt : b < s.heap.objs.size := Heap.lt_size q
    refine ⟨Nat.ne_of_lt (Nat.lt_succ_of_lt hlt), Heap.get?_push_of_some _ ?_⟩
    rw [Heap.get?_update_ne _ _ _ _ (Nat.ne_of_lt hlt)]
    exact Heap.get?_push_of_some _ q
  show wpAny _ _ _ _ _ { s with heap := ((s.heap.push (seqObj "list" #[] 0)).update s.heap.objs.size (Obj.mapSeq (· ++ vs.toArray))).push (seqObj "list" vs.toArray 0) }
  rw [hsz]
  refine wpAny_bind (wpAny_holding (wpAny_call_entry slot_list_sort ⟨_, hoL, rfl⟩ entry_list_sort (list_sort_ord O hoL hz (fun h2 => hS h2 _ _ hoL keep) fun out hs hb => ⟨_, rfl, ?_⟩) (args_list_sort _)))
  exact wpAny_pure ⟨_, rfl, h out hs hb⟩
end SrtO
namespace Fp
open PySem PySem.Spec PyProof.Rows L2 PySem.W
/-- sorted of ints in a list or a tuple -/
def rSortIS (K : PySem.W.Frag) : List V → Hp → VK → Prop := fun vs H Q => ∃ (a : Addr) (ns : List Int), vs = [V.ref a] ∧ Sq K H a (ns.map V.int) ∧
  ∀ (ns' : List Int) (p : Addr), ns'.Perm ns → ns'.Pairwise (· ≤ ·) → H p = none → Q (.ref p) (upd H p (.lst (ns'.map V.int)))
theorem cr_sortIS {X : Cx} : CallR X (.builtin "sorted") (rSortIS X.K) := by
  intro pins s σ H vs us Q I r h
  obtain ⟨a, ns, rfl, hs, q⟩ := h
  rcases hs with hs | hs
  · exact cr_sortedI pins s σ H [.ref a] us Q I r ⟨a, ns, rfl, hs, q⟩
  obtain ⟨its, rv, hl, hz⟩ := I.tuple hs
  rw [Vals.ref1 r]
  have hi := rv.ints
  have hz' : its.length ≤ sizeLine := by
    have := rv.length
    first | omega | exact this ▸ hz | simpa using hz
  refine SrtO.sorted_ordT SrtO.swo_int hl hz' (fun h2 h₁ a' _ _ => SrtO.ints_sortable hi h2) fun out h1 h2 => ?_
  obtain ⟨k1, k2, k3⟩ := SrtO.ints_out hi h1 h2
  obtain ⟨ep, he'⟩ := PyProof.Rows.sortedAll_at s.heap its out.toArray
  have hlen : ((out.map SrtO.iv).map V.int).length ≤ sizeLine := by
    rw [List.length_map, k2.length_eq]
    have := hi.length
    omega
  exact ⟨.ref _, upd H (s.heap.objs.size + 1) (.lst ((out.map SrtO.iv).map V.int)), I.laid (t' := s.toks) (fun _ _ => PyProof.Rows.sortedAll_old) (Nat.le_succ _) ⟨hlen, out, ep, vals_of_ints k1, he'⟩, rfl, q _ _ k2 k3 (I.hok.fresh (Nat.le_succ _))⟩
/-! ### min and max of ints in a list or a tuple -/
theorem min_tupI {prog : Program} {w : World} {A : Around} {E : Value → Shared → Prop} {s : Shared} {l : Addr} {its : List Value} {ns : List Int} {Q : Value → Shared → Prop} (hh : A.handled = none) (hl : s.heap.IsTuple l its.toArray) (hi : IntsAre its ns) (hne : 0 < ns.length)
    (h : ∀ h' tk M t', (∀ b o, s.heap.get? b = some o → h'.get? b = some o) → M ∈ ns → (∀ a, a ∈ ns → M ≤ a) → Q (.int M t') { s with heap := h', toks := tk }) : wpAny (model prog w) A (call (.builtin "min") [.ref l]) Q E s := by
  obtain ⟨xs, e⟩ := hi.allInts.items
  have hn : numsOf (intItems xs).toList = ns := by rw [← e]; exact hi.numsOf
  rw [nums_intItems] at hn
  subst hn
  rw [e] at hl
  have hsz : 0 < xs.size := by simpa using hne
  have hl0 : l < s.heap.objs.size := by obtain ⟨o, ho, _⟩ := hl; exact Heap.lt_size ho
  refine call_min_walk (wpAny_pyIter_tuple hl ?_)
  refine ⟨_, [_, l], [_], _, _, _, _, rfl, Walks.tuple (A := A.in1) hh _ l (Nat.ne_of_lt hl0) (intItems xs), ⟨⟨_, Heap.get?_push_size _ rfl, rfl, rfl⟩, hl.push _⟩, fun c hc => ?_, by simpa [intItems] using hsz, CmpOf.ints_lt (numAt xs) (fun _ _ => intItems_at), fun v h' tk hP hk => ?_⟩
  · show c < (s.heap.push _).objs.size
    rw [Heap.size_push]
    rcases List.mem_cons.mp hc with rfl | hc
    · exact Nat.lt_succ_self _
    · rw [List.mem_singleton.mp hc]; exact Nat.lt_succ_of_lt hl0
  · have kept : ∀ b o, s.heap.get? b = some o → h'.get? b = some o := fun b o eb => hk b o (fun hm => by
      rw [List.mem_singleton.mp hm] at eb
      exact Nat.lt_irrefl _ (Heap.lt_size eb)) (Heap.get?_push_of_some _ eb)
    obtain ⟨t, rfl⟩ := intItems_at (by simpa [intItems] using hP)
    obtain ⟨h1, h2⟩ := argBest_lt (numAt xs) (xs.size - 1)
    refine h h' tk _ t kept ?_ fun a ha => ?_
    · rw [numAt_eq]; exact PySem.getD_mem (by rw [List.length_map, Array.length_toList]; omega)
    · obtain ⟨j, hj, rfl⟩ := mem_getD ha
      rw [List.length_map, Array.length_toList] at hj
      rw [← numAt_eq]; exact h2 j (by omega)
def rMinS (K : PySem.W.Frag) : List V → Hp → VK → Prop := fun vs H Q => ∃ (a : Addr) (ns : List Int), vs = [V.ref a] ∧ Sq K H a (ns.map V.int) ∧ 0 < ns.length ∧ ∀ m, m ∈ ns → (∀ y, y ∈ ns → m ≤ y) → Q (.int m) H
theorem cr_minS {X : Cx} (hc : X.calm = true) : CallR X (.builtin "min") (rMinS X.K) := by
  intro pins s σ H vs us Q I r h
  obtain ⟨a, ns, rfl, hs, hne, q⟩ := h
  rcases hs with hs | hs
  · exact cr_min hc pins s σ H [.ref a] us Q I r ⟨a, ns, rfl, hs, hne, q⟩
  · obtain ⟨its, rv, hl, _⟩ := I.tuple hs
    rw [Vals.ref1 r]
    exact min_tupI (I.ok.hd hc) hl rv.ints hne fun h' tk m t' hk h1 h2 => ⟨.int _, H, I.kept hk, ⟨_, rfl⟩, q m h1 h2⟩
theorem max_tupI {prog : Program} {w : World} {A : Around} {E : Value → Shared → Prop} {s : Shared} {l : Addr} {its : List Value} {ns : List Int} {Q : Value → Shared → Prop} (hh : A.handled = none) (hl : s.heap.IsTuple l its.toArray) (hi : IntsAre its ns) (hne : 0 < ns.length)
    (h : ∀ h' tk M t', (∀ b o, s.heap.get? b = some o → h'.get? b = some o) → M ∈ ns → (∀ a, a ∈ ns → a ≤ M) → Q (.int M t') { s with heap := h', toks := tk }) : wpAny (model prog w) A (call (.builtin "max") [.ref l]) Q E s := by
  obtain ⟨xs, e⟩ := hi.allInts.items
  have hn : numsOf (intItems xs).toList = ns := by rw [← e]; exact hi.numsOf
  rw [nums_intItems] at hn
  subst hn
  rw [e] at hl
  have hsz : 0 < xs.size := by simpa using hne
  have hl0 : l < s.heap.objs.size := by obtain ⟨o, ho, _⟩ := hl; exact Heap.lt_size ho
  refine call_max_walk (wpAny_pyIter_tuple hl ?_)
  refine ⟨_, [_, l], [_], _, _, _, _, rfl, Walks.tuple (A := A.in1) hh _ l (Nat.ne_of_lt hl0) (intItems xs), ⟨⟨_, Heap.get?_push_size _ rfl, rfl, rfl⟩, hl.push _⟩, fun c hc => ?_, by simpa [intItems] using hsz, CmpOf.ints_gt (numAt xs) (fun _ _ => intItems_at), fun v h' tk hP hk => ?_⟩
  · show c < (s.heap.push _).objs.size
    rw [Heap.size_push]
    rcases List.mem_cons.mp hc with rfl | hc
    · exact Nat.lt_succ_self _
    · rw [List.mem_singleton.mp hc]; exact Nat.lt_succ_of_lt hl0
  · have kept : ∀ b o, s.heap.get? b = some o → h'.get? b = some o := fun b o eb => hk b o (fun hm => by
      rw [List.mem_singleton.mp hm] at eb
      exact Nat.lt_irrefl _ (Heap.lt_size eb)) (Heap.get?_push_of_some _ eb)
    obtain ⟨t, rfl⟩ := intItems_at (by simpa [intItems] using hP)
    obtain ⟨h1, h2⟩ := argBest_gt (numAt xs) (xs.size - 1)
    refine h h' tk _ t kept ?_ fun a ha => ?_
    · have h1' : argBest (fun i j => decide (numAt xs j < numAt xs i)) (xs.size - 1) ≤ xs.size - 1 := h1
      rw [numAt_eq]; exact PySem.getD_mem (by rw [List.length_map, Array.length_toList]; omega)
    · obtain ⟨j, hj, rfl⟩ := mem_getD ha
      rw [List.length_map, Array.length_toList] at hj
      rw [← numAt_eq]; exact h2 j (by omega)
def rMaxS (K : PySem.W.Frag) : List V → Hp → VK → Prop := fun vs H Q => ∃ (a : Addr) (ns : List Int), vs = [V.ref a] ∧ Sq K H a (ns.map V.int) ∧ 0 < ns.length ∧ ∀ m, m ∈ ns → (∀ y, y ∈ ns → y ≤ m) → Q (.int m) H
theorem cr_maxS {X : Cx} (hc : X.calm = true) : CallR X (.builtin "max") (rMaxS X.K) := by
  intro pins s σ H vs us Q I r h
  obtain ⟨a, ns, rfl, hs, hne, q⟩ := h
  rcases hs with hs | hs
  · exact cr_max hc pins s σ H [.ref a] us Q I r ⟨a, ns, rfl, hs, hne, q⟩
  · obtain ⟨its, rv, hl, _⟩ := I.tuple hs
    rw [Vals.ref1 r]
    exact max_tupI (I.ok.hd hc) hl rv.ints hne fun h' tk m t' hk h1 h2 => ⟨.int _, H, I.kept hk, ⟨_, rfl⟩, q m h1 h2⟩
end Fp

namespace Fp
open PySem PySem.Spec PyProof.Rows L2 PySem.W
section
variable {X : Cx}
/-! ### sorted, in whatever heap the items are read -/
def SrR2 {α : Type} (all : List V) (L : List α) (v : Value) (b : α) : Prop := ∃ x, x ∈ all ∧ RelV x v ∧ ∀ S : V → α → Prop, A2 S all L → S x b
theorem srt_in2 {α : Type} {all : List V} {L : List α} : ∀ {vs : List V} {its : List Value} {xs : List α}, (∀ v ∈ vs, v ∈ all) → (∀ S : V → α → Prop, A2 S all L → A2 S vs xs) → Vals vs its → vs.length = xs.length → EachIs (SrR2 all L) its xs
  | [], _, [], _, _, r, _ => by cases r; exact .nil
  | [], _, _ :: _, _, _, _, h => by cases h
  | _ :: _, _, [], _, _, _, h => by cases h
  | v :: vs, _, x :: xs, m, t, r, h => by
    cases r with
    | cons r1 r2 =>
      exact .cons ⟨v, m v List.mem_cons_self, r1, fun S g => (t S g).tail.1⟩ (srt_in2 (fun u hu => m u (List.mem_cons_of_mem _ hu)) (fun S g => (t S g).tail.2) r2 (by simpa using h))
theorem srt_out2 {α : Type} {all : List V} {L : List α} : ∀ {its : List Value} {xs : List α}, EachIs (SrR2 all L) its xs → ∃ ws, Vals ws its ∧ (∀ S : V → α → Prop, A2 S all L → A2 S ws xs) ∧ ∀ w ∈ ws, w ∈ all
  | _, _, .nil => ⟨[], .nil, fun _ _ => .nil, fun w h => by cases h⟩
  | _, _, .cons h r => by
    obtain ⟨x, m, rx, hx⟩ := h
    obtain ⟨ws, r1, r2, r3⟩ := srt_out2 r
    exact ⟨x :: ws, .cons rx r1, fun S g => .cons (hx S g) (r2 S g), fun w hw => by
      rcases List.mem_cons.mp hw with e | e
      · rw [e]; exact m
      · exact r3 w e⟩
theorem hs_a2 {α : Type} [DecidableEq α] [Datum α] {K : PySem.W.Frag} {H : Hp} {vs : List V} {L : List α} (h : Hs K H vs L) : A2 (Hd K H) vs L := ⟨h.len, fun _ _ e => h.at e⟩
def rSortH2 (α : Type) [DecidableEq α] [Datum α] (K : PySem.W.Frag) : List V → Hp → VK → Prop := fun vs H Q => ∃ (a : Addr) (xs : List V) (L : List α), vs = [V.ref a] ∧ SqL K H a xs ∧ Hs K H xs L ∧
  ∀ p ws, (∀ w ∈ ws, w ∈ xs) → (∀ S : V → α → Prop, A2 S xs L → A2 S ws (L.mergeSort leH)) → H p = none → Q (.ref p) (upd H p (.lst ws))
theorem cr_sortH2 (α : Type) [DecidableEq α] [Datum α] [Srt1 α] (hu : X.A.units + 2 + Datum.depth α < cLine) : CallR X (.builtin "sorted") (rSortH2 α X.K) := by
  intro pins s σ H vs us Q I r h
  obtain ⟨a, xs, L, rfl, hs, hL, q⟩ := h
  obtain ⟨its, rv, hl, hz⟩ := I.list hs
  rw [Vals.ref1 r]
  have el := srt_in2 (all := xs) (L := L) (fun _ m => m) (fun _ g => g) rv hL.len
  have n1 : L.length = xs.length := hL.len.symm
  have er : EachIs (fun v (b : α) => ∃ as, Reads s.heap v (Datum.toD b) as) its L := el.mono fun v b ⟨x, _, rx, hx⟩ => Dp.reads I _ x v (hx _ (hs_a2 hL)) rx
  refine sorted_data (enc := Datum.toD) hl.isList el er (AllAlike.of Srt1.like) (Sortable.others Srt1.other) (by rw [n1]; exact hz) (fun b _ => Nat.lt_of_le_of_lt (Nat.add_le_add_left (Datum.depth_le b) _) hu) fun out ho eo => ?_
  obtain ⟨ws, r1, r2, r3⟩ := srt_out2 eo
  obtain ⟨ep, he'⟩ := PyProof.Rows.sortedAll_at s.heap its out.toArray
  have hlen : ws.length ≤ sizeLine := by rw [r1.length, ho, n1]; exact hz
  exact ⟨.ref _, upd H (s.heap.objs.size + 1) (.lst ws), I.laid (t' := s.toks) (fun _ _ => PyProof.Rows.sortedAll_old) (Nat.le_succ _) ⟨hlen, out, ep, r1, he'⟩, rfl, q _ _ r3 r2 (I.hok.fresh (Nat.le_succ _))⟩
end
end Fp

namespace Fp
open PySem PySem.Spec PyProof.Rows L2
/-! ### zip of three lists or tuples -/
def YTrip (xs ys zs : Nat → Option V) : Nat → Hp → V → Hp → Prop := fun i H v H' => ∃ T x y z, v = .ref T ∧ H T = none ∧ H' = upd H T (.tup [x, y, z]) ∧ xs i = some x ∧ ys i = some y ∧ zs i = some z
def ItZ3 (K : PySem.W.Frag) (κ1 κ2 κ3 : Bool) (a b c : Addr) (xs ys zs : List V) : It :=
  ⟨fun i H => SqK κ1 K H a xs ∧ SqK κ2 K H b ys ∧ SqK κ3 K H c zs ∧ i < xs.length ∧ i < ys.length ∧ i < zs.length,
    YTrip (fun i => xs[i]?) (fun i => ys[i]?) (fun i => zs[i]?),
    fun i H => SqK κ1 K H a xs ∧ SqK κ2 K H b ys ∧ SqK κ3 K H c zs ∧ i ≤ xs.length ∧ i ≤ ys.length ∧ i ≤ zs.length ∧ (i = xs.length ∨ i = ys.length ∨ i = zs.length)⟩
def TnZ3 (κ1 κ2 κ3 : Bool) (z TI TO i1 i2 i3 a b c : Addr) (i : Nat) (h : Heap) : Prop :=
  IsZip h z TI TO .none ∧ IsTupOf3 h TI (.ref i1) (.ref i2) (.ref i3) ∧ (∃ x y u, IsTupOf3 h TO x y u) ∧ ItAtK κ1 h i1 a i ∧ ItAtK κ2 h i2 b i ∧ ItAtK κ3 h i3 c i
theorem zip3_apart (I a b c : Nat) (la : a < I) (lb : b < I) (lc : c < I) : ZipSep3 (I + 5) (I + 3) (I + 4) I (I + 1) (I + 2) [I, a] [I + 1, b] [I + 2, c] := by
  constructor <;> (try simp only [List.mem_cons, List.not_mem_nil, or_false, not_or, true_or, or_true]) <;> (try refine ⟨?_, ?_⟩) <;> refine PySem.W.neN ?_ <;> omega
theorem zip3_turns {P : Program} {w : World} {K : PySem.W.Frag} {elts : List Expr} {kk : Nat} {tpos : Pos} {κ1 κ2 κ3 : Bool} {a b c I : Addr} {xs ys zs : List V} (la : a < I) (lb : b < I) (lc : c < I) :
    Turn P w K (.Tuple elts kk tpos) (ItZ3 K κ1 κ2 κ3 a b c xs ys zs) [I + 5, I + 3, I + 4, I, I + 1, I + 2] (I + 5) (TnZ3 κ1 κ2 κ3 (I + 5) (I + 3) (I + 4) I (I + 1) (I + 2) a b c) := by
  have S := zip3_apart I a b c la lb lc
  refine ⟨by simp, ?_, ?_, ?_, ?_, ?_⟩
  · rintro i h ⟨hz, hTI, ⟨x, y, u, hTO⟩, h1, h2, h3⟩ c hc
    have e' : c = I + 5 ∨ c = I + 3 ∨ c = I + 4 ∨ c = I ∨ c = I + 1 ∨ c = I + 2 := by simpa using hc
    rcases e' with q | q | q | q | q | q <;> subst q
    · exact ⟨_, hz, fun v q => nomatch q⟩
    · exact ⟨_, hTI, fun v q => nomatch q⟩
    · exact ⟨_, hTO, fun v q => nomatch q⟩
    · exact h1.obj
    · exact h2.obj
    · exact h3.obj
  · rintro i h h' ⟨hz, hTI, ⟨x, y, u, hTO⟩, h1, h2, h3⟩ k
    exact ⟨k (I + 5) (by simp) _ hz, k (I + 3) (by simp) _ hTI, ⟨x, y, u, k (I + 4) (by simp) _ hTO⟩, h1.at fun o q => k I (by simp) o q, h2.at fun o q => k (I + 1) (by simp) o q, h3.at fun o q => k (I + 2) (by simp) o q⟩
  · intro X hP hw hK hc i pins s σ H E Iv hf st hg
    subst hP hw hK
    obtain ⟨hz, hTI, ⟨x0, y0, u0, hTO⟩, h1, h2, h3⟩ := st
    obtain ⟨qx, qy, qz, l1, l2, l3⟩ := hg
    obtain ⟨its, rv, p, _⟩ := Inv.seqK Iv qx
    obtain ⟨its2, rv2, p2, _⟩ := Inv.seqK Iv qy
    obtain ⟨its3, rv3, p3, _⟩ := Inv.seqK Iv qz
    have hA : X.A.in1.handled = none := by
      have q := Iv.ok.hd hc
      simpa using q
    have zl : I + 5 < s.heap.objs.size := Heap.lt_size hz
    have n1 := rv.length
    have n2 := rv2.length
    have n3 := rv3.length
    refine wpAny_pyNext_zipD3_item S (draws_k κ1 hA I a (PySem.W.neN (Nat.ne_of_lt la)) its.toArray) (draws_k κ2 hA (I + 1) b (PySem.W.neN (Nat.ne_of_lt (Nat.lt_succ_of_lt lb))) its2.toArray) (draws_k κ3 hA (I + 2) c (PySem.W.neN (Nat.ne_of_lt (Nat.lt_succ_of_lt (Nat.lt_succ_of_lt lc)))) its3.toArray) hz hTI hTO ⟨h1, p⟩ ⟨h2, p2⟩ ⟨h3, p3⟩ (by simp; omega) (by simp; omega) (by simp; omega) ?_
    intro u u2 u3 h' tk hu hu2 hu3 z' TO' st1 st2 st3 hT hsz hk
    obtain ⟨x, hx, ru⟩ : ∃ x, xs[i]? = some x ∧ RelV x u := by
      obtain ⟨u', e1, e2⟩ := rv.get (List.getElem?_eq_getElem l1)
      have e3 : its[i]? = some u := by simpa using hu
      rw [e1] at e3
      obtain rfl := Option.some.inj e3
      exact ⟨_, List.getElem?_eq_getElem l1, e2⟩
    obtain ⟨y, hy, ru2⟩ : ∃ y, ys[i]? = some y ∧ RelV y u2 := by
      obtain ⟨u', e1, e2⟩ := rv2.get (List.getElem?_eq_getElem l2)
      have e3 : its2[i]? = some u2 := by simpa using hu2
      rw [e1] at e3
      obtain rfl := Option.some.inj e3
      exact ⟨_, List.getElem?_eq_getElem l2, e2⟩
    obtain ⟨y3, hy3, ru3⟩ : ∃ y, zs[i]? = some y ∧ RelV y u3 := by
      obtain ⟨u', e1, e2⟩ := rv3.get (List.getElem?_eq_getElem l3)
      have e3 : its3[i]? = some u3 := by simpa using hu3
      rw [e1] at e3
      obtain rfl := Option.some.inj e3
      exact ⟨_, List.getElem?_eq_getElem l3, e2⟩
    refine ⟨_, rfl, wpAny_letOwnedTupleGo_zip (s := { s with heap := h', toks := tk }) z' fun h'' z'' sb => ?_⟩
    have T2 : h''.get? s.heap.objs.size = some { cls := .type "tuple", data := .seq #[u, u2, u3] } := (sb.2 _ (Nat.ne_of_gt zl)).trans hT
    have far : ∀ c o, c ∉ [I + 5, I + 3, I + 4, I, I + 1, I + 2] → s.heap.get? c = some o → h''.get? c = some o := fun c o hb q => by
      simp only [List.mem_cons, List.not_mem_nil, or_false, not_or] at hb
      exact (sb.2 c hb.1).trans (hk c o hb.1 hb.2.2.1 hb.2.2.2.1 hb.2.2.2.2.1 hb.2.2.2.2.2 q)
    have I1 : L2.Inv X pins σ (upd H s.heap.objs.size (.tup [x, y, y3])) { s with heap := h'', toks := tk } :=
      Iv.turnedNew (t' := tk) (ch := [I + 5, I + 3, I + 4, I, I + 1, I + 2]) far hf (Nat.le_refl _) ⟨by show 3 ≤ sizeLine; decide, [u, u2, u3], .cons ru (.cons ru2 (.cons ru3 .nil)), ⟨_, T2, rfl, _, rfl⟩⟩
    refine ⟨.ref s.heap.objs.size, _, I1, rfl, ⟨_, x, y, y3, rfl, Iv.hok.fresh (Nat.le_refl _), rfl, hx, hy, hy3⟩, ⟨z'', ?_, ⟨u, u2, u3, ?_⟩, ?_, ?_, ?_⟩, fun c hcm => ?_⟩
    · exact (sb.2 _ S.TIz).trans (hk _ _ S.TIz S.TITO S.TIi1 S.TIi2 S.TIi3 hTI)
    · exact (sb.2 _ S.TOz).trans TO'
    · exact st1.1.at fun o q => (sb.2 _ S.zi1.symm).trans q
    · exact st2.1.at fun o q => (sb.2 _ S.zi2.symm).trans q
    · exact st3.1.at fun o q => (sb.2 _ S.zi3.symm).trans q
    · have lt : c < s.heap.objs.size := by
        have e' : c = I + 5 ∨ c = I + 3 ∨ c = I + 4 ∨ c = I ∨ c = I + 1 ∨ c = I + 2 := by simpa using hcm
        have zl' : (I : Nat) + 5 < s.heap.objs.size := zl
        rcases e' with q | q | q | q | q | q <;> subst q
        · exact zl
        · exact Heap.lt_size hTI
        · exact Heap.lt_size hTO
        · obtain ⟨_, e1, _⟩ := h1.obj; exact Heap.lt_size e1
        · obtain ⟨_, e2, _⟩ := h2.obj; exact Heap.lt_size e2
        · obtain ⟨_, e2, _⟩ := h3.obj; exact Heap.lt_size e2
      rw [upd_ne (Nat.ne_of_lt lt)]
      exact (hf c hcm).1
  · intro X hP hw hK hc i pins s σ H E Iv hf st hg
    subst hP hw hK
    obtain ⟨hz, hTI, ⟨x0, y0, u0, hTO⟩, h1, h2, h3⟩ := st
    obtain ⟨qx, qy, qz, l1, l2, l3, l4⟩ := hg
    obtain ⟨its, rv, p, _⟩ := Inv.seqK Iv qx
    obtain ⟨its2, rv2, p2, _⟩ := Inv.seqK Iv qy
    obtain ⟨its3, rv3, p3, _⟩ := Inv.seqK Iv qz
    have hA : X.A.in1.handled = none := by
      have q := Iv.ok.hd hc
      simpa using q
    have n1 := rv.length
    have n2 := rv2.length
    have n3 := rv3.length
    refine wpAny_pyNext_zipD3_end S (draws_k κ1 hA I a (PySem.W.neN (Nat.ne_of_lt la)) its.toArray) (draws_k κ2 hA (I + 1) b (PySem.W.neN (Nat.ne_of_lt (Nat.lt_succ_of_lt lb))) its2.toArray) (draws_k κ3 hA (I + 2) c (PySem.W.neN (Nat.ne_of_lt (Nat.lt_succ_of_lt (Nat.lt_succ_of_lt lc)))) its3.toArray) hz hTI hTO ⟨h1, p⟩ ⟨h2, p2⟩ ⟨h3, p3⟩ (by simp; omega) (by simp; omega) (by simp; omega) (by simp; omega) fun h' tk hk => ?_
    refine ⟨rfl, Iv.turnedL (t' := tk) (ch := [I + 5, I + 3, I + 4, I, I + 1, I + 2]) (fun c o hb q => ?_) hf⟩
    simp only [List.mem_cons, List.not_mem_nil, or_false, not_or] at hb
    exact hk c o hb.1 hb.2.2.1 hb.2.2.2.1 hb.2.2.2.2.1 hb.2.2.2.2.2 q
  · intro A i s Q E st h
    exact wpAny_pyIter_zip st.1 h
def iZip3 (K : PySem.W.Frag) (ta : TA) : TI := fun σ H R => ta σ H fun vs H1 => ∃ a b c xs ys zs κ1 κ2 κ3, vs = [.ref a, .ref b, .ref c] ∧ SqK κ1 K H1 a xs ∧ SqK κ2 K H1 b ys ∧ SqK κ3 K H1 c zs ∧ R (ItZ3 K κ1 κ2 κ3 a b c xs ys zs) H1
def begK (κ : Bool) (l : Addr) : Obj := if κ = true then { cls := .type "tuple_iterator", data := .fields #[.ref l, .int 0 0] } else { cls := .type "list_iterator", data := .fields #[.ref l, .int 0 0] }
theorem begins_k (κ : Bool) (l : Addr) (its : Array Value) : Begins (.ref l) (begK κ l) fun h => SqAtK κ h l its := by
  cases κ with
  | false => exact begins_list l its
  | true => exact begins_tuple l its
theorem begK_at {κ : Bool} {h : Heap} {i l : Addr} (e : h.get? i = some (begK κ l)) : ItAtK κ h i l 0 := by
  cases κ with
  | false => exact ⟨_, e, rfl, rfl⟩
  | true => exact ⟨_, e, rfl, rfl⟩
theorem pi_zip3 {X : Cx} {e e2 e3 : Expr} {ta : TA} {p pos tpos : Pos} {elts : List Expr} {kk : Nat} (hg : Gl X "zip") (hm : X.mg "zip" = none) (ha : PA X [e, e2, e3] ta)
    (hs : starEach [e, e2, e3] X.env = (false, eval e X.env) :: starEach [e2, e3] X.env := by rfl) (hpl : (backTo pos (starEach [e2, e3] X.env)).any (·.1) = false := by rfl) :
    PI X (.Tuple elts kk tpos) (.Call (.Name "zip" p) [e, e2, e3] [] pos) (iZip3 X.K ta) := by
  refine ⟨fun pins s σ H R I h => Call_ (ld_blt I hg hm PyProof.Rows.boot_zip (PyProof.Rows.callWith_type1 (thn (ha.run pos pins s σ H _ I h) ?_) hs hpl))⟩
  rintro us s1 ⟨vs, H1, I1, r1, a, b, c, xs, ys, zs, κ1, κ2, κ3, rfl, kx, ky, kz, q⟩
  cases r1 with
  | cons ra r1 => cases r1 with
  | cons rb r1 => cases r1 with
  | cons rc r1 =>
  cases r1
  cases ra
  cases rb
  cases rc
  obtain ⟨its, rv, p1, la⟩ := Inv.seqK I1 kx
  obtain ⟨its2, rv2, p2, lb⟩ := Inv.seqK I1 ky
  obtain ⟨its3, rv3, p3, lc⟩ := Inv.seqK I1 kz
  refine zip_begins3 (begins_k κ1 a its.toArray) (begins_k κ2 b its2.toArray) (begins_k κ3 c its3.toArray) p1 p2 p3 fun h' hz hTI hTO h1 h2 h3 _ hk => wpAny_pyIter_zip hz ?_
  refine ⟨s1.heap.objs.size + 5, _, _, _, H1, rfl, I1.kept (t' := s1.toks) hk, zip3_turns la lb lc, ⟨hz, hTI, ⟨_, _, _, hTO⟩, begK_at h1, begK_at h2, begK_at h3⟩, fun c hcm => ?_, q⟩
  have le : s1.heap.objs.size ≤ c := by
    have e' : c = s1.heap.objs.size + 5 ∨ c = s1.heap.objs.size + 3 ∨ c = s1.heap.objs.size + 4 ∨ c = s1.heap.objs.size ∨ c = s1.heap.objs.size + 1 ∨ c = s1.heap.objs.size + 2 := by simpa using hcm
    rcases e' with z | z | z | z | z | z <;> rw [z] <;> first | exact Nat.le_refl _ | exact Nat.le_add_right _ _
  exact I1.fpOk le (I1.hok.fresh le)
theorem walk_zip3 {K : PySem.W.Frag} {κ1 κ2 κ3 : Bool} {a b c : Addr} {xs ys zs : List V} {n : Nat} (hn : n = min xs.length (min ys.length zs.length)) :
    Walk (ItZ3 K κ1 κ2 κ3 a b c xs ys zs) n (fun H => SqK κ1 K H a xs ∧ SqK κ2 K H b ys ∧ SqK κ3 K H c zs) (YTrip (fun i => xs[i]?) (fun i => ys[i]?) (fun i => zs[i]?)) := by
  subst hn
  exact ⟨fun i _ hi q => ⟨q.1, q.2.1, q.2.2, by omega, by omega, by omega⟩, fun _ q => ⟨q.1, q.2.1, q.2.2, by omega, by omega, by omega, by omega⟩, fun i H v H' _ q y => y⟩
end Fp

namespace Fp
open PySem PySem.Spec PyProof.Rows L2
open Builtin
open Builtin.List
/-! ### repr(..) where own instances stand within -/
theorem sub_guard {X : Cx} {n : Nat} {A : Around} (sb : L2.Sub X (n + 1) A) {id : String} {args : Args} (hd : (A.under (.builtin id args)).depth = A.depth + 1) (hu : (A.under (.builtin id args)).units = A.units + 1) (hf : (A.under (.builtin id args)).frames = A.frames) : L2.Sub X n (A.under (.builtin id args)) :=
  ⟨⟨sb.room.hd, by have := sb.room.dp; rw [hd]; omega, by have := sb.room.un; rw [hu]; omega⟩, by rw [hf]; exact sb.fr⟩
theorem depth_list_loop (A : Around) (args : Args) : (A.under (.builtin "list.__repr__.loop" args)).depth = A.depth + 1 := by
  first | rfl | simp [Around.under, Code.weight, Code.isCreation, Code.isGuard, Code.isCaller, Code.frames, Code.isFrame, guardIds]
theorem frames_list_loop (A : Around) (args : Args) : (A.under (.builtin "list.__repr__.loop" args)).frames = A.frames := by
  first | rfl | simp [Around.under, Code.envs, pushEnvs]
theorem depth_tuple_repr (A : Around) (args : Args) : (A.under (.builtin "tuple.__repr__" args)).depth = A.depth + 1 := by
  first | rfl | simp [Around.under, Code.weight, Code.isCreation, Code.isGuard, Code.isCaller, Code.frames, Code.isFrame, guardIds]
theorem frames_tuple_repr (A : Around) (args : Args) : (A.under (.builtin "tuple.__repr__" args)).frames = A.frames := by
  first | rfl | simp [Around.under, Code.envs, pushEnvs]
theorem depth_tuple_under (A : Around) (args : Args) : (A.under (.builtin "tuple.__repr__.under" args)).depth = A.depth + 1 := by
  first | rfl | simp [Around.under, Code.weight, Code.isCreation, Code.isGuard, Code.isCaller, Code.frames, Code.isFrame, guardIds]
theorem frames_tuple_under (A : Around) (args : Args) : (A.under (.builtin "tuple.__repr__.under" args)).frames = A.frames := by
  first | rfl | simp [Around.under, Code.envs, pushEnvs]

/-- which containers have how long a text -/
abbrev ClT := Addr → Nat → Prop
abbrev Grd (Cl : ClT) (g : List Code) (m : Nat) : Prop := ∀ b k, Cl b k → k ≤ m → Clear g b
/-- x is shown as t, where H0 stands -/
def RpG (X : Cx) (n : Nat) (H0 : Hp) (Cl : ClT) (x : V) (t : Str) : Prop :=
  ∀ (A : Around) (pins : List (Addr × Obj)) (s : Shared) (σ : L2.St) (H : Hp) (u : Value) (g : List Code) (base : Nat), L2.Sub X n A → A.guards = some g → Grd Cl g t.length → base + t.length ≤ sizeLine → L2.Inv X pins σ H s → Same H0 H → RelV x u →
    wpAny (model X.prog X.w) A (pyReprUnder base u) (fun r s' => r = t ∧ ∃ H', L2.Inv X pins σ H' s' ∧ Same H H') X.xe s
theorem RpG.mono {X : Cx} {n m : Nat} {H0 : Hp} {Cl : ClT} {x : V} {t : Str} (h : RpG X n H0 Cl x t) (e : n ≤ m) : RpG X m H0 Cl x t :=
  fun A pins s σ H u g base sb => h A pins s σ H u g base (sb.mono e)
theorem RpG.is {X : Cx} {n : Nat} {H0 : Hp} {Cl : ClT} {x : V} {t : Str} (h : ∀ u, RelV x u → ReprIs X.prog X.w u t) : RpG X n H0 Cl x t :=
  fun A pins s σ H u g base sb hg hcl hb I sm r => h u r base hb A X.xe s _ fun tk => ⟨rfl, H, I.tok tk, Same.refl _⟩
/-- the loop over a list's items -/
theorem rp_list_loop {X : Cx} {n : Nat} {H0 : Hp} {Cl : ClT} {a P : Addr} {xs : List V} {ts : List Str} {A : Around} {g : List Code} {base : Nat} {pins : List (Addr × Obj)} {σ : L2.St} {R : Result → Shared → Prop} (hR2 : ∀ e s, X.xe e s → R (.error e) s)
    (fn : ∀ b k k', Cl b k → Cl b k' → k = k') (ha : H0 a = some (.lst xs)) (hca : Cl a (listText ts).length) (sb : L2.Sub X (n + 1) A) (hg : A.guards = some g) (hcl : Grd Cl g (listText ts).length) (hlen : ts.length = xs.length)
    (hT : ∀ (i : Nat) x t, xs[i]? = some x → ts[i]? = some t → RpG X n H0 Cl x t) (hsz : base + (listText ts).length ≤ sizeLine) :
    ∀ (k i : Nat) (s : Shared) (H : Hp) (acc : Array Value) (c : Nat) (done : List (Str × Tok)), xs.length - i = k → i ≤ xs.length → L2.Inv X pins σ H s → Same H0 H → FpOk X pins H P →
    s.heap.get? P = some { cls := .type "list", dict := none, data := .seq acc c, slots := #[] } → acc.toList = strValues done → done.map (·.1) = ts.take i →
    (∀ s' H' u, L2.Inv X pins σ H' s' → Same H H' → R (.ok (.ret (.str (listText ts) u))) s') →
    codeAny (model X.prog X.w) A (.builtin "list.__repr__.loop" ⟨[.ref a, rawInt i, .ref P, rawInt ((base + piled (ts.take i) : Nat) : Int)], []⟩) R s := by
  have hX : (listText ts).length = (textFrom 0 "[" ts).length + 1 := by
    show (textFrom 0 "[" ts ++ "]").length = _
    rw [strLen_append]; rfl
  have hL := textFrom_len ts 0 "["
  have hsz1 : xs.length ≤ sizeLine := by
    have h1 := hL.1
    rw [if_neg (Nat.lt_irrefl 0)] at h1
    omega
  have hsz2 : ∀ t ∈ ts, t.length ≤ sizeLine := fun t ht => by
    have h2 := hL.2.1 t ht
    omega
  have hsz3 : (listText ts).length ≤ sizeLine := by omega
  have hp3 := piled_le_listText ts
  intro k
  induction k with
  | zero =>
    intro i s H acc c done hk hi I sm hf hP hacc hdone hR
    have hin : i = xs.length := by omega
    obtain ⟨_, its, na, rv, hl, he⟩ := I.lstM (sm _ _ ha)
    refine codeAny_builtin F.entry_list_repr_loop ?_
    show wpAny _ _ («list.__repr__.loop» ⟨[.ref a, .int i 0, .ref P, .int ((base + piled (ts.take i) : Nat) : Int) 0], []⟩) _ _ s
    rw [repr_loop_tree]
    refine wpAny_bind (wpAny_listItems he rfl ?_)
    have hnone : its.toArray[(i : Int).toNat]? = none := by simp [hin, hl]
    simp only [hnone]
    unfold reprEnd
    refine wpAny_bind (wpAny_listItems hP rfl ?_)
    rw [hacc, repr_fold]
    refine wpAny_bind (wpAny_pure ?_)
    have hall : done.map (·.1) = ts := by rw [hdone, hin, ← hlen, List.take_length]
    rw [hall]
    refine wpAny_bind (wpAny_mkStr (wpAny_pure ?_) hsz3)
    exact hR _ H _ (I.tok _) (Same.refl _)
  | succ k ih =>
    intro i s H acc c done hk hi I sm hf hP hacc hdone hR
    have hlt : i < xs.length := by omega
    obtain ⟨t, ht⟩ : ∃ t, ts[i]? = some t := ⟨_, List.getElem?_eq_getElem (by omega)⟩
    have hx := List.getElem?_eq_getElem hlt
    have hrep := hT i _ t hx ht
    obtain ⟨_, its, na, rv, hl, he⟩ := I.lstM (sm _ _ ha)
    obtain ⟨u, hu, ru⟩ := rv.get hx
    have hp1 := piled_take_succ ht
    have hp2 := piled_take_le ts (i + 1)
    have lt : t.length < (listText ts).length := by omega
    refine codeAny_builtin F.entry_list_repr_loop ?_
    show wpAny _ _ («list.__repr__.loop» ⟨[.ref a, .int i 0, .ref P, .int ((base + piled (ts.take i) : Nat) : Int) 0], []⟩) _ _ s
    rw [repr_loop_tree]
    refine wpAny_bind (wpAny_listItems he rfl ?_)
    have hsome : its.toArray[(i : Int).toNat]? = some u := by simpa using hu
    simp only [hsome]
    rw [Int.toNat_natCast]
    have I1 : L2.Inv X (pins ++ [(P, ({ cls := .type "list", dict := none, data := .seq acc c, slots := #[] } : Obj))]) σ H s := I.pins_of fun p hp => by
      rcases List.mem_append.mp hp with z | z
      · exact I.pin p (List.mem_append_right _ z)
      · rw [List.mem_singleton.mp z]
        exact ⟨hP, hf.1, hf.2.1, hf.2.2.1, fun v q => nomatch q⟩
    refine wpAny_bind (wpAny_holding (wpAny_mono (hrep _ (pins ++ [(P, ({ cls := .type "list", dict := none, data := .seq acc c, slots := #[] } : Obj))]) s σ H u _ (base + piled (ts.take i) + 1) (sub_guard sb (depth_list_loop _ _) (units_under_list_loop _ _) (frames_list_loop _ _)) (guards_under_guard (isGuard_list_loop _) hg)
      (fun b m hb hm => (hcl b m hb (by omega)).cons (a := a) fun e => by
        subst e
        have := fn _ _ _ hca hb
        omega) (by omega) I1 sm ru) (fun r s1 hr => ?_) (fun e s' he => hR2 e s' he)))
    obtain ⟨rfl, H1, I2, s01⟩ := hr
    have hpn := I2.pin (P, ({ cls := .type "list", dict := none, data := .seq acc c, slots := #[] } : Obj)) (List.mem_append_right _ (List.mem_append_right _ List.mem_cons_self))
    have hP1 := hpn.1
    have hP0 := hpn.2.1
    have I3 := I2.unpinned
    refine wpAny_bind (wpAny_mkStr ?_ (hsz2 _ (List.mem_of_getElem? ht)))
    refine wpAny_bind ?_
    show wpAny _ _ (updateSeq P _) _ _ _
    have hasz : acc.size ≤ sizeLine := by
      have e1 : acc.toList.length = acc.size := by simp
      have e2 : (strValues done).length = done.length := by simp [strValues]
      have e3 : done.length = (ts.take i).length := by rw [← hdone, List.length_map]
      have e4 : (ts.take i).length ≤ i := by rw [List.length_take]; omega
      rw [hacc] at e1; omega
    refine wpAny_updateSeq hP1 rfl (wpAny_pure ⟨F.quiet_list_repr_loop _, ?_⟩) hasz
    have e1 : ((i : Int) + 1) = ((i + 1 : Nat) : Int) := by omega
    have e2 : base + piled (ts.take i) + (r.length + 2) = base + piled (ts.take (i + 1)) := by omega
    rw [e1, e2]
    have hf1 : FpOk X pins H1 P := ⟨hP0, hf.2.1, hf.2.2.1, hf.2.2.2.1, hf.2.2.2.2.1, hf.2.2.2.2.2⟩
    refine ih (i + 1) _ H1 (acc.push (.str r s1.toks)) _ (done ++ [(r, s1.toks)]) (by omega) hlt ((I3.tok (s1.toks + 1)).turnedL (t' := s1.toks + 1) (ch := [P]) (fun b o hb e => (Heap.get?_update_other _ _ (fun h : P = b => hb (by simp [h]))).trans e) (fun b hb => by rw [List.mem_singleton.mp hb]; exact hf1)) (sm.trans s01) hf1
      (Heap.get?_update_self _ hP1 rfl) (by simp [hacc, strValues]) (by simp [List.take_add_one, ht, hdone]) fun s' H' u' I' sm' => ?_
    exact hR s' H' u' I' (s01.trans sm')
/-- what a call of repr's parts gives -/
abbrev RpEnd (X : Cx) (pins : List (Addr × Obj)) (σ : L2.St) (H : Hp) (t : Str) : Value → Shared → Prop := fun v s' => ∃ u, v = .str t u ∧ ∃ H', L2.Inv X pins σ H' s' ∧ Same H H'
section
variable {X : Cx} {n : Nat} {H0 : Hp} {Cl : ClT} {a : Addr} {xs : List V} {ts : List Str}
theorem rp_listAt (fn : ∀ b k k', Cl b k → Cl b k' → k = k') (ha : H0 a = some (.lst xs)) (hne : xs ≠ []) (hca : Cl a (listText ts).length) (hlen : ts.length = xs.length) (hT : ∀ (i : Nat) x t, xs[i]? = some x → ts[i]? = some t → RpG X n H0 Cl x t)
    {A : Around} {g : List Code} {base : Nat} {pins : List (Addr × Obj)} {σ : L2.St} {H : Hp} {s : Shared} (sb : L2.Sub X (n + 1) A) (hg : A.guards = some g) (hcl : Grd Cl g (listText ts).length) (hsz : base + (listText ts).length ≤ sizeLine) (I : L2.Inv X pins σ H s) (sm : Same H0 H) :
    wpAny (model X.prog X.w) A.in1 (Builtin.listReprAt base ⟨[.ref a], []⟩) (fun fin s' => match fin with | .done f => callEnd (RpEnd X pins σ H (listText ts)) X.xe (.ok f) s' | .again c' => c'.quiet = true ∧ codeAny (model X.prog X.w) A c' (callEnd (RpEnd X pins σ H (listText ts)) X.xe) s') (fun e s' => callEnd (RpEnd X pins σ H (listText ts)) X.xe (.error e) s') s := by
  obtain ⟨_, its, na, rv, hl, he⟩ := I.lstM (sm _ _ ha)
  have hc0 : Clear g a := hcl a _ hca (Nat.le_refl _)
  cases its with
  | nil => exact absurd (List.length_eq_zero_iff.mp (by simpa using hl)) hne
  | cons x l =>
    refine wpAny_list_repr_head (A := A.in1) hg (fun v rest kw hm => listSameRef_of_ne (hc0 _ _ _ _ hm)) he rfl ?_
    refine wpAny_bind (m := newList []) (wpAny_newObj_type ?_)
    refine wpAny_pure ⟨F.quiet_list_repr_loop _, ?_⟩
    have I1 := I.kept (t' := s.toks) (h' := s.heap.push { cls := .type "list", dict := none, data := .seq #[] 0, slots := #[] }) fun b o e => Heap.get?_push_of_some _ e
    refine rp_list_loop (P := s.heap.objs.size) (R := callEnd (RpEnd X pins σ H (listText ts)) X.xe) (fun e s h => h) fn ha hca sb hg hcl hlen hT hsz _ 0 _ H #[] _ [] rfl (Nat.zero_le _) I1 sm (I.fpOk (Nat.le_refl _) (I.hok.fresh (Nat.le_refl _))) (Heap.get?_push_size _ rfl) rfl (by simp) fun s' H' u I' sm' => ?_
    exact ⟨u, rfl, H', I', sm'⟩
theorem call_list_reprG (fn : ∀ b k k', Cl b k → Cl b k' → k = k') (ha : H0 a = some (.lst xs)) (hne : xs ≠ []) (hca : Cl a (listText ts).length) (hlen : ts.length = xs.length) (hT : ∀ (i : Nat) x t, xs[i]? = some x → ts[i]? = some t → RpG X n H0 Cl x t)
    {A : Around} {g : List Code} {pins : List (Addr × Obj)} {σ : L2.St} {H : Hp} {s : Shared} (sb : L2.Sub X (n + 1) A) (hg : A.guards = some g) (hcl : Grd Cl g (listText ts).length) (hsz : (listText ts).length ≤ sizeLine) (I : L2.Inv X pins σ H s) (sm : Same H0 H) :
    wpAny (model X.prog X.w) A (call (.builtin "list.__repr__") [.ref a]) (RpEnd X pins σ H (listText ts)) X.xe s := by
  obtain ⟨_, its, na, rv, hl, he⟩ := I.lstM (sm _ _ ha)
  exact wpAny_call (codeAny_call_builtin F.slot_list_repr.plain F.entry_list_repr (F.slot_list_repr.check _ _ _ _ _ _ _ _ ⟨_, he, rfl⟩ (F.args_list_repr_1 _)
    (rp_listAt (base := 0) fn ha hne hca hlen hT sb hg hcl (by omega) I sm)))
theorem RpG.list (fn : ∀ b k k', Cl b k → Cl b k' → k = k') (ha : H0 a = some (.lst xs)) (hca : Cl a (listText ts).length) (hlen : ts.length = xs.length) (hT : ∀ (i : Nat) x t, xs[i]? = some x → ts[i]? = some t → RpG X n H0 Cl x t) : RpG X (n + 1) H0 Cl (.ref a) (listText ts) := by
  intro A pins s σ H u g base sb hg hcl hsz I sm r
  cases r
  obtain ⟨_, its, na, rv, hl, he⟩ := I.lstM (sm _ _ ha)
  by_cases hne : xs = []
  · subst hne
    have e1 : ts = [] := List.length_eq_zero_iff.mp hlen
    have e2 : its = [] := List.length_eq_zero_iff.mp (by simpa using hl.symm)
    subst e1 e2
    refine wpAny_pyReprUnder_ref (by omega) (wpAny_pyReprObjUnder_list_empty ⟨_, he, rfl⟩ sb.room.units0 he rfl ⟨_, _, rfl, rfl, H, I.tok _, Same.refl _⟩)
  · refine wpAny_pyReprUnder_ref (by omega) (wpAny_pyReprObjUnder_twin (twin := "list.__repr__.under") ⟨_, he, rfl⟩ F.slot_list_repr.toG rfl sb.room.units0
      (wpAny_mono (call_twin_plain F.plain_list_repr_under F.entry_list_repr_under F.check_list_repr_under ⟨_, he, rfl⟩ F.slot_list_repr.toG (F.args_list_repr_1 _)
        (rp_listAt fn ha hne hca hlen hT sb hg hcl hsz I sm)) (fun v s' hv => ?_) fun e s' h => h))
    obtain ⟨u, rfl, q⟩ := hv
    exact ⟨⟨_, u, rfl⟩, _, u, rfl, rfl, q⟩
end
/-- an own instance -/
def spRp (Rel : Addr → Hp → Str → Prop) : Sp := fun vs H Q _ => ∃ a t, vs = [.ref a] ∧ Rel a H t ∧ ∀ H', Same H H' → Q (.str t) H'
theorem ifBoundBy_K {M : Model} {A : Around} {E : Value → Shared → Prop} {s : Shared} {K : PySem.W.Frag} {x C f : Addr} {ox : Obj} {od : Option Obj} {name : Str} {last : Value → List Value → Sem Value} {Q : Option Value → Shared → Prop} (X : K.In s.heap) (I : PySem.W.InstAt s.heap x ox C od) (hs : PySem.W.findIn K (.ref C) name = some (some (.ref f))) (hf : PySem.W.isFn K (.ref f) = true)
    (h : wpAny M A (last (.ref f) [.ref x]) (fun v => Q (some v)) E s) : wpAny M A (callSpecialIfBoundBy? last (.ref x) name) Q E s := by
  simp only [callSpecialIfBoundBy?, bindSpecialIfBound?]
  refine wpAny_holding (wpAny_bind (wpAny_bind (wpAny_bind (I.type.here ((PySem.W.looks_findIn X hs).here ?_)))))
  refine wpAny_bind (wpAny_askSetting (wpAny_ite ?_))
  have fin : wpAny M A (last (.ref f) [.ref x] >>= fun v => pure (some v)) Q E s := wpAny_bind (wpAny_mono h (fun v s' h' => wpAny_pure h') fun _ _ h' => h')
  split
  · exact wpAny_bind ((PySem.W.bind_fn X _ (beq_iff_eq.mp hf)).here (wpAny_pure (by exact fin)))
  · exact wpAny_tryCatch (wpAny_bind ((PySem.W.bind_fn X _ (beq_iff_eq.mp hf)).here (wpAny_pure (by exact fin))))
theorem call_own {X : Cx} {CX : CXT} {k : Nat} {f a : Addr} {fd : FuncData} {ps : List Str} {Rel : Addr → Hp → Str → Prop} {E : XK} {t : Str} (F : FnOk X.prog X.w X.K X.mg X.base CX k f fd ps (spRp Rel))
    (hb : Binds X.K fd ps []) (hx : Passes CX X E) {A : Around} (sb : L2.Sub X k A) {pins : List (Addr × Obj)} {σ : L2.St} {H : Hp} {s : Shared} (I : L2.Inv X pins σ H s) (hr : Rel a H t) :
    wpAny (model X.prog X.w) A (call (.ref f) [.ref a]) (RpEnd X pins σ H t) X.xe s := by
  have hsp : spRp Rel [.ref a] H (fun v H' => v = .str t ∧ Same H H') E := ⟨a, t, rfl, hr, fun H' e => ⟨rfl, e⟩⟩
  have e0 : Env0 X.prog X.w X.K X.mg X.base A X.stack s H := by
    have e := I.env0
    exact ⟨by rw [sb.fr]; exact e.frames, e.mod, e.bs, e.bsz, e.funs, e.frf, e.hok, e.bare⟩
  have hl := F.len _ _ _ _ hsp
  have r2 : Vals [V.ref a] [Value.ref a] := .cons rfl .nil
  refine wpAny_call (codeAny_mono (F.run A X.stack s H ⟨[.ref a], []⟩ [.ref a] [.ref a] _ E sb.room e0 (by
    have := hb s [.ref a] I.kIn (by simpa using hl)
    simpa using this) r2 hsp) fun r s' hq => ?_)
  cases r with
  | error e => exact hx pins σ H s e s' I hq
  | ok fl =>
    cases fl with
    | ret w =>
      obtain ⟨z, H', I', rz, ez, ex⟩ := I.after hq
      subst ez
      obtain ⟨u, rfl⟩ := rz
      exact ⟨u, rfl, H', I', ex⟩
    | next => exact False.elim hq
    | brk => exact False.elim hq
    | cont => exact False.elim hq
theorem RpG.ins {X : Cx} {CX : CXT} {k : Nat} {H0 : Hp} {Cl : ClT} {C f a dx : Addr} {fs : List (Str × V)} {fd : FuncData} {ps : List Str} {Rel : Addr → Hp → Str → Prop} {E : XK} {t : Str} (F : FnOk X.prog X.w X.K X.mg X.base CX k f fd ps (spRp Rel))
    (hs : PySem.W.findIn X.K (.ref C) "__repr__" = some (some (.ref f))) (hf : PySem.W.isFn X.K (.ref f) = true) (hb : Binds X.K fd ps []) (hx : Passes CX X E) (ha : H0 a = some (.ins C dx fs)) (hr : ∀ H, Same H0 H → Rel a H t) : RpG X k H0 Cl (.ref a) t := by
  intro A pins s σ H u g base sb hg hcl hsz I sm r
  cases r
  obtain ⟨mA, J, _⟩ := ins_get I.hok (sm _ _ ha)
  obtain ⟨od, J, _⟩ := J.look
  have KX := I.kIn
  refine wpAny_pyReprUnder_ref (by omega) ?_
  unfold pyReprObjUnder pyReprObjBy
  refine wpAny_bind (wpAny_cRoomFor sb.room.units0 ?_)
  refine wpAny_bind (wpAny_bind (J.type.here ((PySem.W.looks_findIn KX hs).here ?_)))
  show wpAny _ _ (if (some (Value.ref f)).isNone = true then _ else _) _ _ _
  rw [if_neg (by simp)]
  refine wpAny_bind (m := callSpecialIfBoundBy? _ (.ref a) (Str.ofString "__repr__")) (ifBoundBy_K KX J hs hf (wpAny_mono (call_own F hb hx sb I (hr H sm)) (fun v s' hv => ?_) fun _ _ y => y))
  obtain ⟨u, rfl, H', I', ex⟩ := hv
  refine wpAny_bind (wpAny_isInstance (T := "str") (b := true) rfl isSubtype_str_str (wpAny_pure ?_))
  exact ⟨_, u, rfl, rfl, H', I', ex⟩
theorem top_own {X : Cx} {CX : CXT} {k : Nat} {C f a dx : Addr} {fs : List (Str × V)} {fd : FuncData} {ps : List Str} {Rel : Addr → Hp → Str → Prop} {E : XK} {t : Str} (F : FnOk X.prog X.w X.K X.mg X.base CX k f fd ps (spRp Rel))
    (hs : PySem.W.findIn X.K (.ref C) "__repr__" = some (some (.ref f))) (hf : PySem.W.isFn X.K (.ref f) = true) (hb : Binds X.K fd ps []) (hx : Passes CX X E) (hroom : Room (k + 1) X.A) {pins : List (Addr × Obj)} {σ : L2.St} {H : Hp} {s : Shared} (I : L2.Inv X pins σ H s) (ha : H a = some (.ins C dx fs)) (hr : Rel a H t) :
    wpAny (model X.prog X.w) X.A (call (.builtin "repr") [.ref a]) (RpEnd X pins σ H t) X.xe s := by
  obtain ⟨mA, J, _⟩ := ins_get I.hok ha
  obtain ⟨od, J, _⟩ := J.look
  obtain ⟨m, hF⟩ := I.fr
  refine PySem.W.repr_K (by have := hroom.un; show X.A.units + 1 < cLine; omega) hF I.ok.mod.kin J hs hf (wpAny_mono (call_own F hb hx ⟨hroom.in1, rfl⟩ I hr) (fun v s' hv => ?_) fun _ _ y => y)
  obtain ⟨u, rfl, H', I', ex⟩ := hv
  exact ⟨u, rfl, H', I', ex⟩
/-! tuples -/
section
variable {X : Cx} {n : Nat} {H0 : Hp} {Cl : ClT} {a : Addr}
theorem rp_tupFold {A : Around} {g : List Code} {pins : List (Addr × Obj)} {σ : L2.St} {m : Nat} (sb : L2.Sub X n A) (hg : A.guards = some g) (hcl : Grd Cl g m) : ∀ (l : List Value) (xs : List V) (ts : List Str) (acc : Array Str) (k : Nat) (s : Shared) (H : Hp) (Q : (Array Str × Nat) → Shared → Prop), Vals xs l → ts.length = xs.length →
    (∀ (i : Nat) x t, xs[i]? = some x → ts[i]? = some t → RpG X n H0 Cl x t) → (∀ t ∈ ts, t.length ≤ m) → k + piled ts ≤ sizeLine → L2.Inv X pins σ H s → Same H0 H →
    (∀ s' H', L2.Inv X pins σ H' s' → Same H H' → Q ⟨acc ++ ts.toArray, k + piled ts⟩ s') →
    wpAny (model X.prog X.w) A (forIn l (⟨acc, k⟩ : (Array Str × Nat)) tupBody) Q X.xe s := by
  intro l
  induction l with
  | nil =>
    intro xs ts acc k s H Q rv hlen hT hm hz I sm h
    cases rv
    have e1 : ts = [] := List.length_eq_zero_iff.mp (by simpa using hlen)
    subst e1
    have h0 := h s H I (Same.refl _)
    simp only [List.forIn_nil]
    exact wpAny_pure (by simpa [piled] using h0)
  | cons u l ih =>
    intro xs ts acc k s H Q rv hlen hT hm hz I sm h
    cases rv with
    | cons ru rv =>
      rename_i x xs
      cases ts with
      | nil => simp at hlen
      | cons t ts =>
        rw [piled_cons] at hz
        rw [List.forIn_cons]
        have hlt := hm t List.mem_cons_self
        refine wpAny_bind (wpAny_bind (wpAny_mono (hT 0 x t rfl rfl A pins s σ H u g (k + 1) sb hg (fun b q hb hq => hcl b q hb (by omega)) (by omega) I sm ru) (fun r s1 hr => ?_) fun _ _ e => e))
        obtain ⟨rfl, H1, I1, s01⟩ := hr
        refine wpAny_pure ?_
        refine ih xs ts (acc.push r) (k + (r.length + 2)) s1 H1 Q rv (by simpa using hlen) (fun i x t h1 h2 => hT (i + 1) x t (by simpa using h1) (by simpa using h2)) (fun t ht => hm t (List.mem_cons_of_mem _ ht)) (by omega) I1 (sm.trans s01) fun s' H' I' sm' => ?_
        have h1 := h s' H' I' (s01.trans sm')
        have e : k + piled (r :: ts) = k + (r.length + 2) + piled ts := by rw [piled_cons]; omega
        rw [e] at h1
        simpa using h1
theorem rp_tupAt (fn : ∀ b k k', Cl b k → Cl b k' → k = k') {xs : List V} {ts : List Str} (ha : H0 a = some (.tup xs)) (hca : Cl a (tupleText ts).length) (hlen : ts.length = xs.length) (hT : ∀ (i : Nat) x t, xs[i]? = some x → ts[i]? = some t → RpG X n H0 Cl x t)
    {A : Around} {g : List Code} {base : Nat} {pins : List (Addr × Obj)} {σ : L2.St} {H : Hp} {s : Shared} {id : String} {rest : List Value} (sb : L2.Sub X n (A.under (.builtin id ⟨.ref a :: rest, []⟩))) (hcg : (Code.builtin id ⟨.ref a :: rest, []⟩).isGuard = true) (hg : A.guards = some g) (hcl : Grd Cl g (tupleText ts).length) (hsz : base + (tupleText ts).length ≤ sizeLine) (I : L2.Inv X pins σ H s) (sm : Same H0 H) :
    wpOwn (model X.prog X.w) A (.builtin id ⟨.ref a :: rest, []⟩) (Builtin.tupleReprAt base ⟨[.ref a], []⟩) (fun fin s' => match fin with | .done f => callEnd (RpEnd X pins σ H (tupleText ts)) X.xe (.ok f) s' | .again c' => c'.quiet = true ∧ codeAny (model X.prog X.w) A c' (callEnd (RpEnd X pins σ H (tupleText ts)) X.xe) s') (fun e s' => callEnd (RpEnd X pins σ H (tupleText ts)) X.xe (.error e) s') s := by
  have hc0 : Clear g a := hcl a _ hca (Nat.le_refl _)
  have hp := piled_le_tupleText ts
  have hsz0 : (tupleText ts).length ≤ sizeLine := by omega
  obtain ⟨its, rv, he, hz⟩ := I.tuple (.inl (.inl (sm _ _ ha)) : SqT X.K H a xs)
  have he' := he
  obtain ⟨o, ho, hoc, nn, hod⟩ := he'
  rw [tuple_repr_tree, tupleReprUnderWay_eq]
  refine wpOwn_bind (wpOwn_stackTailAny hg (tupGuardF_off _) (tupGuardF_pos _) ?_)
  have hn : (g.any fun c => tupGuardF (.ref a) (c, default)) = false := by
    rw [List.any_eq_false]
    intro c hcm
    rw [tupGuardF_of_clear hc0 c hcm]
    exact Bool.false_ne_true
  rw [hn]
  refine wpOwn_of_wpAny ?_
  show wpAny _ _ (tupleReprRest base (.ref a)) _ _ s
  unfold tupleReprRest Builtin.Tuple.tupleItemsOf
  refine wpAny_bind (wpAny_bind (wpAny_seqItems ho hod (wpAny_pure ?_)))
  rw [← Array.forIn_toList]
  have pm : ∀ {ts : List Str} {t : Str}, t ∈ ts → t.length + 2 ≤ piled ts := fun {ts t} ht => by
    induction ts with
    | nil => cases ht
    | cons y r ih =>
      rw [piled_cons]
      rcases List.mem_cons.mp ht with e | e
      · rw [e]; omega
      · have := ih e; omega
  refine wpAny_bind (rp_tupFold (m := (tupleText ts).length - 1) (g := .builtin id ⟨.ref a :: rest, []⟩ :: g) sb (guards_under_guard hcg hg) (fun b q hb hq => ?_) its xs ts _ _ s H _ (by simpa using rv) hlen hT (fun t ht => by have := pm ht; omega) (by omega) I sm fun s' H' I' sm' => ?_)
  · have lpos : 1 ≤ (tupleText ts).length := by
      unfold tupleText
      rw [strLen_append, strLen_append]
      have e1 : ((("(" : String) : Str)).length = 1 := rfl
      omega
    exact (hcl b q hb (by omega)).cons (a := a) fun e => by
      subst e
      have := fn _ _ _ hca hb
      omega
  refine wpAny_bind (wpAny_mkStr (wpAny_pure ?_) ?_)
  · refine ⟨s'.toks, ?_, H', I'.tok _, sm'⟩
    have lz : its.length = ts.length := by rw [hlen, rv.length]
    simp [tupleText, lz]
  · have lz : its.length = ts.length := by rw [hlen, rv.length]
    have e : (tupleText ts) = (("(" : Str) ++ Str.join ", " ts ++ (if ts.length == 1 then ",)" else ")" : String)) := rfl
    rw [e] at hsz0
    simpa [lz] using hsz0
theorem RpG.tup (fn : ∀ b k k', Cl b k → Cl b k' → k = k') {xs : List V} {ts : List Str} (ha : H0 a = some (.tup xs)) (hca : Cl a (tupleText ts).length) (hlen : ts.length = xs.length) (hT : ∀ (i : Nat) x t, xs[i]? = some x → ts[i]? = some t → RpG X n H0 Cl x t) : RpG X (n + 1) H0 Cl (.ref a) (tupleText ts) := by
  intro A pins s σ H u g base sb hg hcl hsz I sm r
  cases r
  obtain ⟨its, rv, he, hz⟩ := I.tuple (.inl (.inl (sm _ _ ha)) : SqT X.K H a xs)
  obtain ⟨o, ho, hoc, nn, hod⟩ := he
  refine wpAny_pyReprUnder_ref (by omega) (wpAny_pyReprObjUnder_twin (twin := "tuple.__repr__.under") ⟨o, ho, hoc⟩ F.slot_tuple_repr rfl sb.room.units0
    (wpAny_mono (call_twin_own (F.quiet_tuple_repr_under _) F.entry_tuple_repr_under F.check_tuple_repr_under ⟨o, ho, hoc⟩ F.slot_tuple_repr (F.args_tuple_repr_1 _)
      (rp_tupAt fn ha hca hlen hT (sub_guard sb (depth_tuple_under _ _) (units_under_tuple_repr_under _ _) (frames_tuple_under _ _)) (isGuard_tuple_repr_under _) hg hcl hsz I sm)) (fun v s' hv => ?_) fun e s' h => h))
  obtain ⟨u, rfl, q⟩ := hv
  exact ⟨⟨_, u, rfl⟩, _, u, rfl, rfl, q⟩
theorem call_tuple_reprG (fn : ∀ b k k', Cl b k → Cl b k' → k = k') {xs : List V} {ts : List Str} (ha : H0 a = some (.tup xs)) (hca : Cl a (tupleText ts).length) (hlen : ts.length = xs.length) (hT : ∀ (i : Nat) x t, xs[i]? = some x → ts[i]? = some t → RpG X n H0 Cl x t)
    {A : Around} {g : List Code} {pins : List (Addr × Obj)} {σ : L2.St} {H : Hp} {s : Shared} (sb : L2.Sub X (n + 1) A) (hg : A.guards = some g) (hcl : Grd Cl g (tupleText ts).length) (hsz : (tupleText ts).length ≤ sizeLine) (I : L2.Inv X pins σ H s) (sm : Same H0 H) :
    wpAny (model X.prog X.w) A (call (.builtin "tuple.__repr__") [.ref a]) (RpEnd X pins σ H (tupleText ts)) X.xe s := by
  obtain ⟨its, rv, he, hz⟩ := I.tuple (.inl (.inl (sm _ _ ha)) : SqT X.K H a xs)
  obtain ⟨o, ho, hoc, nn, hod⟩ := he
  exact wpAny_call (codeAny_call_builtin_own (Code.quiet_builtin _ (by decide +kernel)) F.entry_tuple_repr (F.slot_tuple_repr.check _ _ _ _ _ _ _ _ ⟨o, ho, hoc⟩ (F.args_tuple_repr_1 _)
    (rp_tupAt (base := 0) fn ha hca hlen hT (sub_guard sb (depth_tuple_repr _ _) (units_under_tuple_repr _ _) (frames_tuple_repr _ _)) (isGuard_tuple_repr _) hg hcl (by omega) I sm)))
end
/-! what is shown how -/
/-- a ratio: an instance of the class at C with these two numbers -/
def Rat2 (C : Addr) (H : Hp) (a : Addr) (p q : Int) : Prop := ∃ dx, H a = some (.ins C dx [("_top", .int p), ("_bottom", .int q)])
theorem Rat2.same {C : Addr} {H H' : Hp} {a : Addr} {p q : Int} (h : Rat2 C H a p q) (e : Same H H') : Rat2 C H' a p q := let ⟨dx, h⟩ := h; ⟨dx, e _ _ h⟩
def ratText (p q : Int) : Str := Str.ofString "Ratio(" ++ Str.ofString (toString p) ++ Str.ofString ", " ++ Str.ofString (toString q) ++ Str.ofString ")"
def dEnt (p : Int × Int) : Str := Str.ofString (toString p.1) ++ ": " ++ Str.ofString (toString p.2)
abbrev okI (i : Int) : Prop := i.natAbs.log2 < 1920
abbrev okS (i : Int) : Prop := i.natAbs < 10 ^ 50
theorem okS.ok {i : Int} (h : okS i) : okI i := by
  show i.natAbs.log2 < 1920
  by_cases z : i.natAbs = 0
  · rw [z]; decide
  · refine (Nat.log2_lt z).mpr (Nat.lt_of_lt_of_le h ?_)
    exact Nat.le_trans (by decide : 10 ^ 50 ≤ 2 ^ 167) (Nat.pow_le_pow_right (by omega) (by omega))
/-- lowest terms -/
def RdI (p q : Int) : Prop := 0 < q ∧ Nat.gcd p.natAbs q.natAbs = 1
theorem rdI_one (p : Int) : RdI p 1 := ⟨by decide, by show Nat.gcd p.natAbs 1 = 1; exact Nat.gcd_one_right _⟩
inductive Sh (C : Addr) (H : Hp) : Nat → V → Str → Prop
  | int {d : Nat} {i : Int} (h : okS i) : Sh C H d (.int i) (Str.ofString (toString i))
  | bl {d : Nat} (b : Bool) : Sh C H d (.bl b) (if b = true then Str.ofString "True" else Str.ofString "False")
  | non {d : Nat} : Sh C H d .non "None"
  | str {d : Nat} (x : Str) (h : (reprText x).length ≤ 3900) : Sh C H d (.str x) (reprText x)
  | own {d : Nat} {a : Addr} {p q : Int} : Rat2 C H a p q → okS p → okS q → RdI p q → Sh C H d (.ref a) (ratText p q)
  | lst {d : Nat} {a : Addr} {xs : List V} {ts : List Str} : H a = some (.lst xs) → xs.length ≤ 61 → ts.length = xs.length → (∀ (i : Nat) x t, xs[i]? = some x → ts[i]? = some t → Sh C H d x t) → Sh C H (d + 1) (.ref a) (listText ts)
  | tup {d : Nat} {a : Addr} {xs : List V} {ts : List Str} : H a = some (.tup xs) → xs.length ≤ 61 → ts.length = xs.length → (∀ (i : Nat) x t, xs[i]? = some x → ts[i]? = some t → Sh C H d x t) → Sh C H (d + 1) (.ref a) (tupleText ts)
  | dct {d : Nat} {a : Addr} {ds : List (Int × Int)} : H a = some (.dK (ds.map fun p => (.inl p.1, .int p.2))) → ds.length ≤ 61 → (∀ p ∈ ds, okI p.1 ∧ okI p.2) → Sh C H (d + 1) (.ref a) (dictText (ds.map dEnt))
  | dcl {d : Nat} {a b : Addr} {k : Int} {ns : List Int} : H a = some (.dK [(.inl k, .ref b)]) → H b = some (.lst (ns.map V.int)) → ns.length ≤ 61 → okI k → (∀ x ∈ ns, okS x) →
      Sh C H (d + 2) (.ref a) (dictText [Str.ofString (toString k) ++ ": " ++ listText (ns.map fun x => Str.ofString (toString x))])
theorem Sh.same {C : Addr} {H H' : Hp} {d : Nat} {x : V} {t : Str} (h : Sh C H d x t) (e : Same H H') : Sh C H' d x t := by
  induction h with
  | int h => exact .int h
  | bl b => exact .bl b
  | non => exact .non
  | str x h => exact .str x h
  | own r h1 h2 h3 => exact .own (r.same e) h1 h2 h3
  | lst h1 h0 h2 _ ih => exact .lst (e _ _ h1) h0 h2 ih
  | tup h1 h0 h2 _ ih => exact .tup (e _ _ h1) h0 h2 ih
  | dct h1 h0 h2 => exact .dct (e _ _ h1) h0 h2
  | dcl h1 h2 h3 h4 h5 => exact .dcl (e _ _ h1) (e _ _ h2) h3 h4 h5
theorem dk_inj : ∀ {ds es : List (Int × Int)}, (ds.map fun p => ((.inl p.1 : Key), V.int p.2)) = es.map (fun p => ((.inl p.1 : Key), V.int p.2)) → ds = es
  | [], [], _ => rfl
  | [], _ :: _, h => by cases h
  | _ :: _, [], h => by cases h
  | (a, b) :: ds, (c, d) :: es, h => by
    rw [List.map_cons, List.map_cons] at h
    injection h with h1 h2
    injection h1 with h3 h4
    injection h3 with h5
    injection h4 with h6
    rw [show a = c from h5, show b = d from h6, dk_inj h2]
theorem dk_ne {ds : List (Int × Int)} {k : Int} {b : Addr} (h : (ds.map fun p => ((.inl p.1 : Key), V.int p.2)) = [((.inl k : Key), V.ref b)]) : False := by
  cases ds with
  | nil => cases h
  | cons p r =>
    rw [List.map_cons] at h
    injection h with h1 _
    injection h1 with _ h2
    cases h2
theorem vint_inj : ∀ {ns ms : List Int}, ns.map V.int = ms.map V.int → ns = ms
  | [], [], _ => rfl
  | [], _ :: _, h => by cases h
  | _ :: _, [], h => by cases h
  | n :: ns, m :: ms, h => by
    rw [List.map_cons, List.map_cons] at h
    injection h with h1 h2
    injection h1 with h3
    rw [h3, vint_inj h2]
theorem Sh.fn {C : Addr} {H : Hp} {d : Nat} {x : V} {t : Str} (h : Sh C H d x t) : ∀ {d' : Nat} {t' : Str}, Sh C H d' x t' → t = t' := by
  induction h with
  | int h => intro d' t' g; cases g; rfl
  | bl b => intro d' t' g; cases g; rfl
  | non => intro d' t' g; cases g; rfl
  | str x _ => intro d' t' g; cases g; rfl
  | own r _ _ _ =>
    intro d' t' g
    obtain ⟨dx, r⟩ := r
    cases g with
    | own r2 =>
      obtain ⟨dx2, r2⟩ := r2
      rw [r] at r2
      injection r2 with r2
      injection r2 with _ _ z
      injection z with z1 z2
      injection z1 with _ z3
      injection z3 with z3
      injection z2 with z2 _
      injection z2 with _ z4
      injection z4 with z4
      rw [z3, z4]
    | lst h1 => rw [r] at h1; cases h1
    | tup h1 => rw [r] at h1; cases h1
    | dct h1 => rw [r] at h1; cases h1
    | dcl h1 => rw [r] at h1; cases h1
  | lst h1 h0 h2 h3 ih =>
    intro d' t' g
    cases g with
    | own r2 => obtain ⟨dx2, r2⟩ := r2; rw [h1] at r2; cases r2
    | lst g1 g0 g2 g3 =>
      rw [h1] at g1; cases g1
      congr 1
      refine List.ext_getElem (by rw [h2, g2]) fun i a b => ?_
      have hx := List.getElem?_eq_getElem (show i < _ from h2 ▸ a)
      exact ih i _ _ hx (List.getElem?_eq_getElem a) (g3 i _ _ hx (List.getElem?_eq_getElem b))
    | tup g1 => rw [h1] at g1; cases g1
    | dct g1 => rw [h1] at g1; cases g1
    | dcl g1 => rw [h1] at g1; cases g1
  | tup h1 h0 h2 h3 ih =>
    intro d' t' g
    cases g with
    | own r2 => obtain ⟨dx2, r2⟩ := r2; rw [h1] at r2; cases r2
    | tup g1 g0 g2 g3 =>
      rw [h1] at g1; cases g1
      congr 1
      refine List.ext_getElem (by rw [h2, g2]) fun i a b => ?_
      have hx := List.getElem?_eq_getElem (show i < _ from h2 ▸ a)
      exact ih i _ _ hx (List.getElem?_eq_getElem a) (g3 i _ _ hx (List.getElem?_eq_getElem b))
    | lst g1 => rw [h1] at g1; cases g1
    | dct g1 => rw [h1] at g1; cases g1
    | dcl g1 => rw [h1] at g1; cases g1
  | dct h1 h0 h2 =>
    intro d' t' g
    cases g with
    | own r2 => obtain ⟨dx2, r2⟩ := r2; rw [h1] at r2; cases r2
    | lst g1 => rw [h1] at g1; cases g1
    | tup g1 => rw [h1] at g1; cases g1
    | dct g1 =>
      rw [h1] at g1
      injection g1 with g1
      injection g1 with g1
      rw [dk_inj g1]
    | dcl g1 =>
      rw [h1] at g1
      injection g1 with g1
      injection g1 with g1
      exact (dk_ne g1).elim
  | dcl h1 h2 h3 h4 h5 =>
    intro d' t' g
    cases g with
    | own r2 => obtain ⟨dx2, r2⟩ := r2; rw [h1] at r2; cases r2
    | lst g1 => rw [h1] at g1; cases g1
    | tup g1 => rw [h1] at g1; cases g1
    | dct g1 =>
      rw [h1] at g1
      injection g1 with g1
      injection g1 with g1
      exact (dk_ne g1.symm).elim
    | dcl g1 g2 g3 g4 g5 =>
      rw [h1] at g1
      injection g1 with g1
      injection g1 with g1
      injection g1 with g1 _
      injection g1 with ga gb
      injection ga with ga
      injection gb with gb
      subst gb
      rw [h2] at g2
      injection g2 with g2
      injection g2 with g2
      rw [show _ = _ from ga, vint_inj g2]
def ShCl (C : Addr) (H : Hp) : ClT := fun a m => ∃ d t, Sh C H d (.ref a) t ∧ t.length = m
theorem shcl_fn (C : Addr) (H : Hp) : ∀ b k k', ShCl C H b k → ShCl C H b k' → k = k' := fun b k k' ⟨d, t, h, e⟩ ⟨d', t', h', e'⟩ => by rw [← e, ← e', h.fn h']
/-! a dict of ints -/
theorem ents_of {P : Program} {w : World} {h₀ : Heap} : ∀ {ds : List (Int × Int)} {es : List DictEntry} {vs : List (Key × Value)}, Pairs (mixKind P w) es vs → KV (ds.map fun p => ((.inl p.1 : Key), V.int p.2)) vs → (∀ p ∈ ds, okI p.1 ∧ okI p.2) →
    ReprEntriesK P w [] h₀ 0 es (ds.map dEnt)
  | [], _, _, hp, hk, _ => by
    cases hk
    cases hp
    exact .nil
  | p :: ds, _, _, hp, hk, hb => by
    cases hk with
    | cons r hk =>
      cases hp with
      | cons k1 k2 hp =>
        obtain ⟨r1, r2⟩ := r
        obtain ⟨b1, b2⟩ := hb p List.mem_cons_self
        have k1' : keyIs _ _ = true := k1
        rw [← r1] at k1'
        rcases keyIs_shape k1' with ⟨i, t, e, e2⟩ | ⟨x, t, e, _⟩
        · obtain rfl : p.1 = i := by injection e
          obtain ⟨u, hu⟩ := (show ∃ u, _ = Value.int p.2 u from r2)
          refine .cons (k := Str.ofString (toString p.1)) (v := Str.ofString (toString p.2)) ?_ ?_ (ents_of hp hk fun q hq => hb q (List.mem_cons_of_mem _ hq))
          · rw [e2]; exact .of_is (ReprIs.int t b1) _ _ _
          · rw [k2, hu]; exact .of_is (ReprIs.int u b2) _ _ _
        · cases e
section
variable {X : Cx} {n : Nat} {H0 : Hp} {Cl : ClT} {a : Addr} {ds : List (Int × Int)}
theorem RpG.dict (ha : H0 a = some (.dK (ds.map fun p => (.inl p.1, .int p.2)))) (hca : Cl a (dictText (ds.map dEnt)).length) (hb : ∀ p ∈ ds, okI p.1 ∧ okI p.2) : RpG X (n + 1) H0 Cl (.ref a) (dictText (ds.map dEnt)) := by
  intro A pins s σ H u g base sb hg hcl hsz I sm r
  cases r
  obtain ⟨_, hsys, vs, kv, o, es, ep, he, hex, hd, _, hp, _⟩ := I.hok a _ (sm _ _ ha)
  refine wpAny_pyReprUnder_ref (by omega) (wpAny_pyReprObjUnder_dictK (as := []) (h₀ := s.heap) (d := 0) he hex.1 hd hsys (by simp) (ents_of hp kv hb) hg (fun b hb => ?_) (by have := sb.room.un; omega) (fun _ _ e => e) (fun h' u tk hk => ⟨_, u, rfl, rfl, H, I.kept (t' := tk) hk, Same.refl _⟩) hsz)
  rw [List.mem_singleton.mp hb]
  exact hcl a _ hca (Nat.le_refl _)
theorem call_dict_reprG (ha : H0 a = some (.dK (ds.map fun p => (.inl p.1, .int p.2)))) (hca : Cl a (dictText (ds.map dEnt)).length) (hb : ∀ p ∈ ds, okI p.1 ∧ okI p.2)
    {A : Around} {g : List Code} {pins : List (Addr × Obj)} {σ : L2.St} {H : Hp} {s : Shared} (sb : L2.Sub X (n + 1) A) (hg : A.guards = some g) (hcl : Grd Cl g (dictText (ds.map dEnt)).length) (hsz : (dictText (ds.map dEnt)).length ≤ sizeLine) (I : L2.Inv X pins σ H s) (sm : Same H0 H) :
    wpAny (model X.prog X.w) A (call (.builtin "dict.__repr__") [.ref a]) (RpEnd X pins σ H (dictText (ds.map dEnt))) X.xe s := by
  obtain ⟨_, hsys, vs, kv, o, es, ep, he, hex, hd, _, hp, _⟩ := I.hok a _ (sm _ _ ha)
  refine call_dict_reprK (as := []) (h₀ := s.heap) (d := 0) he hex.1 hd hsys (by simp) (ents_of hp kv hb) hg (fun b hb => ?_) (by have := sb.room.un; omega) (fun _ _ e => e) (fun h' u tk hk => ⟨u, rfl, H, I.kept (t' := tk) hk, Same.refl _⟩) hsz
  rw [List.mem_singleton.mp hb]
  exact hcl a _ hca (Nat.le_refl _)
end
/-! a dict of one list of ints -/
theorem dl_le {k : Int} {ns : List Int} : (listText (ns.map fun x => Str.ofString (toString x))).length ≤ (dictText [Str.ofString (toString k) ++ ": " ++ listText (ns.map fun x => Str.ofString (toString x))]).length := by
  unfold dictText
  rw [strLen_append, strLen_append]
  have : (Str.join ", " [Str.ofString (toString k) ++ ": " ++ listText (ns.map fun x => Str.ofString (toString x))]) = Str.ofString (toString k) ++ ": " ++ listText (ns.map fun x => Str.ofString (toString x)) := rfl
  rw [this, strLen_append, strLen_append]
  omega
section
variable {X : Cx} {n : Nat} {H0 : Hp} {Cl : ClT} {a b : Addr} {k : Int} {ns : List Int}
abbrev dlTxt (ns : List Int) : Str := listText (ns.map fun x => Str.ofString (toString x))
abbrev dlText (k : Int) (ns : List Int) : Str := dictText [Str.ofString (toString k) ++ ": " ++ dlTxt ns]
theorem dl_ents {pins : List (Addr × Obj)} {σ : L2.St} {H : Hp} {s : Shared} (I : L2.Inv X pins σ H s) (hb : H b = some (.lst (ns.map V.int))) (ok : okI k) (on : ∀ x ∈ ns, okI x) {es : List DictEntry} {vs : List (Key × Value)}
    (hp : Pairs (mixKind X.prog X.w) es vs) (hk : KV [((.inl k : Key), V.ref b)] vs) : ReprEntriesK X.prog X.w [b] s.heap 1 es [Str.ofString (toString k) ++ ": " ++ dlTxt ns] := by
  obtain ⟨_, its, na, rv, hl, he⟩ := I.lstM hb
  cases hk with
  | cons r hk =>
    cases hk
    cases hp with
    | cons k1 k2 hp =>
      cases hp
      obtain ⟨r1, r2⟩ := r
      have k1' : keyIs _ _ = true := k1
      rw [← r1] at k1'
      have kb : ReprK X.prog X.w [b] s.heap 1 (.ref b) (dlTxt ns) := by
        have l0 : its.length = ns.length := by rw [← hl]; simp
        have at_ : ∀ (i : Nat) (y : Value), its[i]? = some y → ∃ z u, ns[i]? = some z ∧ y = .int z u := fun i y hy => by
          have li := (List.getElem?_eq_some_iff.mp hy).1
          obtain ⟨z, hz⟩ : ∃ z, ns[i]? = some z := ⟨_, List.getElem?_eq_getElem (l0 ▸ li)⟩
          obtain ⟨u, hu, ru⟩ := rv.get (i := i) (x := V.int z) (by rw [List.getElem?_map, hz]; rfl)
          rw [hu] at hy
          obtain ⟨u2, e⟩ := (show ∃ t, u = Value.int z t from ru)
          exact ⟨z, u2, hz, by rw [← Option.some.inj hy]; exact e⟩
        cases its with
        | nil =>
          have e0 : ns = [] := List.length_eq_zero_iff.mp (by simpa using l0.symm)
          subst e0
          exact ReprK.listEmpty he rfl rfl
        | cons x l =>
          refine ReprK.list (as := []) (d := 0) he rfl rfl (by simp) (by rw [List.length_map, List.size_toArray]; exact l0.symm) fun i y hy => ?_
          obtain ⟨z, u, hz, rfl⟩ := at_ i y (by simpa using hy)
          exact ⟨_, by rw [List.getElem?_map, hz]; rfl, .of_is (ReprIs.int u (on z (List.mem_of_getElem? hz))) _ _ _⟩
      rcases keyIs_shape k1' with ⟨i, t, e, e2⟩ | ⟨x, t, e, _⟩
      · obtain rfl : k = i := by injection e
        refine .cons (k := Str.ofString (toString k)) (v := dlTxt ns) ?_ ?_ .nil
        · rw [e2]; exact .of_is (ReprIs.int t ok) _ _ _
        · rw [k2, show _ = Value.ref b from r2]; exact kb
      · cases e
theorem RpG.dictL (ha : H0 a = some (.dK [(.inl k, .ref b)])) (hb : H0 b = some (.lst (ns.map V.int))) (hca : Cl a (dlText k ns).length) (hcb : Cl b (dlTxt ns).length) (ok : okI k) (on : ∀ x ∈ ns, okI x) : RpG X (n + 2) H0 Cl (.ref a) (dlText k ns) := by
  intro A pins s σ H u g base sb hg hcl hsz I sm r
  cases r
  obtain ⟨_, hsys, vs, kv, o, es, ep, he, hex, hd, _, hp, _⟩ := I.hok a _ (sm _ _ ha)
  have ne : a ≠ b := fun z => by rw [z, hb] at ha; cases ha
  have lt : (dlTxt ns).length ≤ (dlText k ns).length := dl_le
  refine wpAny_pyReprUnder_ref (by omega) (wpAny_pyReprObjUnder_dictK (as := [b]) (h₀ := s.heap) (d := 1) he hex.1 hd hsys (by simp [ne]) (dl_ents I (sm _ _ hb) ok on hp kv) hg (fun c hc => ?_) (by have := sb.room.un; omega) (fun _ _ e => e) (fun h' u tk hk => ⟨_, u, rfl, rfl, H, I.kept (t' := tk) hk, Same.refl _⟩) hsz)
  rcases List.mem_cons.mp hc with z | z
  · rw [z]; exact hcl a _ hca (Nat.le_refl _)
  · rw [List.mem_singleton.mp z]; exact hcl b _ hcb lt
theorem call_dictL (ha : H0 a = some (.dK [(.inl k, .ref b)])) (hb : H0 b = some (.lst (ns.map V.int))) (hca : Cl a (dlText k ns).length) (hcb : Cl b (dlTxt ns).length) (ok : okI k) (on : ∀ x ∈ ns, okI x)
    {A : Around} {g : List Code} {pins : List (Addr × Obj)} {σ : L2.St} {H : Hp} {s : Shared} (sb : L2.Sub X (n + 2) A) (hg : A.guards = some g) (hcl : Grd Cl g (dlText k ns).length) (hsz : (dlText k ns).length ≤ sizeLine) (I : L2.Inv X pins σ H s) (sm : Same H0 H) :
    wpAny (model X.prog X.w) A (call (.builtin "dict.__repr__") [.ref a]) (RpEnd X pins σ H (dlText k ns)) X.xe s := by
  obtain ⟨_, hsys, vs, kv, o, es, ep, he, hex, hd, _, hp, _⟩ := I.hok a _ (sm _ _ ha)
  have ne : a ≠ b := fun z => by rw [z, hb] at ha; cases ha
  have lt : (dlTxt ns).length ≤ (dlText k ns).length := dl_le
  refine call_dict_reprK (as := [b]) (h₀ := s.heap) (d := 1) he hex.1 hd hsys (by simp [ne]) (dl_ents I (sm _ _ hb) ok on hp kv) hg (fun c hc => ?_) (by have := sb.room.un; omega) (fun _ _ e => e) (fun h' u tk hk => ⟨u, rfl, H, I.kept (t' := tk) hk, Same.refl _⟩) hsz
  rcases List.mem_cons.mp hc with z | z
  · rw [z]; exact hcl a _ hca (Nat.le_refl _)
  · rw [List.mem_singleton.mp z]; exact hcl b _ hcb lt
end
/-- how the own class is shown -/
structure OwnRp (X : Cx) (C : Addr) (k : Nat) : Prop where
  go : ∀ (H0 : Hp) (Cl : ClT) (a : Addr) (p q : Int), Rat2 C H0 a p q → okI p → okI q → RpG X k H0 Cl (.ref a) (ratText p q)
  top : ∀ (pins : List (Addr × Obj)) (s : Shared) (σ : L2.St) (H : Hp) (a : Addr) (p q : Int), L2.Inv X pins σ H s → Rat2 C H a p q → okI p → okI q → wpAny (model X.prog X.w) X.A (call (.builtin "repr") [.ref a]) (RpEnd X pins σ H (ratText p q)) X.xe s
theorem Sh.ints {C : Addr} {H : Hp} {d : Nat} {a : Addr} {ns : List Int} (h : H a = some (.lst (ns.map V.int))) (l : ns.length ≤ 61) (ok : ∀ x ∈ ns, okS x) : Sh C H (d + 1) (.ref a) (listText (ns.map fun x => Str.ofString (toString x))) :=
  .lst h (by rw [List.length_map]; exact l) (by rw [List.length_map, List.length_map]) fun i x t e1 e2 => by
    rw [List.getElem?_map] at e1 e2
    obtain ⟨z, hz, rfl⟩ := Option.map_eq_some_iff.mp e1
    rw [hz] at e2
    cases e2
    exact .int (ok z (List.mem_of_getElem? hz))
theorem Sh.rp {X : Cx} {C : Addr} {k : Nat} (O : OwnRp X C k) {H0 : Hp} {d : Nat} {x : V} {t : Str} (h : Sh C H0 d x t) : t.length ≤ sizeLine → RpG X (k + d) H0 (ShCl C H0) x t := by
  induction h with
  | @int d i h =>
    intro _
    refine RpG.is fun u r => ?_
    obtain ⟨t, rfl⟩ := r
    exact ReprIs.int t h.ok
  | bl b =>
    intro _
    refine RpG.is fun u r => ?_
    cases r
    exact ReprIs.bool b
  | non =>
    intro _
    refine RpG.is fun u r => ?_
    cases r
    exact ReprIs.none
  | str x _ =>
    intro hz
    refine RpG.is fun u r => ?_
    obtain ⟨t, rfl⟩ := r
    exact ReprIs.str x t hz
  | own r b1 b2 _ => exact fun hz => (O.go _ _ _ _ _ r b1.ok b2.ok).mono (Nat.le_add_right _ _)
  | @lst d a xs ts h1 h0 h2 h3 ih =>
    intro hz
    have hp := piled_le_listText ts
    refine RpG.list (shcl_fn C H0) h1 ⟨_, _, Sh.lst h1 h0 h2 h3, rfl⟩ h2 fun i x t e1 e2 => ih i x t e1 e2 ?_
    have : t.length + 2 ≤ piled ts := by
      have := piled_take_succ e2
      have := piled_take_le ts (i + 1)
      omega
    omega
  | @tup d a xs ts h1 h0 h2 h3 ih =>
    intro hz
    have hp := piled_le_tupleText ts
    refine RpG.tup (shcl_fn C H0) h1 ⟨_, _, Sh.tup h1 h0 h2 h3, rfl⟩ h2 fun i x t e1 e2 => ih i x t e1 e2 ?_
    have : t.length + 2 ≤ piled ts := by
      have := piled_take_succ e2
      have := piled_take_le ts (i + 1)
      omega
    omega
  | @dct d a ds h1 h0 h2 => exact fun _ => RpG.dict h1 ⟨d + 1, _, Sh.dct h1 h0 h2, rfl⟩ h2
  | @dcl d a b k ns h1 h2 h3 h4 h5 => exact fun _ => RpG.dictL h1 h2 ⟨d + 2, _, Sh.dcl h1 h2 h3 h4 h5, rfl⟩ ⟨d + 1, _, Sh.ints h2 h3 h5, rfl⟩ h4 fun x hx => (h5 x hx).ok
theorem listText_le (ts : List Str) : (listText ts).length ≤ piled ts + 2 := by
  cases ts with
  | nil => decide
  | cons t r =>
    have h := textFrom_length_pos r 1 (("[" : Str) ++ (if (0 : Nat) > 0 then ", " else "" : String) ++ t) (Nat.succ_pos 0)
    have e : ((("[" : Str) ++ (if (0 : Nat) > 0 then ", " else "" : String) ++ t)).length = 1 + t.length := by
      rw [strLen_append, strLen_append]; rfl
    have hX : (listText (t :: r)).length = (textFrom 0 "[" (t :: r)).length + 1 := by
      show (textFrom 0 "[" (t :: r) ++ "]").length = _
      rw [strLen_append]; rfl
    have hY : (textFrom 0 "[" (t :: r)).length = (textFrom 1 (("[" : Str) ++ (if (0 : Nat) > 0 then ", " else "" : String) ++ t) r).length := rfl
    rw [hX, hY, h, e, piled_cons]; omega
theorem join_le (ts : List Str) : (Str.join ", " ts).length ≤ piled ts := by
  cases ts with
  | nil => decide
  | cons t r => have := join_length_add (t :: r) (by simp); omega
theorem tupleText_le (ts : List Str) : (tupleText ts).length ≤ piled ts + 3 := by
  have := join_le ts
  unfold tupleText
  rw [strLen_append, strLen_append]
  have e1 : ((("(" : String) : Str)).length = 1 := rfl
  have e3 : (((if ts.length == 1 then ",)" else ")" : String) : Str)).length ≤ 2 := by split <;> decide
  omega
theorem dictText_le (ts : List Str) : (dictText ts).length ≤ piled ts + 2 := by
  have := join_le ts
  unfold dictText
  rw [strLen_append, strLen_append]
  have e1 : ((("{" : String) : Str)).length = 1 := rfl
  have e2 : ((("}" : String) : Str)).length = 1 := rfl
  omega
theorem piled_all {ts : List Str} {L : Nat} (h : ∀ t ∈ ts, t.length ≤ L) : piled ts ≤ ts.length * (L + 2) := by
  induction ts with
  | nil => simp [piled]
  | cons t r ih =>
    rw [piled_cons, List.length_cons, Nat.succ_mul]
    have := h t List.mem_cons_self
    have := ih fun t ht => h t (List.mem_cons_of_mem _ ht)
    omega
def Lb : Nat → Nat
  | 0 => 3900
  | d + 1 => 61 * (Lb d + 2) + 3
theorem Lb_ge : ∀ d, 3900 ≤ Lb d
  | 0 => Nat.le_refl _
  | d + 1 => by have := Lb_ge d; show 3900 ≤ 61 * (Lb d + 2) + 3; omega
theorem int_len {i : Int} (h : okI i) : (Str.ofString (toString i)).length ≤ 1921 := int_text_len_1921 h
theorem ratText_len {p q : Int} (h1 : okI p) (h2 : okI q) : (ratText p q).length ≤ 3900 := by
  have := int_len h1
  have := int_len h2
  unfold ratText
  rw [strLen_append, strLen_append, strLen_append, strLen_append]
  have e1 : (Str.ofString "Ratio(").length = 6 := rfl
  have e2 : (Str.ofString ", ").length = 2 := rfl
  have e3 : (Str.ofString ")").length = 1 := rfl
  omega
theorem at_all {ts : List Str} {xs : List V} {L : Nat} (h2 : ts.length = xs.length) (h : ∀ (i : Nat) (x : V) (t : Str), xs[i]? = some x → ts[i]? = some t → t.length ≤ L) : ∀ t ∈ ts, t.length ≤ L := fun t ht => by
  obtain ⟨i, hi⟩ := List.getElem?_of_mem ht
  have l := (List.getElem?_eq_some_iff.mp hi).1
  exact h i _ t (List.getElem?_eq_getElem (h2 ▸ l)) hi
theorem Sh.len {C : Addr} {H : Hp} {d : Nat} {x : V} {t : Str} (h : Sh C H d x t) : t.length ≤ Lb d := by
  induction h with
  | @int d i h => exact Nat.le_trans (int_len h.ok) (Nat.le_trans (by decide) (Lb_ge d))
  | @bl d b => exact Nat.le_trans (by cases b <;> decide) (Lb_ge d)
  | @non d => exact Nat.le_trans (by decide) (Lb_ge d)
  | @str d x h => exact Nat.le_trans h (Lb_ge d)
  | @own d a p q r h1 h2 _ => exact Nat.le_trans (ratText_len h1.ok h2.ok) (Lb_ge d)
  | @lst d a xs ts h1 h0 h2 h3 ih =>
    have := listText_le ts
    have p := piled_all (at_all h2 ih)
    have : ts.length * (Lb d + 2) ≤ 61 * (Lb d + 2) := Nat.mul_le_mul_right _ (by omega)
    show _ ≤ 61 * (Lb d + 2) + 3
    omega
  | @tup d a xs ts h1 h0 h2 h3 ih =>
    have := tupleText_le ts
    have p := piled_all (at_all h2 ih)
    have : ts.length * (Lb d + 2) ≤ 61 * (Lb d + 2) := Nat.mul_le_mul_right _ (by omega)
    show _ ≤ 61 * (Lb d + 2) + 3
    omega
  | @dct d a ds h1 h0 h2 =>
    have := dictText_le (ds.map dEnt)
    have p := piled_all (ts := ds.map dEnt) (L := 3900) fun t ht => by
      obtain ⟨p, hp, rfl⟩ := List.mem_map.mp ht
      have := int_len (h2 p hp).1
      have := int_len (h2 p hp).2
      unfold dEnt
      rw [strLen_append, strLen_append]
      have e1 : (((": " : String) : Str)).length = 2 := rfl
      omega
    rw [List.length_map] at p
    have b := Lb_ge d
    have : ds.length * (3900 + 2) ≤ 61 * (Lb d + 2) := Nat.mul_le_mul h0 (by omega)
    show _ ≤ 61 * (Lb d + 2) + 3
    omega
  | @dcl d a b k ns h1 h2 h3 h4 h5 =>
    have l1 := int_len h4
    have l2 : (dlTxt ns).length ≤ _ := listText_le (ns.map fun x => Str.ofString (toString x))
    have l3 : (dlText k ns).length ≤ _ := dictText_le [Str.ofString (toString k) ++ ": " ++ dlTxt ns]
    have p := piled_all (ts := ns.map fun x => Str.ofString (toString x)) (L := 3900) fun t ht => by
      obtain ⟨p, hp, rfl⟩ := List.mem_map.mp ht
      have := int_len (h5 p hp).ok
      omega
    rw [List.length_map] at p
    have q : piled [Str.ofString (toString k) ++ ": " ++ dlTxt ns] = (Str.ofString (toString k) ++ ": " ++ dlTxt ns).length + 2 := by rw [piled_cons]; rfl
    rw [strLen_append, strLen_append] at q
    have e1 : (((": " : String) : Str)).length = 2 := rfl
    have b0 := Lb_ge d
    have : ns.length * (3900 + 2) ≤ 61 * (Lb d + 2) := Nat.mul_le_mul h3 (by omega)
    show (dlText k ns).length ≤ 61 * ((61 * (Lb d + 2) + 3) + 2) + 3
    omega
theorem Sh.size {C : Addr} {H : Hp} {d : Nat} {x : V} {t : Str} (h : Sh C H d x t) (hd : d ≤ 2) : t.length ≤ sizeLine := by
  have := h.len
  have e : Lb d ≤ Lb 2 := by
    have : d = 0 ∨ d = 1 ∨ d = 2 := by omega
    rcases this with rfl | rfl | rfl <;> decide
  have : Lb 2 ≤ sizeLine := by decide
  omega
/-- repr(..) of such a value, where nothing is being shown -/
def rSh (C : Addr) : List V → Hp → VK → Prop := fun vs H Q => ∃ (x : V) (t : Str) (d : Nat), vs = [x] ∧ Sh C H d x t ∧ t.length ≤ sizeLine ∧ d ≤ 6 ∧ ∀ H', Same H H' → Q (.str t) H'
theorem cr_sh {X : Cx} {C : Addr} {k : Nat} (O : OwnRp X C k) (hr : Room (k + 8) X.A) (hg : X.A.guards = some []) : CallR X (.builtin "repr") (rSh C) := by
  intro pins s σ H xs us Q I r h
  obtain ⟨x, t, d, rfl, hsh, hz, hd, q⟩ := h
  obtain ⟨u, rfl, ru⟩ := r.one
  have fin : ∀ v s', RpEnd X pins σ H t v s' → EP X pins σ Q v s' := fun v s' ⟨u, e, H', I', sm⟩ => by
    subst e
    exact ⟨.str t, H', I', ⟨u, rfl⟩, q H' sm⟩
  have gr : ∀ m, Grd (ShCl C H) [] m := fun m b k _ _ => Clear.nil b
  have sb : ∀ m, m ≤ k + 7 → L2.Sub X m X.A.in1 := fun m hm => ⟨(hr.mono (show m + 1 ≤ k + 8 by omega)).in1, rfl⟩
  cases hsh with
  | @int d i h =>
    obtain ⟨t, rfl⟩ := ru
    exact PySem.P.repr_of_int h.ok (fin _ _ ⟨_, rfl, H, I.tok _, Same.refl _⟩)
  | bl b =>
    cases ru
    exact PySem.P.repr_of_bool (fin _ _ ⟨_, rfl, H, I.tok _, Same.refl _⟩)
  | non =>
    cases ru
    exact PySem.P.repr_of_none (fin _ _ ⟨_, rfl, H, I.tok _, Same.refl _⟩)
  | str x _ =>
    obtain ⟨t, rfl⟩ := ru
    exact PySem.P.repr_of_str (fin _ _ ⟨_, rfl, H, I.tok _, Same.refl _⟩) hz
  | own r2 b1 b2 _ =>
    cases ru
    exact wpAny_mono (O.top pins s σ H _ _ _ I r2 b1.ok b2.ok) fin fun _ _ e => e
  | @lst d a xs ts h1 h0 h2 h3 =>
    cases ru
    obtain ⟨_, its, na, rv, hl, he⟩ := I.lstM h1
    have hp := piled_le_listText ts
    have tl : ∀ (i : Nat) (t : Str), ts[i]? = some t → t.length ≤ sizeLine := fun i t e2 => by
      have := piled_take_succ e2
      have := piled_take_le ts (i + 1)
      omega
    refine call_repr_slot (by have := hr.un; omega) ⟨_, he, rfl⟩ F.slot_list_repr.toG ?_
    by_cases hne : xs = []
    · subst hne
      have e1 : ts = [] := List.length_eq_zero_iff.mp h2
      have e2 : its = [] := List.length_eq_zero_iff.mp (by simpa using hl.symm)
      subst e1 e2
      exact call_list_repr_empty ⟨_, he, rfl⟩ he rfl ⟨_, _, rfl, fin _ _ ⟨_, rfl, H, I.tok _, Same.refl _⟩⟩
    · refine wpAny_mono (call_list_reprG (n := k + d) (shcl_fn C H) h1 hne ⟨d + 1, _, Sh.lst h1 h0 h2 h3, rfl⟩ h2 (fun i x t e1 e2 => (h3 i x t e1 e2).rp O (tl i t e2)) (sb _ (by omega)) hg (gr _) hz I (Same.refl _)) (fun v s' hv => ?_) fun _ _ e => e
      obtain ⟨u, e, q⟩ := hv
      exact ⟨_, u, e, fin v s' ⟨u, e, q⟩⟩
  | @tup d a xs ts h1 h0 h2 h3 =>
    cases ru
    obtain ⟨its, rv, he, _⟩ := I.tuple (.inl (.inl h1) : SqT X.K H a xs)
    obtain ⟨o, ho, hoc, nn, hod⟩ := he
    have hp := piled_le_tupleText ts
    have tl : ∀ (i : Nat) (t : Str), ts[i]? = some t → t.length ≤ sizeLine := fun i t e2 => by
      have := piled_take_succ e2
      have := piled_take_le ts (i + 1)
      omega
    refine call_repr_slot (by have := hr.un; omega) ⟨o, ho, hoc⟩ F.slot_tuple_repr ?_
    refine wpAny_mono (call_tuple_reprG (n := k + d) (shcl_fn C H) h1 ⟨d + 1, _, Sh.tup h1 h0 h2 h3, rfl⟩ h2 (fun i x t e1 e2 => (h3 i x t e1 e2).rp O (tl i t e2)) (sb _ (by omega)) hg (gr _) hz I (Same.refl _)) (fun v s' hv => ?_) fun _ _ e => e
    obtain ⟨u, e, q⟩ := hv
    exact ⟨_, u, e, fin v s' ⟨u, e, q⟩⟩
  | @dct d a ds h1 h0 h2 =>
    cases ru
    obtain ⟨_, hsys, vs, kv, o, es, ep, he, hex, hd, _, hp, _⟩ := I.hok a _ h1
    refine call_repr_slot (by have := hr.un; omega) ⟨o, he, hex.1⟩ F.slot_dict_repr ?_
    refine wpAny_mono (call_dict_reprG (n := k + d) h1 ⟨d + 1, _, Sh.dct h1 h0 h2, rfl⟩ h2 (sb _ (by omega)) hg (gr _) hz I (Same.refl _)) (fun v s' hv => ?_) fun _ _ e => e
    obtain ⟨u, e, q⟩ := hv
    exact ⟨_, u, e, fin v s' ⟨u, e, q⟩⟩
  | @dcl d a b kk ns h1 h2 h3 h4 h5 =>
    cases ru
    obtain ⟨_, hsys, vs, kv, o, es, ep, he, hex, hd2, _, hp, _⟩ := I.hok a _ h1
    refine call_repr_slot (by have := hr.un; omega) ⟨o, he, hex.1⟩ F.slot_dict_repr ?_
    refine wpAny_mono (call_dictL (n := 0) h1 h2 ⟨d + 2, _, Sh.dcl h1 h2 h3 h4 h5, rfl⟩ ⟨d + 1, _, Sh.ints h2 h3 h5, rfl⟩ h4 (fun x hx => (h5 x hx).ok) (sb _ (by omega)) hg (gr _) hz I (Same.refl _)) (fun v s' hv => ?_) fun _ _ e => e
    obtain ⟨u, e, q⟩ := hv
    exact ⟨_, u, e, fin v s' ⟨u, e, q⟩⟩
end Fp

namespace K21
/-- the numbers that are sums of the ints that P tells -/
inductive Rch (P : Int → Prop) : Int → Prop
  | zero : Rch P 0
  | step {n c : Int} (h : P c) (r : Rch P n) : Rch P (n + c)
theorem Rch.add {P : Int → Prop} {a b : Int} (ha : Rch P a) (hb : Rch P b) : Rch P (a + b) := by
  induction hb with
  | zero => rw [Int.add_zero]; exact ha
  | step h r ih => rw [← Int.add_assoc]; exact .step h ih
theorem Rch.one {P : Int → Prop} {c : Int} (h : P c) : Rch P c := by
  have q := Rch.step h (.zero (P := P))
  rw [Int.zero_add] at q
  exact q
theorem Rch.trans {P Q : Int → Prop} (h : ∀ c, P c → Rch Q c) {n : Int} (r : Rch P n) : Rch Q n := by
  induction r with
  | zero => exact .zero
  | step hc _ ih => exact ih.add (h _ hc)
theorem Rch.mono {P Q : Int → Prop} (h : ∀ c, P c → Q c) {n : Int} (r : Rch P n) : Rch Q n := r.trans fun c hc => .one (h c hc)
theorem Rch.nonneg {P : Int → Prop} (h : ∀ c, P c → 0 < c) {n : Int} (r : Rch P n) : 0 ≤ n := by
  induction r with
  | zero => exact Int.le_refl 0
  | step hc _ ih => have := h _ hc; omega
theorem Rch.le {P : Int → Prop} (h : ∀ c, P c → 0 < c) {n : Int} (r : Rch P n) : Rch (fun c => P c ∧ c ≤ n) n := by
  induction r with
  | zero => exact .zero
  | @step n c hc r ih =>
    have h0 := Rch.nonneg h r
    have h1 := h _ hc
    exact .step ⟨hc, by omega⟩ (ih.mono fun d hd => ⟨hd.1, by omega⟩)
theorem rch_next {P : Int → Prop} (h : ∀ c, P c → 0 < c) {n : Int} (hn : 0 < n) : Rch P n ↔ ∃ c, P c ∧ c ≤ n ∧ Rch P (n - c) := by
  constructor
  · intro r
    cases r with
    | zero => omega
    | @step m c hc r =>
      have h0 := Rch.nonneg h r
      refine ⟨c, hc, by omega, ?_⟩
      rw [Int.add_sub_cancel]
      exact r
  · rintro ⟨c, hc, _, r⟩
    have q := Rch.step hc r
    rw [Int.sub_add_cancel] at q
    exact q
/-- met, as a bool -/
noncomputable def mb (cs : List Int) (n : Int) : Bool := @decide (Rch (· ∈ cs) n) (Classical.propDecidable _)
theorem mb_iff {cs : List Int} {n : Int} : mb cs n = true ↔ Rch (· ∈ cs) n := by
  unfold mb
  exact @decide_eq_true_iff _ (Classical.propDecidable _)
theorem mb_false {cs : List Int} {n : Int} : mb cs n = false ↔ ¬ Rch (· ∈ cs) n := by
  rw [← mb_iff]
  cases mb cs n <;> simp
theorem mb_congr {cs ds : List Int} {n : Int} (h : Rch (· ∈ cs) n ↔ Rch (· ∈ ds) n) : mb cs n = mb ds n := by
  cases e : mb ds n with
  | true => exact mb_iff.mpr (h.mpr (mb_iff.mp e))
  | false => exact mb_false.mpr fun z => mb_false.mp e (h.mp z)
theorem mb_zero {cs : List Int} : mb cs 0 = true := mb_iff.mpr .zero
def Pos (cs : List Int) : Prop := ∀ c ∈ cs, 0 < c
theorem mb_next {cs : List Int} (h : Pos cs) {n : Int} (hn : 0 < n) : mb cs n = cs.any fun c => decide (c ≤ n) && mb cs (n - c) := by
  cases e : (cs.any fun c => decide (c ≤ n) && mb cs (n - c)) with
  | true =>
    obtain ⟨c, hc, q⟩ := List.any_eq_true.mp e
    rw [Bool.and_eq_true, decide_eq_true_eq] at q
    exact mb_iff.mpr ((rch_next h hn).mpr ⟨c, hc, q.1, mb_iff.mp q.2⟩)
  | false =>
    refine mb_false.mpr fun r => ?_
    obtain ⟨c, hc, hl, r⟩ := (rch_next h hn).mp r
    have q := List.any_eq_false.mp e c hc
    rw [mb_iff.mpr r, decide_eq_true hl] at q
    exact q rfl
/-- the table of what is met -/
noncomputable def tb (cs : List Int) (m : Nat) : List Bool := (List.range m).map fun i : Nat => mb cs ((i : Nat) : Int)
theorem tb_len (cs : List Int) (m : Nat) : (tb cs m).length = m := by unfold tb; rw [List.length_map, List.length_range]
theorem tb_at {cs : List Int} {m i : Nat} (h : i < m) : (tb cs m)[i]? = some (mb cs (i : Int)) := by
  unfold tb
  rw [List.getElem?_map, List.getElem?_range h]; rfl
theorem tb_succ (cs : List Int) (m : Nat) : tb cs (m + 1) = tb cs m ++ [mb cs (m : Int)] := by
  unfold tb
  rw [List.range_succ, List.map_append]; rfl
theorem tb_one (cs : List Int) : tb cs 1 = [true] := by
  rw [tb_succ]
  show [] ++ [mb cs ((0 : Nat) : Int)] = [true]
  rw [show ((0 : Nat) : Int) = 0 from rfl, mb_zero]; rfl
/-! ### least counts -/
def stepL (f : List Int → Int → Bool) (found : List Int) (x : Int) : List Int := if f found x = true then found else found ++ [x]
noncomputable def lst (s : List Int) : List Int := s.foldl (stepL mb) []
structure IsL (cs R : List Int) : Prop where
  srt : R.Pairwise (· < ·)
  mem : ∀ x, x ∈ R ↔ x ∈ cs ∧ ¬ Rch (fun c => c ∈ cs ∧ c < x) x
theorem sorted_ext : ∀ {R S : List Int}, R.Pairwise (· < ·) → S.Pairwise (· < ·) → (∀ x, x ∈ R ↔ x ∈ S) → R = S
  | [], [], _, _, _ => rfl
  | [], y :: _, _, _, h => absurd ((h y).mpr List.mem_cons_self) (by simp)
  | x :: _, [], _, _, h => absurd ((h x).mp List.mem_cons_self) (by simp)
  | x :: R, y :: S, hR, hS, h => by
    obtain ⟨h1, h2⟩ := List.pairwise_cons.mp hR
    obtain ⟨h3, h4⟩ := List.pairwise_cons.mp hS
    have exy : x = y := by
      rcases List.mem_cons.mp ((h x).mp List.mem_cons_self) with e | e
      · exact e
      · rcases List.mem_cons.mp ((h y).mpr List.mem_cons_self) with e' | e'
        · exact e'.symm
        · have a := h1 _ e'
          have b := h3 _ e
          omega
    subst exy
    rw [sorted_ext h2 h4 fun z => ?_]
    constructor
    · intro hz
      rcases List.mem_cons.mp ((h z).mp (List.mem_cons_of_mem _ hz)) with e | e
      · have := h1 _ hz; omega
      · exact e
    · intro hz
      rcases List.mem_cons.mp ((h z).mpr (List.mem_cons_of_mem _ hz)) with e | e
      · have := h3 _ hz; omega
      · exact e
theorem IsL.uniq {cs R S : List Int} (a : IsL cs R) (b : IsL cs S) : R = S := sorted_ext a.srt b.srt fun x => (a.mem x).trans (b.mem x).symm
theorem IsL.congr {cs ds R : List Int} (a : IsL cs R) (h : ∀ x, x ∈ cs ↔ x ∈ ds) : IsL ds R :=
  ⟨a.srt, fun x => by
    have e : (fun c => c ∈ cs ∧ c < x) = fun c => c ∈ ds ∧ c < x := funext fun c => propext (by rw [h])
    rw [a.mem x, h, e]⟩
/-- the state of the search behind a part p of the sorted counts -/
structure Sch (cs p f : List Int) : Prop where
  srt : f.Pairwise (· < ·)
  mem : ∀ x, x ∈ f ↔ x ∈ p ∧ ¬ Rch (fun c => c ∈ cs ∧ c < x) x
  rch : ∀ n, Rch (· ∈ f) n ↔ Rch (· ∈ p) n
theorem Sch.nil {cs : List Int} : Sch cs [] [] := ⟨List.Pairwise.nil, fun x => by simp, fun n => Iff.rfl⟩
theorem Sch.turn {cs p f r : List Int} {x : Int} (hs : (p ++ x :: r).Pairwise (· ≤ ·)) (hm : ∀ c, c ∈ cs ↔ c ∈ p ++ x :: r) (S : Sch cs p f) : Sch cs (p ++ [x]) (stepL mb f x) := by
  have hp : ∀ c ∈ p, c ≤ x := fun c hc => (List.pairwise_append.mp hs).2.2 c hc x List.mem_cons_self
  have hr : ∀ c ∈ r, x ≤ c := fun c hc => (List.pairwise_cons.mp (List.pairwise_append.mp hs).2.1).1 c hc
  have hpc : ∀ c ∈ p, c ∈ cs := fun c hc => (hm c).mpr (List.mem_append_left _ hc)
  have hlow : ∀ c, c ∈ cs → c < x → c ∈ p := fun c hc hl => by
    rcases List.mem_append.mp ((hm c).mp hc) with h | h
    · exact h
    · rcases List.mem_cons.mp h with h | h
      · omega
      · have := hr c h; omega
  have hfp : ∀ c ∈ f, c ∈ p := fun c hc => ((S.mem c).mp hc).1
  have mem1 : ∀ c, c ∈ p ++ [x] ↔ c ∈ p ∨ c = x := fun c => by simp
  unfold stepL
  cases e : mb f x with
  | true =>
    rw [if_pos rfl]
    have rx : Rch (· ∈ p) x := (S.rch x).mp (mb_iff.mp e)
    refine ⟨S.srt, fun y => ?_, fun n => ?_⟩
    · rw [S.mem y, mem1]
      constructor
      · exact fun h => ⟨.inl h.1, h.2⟩
      · rintro ⟨h | h, h2⟩
        · exact ⟨h, h2⟩
        · subst h
          by_cases hy : y ∈ p
          · exact ⟨hy, h2⟩
          · refine absurd (rx.mono fun c hc => ⟨hpc c hc, ?_⟩) h2
            have := hp c hc
            have hne : c ≠ y := fun z => hy (z ▸ hc)
            omega
    · rw [S.rch n]
      constructor
      · exact fun q => q.mono fun c hc => (mem1 c).mpr (.inl hc)
      · refine fun q => q.trans fun c hc => ?_
        rcases (mem1 c).mp hc with h | h
        · exact .one h
        · rw [h]; exact rx
  | false =>
    rw [if_neg Bool.false_ne_true]
    have nx : ¬ Rch (· ∈ p) x := fun z => mb_false.mp e ((S.rch x).mpr z)
    have hxp : x ∉ p := fun z => nx (.one z)
    have mem2 : ∀ c, c ∈ f ++ [x] ↔ c ∈ f ∨ c = x := fun c => by simp
    refine ⟨?_, fun y => ?_, fun n => ?_⟩
    · refine List.pairwise_append.mpr ⟨S.srt, List.pairwise_singleton _ _, fun a ha b hb => ?_⟩
      rw [List.mem_singleton.mp hb]
      have := hp a (hfp a ha)
      have hne : a ≠ x := fun z => hxp (z ▸ hfp a ha)
      omega
    · rw [mem2, S.mem y, mem1]
      constructor
      · rintro (h | h)
        · exact ⟨.inl h.1, h.2⟩
        · subst h
          exact ⟨.inr rfl, fun z => nx (z.mono fun c hc => hlow c hc.1 hc.2)⟩
      · rintro ⟨h | h, h2⟩
        · exact .inl ⟨h, h2⟩
        · exact .inr h
    · constructor
      · refine fun q => q.mono fun c hc => (mem1 c).mpr ?_
        rcases (mem2 c).mp hc with h | h
        · exact .inl (hfp c h)
        · exact .inr h
      · refine fun q => q.trans fun c hc => ?_
        rcases (mem1 c).mp hc with h | h
        · exact ((S.rch c).mpr (.one h)).mono fun d hd => (mem2 d).mpr (.inl hd)
        · exact .one ((mem2 c).mpr (.inr h))
theorem take_split {α : Type} {l : List α} {i : Nat} {x : α} (h : l[i]? = some x) : l = l.take i ++ x :: l.drop (i + 1) := by
  obtain ⟨hi, e⟩ := List.getElem?_eq_some_iff.mp h
  subst e
  rw [← List.drop_eq_getElem_cons hi, List.take_append_drop]
theorem take_one {α : Type} {l : List α} {i : Nat} {x : α} (h : l[i]? = some x) : l.take (i + 1) = l.take i ++ [x] := by
  rw [List.take_add_one, h]; rfl
theorem lst_take {s : List Int} {i : Nat} {x : Int} (h : s[i]? = some x) : lst (s.take (i + 1)) = stepL mb (lst (s.take i)) x := by
  unfold lst
  rw [take_one h, List.foldl_append]; rfl
theorem sch_take {cs s : List Int} (hs : s.Pairwise (· ≤ ·)) (hm : ∀ c, c ∈ cs ↔ c ∈ s) : ∀ i, i ≤ s.length → Sch cs (s.take i) (lst (s.take i))
  | 0, _ => by rw [List.take_zero]; exact Sch.nil
  | i + 1, h => by
    have hx : s[i]? = some s[i] := List.getElem?_eq_getElem h
    have e := take_split hx
    rw [lst_take hx, take_one hx]
    refine Sch.turn (r := s.drop (i + 1)) ?_ ?_ (sch_take hs hm i (Nat.le_of_lt h))
    · rw [← e]; exact hs
    · rw [← e]; exact hm
theorem lst_len_le (s : List Int) : ∀ i, (lst (s.take i)).length ≤ i
  | 0 => by simp [lst]
  | i + 1 => by
    cases e : s[i]? with
    | none =>
      have h : s.length ≤ i := List.getElem?_eq_none_iff.mp e
      have q := lst_len_le s i
      rw [List.take_of_length_le h] at q
      rw [List.take_of_length_le (Nat.le_succ_of_le h)]
      omega
    | some x =>
      have q := lst_len_le s i
      rw [lst_take e]
      unfold stepL
      split
      · omega
      · rw [List.length_append, List.length_singleton]; omega
theorem lst_mem {s : List Int} : ∀ i, ∀ x ∈ lst (s.take i), x ∈ s
  | 0, x, h => by simp [lst] at h
  | i + 1, x, h => by
    cases e : s[i]? with
    | none =>
      have hl : s.length ≤ i := List.getElem?_eq_none_iff.mp e
      rw [List.take_of_length_le (Nat.le_succ_of_le hl), ← List.take_of_length_le hl] at h
      exact lst_mem i x h
    | some y =>
      rw [lst_take e] at h
      unfold stepL at h
      split at h
      · exact lst_mem i x h
      · rcases List.mem_append.mp h with h | h
        · exact lst_mem i x h
        · rw [List.mem_singleton.mp h]; exact List.mem_of_getElem? e
/-- what least counts are -/
structure IsLst (cs R : List Int) : Prop where
  isL : IsL cs R
  rch : ∀ n, Rch (· ∈ R) n ↔ Rch (· ∈ cs) n
theorem lst_is {cs s : List Int} (hs : s.Pairwise (· ≤ ·)) (hm : ∀ c, c ∈ cs ↔ c ∈ s) : IsLst cs (lst s) := by
  have S := sch_take hs hm s.length (Nat.le_refl _)
  rw [List.take_length] at S
  refine ⟨⟨S.srt, fun x => (S.mem x).trans (by rw [hm])⟩, fun n => (S.rch n).trans ?_⟩
  have e : (· ∈ s) = (· ∈ cs) := funext fun c => propext (hm c).symm
  rw [e]
theorem IsLst.self {cs R : List Int} (a : IsLst cs R) : IsL R R :=
  ⟨a.isL.srt, fun x => ⟨fun h => ⟨h, fun z => ((a.isL.mem x).mp h).2 (z.mono fun c hc => ⟨((a.isL.mem c).mp hc.1).1, hc.2⟩)⟩, fun h => h.1⟩⟩
theorem IsLst.more {cs ds R : List Int} {b : Int} (hp : Pos cs) (hb : Rch (· ∈ cs) b) (hm : ∀ x, x ∈ ds ↔ x ∈ cs ∨ x = b) (a : IsLst cs R) : IsL ds R := by
  refine ⟨a.isL.srt, fun x => ?_⟩
  rw [a.isL.mem x, hm]
  have hb' := Rch.le hp hb
  constructor
  · rintro ⟨h1, h2⟩
    refine ⟨.inl h1, fun z => h2 (z.trans fun c hc => ?_)⟩
    rcases (hm c).mp hc.1 with h | h
    · exact .one ⟨h, hc.2⟩
    · subst h
      exact hb'.mono fun d hd => ⟨hd.1, by have := hc.2; have := hd.2; omega⟩
  · rintro ⟨h1, h2⟩
    rcases h1 with h1 | h1
    · exact ⟨h1, fun z => h2 (z.mono fun c hc => ⟨(hm c).mpr (.inl hc.1), hc.2⟩)⟩
    · subst h1
      by_cases hx : x ∈ cs
      · exact ⟨hx, fun z => h2 (z.mono fun c hc => ⟨(hm c).mpr (.inl hc.1), hc.2⟩)⟩
      · refine absurd (hb'.mono fun c hc => ⟨(hm c).mpr (.inl hc.1), ?_⟩) h2
        have hne : c ≠ x := fun z => hx (z ▸ hc.1)
        have := hc.2
        omega
theorem rch_more {cs ds : List Int} {b : Int} (hb : Rch (· ∈ cs) b) (hm : ∀ x, x ∈ ds ↔ x ∈ cs ∨ x = b) (n : Int) : Rch (· ∈ ds) n ↔ Rch (· ∈ cs) n :=
  ⟨fun q => q.trans fun c hc => by
    rcases (hm c).mp hc with h | h
    · exact .one h
    · rw [h]; exact hb, fun q => q.mono fun c hc => (hm c).mpr (.inl hc)⟩
theorem rch_congr {cs ds : List Int} (hm : ∀ x, x ∈ ds ↔ x ∈ cs) (n : Int) : Rch (· ∈ ds) n ↔ Rch (· ∈ cs) n := by
  have e : (· ∈ ds) = (· ∈ cs) := funext fun c => propext (hm c)
  rw [e]
/-! ### common counts -/
def gstep (g c : Int) : Int := ((Nat.gcd g.natAbs c.natAbs : Nat) : Int)
def gl (cs : List Int) : Int := cs.foldl gstep 0
theorem gl_take {s : List Int} {i : Nat} {x : Int} (h : s[i]? = some x) : gl (s.take (i + 1)) = gstep (gl (s.take i)) x := by
  unfold gl
  rw [take_one h, List.foldl_append]; rfl
theorem gfold_nonneg : ∀ (cs : List Int) (g : Int), 0 ≤ g → 0 ≤ cs.foldl gstep g
  | [], g, h => h
  | c :: r, g, _ => gfold_nonneg r (gstep g c) (Int.natCast_nonneg _)
theorem gl_nonneg (cs : List Int) : 0 ≤ gl cs := gfold_nonneg cs 0 (Int.le_refl 0)
theorem gfold_dvd : ∀ (cs : List Int) (g : Int) (d : Nat), d ∣ (cs.foldl gstep g).natAbs ↔ d ∣ g.natAbs ∧ ∀ c ∈ cs, d ∣ c.natAbs
  | [], g, d => by simp
  | c :: r, g, d => by
    rw [List.foldl_cons, gfold_dvd r (gstep g c) d]
    unfold gstep
    rw [Int.natAbs_natCast, Nat.dvd_gcd_iff]
    constructor
    · rintro ⟨⟨h1, h2⟩, h3⟩
      exact ⟨h1, fun x hx => (List.mem_cons.mp hx).elim (fun e => e ▸ h2) (h3 x)⟩
    · rintro ⟨h1, h2⟩
      exact ⟨⟨h1, h2 c List.mem_cons_self⟩, fun x hx => h2 x (List.mem_cons_of_mem _ hx)⟩
theorem gl_dvd (cs : List Int) (d : Nat) : d ∣ (gl cs).natAbs ↔ ∀ c ∈ cs, d ∣ c.natAbs := by
  unfold gl
  rw [gfold_dvd]
  simp
theorem gl_eq {cs ds : List Int} (h : ∀ d : Nat, (∀ c ∈ cs, d ∣ c.natAbs) ↔ ∀ c ∈ ds, d ∣ c.natAbs) : gl cs = gl ds := by
  have e : (gl cs).natAbs = (gl ds).natAbs := Nat.dvd_antisymm ((gl_dvd ds _).mpr ((h _).mp ((gl_dvd cs _).mp (Nat.dvd_refl _)))) ((gl_dvd cs _).mpr ((h _).mpr ((gl_dvd ds _).mp (Nat.dvd_refl _))))
  have h1 := gl_nonneg cs
  have h2 := gl_nonneg ds
  omega
theorem rch_dvd {cs : List Int} {d : Nat} (h : ∀ c ∈ cs, d ∣ c.natAbs) {n : Int} (r : Rch (· ∈ cs) n) : d ∣ n.natAbs := by
  rw [← Int.ofNat_dvd_left] at *
  induction r with
  | zero => exact Int.dvd_zero _
  | step hc _ ih => exact Int.dvd_add ih (Int.ofNat_dvd_left.mpr (h _ hc))
theorem gl_more {cs ds : List Int} {b : Int} (hb : Rch (· ∈ cs) b) (hm : ∀ x, x ∈ ds ↔ x ∈ cs ∨ x = b) : gl ds = gl cs :=
  gl_eq fun d => ⟨fun h c hc => h c ((hm c).mpr (.inl hc)), fun h c hc => by
    rcases (hm c).mp hc with q | q
    · exact h c q
    · rw [q]; exact rch_dvd h hb⟩
theorem gl_congr {cs ds : List Int} (hm : ∀ x, x ∈ ds ↔ x ∈ cs) : gl ds = gl cs := gl_eq fun d => ⟨fun h c hc => h c ((hm c).mpr hc), fun h c hc => h c ((hm c).mp hc)⟩
end K21

namespace K21
open PySem PySem.Spec PyProof.Rows L2 Fp
def top (i : Nat) : Stmt := PySem.Challenge.pw_fromplaces_k48_any_value_as_making.main.body.getD i (.Pass ⟨0, 0, 0, 0⟩)
abbrev sInteger : Stmt := top 11
abbrev sList : Stmt := top 13
/-- what the module's names hold -/
structure Mg (mg : Str → Option Value) : Prop where
  isi : mg "isinstance" = none
  int : mg "int" = none
  bool : mg "bool" = none
  list : mg "list" = none
  tuple : mg "tuple" = none
  len : mg "len" = none
  all : mg "all" = none
  any : mg "any" = none
  range : mg "range" = none
  enum : mg "enumerate" = none
  sorted : mg "sorted" = none
  set : mg "set" = none
  repr : mg "repr" = none
  abs : mg "abs" = none
  max : mg "max" = none
  divmod : mg "divmod" = none
  zip : mg "zip" = none
  sum : mg "sum" = none
  str : mg "str" = none
  lcm : mg "lcm" = some (.builtin "math.lcm")
  gcd : mg "gcd" = some (.builtin "math.gcd")
/-- a value is handed back, what is tracked is as it was -/
abbrev Ret (H : Hp) (Q : VK) (v : V) : Prop := ∀ H', Same H H' → Q v H'
theorem ifF {c A B : Prop} [Decidable c] (h : ¬ c) (b : B) : if decide c = true then A else B := by rw [decide_eq_false h]; exact iteF b
theorem ifT {c A B : Prop} [Decidable c] (h : c) (a : A) : if decide c = true then A else B := by rw [decide_eq_true h]; exact iteT a
abbrev VI (ns : List Int) : List V := ns.map V.int
theorem vi_at {ns : List Int} {i : Nat} {x : V} (h : (VI ns)[i]? = some x) : ∃ n, ns[i]? = some n ∧ x = .int n := by
  rw [List.getElem?_map] at h
  cases e : ns[i]? with
  | none => rw [e] at h; cases h
  | some n => rw [e] at h; exact ⟨n, rfl, (Option.some.inj h).symm⟩
section
variable {P : Program} {w : World} {K : PySem.W.Frag} {mg : Str → Option Value} {base : Heap} {k : Nat}
/-! ### whole numbers and lists -/
def spInteger : Sp := fun vs H Q _ => ∃ i : Int, vs = [.int i] ∧ Ret H Q (.bl true)
theorem sc6 : FnScope ["value"] ["value"] (defScope sInteger) := ⟨rfl, rfl, rfl, by decide +kernel, rfl, by decide +kernel, by decide +kernel⟩
theorem d_integer (B : Bnd K mg "is_integer" sInteger) (M : Mg mg) : Def P w K mg base (k + 1) "is_integer" sInteger ["value"] spInteger := by
  refine def_of B sc6 (by rintro _ _ _ _ ⟨i, rfl, _⟩; rfl) (fun _ _ _ _ _ _ us hl => match us, hl with | [_], _ => rfl) fun f cdv A outer s H vs Q E hr h => ?_
  obtain ⟨i, rfl, q⟩ := h
  refine ⟨_, pss_one (ps_ret (pe_and (pe_callB call_isi (by rfl) M.isi (by decide +kernel) (pa_cons (pv 0) (pa_cons (pe_bltn (v := .ty "int") (by rfl) M.int (by decide +kernel) rfl) pa_nil)))
    (pe_one (pe_not (pe_callB call_isi (by rfl) M.isi (by decide +kernel) (pa_cons (pv 0) (pa_cons (pe_bltn (v := .ty "bool") (by rfl) M.bool (by decide +kernel) rfl) pa_nil))))))), ?_⟩
  refine ⟨_, rfl, _, _, _, _, true, rfl, .ty _, .base (.int i), kit_int, true, rfl, iteT ?_⟩
  exact ⟨_, rfl, _, _, _, _, false, rfl, .ty _, .base (.int i), kit_int_bool, false, rfl, q H (Same.refl H)⟩
end
theorem all_true {n : Nat} : ((List.range n).filterMap fun _ => some (V.bl true)) = (List.replicate n true).map V.bl := by
  induction n with
  | zero => rfl
  | succ n ih => rw [fm_succ, ih, List.replicate_succ', List.map_append]; rfl
theorem all_rep : ∀ n : Nat, (List.replicate n true).all id = true
  | 0 => rfl
  | n + 1 => by rw [List.replicate_succ, List.all_cons, all_rep n]; rfl
theorem vi_len (ns : List Int) : (VI ns).length = ns.length := List.length_map _
theorem small {n : Nat} (h : n ≤ 1000) : n < sizeLine := small1000 h
abbrev sPot : Stmt := top 52
abbrev sDraw : Stmt := top 53
abbrev sPick : Stmt := top 54
/-- a pot: two numbers, none below 0, the second one small -/
def PotOk (H : Hp) (p : Addr) : Prop := ∃ u v : Int, H p = some (.lst [.int u, .int v]) ∧ 0 ≤ u ∧ 0 ≤ v ∧ v ≤ 2147483587
theorem PotOk.same {H H' : Hp} {p : Addr} (h : PotOk H p) (e : Same H H') : PotOk H' p := let ⟨u, v, a, b⟩ := h; ⟨u, v, e _ _ a, b⟩
section
variable {P : Program} {w : World} {K : PySem.W.Frag} {mg : Str → Option Value} {base : Heap} {k : Nat}
def spPot (K : PySem.W.Frag) : Sp := fun vs H Q _ => ∃ (a : Addr) (ns : List Int) (k : Int), vs = [.ref a, .int k] ∧ SqL K H a (VI ns) ∧ 0 ≤ k ∧ k ≤ 100 ∧ ∀ p H', Same H H' → H p = none → PotOk H' p → Q (.ref p) H'
theorem sc23 : FnScope ["_law_script", "_law_k", "_law_cell"] ["_law_script", "_law_k"] (defScope sPot) := ⟨rfl, rfl, rfl, by decide +kernel, rfl, by decide +kernel, by decide +kernel⟩
theorem d_pot (B : Bnd K mg "_law_pot" sPot) (M : Mg mg) : Def P w K mg base (k + 1) "_law_pot" sPot ["_law_script", "_law_k"] (spPot K) := by
  refine def_of B sc23 (by rintro _ _ _ _ ⟨a, ns, n, rfl, _⟩; rfl) (fun _ _ _ _ _ _ us hl => match us, hl with | [_, _], _ => rfl) fun f cdv A outer s H vs Q E hr h => ?_
  obtain ⟨a, ns, n, rfl, hS, h0, h1, q⟩ := h
  refine ⟨_, pss_cons (ps_set (i := 2) sc23.nd rfl (.inl rfl) (pe_op op_add (pe_op op_mul pe_int (pv 1)) pe_int))
    (C8.pss_cut (ps_if (pt_cmpR op_lt (pv 1) (pe_callB call_len_seq (by rfl) M.len boot_len (pa_cons (pv 0) pa_nil)) (nomark _)) (pss_one (ps_set (i := 2) sc23.nd rfl (.inl rfl) (pe_callB call_abs (by rfl) M.abs (by decide +kernel) (pa_cons (pe_ix ix_list (pv 0) (pv 1) (fun _ _ => rfl)) pa_nil)))) pss_nil)
    (pss_one (ps_ret (pe_lst (pa_cons (pe_callB (call_max2 rfl) (by rfl) M.max (by decide +kernel) (pa_cons pe_int (pa_cons (pe_op op_sub (pv 2) (pe_op op_pow pe_int pe_int)) pa_nil)))
      (pa_cons (pe_op op_add (pe_op op_mod (pe_callTy call_int1 (by rfl) M.int (by decide +kernel) (pa_cons (pe_op op_add (pe_op op_add (pe_op op_mul (pe_op op_mod (pe_callTy call_int1 (by rfl) M.int (by decide +kernel) (pa_cons (pv 2) pa_nil)) pe_int) pe_int) (pe_op op_mul pe_int (pv 1))) pe_int) pa_nil)) pe_int) pe_int) pa_nil)))))), ?_⟩
  have l0 := vi_len ns
  refine ⟨_, rfl, _, _, rfl, rfl, .inl ⟨by omega, by omega⟩, _, _, rfl, rfl, ?_⟩
  refine ⟨fun σ' H' => ∃ c : Int, σ' = [some (.ref a), some (.int n), some (.int c)] ∧ H' = H, ?_, ?_⟩
  · refine ⟨_, rfl, _, rfl, a, _, rfl, .inl hS, _, _, rfl, rfl, _, rfl, ite2 (fun c => ?_) (fun c => ?_)⟩
    · have c' := of_decide_eq_true c
      rw [l0] at c'
      have hz : ns[n.toNat]? = some ns[n.toNat] := List.getElem?_eq_getElem (by omega)
      exact ⟨_, rfl, _, rfl, a, _, n, .int ns[n.toNat], rfl, rfl, hS, at_of (j := n.toNat) (by omega) (by rw [List.getElem?_map, hz]; rfl), _, rfl, _, rfl, rfl⟩
    · exact ⟨_, rfl, rfl⟩
  rintro _ _ ⟨c, rfl, rfl⟩
  refine ⟨_, rfl, 10, 18, rfl, rfl, ⟨by omega, by omega, by decide⟩, _, _, rfl, rfl, _, _, rfl, ?_⟩
  refine ⟨_, rfl, Or.inl ⟨_, rfl, ?_⟩⟩
  refine ⟨_, _, rfl, rfl, (by omega), _, _, rfl, rfl, .inl ⟨by omega, by omega⟩, _, rfl, _, _, rfl, rfl, .inl ⟨by omega, by omega⟩, _, _, rfl, rfl, _, _, rfl, rfl, ?_⟩
  refine Or.inl ⟨_, rfl, ?_⟩
  refine ⟨_, _, rfl, rfl, (by omega), _, _, rfl, rfl, (by show 2 ≤ sizeLine; decide), fun p hp => ?_⟩
  refine q p _ (same_new hp) hp ⟨_, _, upd_same, ?_, ?_, ?_⟩
  · split <;> omega
  · omega
  · omega
/-! ### draws -/
def spDraw : Sp := fun vs H Q _ => ∃ (p : Addr) (m : Int), vs = [.ref p, .int m] ∧ PotOk H p ∧ 1 ≤ m ∧ m ≤ 1000000 ∧ ∀ d H', 0 ≤ d → d < m → PotOk H' p → Keep p H H' → Q (.int d) H'
theorem sc24 : FnScope ["_law_pot_here", "_law_size", "_law_digit"] ["_law_pot_here", "_law_size"] (defScope sDraw) := ⟨rfl, rfl, rfl, by decide +kernel, rfl, by decide +kernel, by decide +kernel⟩
theorem d_draw (B : Bnd K mg "_law_draw" sDraw) (M : Mg mg) : Def P w K mg base (k + 1) "_law_draw" sDraw ["_law_pot_here", "_law_size"] spDraw := by
  refine def_of B sc24 (by rintro _ _ _ _ ⟨a, n, rfl, _⟩; rfl) (fun _ _ _ _ _ _ us hl => match us, hl with | [_, _], _ => rfl) fun f cdv A outer s H vs Q E hr h => ?_
  obtain ⟨p, m, rfl, ⟨u, v, hp, hu, hv, hv2⟩, h1, h2, q⟩ := h
  refine ⟨_, pss_cons (ps_if (pt_cmpR op_gt (pe_ix ix_list (pv 0) pe_int (fun _ _ => rfl)) pe_int (nomark _))
      (pss_cons (ps_asg (pe_callB call_divmod (by rfl) M.divmod (by decide +kernel) (pa_cons (pe_ix ix_list (pv 0) pe_int (fun _ _ => rfl)) (pa_cons (pv 1) pa_nil))) (pg_tup rfl (pgs_cons (pg_sub (pv 0) pe_int set_list) (pgs_cons (pg_name (i := 2) sc24.nd rfl (.inl rfl)) pgs_nil))))
        (pss_one (ps_ret (pv 2)))) pss_nil)
    (pss_cons (ps_asg (pe_op op_mod (pe_callTy call_int1 (by rfl) M.int (by decide +kernel) (pa_cons (pe_op op_add (pe_op op_mul (pe_ix ix_list (pv 0) pe_int (fun _ _ => rfl)) pe_int) pe_int) pa_nil)) pe_int) (pg_sub (pv 0) pe_int set_list))
    (pss_one (ps_ret (pe_op op_mod (pe_callTy call_int1 (by rfl) M.int (by decide +kernel) (pa_cons (pe_op op_fdiv (pe_op op_mod (pe_callTy call_int1 (by rfl) M.int (by decide +kernel) (pa_cons (pe_op op_mul (pe_ix ix_list (pv 0) pe_int (fun _ _ => rfl)) (pe_ix ix_list (pv 0) pe_int (fun _ _ => rfl))) pa_nil)) pe_int) pe_int) pa_nil)) (pv 1))))), ?_⟩
  refine ⟨_, rfl, p, _, 0, .int u, rfl, rfl, SqL.of hp, rfl, u, 0, rfl, rfl, _, rfl, ite2 (fun c => ?_) (fun c => ?_)⟩
  · have c' := of_decide_eq_true c
    refine ⟨_, rfl, p, _, 0, .int u, rfl, rfl, SqL.of hp, rfl, _, rfl, u, m, rfl, ⟨by omega, by omega⟩, fun t nt => ?_⟩
    have ne : p ≠ t := ne_of_none hp nt
    refine ⟨t, _, rfl, SqT.of upd_same, rfl, _, _, rfl, _, rfl, p, _, 0, 0, rfl, rfl, by rw [upd_ne ne]; exact hp, rfl, _, _, rfl, rfl, _, rfl, ?_⟩
    refine q _ _ (Int.emod_nonneg _ (by omega)) (Int.emod_lt_of_pos _ (by omega)) ⟨u / m, v, upd_same, Int.ediv_nonneg hu (by omega), hv, hv2⟩ ?_
    exact (Keep.of (same_new nt)).trans keep_upd
  · refine ⟨_, rfl, p, _, 1, .int v, rfl, rfl, SqL.of hp, rfl, v, _, rfl, rfl, .inl ⟨by omega, by omega⟩, _, _, rfl, rfl, Or.inl ⟨_, rfl, _, _, rfl, rfl, by omega, ?_⟩⟩
    refine ⟨_, rfl, p, _, 1, 1, rfl, rfl, hp, rfl, ?_⟩
    have b0 : 0 ≤ (v * 39373 + 3623) % 2147483587 := Int.emod_nonneg _ (by omega)
    have b1 : (v * 39373 + 3623) % 2147483587 < 2147483587 := Int.emod_lt_of_pos _ (by omega)
    have hp' : (upd H p (.lst ([V.int u, V.int v].set 1 (.int ((v * 39373 + 3623) % 2147483587))))) p = some (.lst [.int u, .int ((v * 39373 + 3623) % 2147483587)]) := upd_same
    refine ⟨_, rfl, p, _, 1, _, rfl, rfl, SqL.of hp', rfl, _, rfl, p, _, 1, _, rfl, rfl, SqL.of hp', rfl, _, _, rfl, rfl, .inl ⟨by omega, by omega⟩, Or.inl ⟨_, rfl, _, _, rfl, rfl, by omega, _, _, rfl, rfl, ⟨by omega, by omega⟩, Or.inl ⟨_, rfl, ?_⟩⟩⟩
    refine ⟨_, rfl, _, m, rfl, rfl, by omega, ?_⟩
    exact q _ _ (Int.emod_nonneg _ (by omega)) (Int.emod_lt_of_pos _ (by omega)) ⟨u, _, hp', hu, b0, by omega⟩ keep_upd
def spPick : Sp := fun vs H Q _ => ∃ (p b : Addr) (xs : List V), vs = [.ref p, .ref b] ∧ PotOk H p ∧ H b = some (.lst xs) ∧ b ≠ p ∧ 1 ≤ xs.length ∧ xs.length ≤ 1000 ∧ ∀ x H', x ∈ xs → PotOk H' p → Keep p H H' → Q x H'
theorem sc25 : FnScope ["_law_pot_here", "_law_some"] ["_law_pot_here", "_law_some"] (defScope sPick) := ⟨rfl, rfl, rfl, by decide +kernel, rfl, by decide +kernel, by decide +kernel⟩
theorem d_pick (B : Bnd K mg "_law_pick" sPick) (M : Mg mg) (D : Def P w K mg base k "_law_draw" sDraw ["_law_pot_here", "_law_size"] spDraw) : Def P w K mg base (k + 1) "_law_pick" sPick ["_law_pot_here", "_law_some"] spPick := by
  refine def_of B sc25 (by rintro _ _ _ _ ⟨a, n, x, rfl, _⟩; rfl) (fun _ _ _ _ _ _ us hl => match us, hl with | [_, _], _ => rfl) fun f cdv A outer s H vs Q E hr h => ?_
  obtain ⟨p, b, xs, rfl, hp, hb, ne, l1, l2, q⟩ := h
  refine ⟨_, pss_one (ps_ret (pe_ix ix_list (pv 1) (pe_d D hr (by rfl) (pa_cons (pv 0) (pa_cons (pe_callB call_len_seq (by rfl) M.len boot_len (pa_cons (pv 1) pa_nil)) pa_nil))) (fun _ _ => rfl))), ?_⟩
  refine ⟨_, rfl, _, rfl, _, rfl, b, xs, rfl, .inl (SqL.of hb), p, _, rfl, hp, by omega, by omega, fun d H' d0 d1 hp' kp => ?_⟩
  have hd : d.toNat < xs.length := by omega
  exact ⟨b, xs, d, xs[d.toNat], rfl, rfl, SqL.of (kp _ _ ne hb), at_of (j := d.toNat) (by omega) (List.getElem?_eq_getElem hd), q _ _ (List.getElem_mem hd) hp' kp⟩
end
/-! ### lists of ints as data -/
abbrev DI (ns : List Int) : PyData := .list (ns.map PyData.int)
theorem dpAll_ints {K : PySem.W.Frag} {H : Hp} : ∀ ns : List Int, DpAll K H (VI ns) (ns.map PyData.int)
  | [] => .nil
  | n :: r => .cons (.int n) (dpAll_ints r)
theorem dp_ints {K : PySem.W.Frag} {H : Hp} {a : Addr} {ns : List Int} (h : SqL K H a (VI ns)) : Dp K H (.ref a) (DI ns) := .lst h (dpAll_ints ns)
theorem di_lay : ∀ ns : List Int, PyData.canLayAll0 (ns.map PyData.int) = true
  | [] => rfl
  | n :: r => by rw [List.map_cons, PyData.canLayAll0, di_lay r]; rfl
theorem di_depthAll : ∀ ns : List Int, PyData.depthAll (ns.map PyData.int) ≤ 1
  | [] => by simp [PyData.depthAll]
  | n :: r => by
    have := di_depthAll r
    rw [List.map_cons, PyData.depthAll]
    simp only [PyData.depth]
    omega
theorem di_depth (ns : List Int) : (DI ns).depth ≤ 8 := by
  have := di_depthAll ns
  simp only [PyData.depth]
  omega
theorem di_shaped (ns : List Int) : SeqAt.shaped (DI ns) = true := by
  unfold SeqAt.shaped
  have h1 : (DI ns).canLay0 = true := by rw [PyData.canLay0]; exact di_lay ns
  have h2 := di_depth ns
  rw [h1, decide_eq_true (by omega)]; rfl
theorem di_refl (ns : List Int) : PyData.eqv (DI ns) (DI ns) = true := SeqAt.eqv_refl _ (by rw [PyData.canLay0]; exact di_lay ns)
theorem di_nil : ∀ ns : List Int, PyData.eqv (DI ns) (DI []) = ns.isEmpty
  | [] => di_refl []
  | n :: r => by rw [PyData.eqv, List.map_cons, List.map_nil]; rfl
theorem int_short : ∀ n : Nat, n < 1000 → (PyData.shown (.int (n : Int))).length ≤ 8 := by decide +kernel
theorem int_log : ∀ n : Nat, n < 1000 → n.log2 < 1920 := fun n h => by
  have h1 : n < 2 ^ 10 := by omega
  by_cases h0 : n = 0
  · subst h0; decide
  · have := (Nat.log2_lt h0).mpr h1
    omega
abbrev Sm (ns : List Int) : Prop := ∀ n ∈ ns, 0 ≤ n ∧ n < 1000
theorem di_leaves : ∀ ns : List Int, Sm ns → PyData.leavesShortAll 8 (ns.map PyData.int) = true
  | [], _ => rfl
  | n :: r, h => by
    have h1 := h n List.mem_cons_self
    rw [List.map_cons, PyData.leavesShortAll, di_leaves r fun x hx => h x (List.mem_cons_of_mem _ hx), Bool.and_true, PyData.leavesShort]
    have h2 := int_short n.toNat (by omega)
    rw [show ((n.toNat : Nat) : Int) = n by omega] at h2
    exact decide_eq_true h2
theorem di_showAll : ∀ ns : List Int, Sm ns → PyData.showableAll (ns.map PyData.int) = true
  | [], _ => rfl
  | n :: r, h => by
    have h1 := h n List.mem_cons_self
    rw [List.map_cons, PyData.showableAll, di_showAll r fun x hx => h x (List.mem_cons_of_mem _ hx), Bool.and_true, PyData.showable]
    exact decide_eq_true (int_log n.natAbs (by omega))
theorem di_dictAll : ∀ ns : List Int, PyData.hasDictAll (ns.map PyData.int) = false
  | [] => rfl
  | n :: r => by rw [List.map_cons, PyData.hasDictAll, di_dictAll r]; rfl
theorem di_bulk : ∀ ns : List Int, PyData.bulkAll (ns.map PyData.int) = ns.length
  | [] => rfl
  | n :: r => by rw [List.map_cons, PyData.bulkAll, di_bulk r, PyData.bulk, List.length_cons]; omega
/-- what repr asks of a list of small ints -/
theorem di_repr {ns : List Int} (h : Sm ns) (hz : ns.length ≤ 1000) : (DI ns).showable = true ∧ (DI ns).hasDict = false ∧ (DI ns).depth ≤ 8 ∧ (DI ns).shown.length ≤ sizeLine := by
  refine ⟨by rw [PyData.showable]; exact di_showAll ns h, by rw [PyData.hasDict]; exact di_dictAll ns, di_depth ns, PyData.shown_fits_bulk (B := 8) (by omega) (by omega) (by rw [PyData.leavesShort]; exact di_leaves ns h) ?_⟩
  rw [PyData.bulk, di_bulk]
  omega
/-- a pair of bools -/
theorem db_repr (b c : Bool) : (PyData.list [.bool b, .bool c]).showable = true ∧ (PyData.list [.bool b, .bool c]).hasDict = false ∧ (PyData.list [.bool b, .bool c]).depth ≤ 8 ∧ (PyData.list [.bool b, .bool c]).shown.length ≤ sizeLine := by
  cases b <;> cases c <;> refine ⟨by decide +kernel, by decide +kernel, by decide +kernel, ?_⟩ <;> exact Nat.le_trans (show _ ≤ 100 by decide +kernel) (by decide)
/-! ### slices -/
theorem cut_last (L : List V) (x : V) : cutV (L ++ [x]) none (some (-1)) = L := by
  have e : HT.sIx (L ++ [x]).length (L ++ [x]).length (some (-1)) = L.length := by
    show (if (-1 : Int) < 0 then ((-1 : Int) + ((L ++ [x]).length : Int)).toNat else min (-1 : Int).toNat (L ++ [x]).length) = L.length
    rw [if_pos (by decide), List.length_append, List.length_singleton]
    omega
  unfold cutV
  rw [e, HT.sIx_none, List.drop_zero, Nat.sub_zero]
  simp
/-! ### comprehensions over a list -/
section
variable {K : PySem.W.Frag} {a : Addr} {xs : List V} {g : TG} {tt : TT} {te : TE} {vs : List Nat} {σ : L2.St} {H : Hp}
theorem lc_l {Dd : Addr} {Qd : Hp → Prop} (f : Nat → Option V) (hS : SqL K H a xs) (hD : H Dd = none) (hz : xs.length ≤ sizeLine)
    (hs : ∀ i x H1, xs[i]? = some x → Same H H1 → LcTurn f g tt te vs σ i x H1 H1)
    (hd : ∀ H1, Same H H1 → H1 Dd = some (.lst ((List.range xs.length).filterMap f)) → Qd H1) : ∃ W : Nat → Nat → Hp → Prop, (∃ m, W 0 m (upd H Dd (.lst []))) ∧ ∀ i m H, W i m H →
      ((Itl K a).stop i H ∧ Qd H) ∨ ((Itl K a).go i H ∧ ∃ Nx : Hp → Prop, (∀ H', Nx H' → ∃ m', m' < m ∧ W (i + 1) m' H') ∧ ∀ x H', (Itl K a).yld i H x H' → g x (wipe σ vs) H' fun σ2 H2 => wipe σ2 vs = wipe σ vs ∧ tt σ2 H2 fun b H3 =>
        if b = true then te σ2 H3 fun y H4 => ∃ acc, H4 Dd = some (.lst acc) ∧ acc.length < sizeLine ∧ Nx (upd H4 Dd (.lst (acc ++ [y]))) else Nx H3) :=
  lc_list (xs := xs) (LcInv f H Dd) (LcInv.start hD) (fun i H1 _ p => p.1.seq hS) (fun i x H1 hx p => p.turn hD (Nat.lt_of_lt_of_le (List.getElem?_eq_some_iff.mp hx).1 hz) (Same.refl _) (hs i x H1 hx p.1)) fun H1 p => hd H1 p.1 p.2
end
end K21

namespace Fp
open PySem PySem.Spec PyProof.Rows L2
/-! ### the class Ratio -/
structure RCls (K : PySem.W.Frag) (mg : Str → Option Value) (C fI fR : Addr) : Prop where
  cl : Cls K C
  nT : NoAttr K C "_top"
  nB : NoAttr K C "_bottom"
  mgC : mg "Ratio" = some (.ref C)
  make : Mk K C fI
  rpA : PySem.W.findIn K (.ref C) "__repr__" = some (some (.ref fR))
  rpF : PySem.W.isFn K (.ref fR) = true
  isA : PySem.W.findIn K (.ref C) "__class__" = some (some (.builtin "object.__class__"))
  isN : PySem.W.specialIn K (.builtin "object.__class__") "__get__" = some (some (.builtin "getset_descriptor.__get__"))
  isT : PySem.W.takesIn K (.builtin "object.__class__") = some true
  isM : PySem.W.mroIn K C (.type "object") = some true
  kI : PySem.W.kitOne K (.ref C) (.type "int") = some false
  kB : PySem.W.kitOne K (.ref C) (.type "bool") = some false
  kL : PySem.W.kitOne K (.ref C) (.type "list") = some false
  kT : PySem.W.kitOne K (.ref C) (.type "tuple") = some false
/-- behind __init__: the instance at p holds top and bottom -/
def spRI (C : Addr) : Sp := fun vs H Q _ => ∃ (p dx : Addr) (t b : Int), vs = [.ref p, .int t, .int b] ∧ RdI t b ∧ H p = some (.ins C dx []) ∧ ∀ H', (∀ b o, b ≠ p → H b = some o → H' b = some o) → H' p = some (.ins C dx [("_top", .int t), ("_bottom", .int b)]) → Q .non H'
def spRR (C : Addr) : Sp := spRp fun a H t => ∃ p q, Rat2 C H a p q ∧ okI p ∧ okI q ∧ t = ratText p q
/-- a def's facts, with defaults -/
structure RDef (P : Program) (w : World) (K : PySem.W.Frag) (mg : Str → Option Value) (base : Heap) (k : Nat) (C : Addr) : Prop where
  ex : ∃ (fI fR : Addr) (fdI fdR : FuncData), RCls K mg C fI fR ∧ FnOk P w K mg base CX0 k fI fdI ["self", "top", "bottom"] (spRI C) ∧ (∃ ds, Vals [V.int 1] ds ∧ Binds K fdI ["self", "top", "bottom"] ds) ∧ Binds K fdI ["self", "top", "bottom"] [] ∧
    FnOk P w K mg base CX0 k fR fdR ["self"] (spRR C) ∧ Binds K fdR ["self"] []
section
variable {X : Cx} {C : Addr} {k : Nat}
theorem RDef.own (D : RDef X.prog X.w X.K X.mg X.base k C) (hr : Room (k + 1) X.A) : OwnRp X C k := by
  obtain ⟨fI, fR, fdI, fdR, R, _, _, _, FR, bR⟩ := D.ex
  constructor
  · intro H0 Cl a p q r b1 b2
    obtain ⟨dx, e⟩ := id r
    exact RpG.ins FR R.rpA R.rpF bR (pass0 (X := X)) e fun H sm => ⟨p, q, r.same sm, b1, b2, rfl⟩
  · intro pins s σ H a p q I r b1 b2
    obtain ⟨dx, e⟩ := id r
    exact top_own FR R.rpA R.rpF bR (pass0 (X := X)) hr I e ⟨p, q, r, b1, b2, rfl⟩
/-- Ratio(e) -/
def tRat (C : Addr) (t : TA) : TE := fun σ H Q => t σ H fun vs H1 => ∃ i : Int, vs = [.int i] ∧ ∀ a H', H1 a = none → Same H1 H' → Rat2 C H' a i 1 → Q (.ref a) H'
theorem pe_rat (D : RDef X.prog X.w X.K X.mg X.base k C) (hr : Room (k + 1) X.A) {p pos : Pos} {e : Expr} {es : List Expr} {t : TA} (hg : Gl X "Ratio") (ha : PA X (e :: es) t)
    (he : starEach (e :: es) X.env = (false, eval e X.env) :: starEach es X.env := by rfl) (hpl : (backTo pos (starEach es X.env)).any (·.1) = false := by rfl) : PE X (.Call (.Name "Ratio" p) (e :: es) [] pos) (tRat C t) := by
  obtain ⟨fI, fR, fdI, fdR, R, FI, ⟨ds, hds, bI⟩, _⟩ := D.ex
  refine ⟨fun pins s σ H Q I h => ?_⟩
  refine wpAny_Call_Name_kw (ld_glob I hg R.mgC ?_ (by decide))
  refine PySem.W.callWith_K (h₀ := X.base) I.ok.mod.kin R.make.kp (thn (ha.run pos pins s σ H _ I h) fun us s1 ⟨vs, H1, I1, r, q⟩ => ⟨I1.kIn, ?_⟩) he hpl
  refine run_make R.make FI hr bI hds (pass0 (X := X)) I1 r fun x dx nx ndx ne => ?_
  obtain ⟨i, rfl, q⟩ := q
  refine ⟨x, dx, i, 1, rfl, rdI_one i, upd_same, fun H' kp hx => ⟨rfl, q x H' nx (fun b o e => ?_) ⟨dx, hx⟩⟩⟩
  have n1 := ne_of_none e nx
  exact kp b o n1 (by rw [upd_ne n1, upd_ne (ne_of_none e ndx)]; exact e)
/-- Ratio(e, f) in lowest terms -/
def tRat2 (C : Addr) (t : TA) : TE := fun σ H Q => t σ H fun vs H1 => ∃ i j : Int, vs = [.int i, .int j] ∧ RdI i j ∧ ∀ a H', H1 a = none → Same H1 H' → Rat2 C H' a i j → Q (.ref a) H'
theorem pe_rat2 (D : RDef X.prog X.w X.K X.mg X.base k C) (hr : Room (k + 1) X.A) {p pos : Pos} {e : Expr} {es : List Expr} {t : TA} (hg : Gl X "Ratio") (ha : PA X (e :: es) t)
    (he : starEach (e :: es) X.env = (false, eval e X.env) :: starEach es X.env := by rfl) (hpl : (backTo pos (starEach es X.env)).any (·.1) = false := by rfl) : PE X (.Call (.Name "Ratio" p) (e :: es) [] pos) (tRat2 C t) := by
  obtain ⟨fI, fR, fdI, fdR, R, FI, _, bI, _⟩ := D.ex
  refine ⟨fun pins s σ H Q I h => ?_⟩
  refine wpAny_Call_Name_kw (ld_glob I hg R.mgC ?_ (by decide))
  refine PySem.W.callWith_K (h₀ := X.base) I.ok.mod.kin R.make.kp (thn (ha.run pos pins s σ H _ I h) fun us s1 ⟨vs, H1, I1, r, q⟩ => ⟨I1.kIn, ?_⟩) he hpl
  refine run_make (dvs := []) R.make FI hr bI .nil (pass0 (X := X)) I1 r fun x dx nx ndx ne => ?_
  obtain ⟨i, j, rfl, rd, q⟩ := q
  refine ⟨x, dx, i, j, rfl, rd, upd_same, fun H' kp hx => ⟨rfl, q x H' nx (fun b o e => ?_) ⟨dx, hx⟩⟩⟩
  have n1 := ne_of_none e nx
  exact kp b o n1 (by rw [upd_ne n1, upd_ne (ne_of_none e ndx)]; exact e)
end
end Fp

namespace Fp
open PySem PySem.Spec PyProof.Rows L2
/-! ### any value -/
def isI : V → Bool
  | .int _ => true
  | _ => false
def isB : V → Bool
  | .bl _ => true
  | _ => false
def isCnt : V → Bool
  | .int i => decide (0 ≤ i)
  | _ => false
def toZ : V → Int
  | .int i => i
  | _ => 0
/-- the items of a list or a tuple -/
def itemsOf (H : Hp) : V → Option (List V)
  | .ref a => match H a with
    | some (.lst xs) => some xs
    | some (.tup xs) => some xs
    | _ => none
  | _ => none
/-- how long a text may be -/
def Bz (d : Nat) : Nat := if d = 0 then 600 else if d = 1 then 36800 else if d = 2 then 2250000 else 16000000
theorem Bz_mono {d e : Nat} (h : d ≤ e) : Bz d ≤ Bz e := by unfold Bz; (repeat' split) <;> omega
theorem Bz_size (d : Nat) : Bz d ≤ sizeLine := by rw [sizeLine_eq]; unfold Bz; (repeat' split) <;> omega
theorem Bz_ge (d : Nat) : 600 ≤ Bz d := by unfold Bz; (repeat' split) <;> omega
def Sk (C : Addr) (H : Hp) (d : Nat) (x : V) : Prop := ∃ t, Sh C H d x t ∧ t.length ≤ Bz d
theorem okI_small {i : Int} (h : i.natAbs < 10 ^ 50) : okS i := h
theorem int_short {i : Int} (h : okS i) : (Str.ofString (toString i)).length ≤ 51 := by
  have := PySem.int_text_length_le10 (a := i) (k := 50) (by omega) h
  have e : (Str.ofString (toString i)).length = (toString i).length := by
    rw [congrFun Str.ofString_eq_byList]
    unfold Str.ofStringByList Str.length
    simp
    try first | rfl | exact String.length_toList
  omega
theorem Sh.more {C : Addr} {H : Hp} {d : Nat} {x : V} {t : Str} (h : Sh C H d x t) : ∀ {e : Nat}, d ≤ e → Sh C H e x t := by
  induction h with
  | int h => exact fun _ => .int h
  | bl b => exact fun _ => .bl b
  | non => exact fun _ => .non
  | str x h => exact fun _ => .str x h
  | own r h1 h2 h3 => exact fun _ => .own r h1 h2 h3
  | lst h1 h0 h2 _ ih =>
    intro e le
    cases e with
    | zero => omega
    | succ e => exact .lst h1 h0 h2 fun i x t a b => ih i x t a b (by omega)
  | tup h1 h0 h2 _ ih =>
    intro e le
    cases e with
    | zero => omega
    | succ e => exact .tup h1 h0 h2 fun i x t a b => ih i x t a b (by omega)
  | dct h1 h0 h2 =>
    intro e le
    cases e with
    | zero => omega
    | succ e => exact .dct h1 h0 h2
  | dcl h1 h2 h3 h4 h5 =>
    intro e le
    match e, le with
    | e + 2, le => exact .dcl h1 h2 h3 h4 h5
    | 0, le => omega
    | 1, le => omega
section
variable {C : Addr} {H H' : Hp} {d : Nat} {x : V}
theorem Sk.same (h : Sk C H d x) (e : Same H H') : Sk C H' d x := let ⟨t, h, l⟩ := h; ⟨t, h.same e, l⟩
theorem Sk.more {e : Nat} (h : Sk C H d x) (le : d ≤ e) : Sk C H e x := let ⟨t, h, l⟩ := h; ⟨t, h.more le, Nat.le_trans l (Bz_mono le)⟩
theorem Sk.int {i : Int} (h : okS i) : Sk C H d (.int i) := ⟨_, .int h, by have := int_short h; have := Bz_ge d; omega⟩
theorem Sk.bl (b : Bool) : Sk C H d (.bl b) := ⟨_, .bl b, by have := Bz_ge d; cases b <;> exact Nat.le_trans (by decide) this⟩
theorem Sk.non : Sk C H d .non := ⟨_, .non, Nat.le_trans (by decide) (Bz_ge d)⟩
theorem Sk.str {x : Str} (h : (reprText x).length ≤ 600) : Sk C H d (.str x) := ⟨_, .str x (by omega), Nat.le_trans h (Bz_ge d)⟩
theorem Sk.own {a : Addr} {p q : Int} (r : Rat2 C H a p q) (h1 : okS p) (h2 : okS q) (h3 : RdI p q) : Sk C H d (.ref a) := ⟨_, .own r h1 h2 h3, by
  have := int_short h1
  have := int_short h2
  have := Bz_ge d
  unfold ratText
  rw [strLen_append, strLen_append, strLen_append, strLen_append]
  have e1 : (Str.ofString "Ratio(").length = 6 := rfl
  have e2 : (Str.ofString ", ").length = 2 := rfl
  have e3 : (Str.ofString ")").length = 1 := rfl
  omega⟩
theorem texts {xs : List V} (h : ∀ x ∈ xs, Sk C H d x) : ∃ ts : List Str, ts.length = xs.length ∧ (∀ t ∈ ts, t.length ≤ Bz d) ∧ ∀ (i : Nat) x t, xs[i]? = some x → ts[i]? = some t → Sh C H d x t := by
  induction xs with
  | nil => exact ⟨[], rfl, (fun t h => by cases h), fun i x t h => by simp at h⟩
  | cons x xs ih =>
    obtain ⟨t, ht, l0⟩ := h x List.mem_cons_self
    obtain ⟨ts, l, bs, hs⟩ := ih fun y hy => h y (List.mem_cons_of_mem _ hy)
    refine ⟨t :: ts, by rw [List.length_cons, List.length_cons, l], fun u hu => ?_, fun i y u h1 h2 => ?_⟩
    · rcases List.mem_cons.mp hu with z | z
      · rw [z]; exact l0
      · exact bs u z
    cases i with
    | zero =>
      simp at h1 h2
      subst h1 h2
      exact ht
    | succ i => exact hs i y u (by simpa using h1) (by simpa using h2)
/-- how many items a list of depth d + 1 may have -/
def Nz (d : Nat) : Nat := if d ≤ 1 then 61 else if d = 2 then 7 else 0
theorem Nz_60 (d : Nat) : Nz d ≤ 61 := by unfold Nz; (repeat' split) <;> omega
theorem Nz_le (h : d ≤ 1) : Nz d = 61 := if_pos h
theorem Bz_up : ∀ {d n : Nat}, n ≤ Nz d → n * (Bz d + 2) + 3 ≤ Bz (d + 1)
  | 0, n, h => by
    have h2 : n ≤ 61 := h
    show n * (600 + 2) + 3 ≤ 36800
    omega
  | 1, n, h => by
    have h2 : n ≤ 61 := h
    show n * (36800 + 2) + 3 ≤ 2250000
    omega
  | 2, n, h => by
    have h2 : n ≤ 7 := h
    show n * (2250000 + 2) + 3 ≤ 16000000
    omega
  | d + 3, n, h => by
    have h2 : n ≤ 0 := by unfold Nz at h; rw [if_neg (by omega), if_neg (by omega)] at h; exact h
    obtain rfl := Nat.le_zero.mp h2
    have := Bz_ge (d + 3 + 1)
    omega
theorem Sk.lstN {a : Addr} {xs : List V} (h : H a = some (.lst xs)) (l : xs.length ≤ Nz d) (hx : ∀ x ∈ xs, Sk C H d x) : Sk C H (d + 1) (.ref a) := by
  obtain ⟨ts, h1, b, h2⟩ := texts hx
  refine ⟨_, .lst h (Nat.le_trans l (Nz_60 d)) h1 h2, ?_⟩
  have := listText_le ts
  have := piled_all b
  have := Bz_up (n := ts.length) (h1 ▸ l)
  omega
theorem Sk.tupN {a : Addr} {xs : List V} (h : H a = some (.tup xs)) (l : xs.length ≤ Nz d) (hx : ∀ x ∈ xs, Sk C H d x) : Sk C H (d + 1) (.ref a) := by
  obtain ⟨ts, h1, b, h2⟩ := texts hx
  refine ⟨_, .tup h (Nat.le_trans l (Nz_60 d)) h1 h2, ?_⟩
  have := tupleText_le ts
  have := piled_all b
  have := Bz_up (n := ts.length) (h1 ▸ l)
  omega
theorem Sk.lst {a : Addr} {xs : List V} (h : H a = some (.lst xs)) (l : xs.length ≤ 61) (hx : ∀ x ∈ xs, Sk C H d x) (hd : d ≤ 1 := by omega) : Sk C H (d + 1) (.ref a) := Sk.lstN h (by rw [Nz_le hd]; exact l) hx
theorem Sk.tup {a : Addr} {xs : List V} (h : H a = some (.tup xs)) (l : xs.length ≤ 61) (hx : ∀ x ∈ xs, Sk C H d x) (hd : d ≤ 1 := by omega) : Sk C H (d + 1) (.ref a) := Sk.tupN h (by rw [Nz_le hd]; exact l) hx
theorem Sk.sh (h : Sk C H d x) : ∃ t, Sh C H d x t ∧ t.length ≤ sizeLine := let ⟨t, h, l⟩ := h; ⟨t, h, Nat.le_trans l (Bz_size d)⟩
theorem itemsOf_same (h : Sk C H d x) (e : Same H H') : itemsOf H' x = itemsOf H x := by
  obtain ⟨t, h, _⟩ := h
  cases h with
  | int h => rfl
  | bl b => rfl
  | non => rfl
  | str x h => rfl
  | own r h1 h2 =>
    obtain ⟨dx, r⟩ := r
    unfold itemsOf
    simp only [r, e _ _ r]
  | lst h1 => unfold itemsOf; simp only [h1, e _ _ h1]
  | tup h1 => unfold itemsOf; simp only [h1, e _ _ h1]
  | dct h1 => unfold itemsOf; simp only [h1, e _ _ h1]
  | dcl h1 => unfold itemsOf; simp only [h1, e _ _ h1]
/-- a list or a tuple, or neither -/
theorem Sk.items (h : Sk C H d x) {xs : List V} (e : itemsOf H x = some xs) : ∃ a, x = .ref a ∧ (H a = some (.lst xs) ∨ H a = some (.tup xs)) ∧ xs.length ≤ 61 ∧ ∀ y ∈ xs, Sk C H d y := by
  obtain ⟨t, h, lt⟩ := h
  cases h with
  | int h => cases e
  | bl b => cases e
  | non => cases e
  | str x h => cases e
  | own r h1 h2 =>
    obtain ⟨dx, r⟩ := r
    unfold itemsOf at e
    simp only [r] at e
    cases e
  | @lst d a ys ts h1 h0 h2 h3 =>
    unfold itemsOf at e
    simp only [h1] at e
    obtain rfl := Option.some.inj e
    refine ⟨a, rfl, .inl h1, h0, fun y hy => ?_⟩
    obtain ⟨i, hi⟩ := List.getElem?_of_mem hy
    have l := (List.getElem?_eq_some_iff.mp hi).1
    have e2 := List.getElem?_eq_getElem (h2 ▸ l : i < ts.length)
    have p0 := piled_le_listText ts
    have p1 := piled_take_succ e2
    have p2 := piled_take_le ts (i + 1)
    exact ⟨_, (h3 i y _ hi e2).more (Nat.le_succ d), by omega⟩
  | @tup d a ys ts h1 h0 h2 h3 =>
    unfold itemsOf at e
    simp only [h1] at e
    obtain rfl := Option.some.inj e
    refine ⟨a, rfl, .inr h1, h0, fun y hy => ?_⟩
    obtain ⟨i, hi⟩ := List.getElem?_of_mem hy
    have l := (List.getElem?_eq_some_iff.mp hi).1
    have e2 := List.getElem?_eq_getElem (h2 ▸ l : i < ts.length)
    have p0 := piled_le_tupleText ts
    have p1 := piled_take_succ e2
    have p2 := piled_take_le ts (i + 1)
    exact ⟨_, (h3 i y _ hi e2).more (Nat.le_succ d), by omega⟩
  | dct h1 =>
    unfold itemsOf at e
    simp only [h1] at e
    cases e
  | dcl h1 =>
    unfold itemsOf at e
    simp only [h1] at e
    cases e
theorem kit_seqs {K : PySem.W.Frag} {t : String} (h1 : kitB t "list" = some false) (h2 : kitB t "tuple" = some false) : PySem.W.kitAny K (.type t) [.type "list", .type "tuple"] = some false :=
  kitAny_cons (kit_ty (r := false) h1) (fun _ => kitAny_cons (kit_ty (r := false) h2) (fun _ => rfl) (fun z => nomatch z)) (fun z => nomatch z)
/-- its type, and what isinstance says -/
theorem Sk.kit {K : PySem.W.Frag} {mg : Str → Option Value} {fI fR : Addr} (h : Sk C H d x) (R : RCls K mg C fI fR) :
    ∃ ty, TyX K H x ty ∧ PySem.W.kitOne K ty (.type "int") = some (isI x || isB x) ∧ PySem.W.kitOne K ty (.type "bool") = some (isB x) ∧ PySem.W.kitAny K ty [.type "list", .type "tuple"] = some (itemsOf H x).isSome := by
  obtain ⟨t, h, lt⟩ := h
  cases h with
  | int h => exact ⟨_, .base (.int _), kit_ty (r := true) (by decide +kernel), kit_ty (r := false) (by decide +kernel), kit_seqs (by decide +kernel) (by decide +kernel)⟩
  | bl b => exact ⟨_, .base (.bl _), kit_ty (r := true) (by decide +kernel), kit_ty (r := true) (by decide +kernel), kit_seqs (by decide +kernel) (by decide +kernel)⟩
  | non => exact ⟨_, .base .non, kit_ty (r := false) (by decide +kernel), kit_ty (r := false) (by decide +kernel), kit_seqs (by decide +kernel) (by decide +kernel)⟩
  | str x h => exact ⟨_, .base (.str _), kit_ty (r := false) (by decide +kernel), kit_ty (r := false) (by decide +kernel), kit_seqs (by decide +kernel) (by decide +kernel)⟩
  | @own d a p q r h1 h2 _ =>
    obtain ⟨dx, r⟩ := r
    refine ⟨_, .base (.ins r R.cl R.isA R.isN R.isT R.isM), R.kI, R.kB, ?_⟩
    have e : (itemsOf H (.ref a)).isSome = false := by unfold itemsOf; simp only [r]; rfl
    rw [e]
    exact kitAny_cons R.kL (fun _ => kitAny_cons R.kT (fun _ => rfl) (fun z => nomatch z)) (fun z => nomatch z)
  | @lst d a xs ts h1 h0 h2 h3 =>
    refine ⟨_, .base (.lst h1), kit_ty (r := false) (by decide +kernel), kit_ty (r := false) (by decide +kernel), ?_⟩
    have e : (itemsOf H (.ref a)).isSome = true := by unfold itemsOf; simp only [h1]; rfl
    rw [e]
    exact kit_lt.1
  | @tup d a xs ts h1 h0 h2 h3 =>
    refine ⟨_, .base (.tup h1), kit_ty (r := false) (by decide +kernel), kit_ty (r := false) (by decide +kernel), ?_⟩
    have e : (itemsOf H (.ref a)).isSome = true := by unfold itemsOf; simp only [h1]; rfl
    rw [e]
    exact kit_lt.2
  | @dct d a ds h1 h0 h2 =>
    refine ⟨_, .base (.dK h1), kit_ty (r := false) (by decide +kernel), kit_ty (r := false) (by decide +kernel), ?_⟩
    have e : (itemsOf H (.ref a)).isSome = false := by unfold itemsOf; simp only [h1]; rfl
    rw [e]
    exact kit_seqs (by decide +kernel) (by decide +kernel)
  | @dcl d a b k ns h1 h2 =>
    refine ⟨_, .base (.dK h1), kit_ty (r := false) (by decide +kernel), kit_ty (r := false) (by decide +kernel), ?_⟩
    have e : (itemsOf H (.ref a)).isSome = false := by unfold itemsOf; simp only [h1]; rfl
    rw [e]
    exact kit_seqs (by decide +kernel) (by decide +kernel)
end
end Fp

namespace Fp
open PySem PySem.Spec PyProof.Rows L2
/-- the heap without some objects -/
def wos (S : List Addr) (H : Hp) : Hp := fun b => if b ∈ S then none else H b
theorem wos_ne {S : List Addr} {b : Addr} {H : Hp} (h : b ∉ S) : wos S H b = H b := if_neg h
theorem wos_some {S : List Addr} {b : Addr} {H : Hp} {o : HO} : wos S H b = some o ↔ b ∉ S ∧ H b = some o := by
  unfold wos
  by_cases h : b ∈ S
  · rw [if_pos h]; exact ⟨fun z => (by cases z), fun z => absurd h z.1⟩
  · rw [if_neg h]; exact ⟨fun z => ⟨h, z⟩, fun z => z.2⟩
theorem wos_same {S : List Addr} {H H' : Hp} (e : Same H H') : Same (wos S H) (wos S H') := fun b o q => by
  obtain ⟨h1, h2⟩ := wos_some.mp q
  exact wos_some.mpr ⟨h1, e _ _ h2⟩
theorem wos_le {S : List Addr} {H : Hp} : Same (wos S H) H := fun b o q => (wos_some.mp q).2
def Kn (S : List Addr) (H : Hp) : Prop := ∀ s ∈ S, H s ≠ none
theorem Kn.same {S : List Addr} {H H' : Hp} (h : Kn S H) (e : Same H H') : Kn S H' := fun s hs z => by
  cases q : H s with
  | none => exact h s hs q
  | some o => rw [e _ _ q] at z; cases z
theorem Kn.new {S : List Addr} {H : Hp} {a : Addr} (h : Kn S H) (na : H a = none) : a ∉ S := fun hs => h a hs na
theorem wos_sub {S T : List Addr} {H : Hp} (h : ∀ b, b ∈ T → b ∈ S ∨ H b = none) : Same (wos S H) (wos T H) := fun b o q => by
  obtain ⟨h1, h2⟩ := wos_some.mp q
  exact wos_some.mpr ⟨fun z => (h b z).elim h1 fun e => (by rw [e] at h2; cases h2), h2⟩
/-! ### what an expression makes, if it only makes -/
def Gv (t : TE) (σ : L2.St) (H : Hp) (φ : V → Hp → Prop) : Prop := ∀ Q : VK, (∀ v H', Same H H' → φ v H' → Q v H') → t σ H Q
def GvA (t : TA) (σ : L2.St) (H : Hp) (φ : List V → Hp → Prop) : Prop := ∀ Q : List V → Hp → Prop, (∀ vs H', Same H H' → φ vs H' → Q vs H') → t σ H Q
section
variable {C : Addr} {S : List Addr} {K : PySem.W.Frag} {σ : L2.St} {H : Hp} {d e n m : Nat} {t t1 t2 : TE} {ts : TA}
abbrev GvS (C : Addr) (S : List Addr) (d : Nat) (t : TE) (σ : L2.St) (H : Hp) : Prop := Gv t σ H fun v H' => Sk C (wos S H') d v
abbrev GvSA (C : Addr) (S : List Addr) (d n : Nat) (t : TA) (σ : L2.St) (H : Hp) : Prop := GvA t σ H fun vs H' => vs.length = n ∧ ∀ v ∈ vs, Sk C (wos S H') d v
def LsV (C : Addr) (S : List Addr) (d n : Nat) (v : V) (H : Hp) : Prop := ∃ a ys, v = .ref a ∧ a ∉ S ∧ H a = some (.lst ys) ∧ ys.length ≤ n ∧ ∀ y ∈ ys, Sk C (wos S H) d y
abbrev GvL (C : Addr) (S : List Addr) (d n : Nat) (t : TE) (σ : L2.St) (H : Hp) : Prop := Gv t σ H fun v H' => LsV C S d n v H'
theorem LsV.same {v : V} {H' : Hp} (h : LsV C S d n v H) (s : Same H H') : LsV C S d n v H' := let ⟨a, ys, e1, e2, e3, e4, e5⟩ := h; ⟨a, ys, e1, e2, s _ _ e3, e4, fun y hy => (e5 y hy).same (wos_same s)⟩
theorem LsV.skN {v : V} (h : LsV C S d n v H) (hn : n ≤ Nz d) : Sk C (wos S H) (d + 1) v := by
  obtain ⟨a, ys, rfl, e2, e3, e4, e5⟩ := h
  exact Sk.lstN (by rw [wos_ne e2]; exact e3) (Nat.le_trans e4 hn) e5
theorem LsV.sk {v : V} (h : LsV C S d n v H) (hn : n ≤ 60) (hd : d ≤ 1 := by omega) : Sk C (wos S H) (d + 1) v := h.skN (by rw [Nz_le hd]; omega)
theorem LsV.more {v : V} (h : LsV C S d n v H) (hd : d ≤ e) (hn : n ≤ m) : LsV C S e m v H := let ⟨a, ys, e1, e2, e3, e4, e5⟩ := h; ⟨a, ys, e1, e2, e3, by omega, fun y hy => (e5 y hy).more hd⟩
theorem Gv.imp {φ ψ : V → Hp → Prop} (h : Gv t σ H φ) (k : ∀ v H', Same H H' → φ v H' → ψ v H') : Gv t σ H ψ := fun Q q => h Q fun v H' s f => q v H' s (k v H' s f)
theorem GvL.sN (h : GvL C S d n t σ H) (hn : n ≤ Nz d) : GvS C S (d + 1) t σ H := Gv.imp h fun v H' s f => f.skN hn
theorem GvL.s (h : GvL C S d n t σ H) (hn : n ≤ 60) (hd : d ≤ 1 := by omega) : GvS C S (d + 1) t σ H := Gv.imp h fun v H' s f => f.sk hn hd
theorem gvs_c {v : V} (h : ∀ H', Sk C H' d v) : GvS C S d (tC v) σ H := fun Q q => q v H (Same.refl _) (h _)
theorem gv_nil : GvSA C S d 0 tNil σ H := fun Q q => q [] H (Same.refl _) ⟨rfl, fun v h => by cases h⟩
theorem gv_cons (h1 : GvS C S d t σ H) (h2 : ∀ H1, Same H H1 → GvSA C S d n ts σ H1) : GvSA C S d (n + 1) (tCons t ts) σ H := fun Q q =>
  h1 _ fun v H1 s1 f1 => h2 H1 s1 _ fun vs H2 s2 f2 => q (v :: vs) H2 (s1.trans s2) ⟨by rw [List.length_cons, f2.1], fun x hx => by
    rcases List.mem_cons.mp hx with z | z
    · rw [z]; exact f1.same (wos_same s2)
    · exact f2.2 x z⟩
theorem gvl_lst (hp : Kn S H) (hn : n ≤ 1000) (h : GvSA C S d n ts σ H) : GvL C S d n (tLst ts) σ H := fun Q q =>
  h _ fun vs H1 s1 f1 => ⟨by rw [f1.1, sizeLine_eq]; omega, fun a na => by
    have np : a ∉ S := (hp.same s1).new na
    exact q _ _ (s1.trans (same_new na)) ⟨a, vs, rfl, np, upd_same, by rw [f1.1]; exact Nat.le_refl _, fun y hy => (f1.2 y hy).same (wos_same (same_new na))⟩⟩
theorem gvl_cat (hp : Kn S H) (hn : n + m ≤ 1000) (h1 : GvL C S d n t1 σ H) (h2 : ∀ H1, Same H H1 → GvL C S d m t2 σ H1) : GvL C S d (n + m) (tOp rCat t1 t2) σ H := fun Q q =>
  h1 _ fun v H1 s1 f1 => h2 H1 s1 _ fun u H2 s2 f2 => by
    obtain ⟨a, ys, rfl, e2, e3, e4, e5⟩ := f1.same s2
    obtain ⟨b, zs, rfl, g2, g3, g4, g5⟩ := f2
    refine ⟨a, b, ys, zs, rfl, rfl, e3, g3, by rw [sizeLine_eq]; omega, fun c nc => ?_⟩
    have s12 := s1.trans s2
    have np : c ∉ S := (hp.same s12).new nc
    exact q _ _ (s12.trans (same_new nc)) ⟨c, ys ++ zs, rfl, np, upd_same, by rw [List.length_append]; omega, fun y hy => by
      rcases List.mem_append.mp hy with z | z
      · exact (e5 y z).same (wos_same (same_new nc))
      · exact (g5 y z).same (wos_same (same_new nc))⟩
/-- a slice of a list that stands at the slot i -/
theorem gvl_sl {i : Nat} {W : Addr} {xs : List V} {lo hi : Option Int} {tlo thi : TO} (hv : ∀ H Q, Q (.ref W) H → tVar i σ H Q) (hlo : ∀ H (Q : Option Int → Hp → Prop), Q lo H → tlo σ H Q) (hhi : ∀ H (Q : Option Int → Hp → Prop), Q hi H → thi σ H Q) (hW : H W = some (.lst xs)) (hp : Kn S H)
    (hx : ∀ x ∈ xs, Sk C (wos S H) d x) (hn : xs.length ≤ n) : GvL C S d n (tSl (rSlL K) (tVar i) tlo thi) σ H := fun Q q =>
  hv _ _ (hlo _ _ (hhi _ _ ⟨W, xs, rfl, SqL.of hW, fun c nc => by
    have np : c ∉ S := hp.new nc
    refine q _ _ (same_new nc) ⟨c, _, rfl, np, upd_same, ?_, fun y hy => (hx y ?_).same (wos_same (same_new nc))⟩
    · exact Nat.le_trans (cutV_length _ _ _) hn
    · unfold cutV at hy
      exact List.mem_of_mem_drop (List.mem_of_mem_take hy)⟩))
theorem hv_of {i : Nat} {v : V} (h : σ[i]? = some (some v)) : ∀ H Q, Q v H → tVar i σ H Q := fun H Q q => ⟨v, h, q⟩
theorem hno : ∀ H (Q : Option Int → Hp → Prop), Q none H → tNoPart σ H Q := fun H Q q => q
theorem hpart {j : Nat} {s : Int} (h : σ[j]? = some (some (.int s))) : ∀ H (Q : Option Int → Hp → Prop), Q (some s) H → tPart (tVar j) σ H Q := fun H Q q => ⟨_, h, s, rfl, q⟩
theorem hpart1 {j : Nat} {s : Int} (h : σ[j]? = some (some (.int s))) : ∀ H (Q : Option Int → Hp → Prop), Q (some (s + 1)) H → tPart (tOp (rI0 fun i j => V.int (i + j)) (tVar j) (tC (V.int 1))) σ H Q := fun H Q q => ⟨_, h, s, 1, rfl, rfl, s + 1, rfl, q⟩
theorem gvs_var {i : Nat} {v : V} (h : σ[i]? = some (some v)) (hs : Sk C (wos S H) d v) : GvS C S d (tVar i) σ H := fun Q q => ⟨v, h, q v H (Same.refl _) hs⟩
theorem gvs_tup1 (hp : Kn S H) (h : GvS C S d t σ H) (hd : d ≤ 1 := by omega) : GvS C S (d + 1) (tTup (tCons t tNil)) σ H := fun Q q =>
  h _ fun v H1 s1 f1 => ⟨by show 1 ≤ sizeLine; decide, fun a na => by
    have np : a ∉ S := (hp.same s1).new na
    refine q _ _ (s1.trans (same_new na)) (Sk.tup (xs := [v]) (by rw [wos_ne np]; exact upd_same) (by simp) (fun y hy => ?_) hd)
    rw [List.mem_singleton.mp hy]
    exact f1.same (wos_same (same_new na))⟩
/-- a new list, its items shown without it -/
theorem gvl_lstW (hp : Kn S H) (hn : n ≤ 1000) (h : GvSA C S d n ts σ H) : Gv (tLst ts) σ H fun v H' => ∃ a ys, v = .ref a ∧ H a = none ∧ a ∉ S ∧ H' a = some (.lst ys) ∧ ys.length = n ∧ ∀ y ∈ ys, Sk C (wos (a :: S) H') d y := fun Q q =>
  h _ fun vs H1 s1 f1 => ⟨by rw [f1.1, sizeLine_eq]; omega, fun a na => by
    have np : a ∉ S := (hp.same s1).new na
    refine q _ _ (s1.trans (same_new na)) ⟨a, vs, rfl, s1.free na, np, upd_same, f1.1, fun y hy => (f1.2 y hy).same ?_⟩
    refine (wos_sub (T := a :: S) fun b hb => ?_).trans (wos_same (same_new na))
    rcases List.mem_cons.mp hb with z | z
    · exact .inr (z ▸ na)
    · exact .inl z⟩
/-- a comprehension over a list of ints, its elements ints or bools -/
theorem gvl_lc {g : TG} {te : TE} {vs : List Nat} {W : Addr} {ns : List Int} {i : Nat} (hv : σ[i]? = some (some (.ref W))) (hW : H W = some (.lst (ns.map V.int))) (hp : Kn S H) (hn : ns.length ≤ n) (h60 : n ≤ 60)
    (hs : ∀ (j : Nat) (x : Int) (H1 : Hp) (Yc : VK) (Nc : Hp → Prop), ns[j]? = some x → (∀ y, (∀ G, Sk C G d y) → Yc y H1) → g (.int x) (wipe σ vs) H1 fun σ2 H2 => wipe σ2 vs = wipe σ vs ∧ tYes σ2 H2 fun b H3 => if b = true then te σ2 H3 Yc else Nc H3) :
    GvL C S d n (tLc (iList K (tVar i)) g tYes te vs) σ H := fun Q q =>
  ⟨_, hv, W, rfl, ⟨_, SqL.of hW⟩, fun D hD => by
    refine lc_rel (walk_list (K := K) (a := W) (xs := ns.map V.int)) (fun i acc Hh => acc.length ≤ i ∧ ∀ y ∈ acc, ∀ G, Sk C G d y) hD (by rw [List.length_map, sizeLine_eq]; omega) (fun Hh sh => SqL.of (sh _ _ hW)) ⟨Nat.le_refl _, fun y hy => by cases hy⟩ (fun i acc A B e r => r)
      (fun j v acc Ha Hb hj sa ha hr hy Yc Nc yc nc => ?_) (fun acc H1 s1 hD1 hr => ?_)
    · obtain ⟨rfl, hx⟩ := hy
      rw [List.getElem?_map] at hx
      obtain ⟨x, hx', rfl⟩ := Option.map_eq_some_iff.mp hx
      exact hs j x Hb Yc Nc hx' fun y hy => yc y Hb (Same.refl _) ⟨by rw [List.length_append]; have := hr.1; simp only [List.length_cons, List.length_nil]; omega, fun u hu => by
        rcases List.mem_append.mp hu with w | w
        · exact hr.2 u w
        · rw [List.mem_singleton.mp w]; exact hy⟩
    · rw [List.length_map] at hr
      exact q _ _ s1 ⟨D, acc, rfl, hp.new hD, hD1, by omega, fun y hy => hr.2 y hy _⟩⟩
theorem ch_ofString (s : String) : ∀ c ∈ (Str.ofString s).cps.toList, c < 16 ^ 8 := fun c hc => by
  rw [congrFun Str.ofString_eq_byList s] at hc
  unfold Str.ofStringByList at hc
  simp only [List.mem_map] at hc
  obtain ⟨ch, _, rfl⟩ := hc
  have := ch.val.toNat_lt
  show ch.val.toNat < 16 ^ 8
  omega
theorem rt_int {i : Int} (h : i.natAbs < 10 ^ 50) : (reprText (Str.ofString (toString i))).length ≤ 600 := by
  have l := StrLaws.reprText_len (Str.ofString (toString i)) (ch_ofString _)
  have := int_short (i := i) h
  omega
theorem wos_upd {a : Addr} {o : HO} (h : a ∈ S) : wos S (upd H a o) = wos S H := by
  funext b
  unfold wos
  by_cases z : b ∈ S
  · rw [if_pos z, if_pos z]
  · rw [if_neg z, if_neg z, upd_ne (fun (e : b = a) => z (e ▸ h))]
theorem seq_asg {g : TG} {B : TS} {D : Ends} {φ : V → Hp → Prop} (h : Gv t σ H φ) (k : ∀ v H', Same H H' → φ v H' → g v σ H' fun σ2 H2 => B D σ2 H2) : tSeq (tAsg t g) B D σ H := h _ fun v H' s f => k v H' s f
theorem ret_gv {D : Ends} {φ : V → Hp → Prop} (h : Gv t σ H φ) (k : ∀ v H', Same H H' → φ v H' → D.rt v H') : tRet t D σ H := h _ fun v H' s f => k v H' s f
theorem seq_ext {B : TS} {D : Ends} {φ : V → Hp → Prop} {i : Nat} {f : Addr} {fs : List V} (hi : σ[i]? = some (some (.ref f))) (hf : H f = some (.lst fs)) (h : Gv t σ H φ)
    (k : ∀ v H', Same H H' → φ v H' → ∃ g gs, v = .ref g ∧ H' g = some (.lst gs) ∧ fs.length + gs.length ≤ 1000 ∧ B D σ (upd H' f (.lst (fs ++ gs)))) : tSeq (tDrop (tBM K "list" rExtend (tVar i) (tCons t tNil))) B D σ H :=
  ⟨_, hi, Or.inl ⟨rfl, _, SqL.of hf⟩, h _ fun v H' s ph => by
    obtain ⟨g, gs, rfl, hg, hz, q⟩ := k v H' s ph
    exact ⟨f, g, fs, gs, rfl, rfl, s _ _ hf, hg, by rw [sizeLine_eq]; omega, q⟩⟩
end
end Fp

namespace Fp
open PySem PySem.Spec PyProof.Rows L2
/-! ### str(..) of data, and more that only makes -/
theorem cr_strD {X : Cx} (hu : X.A.units + 64 < cLine) (hg : X.A.guards = some []) : CallR X (.type "str") (rRepr X.K) := by
  intro pins s σ H xs us Q I r h
  obtain ⟨a, d, rfl, hd, h1, h2, h3, h4, q⟩ := h
  rw [Vals.ref1 r]
  obtain ⟨as, hr⟩ := Dp.reads I d _ (.ref a) hd rfl
  refine str_of_reads hr h1 (fun z => by rw [h2] at z; cases z) hg (by omega) (fun _ _ e => e) (fun h' u tk k => ?_) h4
  exact ⟨.str d.shown, H, I.kept (t' := tk) k, ⟨u, rfl⟩, q⟩
def ChOk (x : Str) : Prop := ∀ c ∈ x.cps.toList, c < 16 ^ 8
theorem ChOk.app {x y : Str} (h1 : ChOk x) (h2 : ChOk y) : ChOk (x ++ y) := fun c hc => by
  have e : (x ++ y).cps.toList = x.cps.toList ++ y.cps.toList := by
    show (x.cps ++ y.cps).toList = _
    exact Array.toList_append
  rw [e] at hc
  exact (List.mem_append.mp hc).elim (h1 c) (h2 c)
theorem ChOk.of (s : String) : ChOk (Str.ofString s) := ch_ofString s
theorem ChOk.from : ∀ (ts : List Str) (k : Nat) (acc : Str), ChOk acc → (∀ t ∈ ts, ChOk t) → ChOk (textFrom k acc ts)
  | [], _, acc, h, _ => h
  | t :: ts, k, acc, h, g => ChOk.from ts (k + 1) _ ((h.app (ChOk.of _)).app (g t List.mem_cons_self)) fun x hx => g x (List.mem_cons_of_mem _ hx)
theorem ChOk.list {ts : List Str} (h : ∀ t ∈ ts, ChOk t) : ChOk (listText ts) := (ChOk.from ts 0 _ (ChOk.of "[") h).app (ChOk.of "]")
theorem ChOk.ints : ∀ ns : List Int, ∀ t ∈ PyData.shownAll (ns.map PyData.int), ChOk t
  | [], t, h => by simp only [List.map_nil, PyData.shownAll] at h; exact nomatch h
  | n :: r, t, h => by
    simp only [List.map_cons, PyData.shownAll] at h
    rcases List.mem_cons.mp h with z | z
    · rw [z]; simp only [PyData.shown]; exact ChOk.of _
    · exact ChOk.ints r t z
theorem shown_ints (ns : List Int) : ChOk (PyData.shown (.list (ns.map PyData.int))) := by
  simp only [PyData.shown]
  exact ChOk.list (ChOk.ints ns)
section
variable {C : Addr} {S : List Addr} {K : PySem.W.Frag} {σ : L2.St} {H : Hp} {d e n m : Nat} {t t1 t2 : TE} {ts : TA}
theorem gvl_rev {i : Nat} {W : Addr} {xs : List V} (hv : σ[i]? = some (some (.ref W))) (hW : SqL K H W xs) (hp : Kn S H) (hx : ∀ x ∈ xs, Sk C (wos S H) d x) (hn : xs.length ≤ n) : GvL C S d n (tRevL K (tVar i)) σ H := fun Q q =>
  ⟨_, hv, W, xs, rfl, hW, fun c nc => by
    have np : c ∉ S := hp.new nc
    exact q _ _ (same_new nc) ⟨c, _, rfl, np, upd_same, by rw [List.length_reverse]; exact hn, fun y hy => (hx y (List.mem_reverse.mp hy)).same (wos_same (same_new nc))⟩⟩
abbrev Hi (t : TE) (σ : L2.St) (H : Hp) (z : Int) : Prop := ∀ Q : VK, Q (.int z) H → t σ H Q
theorem gvl_rep {z : Nat} (hp : Kn S H) (h1 : GvL C S d 1 t1 σ H) (h2 : ∀ H1, Same H H1 → Hi t2 σ H1 (z : Int)) (hz : z ≤ n) (hn : n ≤ 60) : GvL C S d n (tOp rRep t1 t2) σ H := fun Q q =>
  h1 _ fun v H1 s1 f1 => h2 H1 s1 _ (by
    obtain ⟨a, ys, rfl, e2, e3, e4, e5⟩ := f1
    refine ⟨a, (z : Int), ys, rfl, rfl, e3, by omega, by omega, ?_, fun c nc => ?_⟩
    · rw [Int.toNat_natCast, sizeLine_eq]
      have := Nat.mul_le_mul e4 hz
      omega
    have np : c ∉ S := (hp.same s1).new nc
    refine q _ _ (s1.trans (same_new nc)) ⟨c, _, rfl, np, upd_same, ?_, fun y hy => ?_⟩
    · rw [Int.toNat_natCast, List.length_flatten, List.map_replicate, List.sum_replicate_nat]
      have := Nat.mul_le_mul hz e4
      omega
    · obtain ⟨l, hl, hy2⟩ := List.mem_flatten.mp hy
      rw [(List.mem_replicate.mp hl).2] at hy2
      exact (e5 y hy2).same (wos_same (same_new nc)))
theorem gvs_dict0 (hp : Kn S H) : GvS C S (d + 1) tDNewK σ H := fun Q q => fun c nc => by
  have np : c ∉ S := hp.new nc
  exact q _ _ (same_new nc) ⟨_, Sh.dct (ds := []) (by rw [wos_ne np]; exact upd_same) (by simp) (fun p hp => by cases hp), Nat.le_trans (by decide) (Bz_ge (d + 1))⟩
theorem gvs_disp1 {tk tv : TE} {k v : Int} (hp : Kn S H) (hk : ∀ H1, Same H H1 → Hi tk σ H1 k) (hv : ∀ H1, Same H H1 → Hi tv σ H1 v) (ok : okS k) (ov : okS v) : GvS C S (d + 1) (tDisp [(tk, tv)]) σ H := fun Q q => fun c nc => by
  have np : c ∉ S := hp.new nc
  have s1 := same_new (o := .dK []) nc
  refine hk _ s1 _ (hv _ s1 _ ⟨upd_same, [(.inl k, .int v)], rfl, by simp, ?_⟩)
  rw [show mergeK [] [((Sum.inl k : L2.Key), V.int v)] = [((Sum.inl k : L2.Key), V.int v)] from rfl]
  refine q _ _ (fun b o e => ?_) ⟨_, Sh.dct (ds := [(k, v)]) (by rw [wos_ne np]; exact upd_same) (by simp) (fun p hp => by rw [List.mem_singleton.mp hp]; exact ⟨ok.ok, ov.ok⟩), by
    have l1 := int_short ok
    have l2 := int_short ov
    have l3 := dictText_le [dEnt (k, v)]
    have q : piled [dEnt (k, v)] = (dEnt (k, v)).length + 2 := by rw [piled_cons]; rfl
    have q2 : (dEnt (k, v)).length = (Str.ofString (toString k)).length + 2 + (Str.ofString (toString v)).length := by
      unfold dEnt
      rw [strLen_append, strLen_append]; rfl
    have b0 := Bz_ge (d + 1)
    show (dictText [dEnt (k, v)]).length ≤ _
    omega⟩
  have nb := ne_of_none e nc
  rw [upd_ne nb, upd_ne nb]; exact e
theorem gvs_rat {z : Int} (hp : Kn S H) (ht : Hi t σ H z) (oz : okS z) : GvS C S d (tRat C (tCons t tNil)) σ H := fun Q q =>
  ht _ ⟨z, rfl, fun a H' na sm r => q _ H' sm (Sk.own (by
    obtain ⟨dx, r⟩ := r
    exact ⟨dx, by rw [wos_ne (hp.new na)]; exact r⟩) oz (by decide) (rdI_one z))⟩
theorem gvs_int {z : Int} (ht : Hi t σ H z) (oz : okS z) : GvS C S d t σ H := fun Q q => ht _ (q _ _ (Same.refl _) (Sk.int oz))
theorem gvs_tup {n : Nat} (hp : Kn S H) (hn : n ≤ 60) (h : GvSA C S d n ts σ H) (hd : d ≤ 1 := by omega) : GvS C S (d + 1) (tTup ts) σ H := fun Q q =>
  h _ fun vs H1 s1 f1 => ⟨by rw [f1.1, sizeLine_eq]; omega, fun a na => by
    have np : a ∉ S := (hp.same s1).new na
    exact q _ _ (s1.trans (same_new na)) (Sk.tup (xs := vs) (by rw [wos_ne np]; exact upd_same) (by rw [f1.1]; omega) (fun y hy => (f1.2 y hy).same (wos_same (same_new na))) hd)⟩
theorem gvs_more (h : GvS C S d t σ H) (le : d ≤ e) : GvS C S e t σ H := Gv.imp h fun v H' _ z => z.more le
/-! ### lists whose items need no heap -/
abbrev GvP (P : V → Prop) (S : List Addr) (n : Nat) (t : TE) (σ : L2.St) (H : Hp) : Prop := Gv t σ H fun v H' => ∃ a ys, v = .ref a ∧ a ∉ S ∧ H' a = some (.lst ys) ∧ ys.length ≤ n ∧ ∀ y ∈ ys, P y
variable {P : V → Prop}
theorem gvp_cat (hp : Kn S H) (hn : n + m ≤ 1000) (h1 : GvP P S n t1 σ H) (h2 : ∀ H1, Same H H1 → GvP P S m t2 σ H1) : GvP P S (n + m) (tOp rCat t1 t2) σ H := fun Q q =>
  h1 _ fun v H1 s1 f1 => h2 H1 s1 _ fun u H2 s2 f2 => by
    obtain ⟨a, ys, rfl, e2, e3, e4, e5⟩ := f1
    obtain ⟨b, zs, rfl, g2, g3, g4, g5⟩ := f2
    refine ⟨a, b, ys, zs, rfl, rfl, s2 _ _ e3, g3, by rw [sizeLine_eq]; omega, fun c nc => ?_⟩
    have s12 := s1.trans s2
    have np : c ∉ S := (hp.same s12).new nc
    exact q _ _ (s12.trans (same_new nc)) ⟨c, ys ++ zs, rfl, np, upd_same, by rw [List.length_append]; omega, fun y hy => by
      rcases List.mem_append.mp hy with z | z
      · exact e5 y z
      · exact g5 y z⟩
theorem gvp_sl {i : Nat} {W : Addr} {xs : List V} {lo hi : Option Int} {tlo thi : TO} (hv : ∀ H Q, Q (.ref W) H → tVar i σ H Q) (hlo : ∀ H (Q : Option Int → Hp → Prop), Q lo H → tlo σ H Q) (hhi : ∀ H (Q : Option Int → Hp → Prop), Q hi H → thi σ H Q) (hW : H W = some (.lst xs)) (hp : Kn S H)
    (hx : ∀ x ∈ xs, P x) (hn : xs.length ≤ n) : GvP P S n (tSl (rSlL K) (tVar i) tlo thi) σ H := fun Q q =>
  hv _ _ (hlo _ _ (hhi _ _ ⟨W, xs, rfl, SqL.of hW, fun c nc => by
    have np : c ∉ S := hp.new nc
    refine q _ _ (same_new nc) ⟨c, _, rfl, np, upd_same, ?_, fun y hy => hx y ?_⟩
    · exact Nat.le_trans (cutV_length _ _ _) hn
    · unfold cutV at hy
      exact List.mem_of_mem_drop (List.mem_of_mem_take hy)⟩))
theorem gvp_lst2 {z1 z2 : Int} (hp : Kn S H) (h1 : Hi t1 σ H z1) (h2 : Hi t2 σ H z2) (p1 : P (.int z1)) (p2 : P (.int z2)) : GvP P S 2 (tLst (tCons t1 (tCons t2 tNil))) σ H := fun Q q =>
  h1 _ (h2 _ ⟨by show 2 ≤ sizeLine; decide, fun a na => q _ _ (same_new na) ⟨a, _, rfl, hp.new na, upd_same, Nat.le_refl 2, fun y hy => by
    simp only [List.mem_cons, List.not_mem_nil, or_false] at hy
    rcases hy with z | z <;> rw [z] <;> assumption⟩⟩)
theorem ext_one {D : Ends} {φ : V → Hp → Prop} {i : Nat} {f : Addr} {fs : List V} (hi : σ[i]? = some (some (.ref f))) (hf : H f = some (.lst fs)) (h : Gv t σ H φ)
    (k : ∀ v H', Same H H' → φ v H' → ∃ g gs, v = .ref g ∧ H' g = some (.lst gs) ∧ fs.length + gs.length ≤ 1000 ∧ D.nx σ (upd H' f (.lst (fs ++ gs)))) : tDrop (tBM K "list" rExtend (tVar i) (tCons t tNil)) D σ H :=
  ⟨_, hi, Or.inl ⟨rfl, _, SqL.of hf⟩, h _ fun v H' s ph => by
    obtain ⟨g, gs, rfl, hg, hz, q⟩ := k v H' s ph
    exact ⟨f, g, fs, gs, rfl, rfl, s _ _ hf, hg, by rw [sizeLine_eq]; omega, q⟩⟩
end
end Fp

namespace Fp
open PySem PySem.Spec PyProof.Rows L2
/-! ### own operators -/
structure BinF (K : PySem.W.Frag) (C f : Addr) (op : Operator) : Prop where
  sf : PySem.W.selfFirst K C = true
  hs : PySem.W.findIn K (.ref C) (PySem.dunder op.info.2) = some (some (.ref f))
  hf : PySem.W.isFn K (.ref f) = true
  hr : ∃ g : Addr, PySem.W.findIn K (.ref C) (PySem.dunderR op.info.2) = some (some (.ref g))
  h1 : ∃ fo, PySem.W.findIn K (.type "int") (PySem.dunder op.info.2) = some fo
  h2 : ∃ ro, PySem.W.findIn K (.type "int") (PySem.dunderR op.info.2) = some ro
  hsub : PySem.W.subIn K (.type "int") (.ref C) = some false
def rOwn (C : Addr) (sp : Sp) : R2 := fun x y H Q => ∃ a dx fs, x = .ref a ∧ H a = some (.ins C dx fs) ∧ ((∃ i, y = .int i) ∨ ∃ b dy gs, y = .ref b ∧ H b = some (.ins C dy gs)) ∧ sp [x, y] H (fun v H' => (∃ r, v = .ref r) ∧ Q v H') E0
theorem op_own {X : Cx} {C f : Addr} {op : Operator} {n : Nat} {fd : FuncData} {sp : Sp} (B : BinF X.K C f op) (F : FnOk X.prog X.w X.K X.mg X.base CX0 n f fd ["self", "other"] sp) (hb : Binds X.K fd ["self", "other"] []) (hr : Room n X.A) : OpR X (binaryOp op) (rOwn C sp) := by
  intro pins s σ H x y v u Q I rx ry hq
  obtain ⟨a, dx, fs, rfl, ha, hy, hsp⟩ := hq
  cases rx
  obtain ⟨mA, J, _⟩ := ins_get I.hok ha
  obtain ⟨od, J, _⟩ := J.look
  obtain ⟨m, hF⟩ := I.fr
  obtain ⟨g, hr1⟩ := B.hr
  obtain ⟨fo, h1⟩ := B.h1
  obtain ⟨ro, h2⟩ := B.h2
  have main : wpAny (model X.prog X.w) X.A (call (.ref f) [.ref a, u]) (PySem.W.CmpBack (EP X pins σ Q)) X.xe s := by
    have hl := F.len _ _ _ _ hsp
    have r2 : Vals [V.ref a, y] [Value.ref a, u] := .cons rfl (.cons ry .nil)
    refine wpAny_call (codeAny_mono (F.run X.A X.stack s H ⟨[.ref a, u], []⟩ [.ref a, u] [.ref a, y] _ E0 hr I.env0 (by
      have := hb s [.ref a, u] I.kIn (by simpa using hl)
      simpa using this) r2 hsp) fun r s' hq => ?_)
    cases r with
    | error e => exact pass0 (X := X) pins σ H s e s' I hq
    | ok fl =>
      cases fl with
      | ret w =>
        obtain ⟨z, H', I', rz, ⟨r, ez⟩, q⟩ := I.after hq
        subst ez
        cases rz
        exact ⟨.ref r, H', I', rfl, q⟩
      | next => exact False.elim hq
      | brk => exact False.elim hq
      | cont => exact False.elim hq
  rcases hy with ⟨i, rfl⟩ | ⟨b, dy, gs, rfl, hb2⟩
  · obtain ⟨t, rfl⟩ := ry
    exact PySem.W.ksp_binT (T := "int") hF I.ok.mod.kin J rfl B.sf B.hs B.hf hr1 (.inr ⟨g, rfl⟩) h1 h2 B.hsub main
  · cases ry
    obtain ⟨mB, J', _⟩ := ins_get I.hok hb2
    obtain ⟨od', J', _⟩ := J'.look
    exact PySem.W.binop_K hF I.ok.mod.kin J J'.type B.sf B.hs B.hf main
/-! ### isinstance(x, Ratio) -/
def isOwn (H : Hp) : V → Bool
  | .ref a => match H a with
    | some (.ins _ _ _) => true
    | _ => false
  | _ => false
structure RIsi (K : PySem.W.Frag) (C : Addr) : Prop where
  i : PySem.W.kitOne K (.type "int") (.ref C) = some false
  b : PySem.W.kitOne K (.type "bool") (.ref C) = some false
  n : PySem.W.kitOne K (.type "NoneType") (.ref C) = some false
  s : PySem.W.kitOne K (.type "str") (.ref C) = some false
  l : PySem.W.kitOne K (.type "list") (.ref C) = some false
  t : PySem.W.kitOne K (.type "tuple") (.ref C) = some false
  d : PySem.W.kitOne K (.type "dict") (.ref C) = some false
  c : PySem.W.kitOne K (.ref C) (.ref C) = some true
section
variable {C : Addr} {H H' : Hp} {d : Nat} {x : V} {K : PySem.W.Frag} {mg : Str → Option Value} {fI fR : Addr}
theorem Sk.kitC (h : Sk C H d x) (R : RCls K mg C fI fR) (I : RIsi K C) : ∃ ty, TyX K H x ty ∧ PySem.W.kitOne K ty (.ref C) = some (isOwn H x) := by
  obtain ⟨t, h, _⟩ := h
  cases h with
  | int h => exact ⟨_, .base (.int _), I.i⟩
  | bl b => exact ⟨_, .base (.bl _), I.b⟩
  | non => exact ⟨_, .base .non, I.n⟩
  | str x h => exact ⟨_, .base (.str _), I.s⟩
  | @own d a p q r h1 h2 =>
    obtain ⟨dx, r⟩ := r
    have e : isOwn H (.ref a) = true := by unfold isOwn; simp only [r]
    rw [e]
    exact ⟨_, .base (.ins r R.cl R.isA R.isN R.isT R.isM), I.c⟩
  | @lst d a xs ts h1 h0 h2 h3 =>
    have e : isOwn H (.ref a) = false := by unfold isOwn; simp only [h1]
    rw [e]
    exact ⟨_, .base (.lst h1), I.l⟩
  | @tup d a xs ts h1 h0 h2 h3 =>
    have e : isOwn H (.ref a) = false := by unfold isOwn; simp only [h1]
    rw [e]
    exact ⟨_, .base (.tup h1), I.t⟩
  | @dct d a ds h1 h0 h2 =>
    have e : isOwn H (.ref a) = false := by unfold isOwn; simp only [h1]
    rw [e]
    exact ⟨_, .base (.dK h1), I.d⟩
  | @dcl d a b k ns h1 h2 =>
    have e : isOwn H (.ref a) = false := by unfold isOwn; simp only [h1]
    rw [e]
    exact ⟨_, .base (.dK h1), I.d⟩
theorem isOwn_same (h : Sk C H d x) (e : Same H H') : isOwn H' x = isOwn H x := by
  obtain ⟨t, h, _⟩ := h
  cases h with
  | int h => rfl
  | bl b => rfl
  | non => rfl
  | str x h => rfl
  | own r h1 h2 =>
    obtain ⟨dx, r⟩ := r
    unfold isOwn
    simp only [r, e _ _ r]
  | lst h1 => unfold isOwn; simp only [h1, e _ _ h1]
  | tup h1 => unfold isOwn; simp only [h1, e _ _ h1]
  | dct h1 => unfold isOwn; simp only [h1, e _ _ h1]
  | dcl h1 => unfold isOwn; simp only [h1, e _ _ h1]
/-! ### numbers -/
def isNum (H : Hp) (x : V) : Bool := isI x || isOwn H x
theorem isNum_same (h : Sk C H d x) (e : Same H H') : isNum H' x = isNum H x := by unfold isNum; rw [isOwn_same h e]
/-- top and bottom -/
def numOf (H : Hp) : V → Int × Int
  | .int i => (i, 1)
  | .ref a => match H a with
    | some (.ins _ _ [(_, .int p), (_, .int q)]) => (p, q)
    | _ => (0, 1)
  | _ => (0, 1)
def NumV (C : Addr) (H : Hp) (x : V) (p q : Int) : Prop := (x = .int p ∧ q = 1) ∨ ∃ a, x = .ref a ∧ Rat2 C H a p q
theorem NumV.same {p q : Int} (h : NumV C H x p q) (e : Same H H') : NumV C H' x p q := h.elim .inl fun ⟨a, h1, h2⟩ => .inr ⟨a, h1, h2.same e⟩
theorem Sk.num (h : Sk C H d x) (n : isNum H x = true) : NumV C H x (numOf H x).1 (numOf H x).2 ∧ okS (numOf H x).1 ∧ okS (numOf H x).2 ∧ RdI (numOf H x).1 (numOf H x).2 := by
  obtain ⟨t, h, _⟩ := h
  cases h with
  | @int d i h => exact ⟨.inl ⟨rfl, rfl⟩, h, (by decide : okS 1), rdI_one _⟩
  | bl b => cases n
  | non => cases n
  | str x h => cases n
  | @own d a p q r h1 h2 h3 =>
    obtain ⟨dx, r⟩ := r
    have e : numOf H (.ref a) = (p, q) := by unfold numOf; simp only [r]
    rw [e]
    exact ⟨.inr ⟨a, rfl, dx, r⟩, h1, h2, h3⟩
  | lst h1 => unfold isNum isOwn at n; simp only [h1] at n; cases n
  | tup h1 => unfold isNum isOwn at n; simp only [h1] at n; cases n
  | dct h1 => unfold isNum isOwn at n; simp only [h1] at n; cases n
  | dcl h1 => unfold isNum isOwn at n; simp only [h1] at n; cases n
theorem NumV.kitC {p q : Int} (h : NumV C H x p q) (R : RCls K mg C fI fR) (I : RIsi K C) : ∃ ty, TyX K H x ty ∧ PySem.W.kitOne K ty (.ref C) = some (isOwn H x) := by
  rcases h with ⟨rfl, _⟩ | ⟨a, rfl, dx, r⟩
  · exact ⟨_, .base (.int _), I.i⟩
  · have e : isOwn H (.ref a) = true := by unfold isOwn; simp only [r]
    rw [e]
    exact ⟨_, .base (.ins r R.cl R.isA R.isN R.isT R.isM), I.c⟩
theorem numOf_same (h : Sk C H d x) (e : Same H H') : numOf H' x = numOf H x := by
  obtain ⟨t, h, _⟩ := h
  cases h with
  | int h => rfl
  | bl b => rfl
  | non => rfl
  | str x h => rfl
  | own r h1 h2 =>
    obtain ⟨dx, r⟩ := r
    unfold numOf
    simp only [r, e _ _ r]
  | lst h1 => unfold numOf; simp only [h1, e _ _ h1]
  | tup h1 => unfold numOf; simp only [h1, e _ _ h1]
  | dct h1 => unfold numOf; simp only [h1, e _ _ h1]
  | dcl h1 => unfold numOf; simp only [h1, e _ _ h1]
end
/-! ### properties, own + and == in a text -/
structure PropX (P : Program) (w : World) (K : PySem.W.Frag) (mg : Str → Option Value) (base : Heap) (k : Nat) (C : Addr) (f : Str) (sp : Sp) : Prop where
  ex : ∃ (p g : Addr) (fd : FuncData), PropOf K C f p g ∧ FnOk P w K mg base CX0 k g fd ["self"] sp ∧ Binds K fd ["self"] []
structure BinX (P : Program) (w : World) (K : PySem.W.Frag) (mg : Str → Option Value) (base : Heap) (k : Nat) (C : Addr) (op : Operator) (sp : Sp) : Prop where
  ex : ∃ (f : Addr) (fd : FuncData), BinF K C f op ∧ FnOk P w K mg base CX0 k f fd ["self", "other"] sp ∧ Binds K fd ["self", "other"] []
/-- the same number -/
def SameR (C : Addr) (a b : Addr) (H : Hp) : Prop := ∃ p q, Rat2 C H a p q ∧ Rat2 C H b p q
structure EqX (P : Program) (w : World) (K : PySem.W.Frag) (mg : Str → Option Value) (base : Heap) (k : Nat) (C : Addr) : Prop where
  ex : ∃ (f : Addr) (fd : FuncData), PySem.W.findIn K (.ref C) "__eq__" = some (some (.ref f)) ∧ PySem.W.isFn K (.ref f) = true ∧ FnOk P w K mg base CX0 k f fd ["self", "other"] (spEq (SameR C)) ∧ Binds K fd ["self", "other"] []
def spTopR (C : Addr) : Sp := fun vs H Q _ => ∃ a p q, vs = [.ref a] ∧ Rat2 C H a p q ∧ Q (.int p) H
def spBotR (C : Addr) : Sp := fun vs H Q _ => ∃ a p q, vs = [.ref a] ∧ Rat2 C H a p q ∧ Q (.int q) H
def sgnI (p : Int) : Int := if p < 0 then -1 else if 0 < p then 1 else 0
def spSgnR (C : Addr) : Sp := fun vs H Q _ => ∃ a p q, vs = [.ref a] ∧ Rat2 C H a p q ∧ Q (.int (sgnI p)) H
def spAddR (C : Addr) : Sp := fun vs H Q _ => ∃ a y p q, vs = [.ref a, y] ∧ Rat2 C H a 0 1 ∧ NumV C H y p q ∧ RdI p q ∧ ∀ m H', Same H H' → Rat2 C H' m p q → Q (.ref m) H'
section
variable {X : Cx} {k : Nat} {C : Addr} {f : Str} {sp : Sp} {op : Operator} {e : Expr} {pos : Pos} {ta : TE}
theorem pe_propX (D : PropX X.prog X.w X.K X.mg X.base k C f sp) (hr : Room (k + 1) X.A) (c : Cls X.K C) (he : PE X e ta) (hab : attributeBase e f X.env (eval e X.env) = eval e X.env) : PE X (.Attribute e f pos) (tProp C sp [] E0 ta) := by
  obtain ⟨p, g, fd, h1, F, hb⟩ := D.ex
  exact pe_prop he c h1 F hr hb .nil (pass0 (X := X.nox)) hab
theorem op_ownX (D : BinX X.prog X.w X.K X.mg X.base k C op sp) (hr : Room k X.A) : OpR X (binaryOp op) (rOwn C sp) := by
  obtain ⟨f, fd, B, F, hb⟩ := D.ex
  exact op_own B F hb hr
theorem EqX.eqG (D : EqX X.prog X.w X.K X.mg X.base k C) : EqG X k (DIns C (SameR C)) := by
  obtain ⟨f, fd, h1, h2, F, hb⟩ := D.ex
  exact eqG_ins F h1 h2 hb (pass0 (X := X))
theorem mon_rat : Mon (DIns C (SameR C)) := mon_ins fun a b H H' e ⟨p, q, ⟨d1, h1⟩, ⟨d2, h2⟩⟩ => ⟨p, q, ⟨d1, e _ _ h1⟩, ⟨d2, e _ _ h2⟩⟩
/-- == of two lists of lists of own numbers, the same -/
theorem op_eq2 (D : EqX X.prog X.w X.K X.mg X.base k C) (hr : Room (k + 2) X.A) : OpR X (compareOp .Eq) (rEqG (DList (DList (DIns C (SameR C))))) :=
  op_eqG (rcG_list (mon_list mon_rat) (eqG_list mon_rat D.eqG)) hr
end
end Fp

namespace Fp
open PySem PySem.Spec PyProof.Rows L2
/-! ### a comprehension over a list or a tuple, what is kept of its items -/
section
variable {K : PySem.W.Frag} {a : Addr} {xs : List V} {g : TG} {tt : TT} {te : TE} {vs : List Nat} {σ : L2.St} {H : Hp} {tl : TE} {Q : VK}
theorem lc_relS (Rel : Nat → List V → Hp → Prop) (hv : ∀ R : V → Hp → Prop, R (.ref a) H → tl σ H R) (hS : Sq K H a xs) (hz : xs.length ≤ sizeLine) (h0 : Rel 0 [] H) (hm : ∀ i acc A B, Same A B → Rel i acc A → Rel i acc B)
    (hs : ∀ (D : Addr) (i : Nat) (x : V) (acc : List V) (Ha : Hp), H D = none → xs[i]? = some x → Same H Ha → Ha D = some (.lst acc) → Rel i acc (wo D Ha) → ∀ (Yc : V → Hp → Prop) (Nc : Hp → Prop), (∀ y H4, Same Ha H4 → Rel (i + 1) (acc ++ [y]) (wo D H4) → Yc y H4) → (∀ H3, Same Ha H3 → Rel (i + 1) acc (wo D H3) → Nc H3) →
      g x (wipe σ vs) Ha fun σ2 H2 => wipe σ2 vs = wipe σ vs ∧ tt σ2 H2 fun b H3 => if b = true then te σ2 H3 Yc else Nc H3)
    (hd : ∀ (D : Addr) (acc : List V) (H' : Hp), H D = none → Same H H' → H' D = some (.lst acc) → Rel xs.length acc (wo D H') → Q (.ref D) H') : tLc (iSq K tl) g tt te vs σ H Q := by
  rcases hS with hS | hS
  · refine Or.inl (hv _ ⟨a, rfl, ⟨xs, hS⟩, fun D hD => ?_⟩)
    exact lc_rel (walk_list (K := K) (a := a) (xs := xs)) Rel hD hz (fun Hh sh => hS.ext sh) h0 hm (fun i x acc Ha Hb hi sa ha hr hy Yc Nc yc nc => by
      obtain ⟨rfl, hx⟩ := hy
      exact hs D i x acc _ hD hx sa ha hr Yc Nc yc nc) (fun acc H' s1 ha hr => hd D acc H' hD s1 ha hr)
  · refine Or.inr (hv _ ⟨a, rfl, ⟨xs, hS⟩, fun D hD => ?_⟩)
    exact lc_rel (walk_tup (K := K) (a := a) (xs := xs)) Rel hD hz (fun Hh sh => same_sqT sh hS) h0 hm (fun i x acc Ha Hb hi sa ha hr hy Yc Nc yc nc => by
      obtain ⟨rfl, hx⟩ := hy
      exact hs D i x acc _ hD hx sa ha hr Yc Nc yc nc) (fun acc H' s1 ha hr => hd D acc H' hD s1 ha hr)
end
/-! ### numbers of a list -/
structure RatL (C : Addr) (H : Hp) (vs : List V) (ps : List (Int × Int)) : Prop where
  len : vs.length = ps.length
  at_ : ∀ (i : Nat) (v : V), vs[i]? = some v → ∃ (pq : Int × Int) (a : Addr), ps[i]? = some pq ∧ v = .ref a ∧ Rat2 C H a pq.1 pq.2
section
variable {C : Addr} {H H' : Hp} {vs : List V} {ps : List (Int × Int)} {d : Nat} {x : V}
theorem RatL.same (h : RatL C H vs ps) (e : Same H H') : RatL C H' vs ps := ⟨h.len, fun i v hv => let ⟨pq, a, h1, h2, h3⟩ := h.at_ i v hv; ⟨pq, a, h1, h2, h3.same e⟩⟩
theorem RatL.nil : RatL C H [] [] := ⟨rfl, fun i v h => by cases h⟩
theorem RatL.snoc (h : RatL C H vs ps) {a : Addr} {p q : Int} (r : Rat2 C H a p q) : RatL C H (vs ++ [.ref a]) (ps ++ [(p, q)]) := ⟨by rw [List.length_append, List.length_append, h.len]; rfl, fun i v hv => by
  rcases Nat.lt_trichotomy i vs.length with l | l | l
  · rw [List.getElem?_append_left l] at hv
    obtain ⟨pq, b, h1, h2, h3⟩ := h.at_ i v hv
    exact ⟨pq, b, by rw [List.getElem?_append_left (h.len ▸ l)]; exact h1, h2, h3⟩
  · subst l
    rw [List.getElem?_append_right (Nat.le_refl _), Nat.sub_self] at hv
    obtain rfl := Option.some.inj hv
    exact ⟨(p, q), a, by rw [h.len, List.getElem?_append_right (Nat.le_refl _), Nat.sub_self]; rfl, rfl, r⟩
  · rw [List.getElem?_eq_none (by rw [List.length_append]; simp; omega)] at hv; cases hv⟩
theorem RatL.take (h : RatL C H vs ps) (n : Nat) : RatL C H (vs.take n) (ps.take n) := ⟨by rw [List.length_take, List.length_take, h.len], fun i v hv => by
  rw [List.getElem?_take] at hv ⊢
  split at hv
  · rename_i l
    rw [if_pos l]
    exact h.at_ i v hv
  · cases hv⟩
/-- without the noughts at the end -/
def trimP (ps : List (Int × Int)) : List (Int × Int) := (ps.reverse.dropWhile fun x => x.1 == 0).reverse
theorem trimP_nil : trimP [] = [] := rfl
theorem trimP_zero {A : List (Int × Int)} {x : Int × Int} (h : x.1 = 0) : trimP (A ++ [x]) = trimP A := by
  unfold trimP
  rw [List.reverse_append, List.reverse_singleton, List.singleton_append, List.dropWhile_cons, if_pos (by simp [h])]
theorem trimP_nz {A : List (Int × Int)} {x : Int × Int} (h : x.1 ≠ 0) : trimP (A ++ [x]) = A ++ [x] := by
  unfold trimP
  rw [List.reverse_append, List.reverse_singleton, List.singleton_append, List.dropWhile_cons, if_neg (by simp [h])]
  simp
theorem snoc_of {α : Type} {l : List α} (h : l ≠ []) : ∃ A x, l = A ++ [x] := by
  rcases List.eq_nil_or_concat l with e | ⟨A, x, e⟩
  · exact absurd e h
  · exact ⟨A, x, by rw [e, List.concat_eq_append]⟩
theorem trimP_len (ps : List (Int × Int)) : (trimP ps).length ≤ ps.length := by
  unfold trimP
  rw [List.length_reverse]
  have := (List.dropWhile_suffix (fun x : Int × Int => x.1 == 0) (l := ps.reverse)).length_le
  rw [List.length_reverse] at this
  exact this
/-! ### polynomials and makers among any values -/
def isPolyV (H : Hp) (x : V) : Bool := match itemsOf H x with
  | none => false
  | some xs => decide (xs.length ≤ 49) && xs.all (isNum H)
def itemsD (H : Hp) (x : V) : List V := (itemsOf H x).getD []
def toldP (H : Hp) (x : V) : List (Int × Int) := trimP ((itemsD H x).map (numOf H))
def isMakerV (H : Hp) (y : V) : Bool := isPolyV H y && (decide (2 ≤ (toldP H y).length) && decide ((toldP H y).length ≤ 8))
def isMakersV (H : Hp) (x : V) : Bool := match itemsOf H x with
  | none => false
  | some ys => decide (1 ≤ ys.length) && (decide (ys.length ≤ 4) && ys.all (isMakerV H))
def toldsP (H : Hp) (x : V) : List (List (Int × Int)) := (itemsD H x).map (toldP H)
theorem all_same {f g : V → Bool} : ∀ {xs : List V}, (∀ x ∈ xs, f x = g x) → xs.all f = xs.all g
  | [], _ => rfl
  | x :: xs, h => by
    rw [List.all_cons, List.all_cons, h x List.mem_cons_self, all_same fun y hy => h y (List.mem_cons_of_mem _ hy)]
theorem map_same {β : Type} {f g : V → β} : ∀ {xs : List V}, (∀ x ∈ xs, f x = g x) → xs.map f = xs.map g
  | [], _ => rfl
  | x :: xs, h => by
    rw [List.map_cons, List.map_cons, h x List.mem_cons_self, map_same fun y hy => h y (List.mem_cons_of_mem _ hy)]
theorem isPolyV_same (h : Sk C H d x) (e : Same H H') : isPolyV H' x = isPolyV H x := by
  unfold isPolyV
  rw [itemsOf_same h e]
  cases q : itemsOf H x with
  | none => rfl
  | some xs =>
    obtain ⟨a, _, _, _, hy⟩ := h.items q
    dsimp only
    rw [all_same fun y m => isNum_same (hy y m) e]
theorem itemsD_same (h : Sk C H d x) (e : Same H H') : itemsD H' x = itemsD H x := by unfold itemsD; rw [itemsOf_same h e]
theorem Sk.itemsD (h : Sk C H d x) : ∀ y ∈ itemsD H x, Sk C H d y := fun y m => by
  unfold Fp.itemsD at m
  cases q : itemsOf H x with
  | none => rw [q] at m; cases m
  | some xs =>
    obtain ⟨a, _, _, _, hy⟩ := h.items q
    rw [q] at m
    exact hy y m
theorem toldP_same (h : Sk C H d x) (e : Same H H') : toldP H' x = toldP H x := by
  unfold toldP
  rw [itemsD_same h e, map_same fun y m => numOf_same (h.itemsD y m) e]
theorem isMakerV_same (h : Sk C H d x) (e : Same H H') : isMakerV H' x = isMakerV H x := by
  unfold isMakerV
  rw [isPolyV_same h e, toldP_same h e]
theorem isMakersV_same (h : Sk C H d x) (e : Same H H') : isMakersV H' x = isMakersV H x := by
  unfold isMakersV
  rw [itemsOf_same h e]
  cases q : itemsOf H x with
  | none => rfl
  | some xs =>
    obtain ⟨a, _, _, _, hy⟩ := h.items q
    dsimp only
    rw [all_same fun y m => isMakerV_same (hy y m) e]
theorem toldsP_same (h : Sk C H d x) (e : Same H H') : toldsP H' x = toldsP H x := by
  unfold toldsP
  rw [itemsD_same h e, map_same fun y m => toldP_same (h.itemsD y m) e]
theorem poly_items (h : isPolyV H x = true) : ∃ xs, itemsOf H x = some xs ∧ itemsD H x = xs ∧ xs.length ≤ 49 ∧ ∀ y ∈ xs, isNum H y = true := by
  unfold isPolyV at h
  cases q : itemsOf H x with
  | none => rw [q] at h; cases h
  | some xs =>
    rw [q] at h
    simp only [Bool.and_eq_true, decide_eq_true_eq, List.all_eq_true] at h
    exact ⟨xs, rfl, by unfold itemsD; rw [q]; rfl, h.1, h.2⟩
theorem Rat2.wo {D a : Addr} {p q : Int} {acc : List V} (r : Rat2 C H a p q) (hD : H D = some (.lst acc)) : Rat2 C (wo D H) a p q := by
  obtain ⟨dx, r⟩ := r
  refine ⟨dx, ?_⟩
  rw [wo_ne (fun z => by rw [z, hD] at r; cases r)]
  exact r
theorem wo_mono {D : Addr} (e : Same H H') : Same (wo D H) (wo D H') := fun b o q => by
  have nb : b ≠ D := fun w => by rw [w] at q; unfold wo at q; rw [if_pos rfl] at q; cases q
  rw [wo_ne nb] at q ⊢
  exact e _ _ q
theorem takeS {α : Type} {l : List α} {i : Nat} {x : α} (h : l[i]? = some x) : l.take (i + 1) = l.take i ++ [x] := by
  rw [List.take_add_one, h]; rfl
theorem RatL.step {D m : Addr} {xs : List V} {f : V → Int × Int} {i : Nat} {y : V} {acc : List V} {Ha H4 : Hp} (r : RatL C (wo D Ha) acc ((xs.map f).take i)) (hy : xs[i]? = some y) (s : Same Ha H4) (ha : Ha D = some (.lst acc)) (rm : Rat2 C H4 m (f y).1 (f y).2) :
    RatL C (wo D H4) (acc ++ [.ref m]) ((xs.map f).take (i + 1)) := by
  rw [takeS (show (xs.map f)[i]? = some (f y) by rw [List.getElem?_map, hy]; rfl)]
  exact (r.same (wo_mono s)).snoc (rm.wo (s _ _ ha))
end
/-! ### a list is not empty -/
def rNeNil : R2 := fun x y H Q => ∃ a b us, x = .ref a ∧ y = .ref b ∧ H a = some (.lst us) ∧ H b = some (.lst []) ∧ Q (.bl (!us.isEmpty)) H
theorem op_neNil {X : Cx} (hu : X.A.units + 64 < cLine) : OpR X (compareOp .NotEq) rNeNil := by
  intro pins s σ H x y v u Q I rx ry hq
  obtain ⟨a, b, us, rfl, rfl, ha, hb, q⟩ := hq
  cases rx
  cases ry
  obtain ⟨_, its, na, rv, hl, he⟩ := I.lstM ha
  obtain ⟨_, it2, nb, rv2, hl2, he2⟩ := I.lstM hb
  have e2 : it2 = [] := List.length_eq_zero_iff.mp (by simpa using hl2.symm)
  subst e2
  show wpAny (model X.prog X.w) X.A (richCompare .NotEq (.ref a) (.ref b)) (EP X pins σ Q) X.xe s
  have fin : ∀ k : Bool, k = (!us.isEmpty) → EP X pins σ Q (.bool k) s := fun k hk => ⟨.bl k, H, I, rfl, by rw [hk]; exact q⟩
  cases us with
  | nil =>
    have e1 : its = [] := List.length_eq_zero_iff.mp (by simpa using hl.symm)
    subst e1
    exact SeqAt.RcNeAt.lists (e := fun _ => true) ⟨_, he, rfl, na, rfl⟩ ⟨_, he2, rfl, nb, rfl⟩ rfl (by omega) (fun j h1 => absurd h1 (by simp)) X.prog X.w X.xe _ (fin _ rfl)
  | cons z r =>
    refine SeqAt.RcNeAt.lists_lengths ⟨_, he, rfl, na, rfl⟩ ⟨_, he2, rfl, nb, rfl⟩ ?_ (by omega) X.prog X.w X.xe _ (fin _ rfl)
    have : its.length = r.length + 1 := by rw [← hl]; simp
    simp
    intro e
    rw [e] at this
    simp at this
/-- len of a list or a tuple -/
def rLenS (K : PySem.W.Frag) : List V → Hp → VK → Prop := fun xs H Q => ∃ p ys, xs = [.ref p] ∧ (SqL K H p ys ∨ SqT K H p ys) ∧ Q (.int ys.length) H
end Fp

namespace Fp
/-! ### fractions: top and bottom of a quotient, sizes -/
theorem gcd_cast (t b : Int) : ((t.natAbs.gcd b.natAbs : Nat) : Int) = (Int.gcd b t : Int) := by
  rw [Nat.gcd_comm]; rfl
theorem fdiv_exact {t g : Int} (h : g ∣ t) : t.fdiv g = t / g := Int.fdiv_eq_ediv_of_dvd h
theorem divInt_top {t b : Int} (h : b ≠ 0) : t.fdiv (if b < 0 then -((t.natAbs.gcd b.natAbs : Nat) : Int) else ((t.natAbs.gcd b.natAbs : Nat) : Int)) = (Rat.divInt t b).num := by
  rw [Rat.num_divInt, gcd_cast]
  have d : (Int.gcd b t : Int) ∣ t := Int.gcd_dvd_right ..
  by_cases hb : b < 0
  · rw [if_pos hb, Int.sign_eq_neg_one_of_neg hb, fdiv_exact (Int.neg_dvd.mpr d), Int.ediv_neg]
    obtain ⟨c, e⟩ := d
    have g0 : (Int.gcd b t : Int) ≠ 0 := fun z => by
      have := Int.gcd_eq_zero_iff.mp (by omega : Int.gcd b t = 0)
      omega
    have e2 : -1 * t = (Int.gcd b t : Int) * (-c) := by rw [Int.mul_neg, ← e]; omega
    rw [e2, Int.mul_ediv_cancel_left _ g0]
    have e3 : t / (Int.gcd b t : Int) = c := by
      conv => lhs; lhs; rw [e]
      exact Int.mul_ediv_cancel_left _ g0
    rw [e3]
  · rw [if_neg hb, Int.sign_eq_one_of_pos (by omega), fdiv_exact d, Int.one_mul]
theorem divInt_bot {t b : Int} (h : b ≠ 0) : b.fdiv (if b < 0 then -((t.natAbs.gcd b.natAbs : Nat) : Int) else ((t.natAbs.gcd b.natAbs : Nat) : Int)) = ((Rat.divInt t b).den : Int) := by
  rw [Rat.den_divInt, if_neg h, gcd_cast]
  have d : (Int.gcd b t : Int) ∣ b := Int.gcd_dvd_left ..
  have g0 : (Int.gcd b t : Int) ≠ 0 := fun z => by
      have := Int.gcd_eq_zero_iff.mp (by omega : Int.gcd b t = 0)
      omega
  obtain ⟨c, e⟩ := d
  have e3 : b / (Int.gcd b t : Int) = c := by
      conv => lhs; lhs; rw [e]
      exact Int.mul_ediv_cancel_left _ g0
  by_cases hb : b < 0
  · rw [if_pos hb, fdiv_exact (Int.neg_dvd.mpr (Int.gcd_dvd_left ..)), Int.ediv_neg, e3]
    have : (b.natAbs : Int) = -b := by omega
    rw [Int.natCast_ediv, this]
    have e4 : -b = (Int.gcd b t : Int) * (-c) := by rw [Int.mul_neg, ← e]
    rw [e4, Int.mul_ediv_cancel_left _ g0]
  · rw [if_neg hb, fdiv_exact (Int.gcd_dvd_left ..), e3]
    have : (b.natAbs : Int) = b := by omega
    rw [Int.natCast_ediv, this, e3]
/-- a number of at most n bits -/
def LbI (n : Nat) (z : Int) : Prop := z.natAbs < 2 ^ n
def Bits (n : Nat) (x : Rat) : Prop := LbI n x.num ∧ LbI n x.den
theorem LbI.mono {n m : Nat} {z : Int} (h : LbI n z) (l : n ≤ m) : LbI m z := Nat.lt_of_lt_of_le h (Nat.pow_le_pow_right (by decide) l)
theorem Bits.mono {n m : Nat} {x : Rat} (h : Bits n x) (l : n ≤ m) : Bits m x := ⟨h.1.mono l, h.2.mono l⟩
theorem LbI.mul {n m : Nat} {a b : Int} (h : LbI n a) (g : LbI m b) : LbI (n + m) (a * b) := by
  unfold LbI at *
  rw [Int.natAbs_mul, Nat.pow_add]
  exact Nat.mul_lt_mul'' h g
theorem LbI.neg {n : Nat} {a : Int} (h : LbI n a) : LbI n (-a) := by unfold LbI at *; rw [Int.natAbs_neg]; exact h
theorem LbI.add {n : Nat} {a b : Int} (h : LbI n a) (g : LbI n b) : LbI (n + 1) (a + b) := by
  unfold LbI at *
  have := Int.natAbs_add_le a b
  rw [Nat.pow_succ]; omega
theorem LbI.sub {n : Nat} {a b : Int} (h : LbI n a) (g : LbI n b) : LbI (n + 1) (a - b) := by
  rw [Int.sub_eq_add_neg]; exact h.add g.neg
theorem LbI.of_le {n : Nat} {a b : Int} (h : LbI n a) (l : b.natAbs ≤ a.natAbs) : LbI n b := Nat.lt_of_le_of_lt l h
theorem LbI.nat {n k : Nat} (h : k < 2 ^ n) : LbI n (k : Int) := h
theorem natAbs_div_le (a b : Int) : (a / b).natAbs ≤ a.natAbs := by
  by_cases h : b = 0
  · subst h; simp
  exact Int.natAbs_ediv_le_natAbs a b
theorem Bits.divInt {n : Nat} {t b : Int} (h : LbI n t) (g : LbI n b) (b0 : b ≠ 0) : Bits n (Rat.divInt t b) := by
  constructor
  · rw [Rat.num_divInt]
    refine h.of_le (Nat.le_trans (natAbs_div_le _ _) ?_)
    rw [Int.natAbs_mul]
    have : b.sign.natAbs ≤ 1 := by
      rcases Int.lt_trichotomy b 0 with z | z | z
      · rw [Int.sign_eq_neg_one_of_neg z]; decide
      · rw [z]; decide
      · rw [Int.sign_eq_one_of_pos z]; decide
    have := Nat.mul_le_mul_right t.natAbs this
    omega
  · rw [Rat.den_divInt, if_neg b0]
    exact g.of_le (Nat.div_le_self _ _)
theorem divInt_mul (x y : Rat) : Rat.divInt (x.num * y.num) (x.den * y.den) = x * y := by
  rw [← Rat.divInt_mul_divInt, Rat.num_divInt_den, Rat.num_divInt_den]
theorem divInt_sub (x y : Rat) : Rat.divInt (x.num * y.den - y.num * x.den) (x.den * y.den) = x - y := by
  have h := Rat.sub_def' x y
  rw [h, ← Rat.divInt_ofNat, Int.natCast_mul]
theorem divInt_add (x y : Rat) : Rat.divInt (x.num * y.den + y.num * x.den) (x.den * y.den) = x + y := by
  have h := Rat.add_def' x y
  rw [h, ← Rat.divInt_ofNat, Int.natCast_mul]
theorem divInt_over (x y : Rat) : Rat.divInt (x.num * y.den) (x.den * y.num) = x / y := by
  rw [← Rat.divInt_mul_divInt, Rat.num_divInt_den, Rat.div_def, Rat.inv_def]
theorem divInt_self (x : Rat) : Rat.divInt x.num x.den = x := Rat.num_divInt_den x
theorem divInt_frac (z b : Int) : Rat.divInt z b = (z : Rat) / b := Rat.divInt_eq_div z b
theorem num_ne {x : Rat} (h : x ≠ 0) : x.num ≠ 0 := fun z => h (Rat.num_eq_zero.mp z)
theorem den_pos (x : Rat) : (0 : Int) < x.den := by have := x.den_pos; omega
theorem rat_red (x : Rat) : Int.gcd x.num x.den = 1 := x.reduced
theorem red_rat {p q : Int} (h0 : 0 < q) (h : Int.gcd p q = 1) : (Rat.divInt p q).num = p ∧ ((Rat.divInt p q).den : Int) = q := by
  have g : Int.gcd q p = 1 := by rw [Int.gcd_comm]; exact h
  rw [Rat.num_divInt, Rat.den_divInt, if_neg (by omega), g, Int.sign_eq_one_of_pos h0]
  constructor
  · simp
  · simp; omega
/-! ### polynomials by their coefficients -/
def co (xs : List Rat) (i : Nat) : Rat := xs.getD i 0
def sumN (f : Nat → Rat) : Nat → Rat
  | 0 => 0
  | n + 1 => sumN f n + f n
def sh (i : Nat) (g : Nat → Rat) (n : Nat) : Rat := if n < i then 0 else g (n - i)
def prodc (xs : List Rat) (g : Nat → Rat) (n : Nat) : Rat := sumN (fun i => co xs i * sh i g n) xs.length
def single (m : Nat) (c : Rat) (n : Nat) : Rat := if n = m then c else 0
/-- told: no nought at the end -/
def Told (xs : List Rat) : Prop := ∀ z, xs.getLast? = some z → z ≠ 0
theorem sumN_congr {f g : Nat → Rat} : ∀ {n : Nat}, (∀ i, i < n → f i = g i) → sumN f n = sumN g n
  | 0, _ => rfl
  | n + 1, h => by
    show sumN f n + f n = sumN g n + g n
    rw [sumN_congr fun i hi => h i (by omega), h n (by omega)]
theorem sumN_zero {f : Nat → Rat} : ∀ {n : Nat}, (∀ i, i < n → f i = 0) → sumN f n = 0
  | 0, _ => rfl
  | n + 1, h => by
    show sumN f n + f n = 0
    rw [sumN_zero fun i hi => h i (by omega), h n (by omega)]; grind
theorem sumN_add {f g : Nat → Rat} : ∀ n : Nat, sumN (fun i => f i + g i) n = sumN f n + sumN g n
  | 0 => by show (0 : Rat) = 0 + 0; grind
  | n + 1 => by
    show sumN (fun i => f i + g i) n + (f n + g n) = (sumN f n + f n) + (sumN g n + g n)
    rw [sumN_add n]; grind
theorem sumN_mul {f : Nat → Rat} (c : Rat) : ∀ n : Nat, sumN (fun i => c * f i) n = c * sumN f n
  | 0 => by show (0 : Rat) = c * 0; grind
  | n + 1 => by
    show sumN (fun i => c * f i) n + c * f n = c * (sumN f n + f n)
    rw [sumN_mul c n]; grind
theorem sumN_one {f : Nat → Rat} {m : Nat} : ∀ {n : Nat}, m < n → (∀ i, i < n → i ≠ m → f i = 0) → sumN f n = f m
  | 0, h, _ => absurd h (Nat.not_lt_zero _)
  | n + 1, h, h0 => by
    show sumN f n + f n = f m
    by_cases e : n = m
    · subst e
      rw [sumN_zero fun i hi => h0 i (by omega) (by omega)]; grind
    · rw [sumN_one (by omega) fun i hi => h0 i (by omega), h0 n (by omega) e]; grind
theorem co_out {xs : List Rat} {i : Nat} (h : xs.length ≤ i) : co xs i = 0 := by
  unfold co; rw [List.getD_eq_getElem?_getD, List.getElem?_eq_none h]; rfl
theorem co_at {xs : List Rat} {i : Nat} {x : Rat} (h : xs[i]? = some x) : co xs i = x := by
  unfold co; rw [List.getD_eq_getElem?_getD, h]; rfl
theorem co_nil (i : Nat) : co [] i = 0 := rfl
theorem prodc_add (xs : List Rat) (g h : Nat → Rat) (n : Nat) : prodc xs (fun i => g i + h i) n = prodc xs g n + prodc xs h n := by
  unfold prodc
  rw [← sumN_add]
  refine sumN_congr fun i _ => ?_
  unfold sh; split <;> grind
theorem prodc_sub (xs : List Rat) (g h : Nat → Rat) (n : Nat) : prodc xs (fun i => g i - h i) n = prodc xs g n - prodc xs h n := by
  have e := prodc_add xs (fun i => g i - h i) h n
  have e2 : (fun i => g i - h i + h i) = g := funext fun i => by grind
  rw [e2] at e
  grind
theorem prodc_single (xs : List Rat) (m : Nat) (c : Rat) (n : Nat) : prodc xs (single m c) n = if n < m then 0 else c * co xs (n - m) := by
  unfold prodc
  by_cases h : n < m
  · rw [if_pos h]
    refine sumN_zero fun i hi => ?_
    unfold sh single
    split
    · grind
    · rw [if_neg (by omega)]; grind
  · rw [if_neg h]
    by_cases l : n - m < xs.length
    · rw [sumN_one l fun i hi ne => ?_]
      · unfold sh single
        rw [if_neg (by omega), if_pos (by omega)]; grind
      · unfold sh single
        split
        · grind
        · rw [if_neg (by omega)]; grind
    · rw [co_out (by omega), sumN_zero fun i hi => ?_]
      · grind
      · unfold sh single
        split
        · grind
        · rw [if_neg (by omega)]; grind
theorem prodc_congr {xs : List Rat} {g h : Nat → Rat} (e : ∀ i, g i = h i) (n : Nat) : prodc xs g n = prodc xs h n := by rw [funext e]
/-- the highest one -/
theorem prodc_top {xs : List Rat} {g : Nat → Rat} {m s : Nat} (hs : xs.length = s + 1) (hg : ∀ i, m < i → g i = 0) : prodc xs g (s + m) = co xs s * g m := by
  unfold prodc
  rw [hs, sumN_one (m := s) (by omega) fun i hi ne => ?_]
  · unfold sh; rw [if_neg (by omega)]; congr 2; omega
  · unfold sh
    rw [if_neg (by omega), hg _ (by omega)]; grind
theorem told_top {xs : List Rat} (t : Told xs) (h : xs ≠ []) : co xs (xs.length - 1) ≠ 0 := by
  have e : xs.getLast? = some (xs.getLast h) := List.getLast?_eq_some_getLast h
  rw [List.getLast?_eq_getElem?] at e
  rw [co_at e]
  exact t _ (by rw [List.getLast?_eq_getElem?]; exact e)
theorem told_of_top {xs : List Rat} (h : xs ≠ [] → co xs (xs.length - 1) ≠ 0) : Told xs := fun z hz => by
  have n : xs ≠ [] := fun e => by rw [e] at hz; cases hz
  rw [List.getLast?_eq_getElem?] at hz
  have := h n
  rw [co_at hz] at this
  exact this
theorem told_nil : Told [] := fun z h => by cases h
/-- told lists with the same coefficients are the same -/
theorem told_ext {xs ys : List Rat} (tx : Told xs) (ty : Told ys) (e : ∀ i, co xs i = co ys i) : xs = ys := by
  have l : ∀ {as bs : List Rat}, Told as → (∀ i, co as i = co bs i) → as.length ≤ bs.length := fun {as bs} ta e => by
    by_cases n : as = []
    · rw [n]; exact Nat.zero_le _
    · have t := told_top ta n
      have : 0 < as.length := List.length_pos_iff.mpr n
      by_cases h : as.length ≤ bs.length
      · exact h
      · rw [e, co_out (by omega)] at t
        exact absurd rfl t
  have le := Nat.le_antisymm (l tx e) (l ty fun i => (e i).symm)
  refine List.ext_getElem le fun i h1 h2 => ?_
  have := e i
  rw [co_at (List.getElem?_eq_getElem h1), co_at (List.getElem?_eq_getElem h2)] at this
  exact this
/-- quotient and rest are the only ones -/
theorem div_unique {S : List Rat} {Q1 Q2 R1 R2 : List Rat} (hS : S ≠ []) (tS : Told S) (q1 : Told Q1) (q2 : Told Q2) (r1 : Told R1) (r2 : Told R2) (l1 : R1.length < S.length) (l2 : R2.length < S.length)
    (h : ∀ n, prodc S (co Q1) n + co R1 n = prodc S (co Q2) n + co R2 n) : Q1 = Q2 ∧ R1 = R2 := by
  have top := told_top tS hS
  have ls : S.length = (S.length - 1) + 1 := by omega
  have D : ∀ k m, m + k = max Q1.length Q2.length → ∀ i, m ≤ i → co Q1 i - co Q2 i = 0 := by
    intro k
    induction k with
    | zero =>
      intro m hm i hi
      rw [co_out (by omega), co_out (by omega)]; grind
    | succ k ih =>
      intro m hm i hi
      have above := ih (m + 1) (by omega)
      by_cases e : i = m
      · subst e
        have t := prodc_top (g := fun i => co Q1 i - co Q2 i) (m := i) ls (fun j hj => above j (by omega))
        rw [prodc_sub] at t
        have hn := h (S.length - 1 + i)
        rw [co_out (xs := R1) (by omega), co_out (xs := R2) (by omega)] at hn
        have z : co S (S.length - 1) * (co Q1 i - co Q2 i) = 0 := by grind
        rcases Rat.mul_eq_zero.mp z with y | y
        · exact absurd y top
        · exact y
      · exact above i (by omega)
  have eQ : ∀ i, co Q1 i = co Q2 i := fun i => by
    have := D (max Q1.length Q2.length) 0 (by omega) i (Nat.zero_le _)
    grind
  refine ⟨told_ext q1 q2 eQ, told_ext r1 r2 fun n => ?_⟩
  have := h n
  rw [prodc_congr eQ] at this
  grind
/-! ### one step of the division -/
theorem co_take {xs : List Rat} {k n : Nat} (h : n < k) : co (xs.take k) n = co xs n := by
  unfold co; rw [List.getD_eq_getElem?_getD, List.getD_eq_getElem?_getD, List.getElem?_take_of_lt h]
theorem co_append_left {xs ys : List Rat} {n : Nat} (h : n < xs.length) : co (xs ++ ys) n = co xs n := by
  unfold co; rw [List.getD_eq_getElem?_getD, List.getD_eq_getElem?_getD, List.getElem?_append_left h]
theorem co_append_right {xs ys : List Rat} {n : Nat} (h : xs.length ≤ n) : co (xs ++ ys) n = co ys (n - xs.length) := by
  unfold co; rw [List.getD_eq_getElem?_getD, List.getD_eq_getElem?_getD, List.getElem?_append_right h]
/-- what is left behind a part c -/
def restOf (c : Rat) (S xs : List Rat) : List Rat := xs.take (xs.length - S.length) ++ (List.zipWith (fun a b => a - c * b) (xs.drop (xs.length - S.length)) S).dropLast
theorem restOf_len {c : Rat} {S xs : List Rat} (hS : 0 < S.length) (h : S.length ≤ xs.length) : (restOf c S xs).length = xs.length - 1 := by
  unfold restOf
  rw [List.length_append, List.length_take, List.length_dropLast, List.length_zipWith, List.length_drop]
  omega
theorem restOf_co {c : Rat} {S xs : List Rat} (hS : 0 < S.length) (h : S.length ≤ xs.length) (hc : co xs (xs.length - 1) = c * co S (S.length - 1)) (n : Nat) :
    co xs n = prodc S (single (xs.length - S.length) c) n + co (restOf c S xs) n := by
  rw [prodc_single]
  by_cases h1 : n < xs.length - S.length
  · rw [if_pos h1]
    unfold restOf
    rw [co_append_left (by rw [List.length_take]; omega), co_take h1]; grind
  · rw [if_neg h1]
    by_cases h2 : n < xs.length - 1
    · unfold restOf
      rw [co_append_right (by rw [List.length_take]; omega), List.length_take, Nat.min_eq_left (by omega)]
      have l : n - (xs.length - S.length) < (List.zipWith (fun a b => a - c * b) (xs.drop (xs.length - S.length)) S).dropLast.length := by
        rw [List.length_dropLast, List.length_zipWith, List.length_drop]; omega
      have e : (List.zipWith (fun a b => a - c * b) (xs.drop (xs.length - S.length)) S).dropLast[n - (xs.length - S.length)]? = some (co xs n - c * co S (n - (xs.length - S.length))) := by
        rw [List.getElem?_eq_getElem l, List.getElem_dropLast, List.getElem_zipWith, List.getElem_drop]
        congr 2
        · rw [co_at (x := xs[xs.length - S.length + (n - (xs.length - S.length))]'(by omega))]
          rw [List.getElem?_eq_some_iff]
          refine ⟨by omega, ?_⟩
          congr 1; omega
        · congr 1
          rw [co_at (List.getElem?_eq_getElem _)]
      rw [co_at e]; grind
    · rw [co_out (xs := restOf c S xs) (by rw [restOf_len hS h]; omega)]
      by_cases h3 : n = xs.length - 1
      · rw [h3, hc, show xs.length - 1 - (xs.length - S.length) = S.length - 1 by omega]; grind
      · rw [co_out (by omega), co_out (xs := S) (by omega)]; grind
/-- the parts so far, by their places -/
def qf (L : Nat) (qs : List Rat) (i : Nat) : Rat := if i ≤ L ∧ L - i < qs.length then co qs (L - i) else 0
theorem qf_nil (L i : Nat) : qf L [] i = 0 := by
  unfold qf; rw [if_neg]; simp
theorem qf_snoc {L : Nat} {qs : List Rat} {c : Rat} (h : qs.length ≤ L) (i : Nat) : qf L (qs ++ [c]) i = qf L qs i + single (L - qs.length) c i := by
  unfold qf single
  rw [List.length_append, List.length_singleton]
  by_cases h1 : i ≤ L ∧ L - i < qs.length
  · rw [if_pos h1, if_pos (by omega), co_append_left h1.2, if_neg (by omega)]; grind
  · rw [if_neg h1]
    by_cases h2 : i = L - qs.length
    · rw [if_pos (by omega), if_pos h2, co_append_right (by omega), show L - i - qs.length = 0 by omega]
      show c = 0 + c
      grind
    · rw [if_neg h2]
      by_cases h3 : i ≤ L ∧ L - i < qs.length + 1
      · omega
      · rw [if_neg h3]; grind
theorem qf_rev {L : Nat} {qs : List Rat} (h : qs.length = L + 1) (i : Nat) : qf L qs i = co qs.reverse i := by
  unfold qf
  by_cases h1 : i ≤ L
  · rw [if_pos ⟨h1, by omega⟩]
    have : qs.reverse[i]? = qs[L - i]? := by
      rw [List.getElem?_reverse (by omega)]; congr 1; omega
    unfold co
    rw [List.getD_eq_getElem?_getD, List.getD_eq_getElem?_getD, this]
  · rw [if_neg (by omega), co_out (by rw [List.length_reverse]; omega)]
end Fp
namespace Fp
/-- without the noughts at the end -/
def trimQ (xs : List Rat) : List Rat := (xs.reverse.dropWhile fun x => x == 0).reverse
theorem trimQ_nil : trimQ [] = [] := rfl
theorem trimQ_zero {A : List Rat} {x : Rat} (h : x = 0) : trimQ (A ++ [x]) = trimQ A := by
  unfold trimQ
  rw [List.reverse_append, List.reverse_singleton, List.singleton_append, List.dropWhile_cons, if_pos (by simp [h])]
theorem trimQ_nz {A : List Rat} {x : Rat} (h : x ≠ 0) : trimQ (A ++ [x]) = A ++ [x] := by
  unfold trimQ
  rw [List.reverse_append, List.reverse_singleton, List.singleton_append, List.dropWhile_cons, if_neg (by simp [h])]
  simp
theorem snoc_cases {α : Type} (l : List α) : l = [] ∨ ∃ A x, l = A ++ [x] := by
  rcases List.eq_nil_or_concat l with e | ⟨A, x, e⟩
  · exact .inl e
  · exact .inr ⟨A, x, by rw [e, List.concat_eq_append]⟩
/-- by the last one -/
theorem snoc_ind {α : Type} {φ : List α → Prop} (h0 : φ []) (h1 : ∀ A x, φ A → φ (A ++ [x])) : ∀ l, φ l := fun l => by
  have : ∀ n (l : List α), l.length = n → φ l := by
    intro n
    induction n with
    | zero => intro l e; rw [List.length_eq_zero_iff.mp e]; exact h0
    | succ n ih =>
      intro l e
      rcases snoc_cases l with z | ⟨A, x, rfl⟩
      · rw [z] at e; cases e
      · exact h1 A x (ih A (by rw [List.length_append] at e; simpa using e))
  exact this _ l rfl
theorem trimQ_told (xs : List Rat) : Told (trimQ xs) := by
  induction xs using snoc_ind with
  | h0 => exact told_nil
  | h1 A x ih =>
    by_cases h : x = 0
    · rw [trimQ_zero h]; exact ih
    · rw [trimQ_nz h]; intro z hz
      rw [List.getLast?_concat] at hz
      obtain rfl := Option.some.inj hz
      exact h
theorem trimQ_co (xs : List Rat) (n : Nat) : co (trimQ xs) n = co xs n := by
  induction xs using snoc_ind with
  | h0 => rfl
  | h1 A x ih =>
    by_cases h : x = 0
    · rw [trimQ_zero h, ih]
      by_cases l : n < A.length
      · rw [co_append_left l]
      · rw [co_append_right (by omega), co_out (by omega)]
        cases hh : n - A.length with
        | zero => exact h.symm
        | succ k => rfl
    · rw [trimQ_nz h]
theorem trimQ_len (xs : List Rat) : (trimQ xs).length ≤ xs.length := by
  unfold trimQ
  rw [List.length_reverse]
  have := (List.dropWhile_suffix (fun x : Rat => x == 0) (l := xs.reverse)).length_le
  rw [List.length_reverse] at this
  exact this
theorem trimQ_mem {xs : List Rat} {x : Rat} (h : x ∈ trimQ xs) : x ∈ xs := by
  unfold trimQ at h
  have h2 := (List.dropWhile_sublist _).mem (List.mem_reverse.mp h)
  exact List.mem_reverse.mp h2
theorem trimQ_id {xs : List Rat} (h : Told xs) : trimQ xs = xs := told_ext (trimQ_told xs) h (trimQ_co xs)
/-- top and bottom of a number -/
def nd (x : Rat) : Int × Int := (x.num, x.den)
theorem nd_zero {x : Rat} : ((nd x).1 = 0) ↔ x = 0 := Rat.num_eq_zero
theorem nd_inj {x y : Rat} (h : nd x = nd y) : x = y := by
  have h1 : x.num = y.num := congrArg Prod.fst h
  have h2 : (x.den : Int) = y.den := congrArg Prod.snd h
  exact Rat.ext h1 (by omega)
end Fp

namespace Fp
open PySem PySem.Spec PyProof.Rows L2
/-! ### // by any number but 0, sizes -/
def CDivNW (_ j : Int) : Prop := j ≠ 0 ∧ j.natAbs.log2 < 9000
theorem op_fdivNW {X : Cx} : OpR X (binaryOp .FloorDiv) (rI CDivNW fun i j => .int (i.fdiv j)) := opI fun _ _ _ _ _ _ _ hc q => floordiv_int hc.1 q (.inl (PyProof.noPylong_of_log2 hc.2))
theorem LbI.log {n : Nat} {z : Int} (h : LbI n z) : z.natAbs.log2 ≤ n := by
  by_cases e : z.natAbs = 0
  · rw [e]; exact Nat.zero_le _
  · exact Nat.le_of_lt ((Nat.log2_lt e).mpr h)
theorem LbI.div {n : Nat} {i z : Int} (h : LbI n z) (l : n ≤ 8990) (h0 : z ≠ 0) : CDivNW i z := ⟨h0, by have := h.log; omega⟩
theorem LbI.cm {n m : Nat} {a b : Int} (h : LbI n a) (g : LbI m b) (l : n + m ≤ 999990) : CMulW a b := by
  have := h.log
  have := g.log
  unfold CMulW
  omega
theorem LbI.small {a : Int} {k : Nat} (h : a.natAbs < 2 ^ k) : LbI k a := h
theorem LbI.zero {n : Nat} : LbI n 0 := Nat.two_pow_pos n
/-! ### Ratios -/
def RQ (C : Addr) (H : Hp) (a : Addr) (x : Rat) : Prop := Rat2 C H a x.num x.den
theorem RQ.same {C : Addr} {H H' : Hp} {a : Addr} {x : Rat} (h : RQ C H a x) (e : Same H H') : RQ C H' a x := Rat2.same h e
abbrev QL (C : Addr) (H : Hp) (us : List V) (xs : List Rat) : Prop := RatL C H us (xs.map nd)
def NumQ (C : Addr) (H : Hp) (v : V) (x : Rat) : Prop := NumV C H v x.num x.den
theorem NumQ.same {C : Addr} {H H' : Hp} {v : V} {x : Rat} (h : NumQ C H v x) (e : Same H H') : NumQ C H' v x := NumV.same h e
theorem RQ.nq {C : Addr} {H : Hp} {a : Addr} {x : Rat} (h : RQ C H a x) : NumQ C H (.ref a) x := .inr ⟨a, rfl, h⟩
theorem NumQ.int {C : Addr} {H : Hp} {i : Int} : NumQ C H (.int i) (i : Rat) := .inl ⟨rfl, rfl⟩
theorem RQ.red {x : Rat} : RdI x.num x.den := ⟨den_pos x, x.reduced⟩
theorem NumQ.own {C : Addr} {H : Hp} {v : V} {x : Rat} (h : NumQ C H v x) : (∃ i, v = .int i) ∨ ∃ b dy gs, v = .ref b ∧ H b = some (.ins C dy gs) := by
  rcases h with ⟨h1, _⟩ | ⟨c, h1, dy, h2⟩
  · exact .inl ⟨_, h1⟩
  · exact .inr ⟨c, dy, _, h1, h2⟩
theorem QL.at {C : Addr} {H : Hp} {us : List V} {xs : List Rat} (h : QL C H us xs) {i : Nat} {v : V} (hv : us[i]? = some v) : ∃ x a, xs[i]? = some x ∧ v = .ref a ∧ RQ C H a x := by
  obtain ⟨pq, a, h1, h2, h3⟩ := h.at_ i v hv
  rw [List.getElem?_map] at h1
  cases e : xs[i]? with
  | none => rw [e] at h1; cases h1
  | some x => rw [e] at h1; obtain rfl := Option.some.inj h1; exact ⟨x, a, rfl, h2, h3⟩
theorem QL.len {C : Addr} {H : Hp} {us : List V} {xs : List Rat} (h : QL C H us xs) : us.length = xs.length := by rw [RatL.len h, List.length_map]
theorem QL.nil {C : Addr} {H : Hp} : QL C H [] [] := RatL.nil
theorem QL.mk {C : Addr} {H : Hp} {us : List V} {xs : List Rat} (l : us.length = xs.length) (h : ∀ (i : Nat) v x, us[i]? = some v → xs[i]? = some x → ∃ a, v = .ref a ∧ RQ C H a x) : QL C H us xs :=
  ⟨by rw [List.length_map]; exact l, fun i v hv => by
    have li := (List.getElem?_eq_some_iff.mp hv).1
    have hx : xs[i]? = some xs[i] := List.getElem?_eq_getElem (by omega)
    obtain ⟨a, h1, h2⟩ := h i v _ hv hx
    exact ⟨nd xs[i], a, by rw [List.getElem?_map, hx]; rfl, h1, h2⟩⟩
theorem QL.snoc {C : Addr} {H : Hp} {us : List V} {xs : List Rat} (h : QL C H us xs) {a : Addr} {x : Rat} (r : RQ C H a x) : QL C H (us ++ [.ref a]) (xs ++ [x]) := by
  have := RatL.snoc h r
  show RatL C H _ ((xs ++ [x]).map nd)
  rw [List.map_append]; exact this
theorem QL.take {C : Addr} {H : Hp} {us : List V} {xs : List Rat} (h : QL C H us xs) (n : Nat) : QL C H (us.take n) (xs.take n) := by
  have := RatL.take h n
  show RatL C H _ ((xs.take n).map nd)
  rw [List.map_take]; exact this
theorem QL.drop {C : Addr} {H : Hp} {us : List V} {xs : List Rat} (h : QL C H us xs) (n : Nat) : QL C H (us.drop n) (xs.drop n) :=
  QL.mk (by rw [List.length_drop, List.length_drop, h.len]) fun i v x hv hx => by
    rw [List.getElem?_drop] at hv hx
    obtain ⟨y, a, h1, h2, h3⟩ := h.at hv
    rw [hx] at h1
    obtain rfl := Option.some.inj h1
    exact ⟨a, h2, h3⟩
theorem QL.app {C : Addr} {H : Hp} {us ws : List V} {xs ys : List Rat} (h : QL C H us xs) (g : QL C H ws ys) : QL C H (us ++ ws) (xs ++ ys) :=
  QL.mk (by rw [List.length_append, List.length_append, h.len, g.len]) fun i v x hv hx => by
    have l := h.len
    by_cases z : i < us.length
    · rw [List.getElem?_append_left z] at hv
      rw [List.getElem?_append_left (by omega)] at hx
      obtain ⟨y, a, h1, h2, h3⟩ := h.at hv
      rw [hx] at h1
      obtain rfl := Option.some.inj h1
      exact ⟨a, h2, h3⟩
    · rw [List.getElem?_append_right (by omega)] at hv hx
      rw [l] at hv
      obtain ⟨y, a, h1, h2, h3⟩ := g.at hv
      rw [hx] at h1
      obtain rfl := Option.some.inj h1
      exact ⟨a, h2, h3⟩
theorem QL.dropLast {C : Addr} {H : Hp} {us : List V} {xs : List Rat} (h : QL C H us xs) : QL C H us.dropLast xs.dropLast := by
  rw [List.dropLast_eq_take, List.dropLast_eq_take, h.len]; exact h.take _
theorem QL.rev {C : Addr} {H : Hp} {us : List V} {xs : List Rat} (h : QL C H us xs) : QL C H us.reverse xs.reverse :=
  QL.mk (by rw [List.length_reverse, List.length_reverse, h.len]) fun i v x hv hx => by
    have li := (List.getElem?_eq_some_iff.mp hv).1
    rw [List.length_reverse] at li
    have l := h.len
    rw [List.getElem?_reverse (by omega)] at hv hx
    rw [l] at hv
    obtain ⟨y, a, h1, h2, h3⟩ := h.at hv
    rw [hx] at h1
    obtain rfl := Option.some.inj h1
    exact ⟨a, h2, h3⟩
theorem trimP_nd (xs : List Rat) : trimP (xs.map nd) = (trimQ xs).map nd := by
  induction xs using snoc_ind with
  | h0 => rfl
  | h1 A x ih =>
    rw [List.map_append]
    by_cases h : x = 0
    · rw [trimQ_zero h, ← ih]
      exact trimP_zero (nd_zero.mpr h)
    · rw [trimQ_nz h, List.map_append]
      exact trimP_nz fun z => h (nd_zero.mp z)
/-! ### Ratio(t, b), its methods -/
def spRQ (C : Addr) : Sp := fun vs H Q _ => ∃ (p dx : Addr) (t b : Int), vs = [.ref p, .int t, .int b] ∧ b ≠ 0 ∧ LbI 8990 b ∧ H p = some (.ins C dx []) ∧ ∀ H', (∀ b o, b ≠ p → H b = some o → H' b = some o) → H' p = some (.ins C dx [("_top", .int (Rat.divInt t b).num), ("_bottom", .int (Rat.divInt t b).den)]) → Q .non H'
structure RDefQ (P : Program) (w : World) (K : PySem.W.Frag) (mg : Str → Option Value) (base : Heap) (k : Nat) (C : Addr) : Prop where
  ex : ∃ (fI fR : Addr) (fdI : FuncData), RCls K mg C fI fR ∧ FnOk P w K mg base CX0 k fI fdI ["self", "top", "bottom"] (spRQ C) ∧ Binds K fdI ["self", "top", "bottom"] []
def tRatQ (C : Addr) (t : TA) : TE := fun σ H Q => t σ H fun vs H1 => ∃ i j : Int, vs = [.int i, .int j] ∧ j ≠ 0 ∧ LbI 8990 j ∧ ∀ a H', H1 a = none → Same H1 H' → RQ C H' a (Rat.divInt i j) → Q (.ref a) H'
theorem pe_ratQ {X : Cx} {C : Addr} {k : Nat} (D : RDefQ X.prog X.w X.K X.mg X.base k C) (hr : Room (k + 1) X.A) {p pos : Pos} {e : Expr} {es : List Expr} {t : TA} (hg : Gl X "Ratio") (ha : PA X (e :: es) t)
    (he : starEach (e :: es) X.env = (false, eval e X.env) :: starEach es X.env := by rfl) (hpl : (backTo pos (starEach es X.env)).any (·.1) = false := by rfl) : PE X (.Call (.Name "Ratio" p) (e :: es) [] pos) (tRatQ C t) := by
  obtain ⟨fI, fR, fdI, R, FI, bI⟩ := D.ex
  refine ⟨fun pins s σ H Q I h => ?_⟩
  refine wpAny_Call_Name_kw (ld_glob I hg R.mgC ?_ (by decide))
  refine PySem.W.callWith_K (h₀ := X.base) I.ok.mod.kin R.make.kp (thn (ha.run pos pins s σ H _ I h) fun us s1 ⟨vs, H1, I1, r, q⟩ => ⟨I1.kIn, ?_⟩) he hpl
  refine run_make (dvs := []) R.make FI hr bI .nil (pass0 (X := X)) I1 r fun x dx nx ndx ne => ?_
  obtain ⟨i, j, rfl, j0, jb, q⟩ := q
  refine ⟨x, dx, i, j, rfl, j0, jb, upd_same, fun H' kp hx => ⟨rfl, q x H' nx (fun b o e => ?_) ⟨dx, hx⟩⟩⟩
  have n1 := ne_of_none e nx
  exact kp b o n1 (by rw [upd_ne n1, upd_ne (ne_of_none e ndx)]; exact e)
def spMulQ (C : Addr) : Sp := fun vs H Q _ => ∃ (a : Addr) (y : V) (x z : Rat) (n m : Nat), vs = [.ref a, y] ∧ RQ C H a x ∧ NumQ C H y z ∧ Bits n x ∧ Bits m z ∧ n + m ≤ 8900 ∧ ∀ r H', Same H H' → RQ C H' r (x * z) → Q (.ref r) H'
def spSubQ (C : Addr) : Sp := fun vs H Q _ => ∃ (a : Addr) (y : V) (x z : Rat) (n m : Nat), vs = [.ref a, y] ∧ RQ C H a x ∧ NumQ C H y z ∧ Bits n x ∧ Bits m z ∧ n + m ≤ 8900 ∧ ∀ r H', Same H H' → RQ C H' r (x - z) → Q (.ref r) H'
def spAddQ (C : Addr) : Sp := fun vs H Q _ => ∃ (a : Addr) (y : V) (x z : Rat) (n m : Nat), vs = [.ref a, y] ∧ RQ C H a x ∧ NumQ C H y z ∧ Bits n x ∧ Bits m z ∧ n + m ≤ 8900 ∧ ∀ r H', Same H H' → RQ C H' r (x + z) → Q (.ref r) H'
def spOverQ (C : Addr) : Sp := fun vs H Q _ => ∃ (a : Addr) (y : V) (x z : Rat) (n m : Nat), vs = [.ref a, y] ∧ RQ C H a x ∧ NumQ C H y z ∧ Bits n x ∧ Bits m z ∧ n + m ≤ 8900 ∧ z ≠ 0 ∧ ∀ r H', Same H H' → RQ C H' r (x / z) → Q (.ref r) H'
theorem Bits.mul {n m : Nat} {x y : Rat} (h : Bits n x) (g : Bits m y) : Bits (n + m) (x * y) := by
  rw [← divInt_mul]
  exact Bits.divInt (h.1.mul g.1) (h.2.mul g.2) (by have := Int.mul_pos (den_pos x) (den_pos y); omega)
theorem Bits.sub {n m : Nat} {x y : Rat} (h : Bits n x) (g : Bits m y) : Bits (n + m + 1) (x - y) := by
  rw [← divInt_sub]
  refine Bits.divInt ((h.1.mul g.2).sub ?_) ((h.2.mul g.2).mono (by omega)) (by have := Int.mul_pos (den_pos x) (den_pos y); omega)
  have := g.1.mul h.2
  rw [Nat.add_comm m n] at this
  exact this
theorem Bits.add {n m : Nat} {x y : Rat} (h : Bits n x) (g : Bits m y) : Bits (n + m + 1) (x + y) := by
  rw [← divInt_add]
  refine Bits.divInt ((h.1.mul g.2).add ?_) ((h.2.mul g.2).mono (by omega)) (by have := Int.mul_pos (den_pos x) (den_pos y); omega)
  have := g.1.mul h.2
  rw [Nat.add_comm m n] at this
  exact this
theorem Bits.over {n m : Nat} {x y : Rat} (h : Bits n x) (g : Bits m y) (h0 : y ≠ 0) : Bits (n + m) (x / y) := by
  rw [← divInt_over]
  refine Bits.divInt (h.1.mul g.2) (h.2.mul g.1) fun z => ?_
  rcases Int.mul_eq_zero.mp z with e | e
  · have := den_pos x; omega
  · exact num_ne h0 e
end Fp

namespace Fp
open PySem PySem.Spec PyProof.Rows L2
def rLcm : List V → Hp → VK → Prop := fun vs H Q => ∃ a b : Int, vs = [.int a, .int b] ∧ a.natAbs < 2 ^ 64 ∧ b.natAbs < 2 ^ 64 ∧ Q (.int ((a.natAbs.lcm b.natAbs : Nat) : Int)) H
theorem cr_lcm {X : Cx} : CallR X (.builtin "math.lcm") rLcm := by
  intro pins s σ H vs us Q I r h
  obtain ⟨a, b, rfl, ha, hb, q⟩ := h
  obtain ⟨t, u, rfl⟩ := Vals.int2 r
  exact PySem.W.mc_lcm ha hb fun _ => ⟨.int _, H, I.tok _, ⟨_, rfl⟩, q⟩
/-! ### - of an own number -/
def rOwn1 (C : Addr) (sp : Sp) : V → Hp → VK → Prop := fun x H Q => ∃ a dx fs, x = .ref a ∧ H a = some (.ins C dx fs) ∧ sp [x] H Q E0
structure UnX (P : Program) (w : World) (K : PySem.W.Frag) (mg : Str → Option Value) (base : Heap) (k : Nat) (C : Addr) (sp : Sp) : Prop where
  ex : ∃ (f : Addr) (fd : FuncData), PySem.W.findIn K (.ref C) "__neg__" = some (some (.ref f)) ∧ PySem.W.isFn K (.ref f) = true ∧ FnOk P w K mg base CX0 k f fd ["self"] sp ∧ Binds K fd ["self"] []
theorem un_ownX {X : Cx} {C : Addr} {k : Nat} {sp : Sp} (D : UnX X.prog X.w X.K X.mg X.base k C sp) (hr : Room k X.A) : UnR X (unaryOp .USub) (rOwn1 C sp) := by
  obtain ⟨f, fd, hs, hf, F, hb⟩ := D.ex
  intro pins s σ H x v Q I rx hq
  obtain ⟨a, dx, fs, rfl, ha, hsp⟩ := hq
  cases rx
  obtain ⟨mA, J, _⟩ := ins_get I.hok ha
  obtain ⟨od, J, _⟩ := J.look
  obtain ⟨m, hF⟩ := I.fr
  refine PySem.W.ksp_neg hF I.ok.mod.kin J hs hf ?_
  have hl := F.len _ _ _ _ hsp
  have r2 : Vals [V.ref a] [Value.ref a] := .cons rfl .nil
  refine wpAny_call (codeAny_mono (F.run X.A X.stack s H ⟨[.ref a], []⟩ [.ref a] [.ref a] _ E0 hr I.env0 (by
    have := hb s [.ref a] I.kIn (by simpa using hl)
    simpa using this) r2 hsp) fun r s' hq => ?_)
  cases r with
  | error e => exact pass0 (X := X) pins σ H s e s' I hq
  | ok fl =>
    cases fl with
    | ret w => exact I.after hq
    | next => exact False.elim hq
    | brk => exact False.elim hq
    | cont => exact False.elim hq
/-- == of two own numbers, the same -/
theorem op_eqR {X : Cx} {C : Addr} {k : Nat} (D : EqX X.prog X.w X.K X.mg X.base k C) (hr : Room k X.A) : OpR X (compareOp .Eq) (rEqG (DIns C (SameR C))) := by
  obtain ⟨f, fd, h1, h2, F, hb⟩ := D.ex
  exact op_eqG (rcG_ins F h1 h2 hb (pass0 (X := X))) hr
def spNegQ (C : Addr) : Sp := fun vs H Q _ => ∃ (a : Addr) (x : Rat) (n : Nat), vs = [.ref a] ∧ RQ C H a x ∧ Bits n x ∧ n ≤ 8900 ∧ ∀ r H', Same H H' → RQ C H' r (-x) → Q (.ref r) H'
theorem Bits.neg {n : Nat} {x : Rat} (h : Bits n x) : Bits n (-x) := ⟨h.1.neg, h.2⟩
theorem divInt_neg (x : Rat) : Rat.divInt (-x.num) x.den = -x := by rw [← Rat.neg_divInt, Rat.num_divInt_den]
end Fp

namespace Fp
open PySem PySem.Spec PyProof.Rows L2
/-! ### an int and an own number: the reflected way -/
section
variable {prog : Program} {w : World} {A : Around} {E : Value → Shared → Prop} {s : Shared}
theorem int_add_ref {i : Int} {t : Tok} {x C dx : Addr} {Q : Value → Shared → Prop} (hx : s.heap.get? x = some (PySem.W.instObj C dx)) (h : Q .notImplemented s) :
    wpAny (model prog w) A (call (.builtin "int.__add__") [.int i t, .ref x]) Q E s := by
  refine wpAny_call_entry F.slot_int_add (typeIs_int s i t) F.entry_int_add ?_ (F.args_int_add_2 _ _)
  obtain ⟨hp, g, d, tk, os⟩ := s
  unfold Builtin.«int.__add__» Builtin.Int.intBinary
  repeat (any_goals (first | assumption | wp_step))
  exact ⟨_, rfl, h⟩
theorem int_mul_ref {i : Int} {t : Tok} {x C dx : Addr} {Q : Value → Shared → Prop} (hx : s.heap.get? x = some (PySem.W.instObj C dx)) (h : Q .notImplemented s) :
    wpAny (model prog w) A (call (.builtin "int.__mul__") [.int i t, .ref x]) Q E s := by
  refine wpAny_call_entry F.slot_int_mul (typeIs_int s i t) F.entry_int_mul ?_ (F.args_int_mul_2 _ _)
  obtain ⟨hp, g, d, tk, os⟩ := s
  unfold Builtin.«int.__mul__» Builtin.Int.intBinary
  repeat (any_goals (first | assumption | wp_step))
  exact ⟨_, rfl, h⟩
end
section
variable {prog : Program} {w : World} {A : Around} {E : Value → Shared → Prop} {s : Shared} {K : PySem.W.Frag} {x C L f f0 : Addr} {h₀ : Heap} {m : Str → Option Value} {ox : Obj} {od : Option Obj}
theorem ksp_rbin {op : Operator} {i : Int} {t : Tok} {Q : Value → Shared → Prop} (F : PyProof.Rows.Fr h₀ L s.heap m) (X₀ : K.In h₀) (I : PySem.W.InstAt s.heap x ox C od) (hc : PySem.W.selfFirst K C = true)
    (hs : PySem.W.findIn K (.ref C) (PySem.dunder op.info.2) = some (some (.ref f0))) (hr : PySem.W.findIn K (.ref C) (PySem.dunderR op.info.2) = some (some (.ref f))) (hf : PySem.W.isFn K (.ref f) = true)
    (hfi : fillsNumberSlot (.type "int") op.info.2 = pure true) (hsub : PySem.W.subIn K (.ref C) (.type "int") = some false)
    (hd : ∀ Q' : Option Value → Shared → Prop, Q' none s → wpAny (model prog w) A (tryMethod (.int i t) (PySem.dunder op.info.2) (.ref x)) Q' E s)
    (h : wpAny (model prog w) A (call (.ref f) [.ref x, .int i t]) (PySem.W.CmpBack Q) E s) : wpAny (model prog w) A (binaryOp op (.int i t) (.ref x)) Q E s := by
  have X := X₀.keeps F.keep
  obtain ⟨cd, rest, hcd, hm⟩ := PySem.W.ksp_first hc
  rcases hi : op.info with ⟨sym, nm'⟩
  rw [hi] at hs hr hfi hd
  dsimp only at hs hr hfi hd
  have one := PySem.W.ksp_try X I hr hf h
  have dec := hd
  obtain ⟨hh, g, d, tt, os⟩ := s
  have L1 : PySem.W.Looks (model prog w) hh (typeOf (.ref x)) (.ref C) := I.type
  have L2 : PySem.W.Looks (model prog w) hh (typeOf (.int i t)) (.type "int") := PySem.W.Looks.of_pure rfl
  have L3 : PySem.W.Looks (model prog w) hh (fillsNumberSlot (.ref C) nm') true := PySem.W.fills_K X hcd hm hs
  have L4 : PySem.W.Looks (model prog w) hh (fillsNumberSlot (.type "int") nm') true := PySem.W.Looks.of_pure hfi
  have L5 : PySem.W.Looks (model prog w) hh (isSubtype (.ref C) (.type "int")) false := PySem.W.looks_subIn X hsub
  have L7 : PySem.W.Looks (model prog w) hh (numberSlotInPython (.type "int") nm') false := PySem.W.Looks.of_pure rfl
  have hne : (Value.type "int" == Value.ref C) = false := Bool.eq_false_iff.mpr fun q => by cases beq_iff_eq.mp q
  simp only [binaryOp, hi]
  refine wpAny_holding (wpAny_bind ?_)
  unfold binaryOp1
  refine wpAny_bind (L2.at (wpAny_bind (L1.at (wpAny_bind (L4.at ?_)))))
  simp only [hne, Bool.false_eq_true, if_false]
  ksp_lk
  refine dec _ ?_
  ksp_lk
  refine wpAny_mono one (fun r s' hr' => ?_) fun _ _ e => e
  obtain ⟨v, rfl, hq⟩ := hr'
  ksp_lk
  exact hq
end
/-! ### + and * of numbers of either kind -/
structure RevF (K : PySem.W.Frag) (C f : Addr) (op : Operator) : Prop where
  sf : PySem.W.selfFirst K C = true
  hs : ∃ g : Addr, PySem.W.findIn K (.ref C) (PySem.dunder op.info.2) = some (some (.ref g))
  hr : PySem.W.findIn K (.ref C) (PySem.dunderR op.info.2) = some (some (.ref f))
  hf : PySem.W.isFn K (.ref f) = true
  hsub : PySem.W.subIn K (.ref C) (.type "int") = some false
structure RevX (P : Program) (w : World) (K : PySem.W.Frag) (mg : Str → Option Value) (base : Heap) (k : Nat) (C : Addr) (op : Operator) (sp : Sp) : Prop where
  ex : ∃ (f : Addr) (fd : FuncData), RevF K C f op ∧ FnOk P w K mg base CX0 k f fd ["self", "other"] sp ∧ Binds K fd ["self", "other"] []
def Refl (op : Operator) : Prop := fillsNumberSlot (.type "int") op.info.2 = pure true ∧ ∀ (prog : Program) (w : World) (A : Around) (E : Value → Shared → Prop) (s : Shared) (i : Int) (t : Tok) (x C dx : Addr) (Q : Option Value → Shared → Prop),
  s.heap.get? x = some (PySem.W.instObj C dx) → Q none s → wpAny (model prog w) A (tryMethod (.int i t) (PySem.dunder op.info.2) (.ref x)) Q E s
theorem refl_add : Refl .Add := ⟨F.fills_int_add, fun prog w A E s i t x C dx Q hx q => wpAny_tryMethod_declines (typeIs_int s i t) F.slot_int_add (int_add_ref hx ⟨rfl, q⟩)⟩
theorem refl_mul : Refl .Mult := ⟨F.fills_int_mul, fun prog w A E s i t x C dx Q hx q => wpAny_tryMethod_declines (typeIs_int s i t) F.slot_int_mul (int_mul_ref hx ⟨rfl, q⟩)⟩
/-- an int by an own number -/
def rRev (C : Addr) (sp : Sp) : R2 := fun x y H Q => ∃ i a dx fs, x = .int i ∧ y = .ref a ∧ H a = some (.ins C dx fs) ∧ sp [y, x] H (fun v H' => (∃ r, v = .ref r) ∧ Q v H') E0
theorem op_rev {X : Cx} {C : Addr} {op : Operator} {n : Nat} {sp : Sp} (rf : Refl op) (D : RevX X.prog X.w X.K X.mg X.base n C op sp) (hr : Room n X.A) : OpR X (binaryOp op) (rRev C sp) := by
  obtain ⟨f, fd, B, F, hb⟩ := D.ex
  intro pins s σ H x y v u Q I rx ry hq
  obtain ⟨i, a, dx, fs, rfl, rfl, ha, hsp⟩ := hq
  obtain ⟨t, rfl⟩ := rx
  cases ry
  obtain ⟨mA, J, _⟩ := ins_get I.hok ha
  have jo := J.obj
  obtain ⟨od, J, _⟩ := J.look
  obtain ⟨m, hF⟩ := I.fr
  obtain ⟨g, hs1⟩ := B.hs
  refine ksp_rbin hF I.ok.mod.kin J B.sf hs1 B.hr B.hf rf.1 B.hsub (fun Q' q => rf.2 _ _ _ _ _ _ _ _ _ _ _ jo q) ?_
  have hl := F.len _ _ _ _ hsp
  have r2 : Vals [V.ref a, V.int i] [Value.ref a, Value.int i t] := .cons rfl (.cons ⟨t, rfl⟩ .nil)
  refine wpAny_call (codeAny_mono (F.run X.A X.stack s H ⟨[.ref a, .int i t], []⟩ [.ref a, .int i t] [.ref a, .int i] _ E0 hr I.env0 (by
    have := hb s [.ref a, .int i t] I.kIn (by simpa using hl)
    simpa using this) r2 hsp) fun r s' hq => ?_)
  cases r with
  | error e => exact pass0 (X := X) pins σ H s e s' I hq
  | ok fl =>
    cases fl with
    | ret w =>
      obtain ⟨z, H', I', rz, ⟨r, ez⟩, q⟩ := I.after hq
      subst ez
      cases rz
      exact ⟨.ref r, H', I', rfl, q⟩
    | next => exact False.elim hq
    | brk => exact False.elim hq
    | cont => exact False.elim hq
/-- the sum or the product of two numbers, of either kind each -/
def rNum (C : Addr) (sp spr : Sp) (g : Int → Int → V) (c : Int → Int → Prop) : R2 := fun x y H Q => (rI c g x y H Q) ∨ (rOwn C sp x y H Q) ∨ (rRev C spr x y H Q)
theorem op_or {X : Cx} {f : Value → Value → Sem Value} {r1 r2 : R2} (h1 : OpR X f r1) (h2 : OpR X f r2) : OpR X f (fun x y H Q => r1 x y H Q ∨ r2 x y H Q) := fun pins s σ H x y v u Q I rx ry h => h.elim (fun h => h1 pins s σ H x y v u Q I rx ry h) (fun h => h2 pins s σ H x y v u Q I rx ry h)
theorem op_numAdd {X : Cx} {C : Addr} {n : Nat} {sp spr : Sp} (A : BinX X.prog X.w X.K X.mg X.base n C .Add sp) (R : RevX X.prog X.w X.K X.mg X.base n C .Add spr) (hr : Room n X.A) : OpR X (binaryOp .Add) (fun x y H Q => (rI0 (fun i j => .int (i + j)) x y H Q) ∨ (rOwn C sp x y H Q) ∨ (rRev C spr x y H Q)) :=
  op_or op_add (op_or (op_ownX A hr) (op_rev refl_add R hr))
theorem op_numMul {X : Cx} {C : Addr} {n : Nat} {sp spr : Sp} (A : BinX X.prog X.w X.K X.mg X.base n C .Mult sp) (R : RevX X.prog X.w X.K X.mg X.base n C .Mult spr) (hr : Room n X.A) : OpR X (binaryOp .Mult) (rNum C sp spr (fun i j => .int (i * j)) CMulW) :=
  op_or op_mulW (op_or (op_ownX A hr) (op_rev refl_mul R hr))
end Fp

namespace Fp
open PySem PySem.Spec PyProof.Rows L2
/-! ### != of two equal lists whose items have an own == -/
section
variable {pr : Program} {w : World} {A : Around} {R : Result → Shared → Prop}
theorem ne_turns (a c : Addr) (N : Nat) (J : Nat → Shared → Prop) (hJ : GQ.ListI pr w A (fun e s' => R (.error e) s') a c N J) (done : ∀ s, J N s → R (.ok (.ret (.bool false))) s) :
    ∀ (k i : Nat), i + k = N → ∀ s, J i s → wpAny (model pr w) A.in1 (Builtin.«list.__eq__.loop» ⟨[.ref a, .ref c, rawInt i, rawInt 3], []⟩) (GQ.FinOf pr w A R) (fun e s' => R (.error e) s') s
  | 0, i, hk, s, h => by
    obtain ⟨us, vs, n1, n2, e1, e2, z1, z2, _⟩ := hJ _ _ h
    have ei : i = N := by omega
    have fin := done s (ei ▸ h)
    obtain ⟨hp, g, d, tk, os⟩ := s
    wp_walk using AutoSeq1.wpAny_loadPart' e1, AutoSeq1.wpAny_loadPart' e2
    have q1 : us[((i : Nat) : Int).toNat]? = none := by rw [Int.toNat_natCast]; exact Array.getElem?_eq_none (by omega)
    have q2 : vs[((i : Nat) : Int).toNat]? = none := by rw [Int.toNat_natCast]; exact Array.getElem?_eq_none (by omega)
    rw [q1, q2]
    wp_walk using AutoSeq1.wpAny_loadPart' e1, AutoSeq1.wpAny_loadPart' e2
    show R (.ok (.ret (.bool (us.size != vs.size)))) _
    rw [show (us.size != vs.size) = false by rw [z1, z2]; simp]
    exact fin
  | k + 1, i, hk, s, h => by
    obtain ⟨us, vs, n1, n2, e1, e2, z1, z2, tn⟩ := hJ _ _ h
    have l1 : i < us.size := by omega
    have l2 : i < vs.size := by omega
    have one := tn l1 l2
    obtain ⟨hp, g, d, tk, os⟩ := s
    wp_walk using AutoSeq1.wpAny_loadPart' e1, AutoSeq1.wpAny_loadPart' e2
    have q1 : us[((i : Nat) : Int).toNat]? = some us[i] := by rw [Int.toNat_natCast]; exact Array.getElem?_eq_getElem l1
    have q2 : vs[((i : Nat) : Int).toNat]? = some vs[i] := by rw [Int.toNat_natCast]; exact Array.getElem?_eq_getElem l2
    rw [q1, q2]
    refine wpAny_bind (wpAny_mono one (fun r t2 y => ?_) fun _ _ z => z)
    obtain ⟨rfl, y⟩ := y
    have more := ne_turns a c N J hJ done k (i + 1) (by omega) t2 y
    obtain ⟨hp2, g2, d2, tk2, os2⟩ := t2
    wp_walk
    rw [show ((i : Int) + 1) = ((i + 1 : Nat) : Int) by omega]
    refine ⟨plainId_quiet MeetsSeq3.plain_eq_loop _, codeAny_builtin MeetsSeq3.entry_eq_loop ?_⟩
    rw [Around.under_plainId MeetsSeq3.plain_eq_loop _]
    exact more
theorem ne_list (a c : Addr) (N : Nat) (J : Nat → Shared → Prop) (hJ : GQ.ListI pr w A (fun e s' => R (.error e) s') a c N J) (done : ∀ s, J N s → R (.ok (.ret (.bool false))) s) {s : Shared} (h : J 0 s) :
    wpAny (model pr w) A.in1 (Builtin.«list.__ne__» ⟨[.ref a, .ref c], []⟩) (GQ.FinOf pr w A R) (fun e s' => R (.error e) s') s := by
  obtain ⟨us, vs, n1, n2, e1, e2, z1, z2, _⟩ := hJ _ _ h
  have more := ne_turns (A := A) (R := R) a c N J hJ done N 0 (by omega) s h
  obtain ⟨hp, g, d, tk, os⟩ := s
  have sb := AutoSeq1.sub_list_list
  have ne : ¬ (us.size != vs.size) = true := by rw [z1, z2]; simp
  wp_walk using AutoSeq1.wpAny_loadPart' e1, AutoSeq1.wpAny_loadPart' e2
  refine ⟨plainId_quiet MeetsSeq3.plain_eq_loop _, codeAny_builtin MeetsSeq3.entry_eq_loop ?_⟩
  rw [Around.under_plainId MeetsSeq3.plain_eq_loop _]
  exact more
end
/-- a rich comparison by != of what D says is equal -/
def RcN (X : Cx) (n : Nat) (D : Eqv) : Prop := ∀ (A : Around) (pins : List (Addr × Obj)) (s : Shared) (σ : L2.St) (H : Hp) (x y : V) (u v : Value), Sub X n A → L2.Inv X pins σ H s → RelV x u → RelV y v → D x y H →
  wpAny (model X.prog X.w) A (richCompare .NotEq u v) (fun r s' => r = .bool false ∧ LoopI X pins σ H s') X.xe s
theorem rcN_list {X : Cx} {n : Nat} {D : Eqv} (hD : Mon D) (h : EqG X n D) : RcN X (n + 1) (DList D) := by
  intro A pins s σ H x y u v sb I rx ry d
  obtain ⟨a, b, xs, ys, rfl, rfl, ha, hb, p⟩ := d
  cases rx
  cases ry
  have hJ : GQ.ListI X.prog X.w A X.xe a b xs.length (fun _ s' => LoopI X pins σ H s') := fun i s' q => by
    obtain ⟨H1, I1, e1⟩ := id q
    obtain ⟨z, us, k, r, e⟩ := I1.hok a _ (e1 _ _ ha)
    obtain ⟨z2, vs, k2, r2, e2⟩ := I1.hok b _ (e1 _ _ hb)
    exact ⟨us.toArray, vs.toArray, k, k2, e, e2, by rw [List.size_toArray, ← r.length], by rw [List.size_toArray, ← r2.length, ← p.1], fun h1 h2 => turnG hD h sb p r r2 i h1 h2 s' q⟩
  have h0 : LoopI X pins σ H s := ⟨H, I, Ext.rfl'⟩
  obtain ⟨us, vs, n1, n2, e1, e2, _, _, _⟩ := hJ 0 s h0
  refine wpAny_richCompare_same_room (op := .NotEq) ⟨_, e1, rfl⟩ ⟨_, e2, rfl⟩ F.slot_list_ne (GQ.call_here F.slot_list_ne ⟨_, e1, rfl⟩ F.entry_list_ne (F.args_list_ne_2 _ _) ?_) sb.room.units0
  exact ne_list (R := wants (fun v s' => v ≠ .notImplemented ∧ (v = .bool false ∧ LoopI X pins σ H s')) X.xe) a b xs.length (fun _ s' => LoopI X pins σ H s') hJ (fun s' q => ⟨(fun x => nomatch x), rfl, q⟩) h0
def rNeG (D : Eqv) : R2 := fun x y H Q => D x y H ∧ ∀ H', Ext H H' → Q (.bl false) H'
theorem op_neG {X : Cx} {n : Nat} {D : Eqv} (h : RcN X n D) (hr : Room n X.A) : OpR X (compareOp .NotEq) (rNeG D) := by
  intro pins s σ H x y v u Q I rx ry hq
  obtain ⟨d, q⟩ := hq
  show wpAny (model X.prog X.w) X.A (richCompare .NotEq v u) (EP X pins σ Q) X.xe s
  refine wpAny_mono (h X.A pins s σ H x y v u ⟨hr, rfl⟩ I rx ry d) (fun r s' z => ?_) fun _ _ z => z
  obtain ⟨rfl, H', I', e⟩ := z
  exact ⟨.bl false, H', I', rfl, q H' e⟩
/-- == and != of lists of own numbers, and of lists of these -/
theorem op_ne1 {X : Cx} {C : Addr} {k : Nat} (D : EqX X.prog X.w X.K X.mg X.base k C) (hr : Room (k + 1) X.A) : OpR X (compareOp .NotEq) (rNeG (DList (DIns C (SameR C)))) := op_neG (rcN_list mon_rat D.eqG) hr
theorem op_ne2 {X : Cx} {C : Addr} {k : Nat} (D : EqX X.prog X.w X.K X.mg X.base k C) (hr : Room (k + 2) X.A) : OpR X (compareOp .NotEq) (rNeG (DList (DList (DIns C (SameR C))))) := op_neG (rcN_list (mon_list mon_rat) (eqG_list mon_rat D.eqG)) hr
theorem op_eq1 {X : Cx} {C : Addr} {k : Nat} (D : EqX X.prog X.w X.K X.mg X.base k C) (hr : Room (k + 1) X.A) : OpR X (compareOp .Eq) (rEqG (DList (DIns C (SameR C)))) := op_eqG (rcG_list mon_rat D.eqG) hr
end Fp

namespace Fp
open PySem PySem.Spec PyProof.Rows L2
open AutoSeq1 (wpAny_loadPart')
open MeetsSeq MeetsSeq2 MeetsSeq3 SeqRoads2
/-! ### == of lists whose items have an own ==, however it comes out -/
section
variable {prog : Program} {w : World} {A : Around} {R : Result → Shared → Prop}
def ListIB (prog : Program) (w : World) (A : Around) (E : Value → Shared → Prop) (l b : Addr) (N : Nat) (bs : Nat → Bool) (I : Nat → Shared → Prop) : Prop :=
  ∀ i s, I i s → ∃ (items items2 : Array Value) (n n2 : Nat), s.heap.get? l = some { cls := .type "list", data := .seq items n } ∧ s.heap.get? b = some { cls := .type "list", data := .seq items2 n2 } ∧ items.size = N ∧ items2.size = N ∧
    ∀ (h1 : i < items.size) (h2 : i < items2.size), wpAny (model prog w) A.in1 (eqBool items[i] items2[i]) (fun r s' => r = bs i ∧ I (i + 1) s') E s
theorem eq_loopB (l b : Addr) (N : Nat) (bs : Nat → Bool) (I : Nat → Shared → Prop) (hl : ListIB prog w A (fun e s' => R (.error e) s') l b N bs I) (rr : Bool) (hr : rr = true ↔ ∀ i, i < N → bs i = true)
    (fin : ∀ i s, I i s → R (.ok (.ret (.bool rr))) s) (k : Nat) :
    ∀ i : Nat, N - i = k → i ≤ N → (∀ j, j < i → bs j = true) → ∀ s, I i s →
      wpAny (model prog w) A.in1 (Builtin.«list.__eq__.loop» ⟨[.ref l, .ref b, rawInt i, rawInt 2], []⟩) (GQ.FinOf prog w A R) (fun e s' => R (.error e) s') s := by
  induction k with
  | zero =>
    intro i hk hi hb s h
    obtain ⟨items, items2, n, n2, hl1, hb1, hs1, hs2, _⟩ := hl _ _ h
    have hi' : i = N := by omega
    have hR : R (.ok (.ret (.bool rr))) s := fin i s h
    rw [hr.mpr (fun j hj => hb j (by omega))] at hR
    obtain ⟨hp, g, d, tk, os⟩ := s
    wp_walk using wpAny_loadPart' hl1, wpAny_loadPart' hb1
    have hi1 : items[((i : Nat) : Int).toNat]? = none := by simp; omega
    have hi2 : items2[((i : Nat) : Int).toNat]? = none := by simp; omega
    rw [hi1, hi2]
    wp_walk using wpAny_loadPart' hl1, wpAny_loadPart' hb1
    show R (.ok (.ret (.bool (items.size == items2.size)))) _
    rw [hs1, hs2]
    simpa using hR
  | succ k ih =>
    intro i hk hi hb s h
    obtain ⟨items, items2, n, n2, hl1, hb1, hs1, hs2, turn⟩ := hl _ _ h
    have hlt : i < items.size := by omega
    have hlt2 : i < items2.size := by omega
    have ht := turn hlt hlt2
    obtain ⟨hp, g, d, tk, os⟩ := s
    wp_walk using wpAny_loadPart' hl1, wpAny_loadPart' hb1
    have hi1 : items[((i : Nat) : Int).toNat]? = some items[i] := by simp [hlt]
    have hi2 : items2[((i : Nat) : Int).toNat]? = some items2[i] := by simp [hlt2]
    have hc : ((i : Int) + 1) = ((i + 1 : Nat) : Int) := by omega
    rw [hi1, hi2]
    refine wpAny_bind (wpAny_mono ht (fun r s2 h2 => ?_) fun _ _ x => x)
    obtain ⟨hr2, h2⟩ := h2
    cases hbi : bs i with
    | true =>
      rw [hbi] at hr2
      subst hr2
      have hrec := ih (i + 1) (by omega) (by omega) (fun j hj => by
        by_cases z : j = i
        · rw [z]; exact hbi
        · exact hb j (by omega)) s2 h2
      obtain ⟨hp2, g2, d2, tk2, os2⟩ := s2
      wp_walk
      rw [hc]
      exact ⟨plainId_quiet plain_eq_loop _, codeAny_builtin entry_eq_loop (by
        rw [Around.under_plainId plain_eq_loop _]
        exact hrec)⟩
    | false =>
      rw [hbi] at hr2
      subst hr2
      have hR : R (.ok (.ret (.bool rr))) s2 := fin _ s2 h2
      have rf : rr = false := by
        cases e : rr with
        | false => rfl
        | true => have := hr.mp e i (by omega); rw [hbi] at this; cases this
      rw [rf] at hR
      obtain ⟨us, vs, m, m2, hu1, hv1, z1, z2, _⟩ := hl _ _ h2
      obtain ⟨hp2, g2, d2, tk2, os2⟩ := s2
      wp_walk using wpAny_loadPart' hu1, wpAny_loadPart' hv1
      have hu : us[((i : Nat) : Int).toNat]? = some us[i] := by simp [show i < us.size by omega]
      have hv : vs[((i : Nat) : Int).toNat]? = some vs[i] := by simp [show i < vs.size by omega]
      rw [hu, hv]
      wp_walk
      exact hR
theorem list_eqB (l b : Addr) (N : Nat) (bs : Nat → Bool) (I : Nat → Shared → Prop) (hl : ListIB prog w A (fun e s' => R (.error e) s') l b N bs I) (rr : Bool) (hr : rr = true ↔ ∀ i, i < N → bs i = true)
    (fin : ∀ i s, I i s → R (.ok (.ret (.bool rr))) s) {s : Shared} (h : I 0 s) :
    wpAny (model prog w) A.in1 (Builtin.«list.__eq__» ⟨[.ref l, .ref b], []⟩) (GQ.FinOf prog w A R) (fun e s' => R (.error e) s') s := by
  obtain ⟨items, items2, n, n2, hl1, hb1, hs1, hs2, _⟩ := hl _ _ h
  have hrec := eq_loopB (A := A) (R := R) l b N bs I hl rr hr fin _ 0 rfl (Nat.zero_le _) (fun j hj => by omega) s h
  obtain ⟨hp, g, d, tk, os⟩ := s
  have f3 := AutoSeq1.sub_list_list
  have hne : ¬ (items.size != items2.size) = true := by simp [hs1, hs2]
  wp_walk using wpAny_loadPart' hl1, wpAny_loadPart' hb1
  exact ⟨plainId_quiet plain_eq_loop _, codeAny_builtin entry_eq_loop (by
    rw [Around.under_plainId plain_eq_loop _]
    exact hrec)⟩
theorem list_neqB (l b : Addr) {items items2 : Array Value} {n n2 : Nat} {s : Shared} (hl1 : s.heap.get? l = some { cls := .type "list", data := .seq items n }) (hb1 : s.heap.get? b = some { cls := .type "list", data := .seq items2 n2 }) (hs : items.size ≠ items2.size)
    (fin : R (.ok (.ret (.bool false))) s) :
    wpAny (model prog w) A.in1 (Builtin.«list.__eq__» ⟨[.ref l, .ref b], []⟩) (GQ.FinOf prog w A R) (fun e s' => R (.error e) s') s := by
  obtain ⟨hp, g, d, tk, os⟩ := s
  have f3 := AutoSeq1.sub_list_list
  have hne : (items.size != items2.size) = true := by simp [hs]
  wp_walk using wpAny_loadPart' hl1, wpAny_loadPart' hb1
  exact fin
end
/-- how x == y comes out, by the abstract heap -/
abbrev EqvB := V → V → Hp → Bool → Prop
def MonB (D : EqvB) : Prop := ∀ x y H H' r, Ext H H' → D x y H r → D x y H' r
def EqB (X : Cx) (n : Nat) (D : EqvB) : Prop :=
  ∀ (A : Around) (pins : List (Addr × Obj)) (s : Shared) (σ : L2.St) (H : Hp) (x y : V) (u v : Value) (r : Bool), Sub X n A → L2.Inv X pins σ H s → RelV x u → RelV y v → D x y H r →
    wpAny (model X.prog X.w) A (eqBool u v) (fun z s' => z = r ∧ LoopI X pins σ H s') X.xe s
def RcB (X : Cx) (n : Nat) (D : EqvB) : Prop :=
  ∀ (A : Around) (pins : List (Addr × Obj)) (s : Shared) (σ : L2.St) (H : Hp) (x y : V) (u v : Value) (r : Bool), Sub X n A → L2.Inv X pins σ H s → RelV x u → RelV y v → D x y H r →
    wpAny (model X.prog X.w) A (richCompare .Eq u v) (fun z s' => z = .bool r ∧ LoopI X pins σ H s') X.xe s
section
variable {X : Cx} {n : Nat} {D : EqvB}
theorem turnB (hD : MonB D) (h : EqB X n D) {A : Around} (sb : Sub X (n + 1) A) {pins : List (Addr × Obj)} {σ : L2.St} {H : Hp} {xs ys : List V} {its its2 : List Value} {bs : Nat → Bool} (l : xs.length = ys.length) (p : ∀ (i : Nat) x y, xs[i]? = some x → ys[i]? = some y → D x y H (bs i)) (r : Vals xs its) (r2 : Vals ys its2)
    (i : Nat) (h1 : i < its.toArray.size) (h2 : i < its2.toArray.size) (s' : Shared) (l : LoopI X pins σ H s') :
    wpAny (model X.prog X.w) A.in1 (eqBool its.toArray[i] its2.toArray[i]) (fun r s2 => r = bs i ∧ LoopI X pins σ H s2) X.xe s' := by
  obtain ⟨H1, I1, e1⟩ := l
  have g1 : its[i]? = some its.toArray[i] := by
    have h1' : i < its.length := by simpa using h1
    rw [List.getElem?_eq_getElem h1'] <;> simp
  have g2 : its2[i]? = some its2.toArray[i] := by
    have h2' : i < its2.length := by simpa using h2
    rw [List.getElem?_eq_getElem h2'] <;> simp
  have k1 : i < xs.length := by rw [r.length]; simpa using h1
  have k2 : i < ys.length := by rw [r2.length]; simpa using h2
  obtain ⟨u, hu, ru⟩ := r.get (List.getElem?_eq_getElem k1)
  obtain ⟨v, hv, rv⟩ := r2.get (List.getElem?_eq_getElem k2)
  rw [g1] at hu
  rw [g2] at hv
  rw [Option.some.inj hu, Option.some.inj hv]
  refine wpAny_mono (h A.in1 pins s' σ H1 _ _ u v (bs i) sb.in1 I1 ru rv (hD _ _ _ _ _ e1 (p i _ _ (List.getElem?_eq_getElem k1) (List.getElem?_eq_getElem k2)))) (fun r s2 q => ?_) fun _ _ x => x
  obtain ⟨hr, H2, I2, e2⟩ := q
  exact ⟨hr, H2, I2, e1.trans e2⟩
def DListB (D : EqvB) : EqvB := fun x y H r => ∃ a b xs ys, x = .ref a ∧ y = .ref b ∧ H a = some (.lst xs) ∧ H b = some (.lst ys) ∧ ((xs.length ≠ ys.length ∧ r = false) ∨ (xs.length = ys.length ∧ ∃ bs : Nat → Bool, (∀ (i : Nat) x y, xs[i]? = some x → ys[i]? = some y → D x y H (bs i)) ∧ (r = true ↔ ∀ i, i < xs.length → bs i = true)))
theorem rcB_list (hD : MonB D) (h : EqB X n D) : RcB X (n + 1) (DListB D) := by
  intro A pins s σ H x y u v r sb I rx ry d
  obtain ⟨a, b, xs, ys, rfl, rfl, ha, hb, d⟩ := d
  cases rx
  cases ry
  obtain ⟨z, its, k, ri, e⟩ := I.hok a _ ha
  obtain ⟨z2, its2, k2, ri2, e2⟩ := I.hok b _ hb
  rcases d with ⟨ne, rfl⟩ | ⟨l, bs, hp, hr⟩
  · refine wpAny_richCompare_same_room (op := .Eq) ⟨_, e, rfl⟩ ⟨_, e2, rfl⟩ F.slot_list_eq (GQ.call_here F.slot_list_eq ⟨_, e, rfl⟩ F.entry_list_eq (F.args_list_eq_2 _ _) ?_) sb.room.units0
    refine list_neqB (R := wants (fun v s' => v ≠ .notImplemented ∧ (v = .bool false ∧ LoopI X pins σ H s')) X.xe) a b e e2 ?_ ⟨(fun x => nomatch x), rfl, H, I, Ext.rfl'⟩
    rw [List.size_toArray, List.size_toArray, ← ri.length, ← ri2.length]
    exact ne
  · have hJ : ListIB X.prog X.w A X.xe a b xs.length bs (fun _ s' => LoopI X pins σ H s') := fun i s' q => by
      obtain ⟨H1, I1, e1⟩ := id q
      obtain ⟨z, us, k, r1, e⟩ := I1.hok a _ (e1 _ _ ha)
      obtain ⟨z2, vs, k2, r2, e2⟩ := I1.hok b _ (e1 _ _ hb)
      exact ⟨us.toArray, vs.toArray, k, k2, e, e2, by rw [List.size_toArray, ← r1.length], by rw [List.size_toArray, ← r2.length, ← l], fun h1 h2 => turnB hD h sb l hp r1 r2 i h1 h2 s' q⟩
    refine wpAny_richCompare_same_room (op := .Eq) ⟨_, e, rfl⟩ ⟨_, e2, rfl⟩ F.slot_list_eq (GQ.call_here F.slot_list_eq ⟨_, e, rfl⟩ F.entry_list_eq (F.args_list_eq_2 _ _) ?_) sb.room.units0
    exact list_eqB (R := wants (fun v s' => v ≠ .notImplemented ∧ (v = .bool r ∧ LoopI X pins σ H s')) X.xe) a b xs.length bs (fun _ s' => LoopI X pins σ H s') hJ r hr (fun i s' q => ⟨(fun x => nomatch x), rfl, q⟩) ⟨H, I, Ext.rfl'⟩
/-- instances of the class at C with the text's own == -/
def DInsB (C : Addr) (R : Addr → Addr → Hp → Bool → Prop) : EqvB := fun x y H r => ∃ a b dx dy fs gs, x = .ref a ∧ y = .ref b ∧ H a = some (.ins C dx fs) ∧ H b = some (.ins C dy gs) ∧ R a b H r
def spEqB (R : Addr → Addr → Hp → Bool → Prop) : Sp := fun vs H Q _ => ∃ a b r, vs = [.ref a, .ref b] ∧ R a b H r ∧ ∀ H', Ext H H' → Q (.bl r) H'
theorem rcB_ins {CX : CXT} {C f : Addr} {fd : FuncData} {ps : List Str} {R : Addr → Addr → Hp → Bool → Prop} {E : XK} (F : FnOk X.prog X.w X.K X.mg X.base CX n f fd ps (spEqB R))
    (hs : PySem.W.findIn X.K (.ref C) "__eq__" = some (some (.ref f))) (hf : PySem.W.isFn X.K (.ref f) = true) (hb : Binds X.K fd ps []) (hx : Passes CX X E) : RcB X n (DInsB C R) := by
  intro A pins s σ H x y u v rr sb I rx ry d
  obtain ⟨a, b, dx, dy, fs, gs, rfl, rfl, ha, hb', hr⟩ := d
  cases rx
  cases ry
  obtain ⟨mA, J, _⟩ := ins_get I.hok ha
  obtain ⟨mB, J', _⟩ := ins_get I.hok hb'
  obtain ⟨od, J, _⟩ := J.look
  obtain ⟨od', J', _⟩ := J'.look
  obtain ⟨m, hF⟩ := I.fr
  refine PySem.W.cmp_K (op := .Eq) (tb := .ref C) sb.room.units0 hF I.ok.mod.kin J J'.type (by simp [PySem.W.notFirst]) hs hf ?_
  have hsp : spEqB R [.ref a, .ref b] H (fun v H' => v = .bl rr ∧ Ext H H') E := ⟨a, b, rr, rfl, hr, fun H' e => ⟨rfl, e⟩⟩
  have e0 : Env0 X.prog X.w X.K X.mg X.base A X.stack s H := by
    have e := I.env0
    exact ⟨by rw [sb.fr]; exact e.frames, e.mod, e.bs, e.bsz, e.funs, e.frf, e.hok, e.bare⟩
  have hl := F.len _ _ _ _ hsp
  have r2 : Vals [V.ref a, V.ref b] [Value.ref a, Value.ref b] := .cons rfl (.cons rfl .nil)
  refine wpAny_call (codeAny_mono (F.run A X.stack s H ⟨[.ref a, .ref b], []⟩ [.ref a, .ref b] [.ref a, .ref b] _ E sb.room e0 (by
    have := hb s [.ref a, .ref b] I.kIn (by simpa using hl)
    simpa using this) r2 hsp) fun r s' hq => ?_)
  cases r with
  | error e => exact hx pins σ H s e s' I hq
  | ok fl =>
    cases fl with
    | ret w =>
      obtain ⟨z, H', I', rz, ez, ex⟩ := I.after hq
      subst ez
      cases rz
      exact ⟨rfl, H', I', ex⟩
    | next => exact False.elim hq
    | brk => exact False.elim hq
    | cont => exact False.elim hq
theorem RcB.eqB (h : RcB X n D) (hr : ∀ x y H r, D x y H r → ∃ a b, x = .ref a ∧ y = .ref b) (hs : ∀ a H r, D (.ref a) (.ref a) H r → r = true) : EqB X n D := by
  intro A pins s σ H x y u v r sb I rx ry d
  obtain ⟨a, b, rfl, rfl⟩ := hr _ _ _ _ d
  cases rx
  cases ry
  by_cases hab : a = b
  · subst hab
    rw [hs _ _ _ d]
    exact SeqAt.EqAt.same (A := A) (s := s) (.ref a) X.prog X.w X.xe _ ⟨rfl, H, I, Ext.rfl'⟩
  · refine GQ.eqBool_refG hab (wpAny_mono (h A pins s σ H (.ref a) (.ref b) _ _ r sb I rfl rfl d) (fun z s' q => ?_) fun _ _ x => x)
    obtain ⟨hr', q⟩ := q
    exact ⟨r, hr', rfl, q⟩
/-- x == y as an expression, None on the left, too -/
def rEqB (D : EqvB) : R2 := fun x y H Q => (x = .non ∧ (∃ b ys, y = .ref b ∧ H b = some (.lst ys)) ∧ Q (.bl false) H) ∨ ∃ r, D x y H r ∧ ∀ H', Ext H H' → Q (.bl r) H'
theorem op_eqB (h : RcB X n D) (hr : Room n X.A) : OpR X (compareOp .Eq) (rEqB D) := by
  intro pins s σ H x y v u Q I rx ry hq
  show wpAny (model X.prog X.w) X.A (richCompare .Eq v u) (EP X pins σ Q) X.xe s
  rcases hq with ⟨rfl, ⟨b, ys, rfl, hb⟩, q⟩ | ⟨r, d, q⟩
  · cases rx
    cases ry
    obtain ⟨z, us, k, r1, e⟩ := I.hok b _ hb
    exact SeqAt.RcAt.none_list (items := us.toArray) ⟨_, e, rfl, k, rfl⟩ (by have := hr.units0; exact this) X.prog X.w X.xe _ ⟨.bl false, H, I, rfl, q⟩
  · refine wpAny_mono (h X.A pins s σ H x y v u r ⟨hr, rfl⟩ I rx ry d) (fun z s' y => ?_) fun _ _ x => x
    obtain ⟨hr', H', I', e⟩ := y
    subst hr'
    exact ⟨.bl r, H', I', rfl, q H' e⟩
end
end Fp

namespace Fp
open PySem PySem.Spec PyProof.Rows L2
/-! ### the class Ratio: == that may be False; of lists of its numbers -/
def RatB (C : Addr) (a b : Addr) (H : Hp) (r : Bool) : Prop := ∃ p q p' q', Rat2 C H a p q ∧ Rat2 C H b p' q' ∧ r = (decide (p = p') && decide (q = q'))
structure EqXB (P : Program) (w : World) (K : PySem.W.Frag) (mg : Str → Option Value) (base : Heap) (k : Nat) (C : Addr) : Prop where
  ex : ∃ (f : Addr) (fd : FuncData), PySem.W.findIn K (.ref C) "__eq__" = some (some (.ref f)) ∧ PySem.W.isFn K (.ref f) = true ∧ FnOk P w K mg base CX0 k f fd ["self", "other"] (spEqB (RatB C)) ∧ Binds K fd ["self", "other"] []
section
variable {X : Cx} {k : Nat} {C : Addr}
theorem Rat2.fn {H : Hp} {a : Addr} {p q p' q' : Int} (h : Rat2 C H a p q) (g : Rat2 C H a p' q') : p = p' ∧ q = q' := by
  obtain ⟨d, h⟩ := h
  obtain ⟨d', g⟩ := g
  rw [h] at g
  injection g with g
  injection g with _ _ g
  simp at g
  exact g
theorem EqXB.eqB (D : EqXB X.prog X.w X.K X.mg X.base k C) : EqB X k (DInsB C (RatB C)) := by
  obtain ⟨f, fd, h1, h2, F, hb⟩ := D.ex
  refine (rcB_ins F h1 h2 hb (pass0 (X := X))).eqB (fun x y H r ⟨a, b, _, _, _, _, hx, hy, _⟩ => ⟨a, b, hx, hy⟩) (fun a H r ⟨b, c, _, _, _, _, hx, hy, _, _, p, q, p', q', r1, r2, e⟩ => ?_)
  cases hx
  cases hy
  obtain ⟨e1, e2⟩ := r1.fn r2
  rw [e, e1, e2, decide_eq_true rfl, decide_eq_true rfl]; rfl
theorem mon_ratB : MonB (DInsB C (RatB C)) := fun x y H H' r e ⟨a, b, dx, dy, fs, gs, hx, hy, h1, h2, p, q, p', q', ⟨d1, r1⟩, ⟨d2, r2⟩, er⟩ => ⟨a, b, dx, dy, fs, gs, hx, hy, e _ _ h1, e _ _ h2, p, q, p', q', ⟨d1, e _ _ r1⟩, ⟨d2, e _ _ r2⟩, er⟩
abbrev DQL (C : Addr) : EqvB := DListB (DInsB C (RatB C))
theorem op_eq1B (D : EqXB X.prog X.w X.K X.mg X.base k C) (hr : Room (k + 1) X.A) : OpR X (compareOp .Eq) (rEqB (DQL C)) := op_eqB (rcB_list mon_ratB D.eqB) hr
theorem ql_eqB {H : Hp} {a b : Addr} {us ws : List V} {p q : List Rat} (ha : H a = some (.lst us)) (hb : H b = some (.lst ws)) (hu : QL C H us p) (hw : QL C H ws q) : DQL C (.ref a) (.ref b) H (decide (p = q)) := by
  refine ⟨a, b, us, ws, rfl, rfl, ha, hb, ?_⟩
  have l1 := hu.len
  have l2 := hw.len
  by_cases l : us.length = ws.length
  · refine .inr ⟨l, fun i => decide (p[i]? = q[i]?), fun i x y hx hy => ?_, ?_⟩
    · obtain ⟨x', c, e1, rfl, d1⟩ := hu.at hx
      obtain ⟨y', e, e2, rfl, d2⟩ := hw.at hy
      obtain ⟨dx, d1'⟩ := id d1
      obtain ⟨dy, d2'⟩ := id d2
      refine ⟨c, e, dx, dy, _, _, rfl, rfl, d1', d2', _, _, _, _, d1, d2, ?_⟩
      show decide (p[i]? = q[i]?) = _
      rw [e1, e2]
      by_cases z : x' = y'
      · subst z
        rw [decide_eq_true rfl, decide_eq_true rfl, decide_eq_true rfl]; rfl
      · rw [decide_eq_false (fun y => z (Option.some.inj y))]
        symm
        rw [Bool.and_eq_false_iff, decide_eq_false_iff_not, decide_eq_false_iff_not]
        by_cases n : x'.num = y'.num
        · refine .inr fun h => z (Rat.ext n (by omega))
        · exact .inl n
    · rw [decide_eq_true_iff]
      constructor
      · intro z i hi
        show decide (p[i]? = q[i]?) = true
        rw [z, decide_eq_true rfl]
      · intro z
        refine List.ext_getElem? fun i => ?_
        by_cases hi : i < us.length
        · exact of_decide_eq_true (z i hi)
        · rw [List.getElem?_eq_none (by omega), List.getElem?_eq_none (by omega)]
  · exact .inl ⟨l, decide_eq_false fun z => l (by rw [l1, l2, z])⟩
end
end Fp

namespace K21
open PySem PySem.Spec PyProof.Rows L2 Fp
section
variable {P : Program} {w : World} {K : PySem.W.Frag} {mg : Str → Option Value} {base : Heap} {k : Nat}
/-! ### the class Ratio -/
-- slots: self 0, top 1, bottom 2, shared 3
abbrev s_Ratio___init__ : Stmt := inClass (top 15) 0
abbrev N_Ratio___init__ : List Str := ["self", "top", "bottom", "shared"]
theorem sc_Ratio___init__ : FnScope N_Ratio___init__ ["self", "top", "bottom"] (defScope s_Ratio___init__) := ⟨rfl, rfl, rfl, by decide +kernel, rfl, by decide +kernel, by decide +kernel⟩
-- slots: self 0
abbrev s_Ratio___repr__ : Stmt := inClass (top 15) 19
abbrev N_Ratio___repr__ : List Str := ["self"]
theorem sc_Ratio___repr__ : FnScope N_Ratio___repr__ ["self"] (defScope s_Ratio___repr__) := ⟨rfl, rfl, rfl, by decide +kernel, rfl, by decide +kernel, by decide +kernel⟩
theorem d_rinit {C fI fR f : Addr} {fd : FuncData} (F : FunD K "__init__" "Ratio.__init__" (defArgs s_Ratio___init__) (defBody s_Ratio___init__) (defScope s_Ratio___init__) [V.int 1] [] f fd) (R : RCls K mg C fI fR) (M : Mg mg) (D_is_integer : Def P w K mg base k "is_integer" sInteger ["value"] spInteger) :
    FnOk P w K mg base CX0 (k + 1) f fd ["self", "top", "bottom"] (spRI C) := by
  refine F.ok sc_Ratio___init__ (by rintro _ _ _ _ ⟨p, dx, t, b, rfl, _⟩; rfl) fun cdv A outer s H vs Q E hr h => ?_
  obtain ⟨p, dx, t, b, rfl, rd, hp, q⟩ := h
  refine ⟨_, pss_cons (ps_if (pt_not (pt_val (pe_d D_is_integer hr (by rfl) (pa_cons (pv 1) pa_nil)))) pss_never pss_nil)
    (pss_cons (ps_if (PW.pt (pw_or (pt_not (pt_val (pe_d D_is_integer hr (by rfl) (pa_cons (pv 2) pa_nil)))) (pw_or1 (pt_cmpR op_eq (pv 2) pe_int (nomark _))))) pss_never pss_nil)
    (pss_cons (ps_set (i := 3) sc_Ratio___init__.nd rfl (.inl rfl) (pe_callBfun cr_gcd (by rfl) M.gcd  (pa_cons (pv 1) (pa_cons (pv 2) pa_nil))))
    (C8.pss_cut (ps_if (pt_cmpR op_lt (pv 2) pe_int (nomark _))
      (pss_one (ps_set (i := 3) sc_Ratio___init__.nd rfl (.inl rfl) (pe_un un_neg (pv 3))))
      (pss_nil))
    (pss_cons (ps_fld (pv 0) (pe_op op_fdivNW (pv 1) (pv 3)) rfl)
    (pss_one (ps_fld (pv 0) (pe_op op_fdivNW (pv 2) (pv 3)) rfl)))))), ?_⟩
  have b0 := rd.1
  refine ⟨_, rfl, t, rfl, fun H1 s1 => ⟨true, rfl, iteF ⟨_, rfl, b, rfl, fun H2 s2 => ⟨true, rfl, iteF ⟨_, rfl, rfl, _, rfl, iteF2 (decide_eq_false fun z => by injection z with z; omega) ?_⟩⟩⟩⟩⟩
  have hp2 := (s1.trans s2) _ _ hp
  have g1 : ((t.natAbs.gcd (Int.natAbs b) : Nat) : Int) = 1 := by rw [rd.2]; rfl
  refine ⟨_, rfl, _, rfl, t, b, rfl, ?_⟩
  rw [g1]
  refine ⟨fun σ' H' => σ' = [some (.ref p), some (.int t), some (.int b), some (.int 1)] ∧ H' = H2, ⟨_, rfl, b, 0, rfl, rfl, _, rfl, iteF2 (decide_eq_false (by omega)) ⟨rfl, rfl⟩⟩, ?_⟩
  rintro _ _ ⟨rfl, rfl⟩
  rename_i H2
  have f1 : putF "_top" (V.int (t.fdiv 1)) [] = ([("_top", V.int t)] : List (Str × V)) := by rw [Int.fdiv_one]; rfl
  have f2 : putF "_bottom" (V.int (Int.fdiv b 1)) ([("_top", V.int t)] : List (Str × V)) = ([("_top", V.int t), ("_bottom", V.int b)] : List (Str × V)) := by
    show (if ("_top" : Str) = "_bottom" then [(("_top" : Str), V.int (Int.fdiv b 1))] else (("_top" : Str), V.int t) :: putF "_bottom" (V.int (Int.fdiv b 1)) []) = _
    rw [if_neg (by decide +kernel), Int.fdiv_one]; rfl
  refine ⟨_, rfl, _, rfl, t, 1, rfl, rfl, ⟨by omega, by decide⟩, _, rfl, p, C, dx, [], rfl, hp2, R.cl, R.nT, (by show 0 < 1000; decide), ?_⟩
  refine ⟨_, rfl, _, rfl, b, 1, rfl, rfl, ⟨by omega, by decide⟩, _, rfl, p, C, dx, _, rfl, upd_same, R.cl, R.nB, (by rw [f1]; show 1 < 1000; decide), ?_⟩
  rw [f1, f2]
  refine q _ (fun b o nb e => ?_) upd_same
  rw [upd_ne nb, upd_ne nb]
  exact (s1.trans s2) _ _ e
theorem d_rinitQ {C fI fR f : Addr} {fd : FuncData} (F : FunD K "__init__" "Ratio.__init__" (defArgs s_Ratio___init__) (defBody s_Ratio___init__) (defScope s_Ratio___init__) [V.int 1] [] f fd) (R : RCls K mg C fI fR) (M : Mg mg) (D_is_integer : Def P w K mg base k "is_integer" sInteger ["value"] spInteger) :
    FnOk P w K mg base CX0 (k + 1) f fd ["self", "top", "bottom"] (spRQ C) := by
  refine F.ok sc_Ratio___init__ (by rintro _ _ _ _ ⟨p, dx, t, b, rfl, _⟩; rfl) fun cdv A outer s H vs Q E hr h => ?_
  obtain ⟨p, dx, t, b, rfl, b0, bl, hp, q⟩ := h
  refine ⟨_, pss_cons (ps_if (pt_not (pt_val (pe_d D_is_integer hr (by rfl) (pa_cons (pv 1) pa_nil)))) pss_never pss_nil)
    (pss_cons (ps_if (PW.pt (pw_or (pt_not (pt_val (pe_d D_is_integer hr (by rfl) (pa_cons (pv 2) pa_nil)))) (pw_or1 (pt_cmpR op_eq (pv 2) pe_int (nomark _))))) pss_never pss_nil)
    (pss_cons (ps_set (i := 3) sc_Ratio___init__.nd rfl (.inl rfl) (pe_callBfun cr_gcd (by rfl) M.gcd  (pa_cons (pv 1) (pa_cons (pv 2) pa_nil))))
    (C8.pss_cut (ps_if (pt_cmpR op_lt (pv 2) pe_int (nomark _))
      (pss_one (ps_set (i := 3) sc_Ratio___init__.nd rfl (.inl rfl) (pe_un un_neg (pv 3))))
      (pss_nil))
    (pss_cons (ps_fld (pv 0) (pe_op op_fdivNW (pv 1) (pv 3)) rfl)
    (pss_one (ps_fld (pv 0) (pe_op op_fdivNW (pv 2) (pv 3)) rfl)))))), ?_⟩
  refine ⟨_, rfl, t, rfl, fun H1 s1 => ⟨true, rfl, iteF ⟨_, rfl, b, rfl, fun H2 s2 => ⟨true, rfl, iteF ⟨_, rfl, rfl, _, rfl, iteF2 (decide_eq_false fun z => by injection z with z; omega) ?_⟩⟩⟩⟩⟩
  have hp2 := (s1.trans s2) _ _ hp
  have eT := divInt_top (t := t) b0
  have eB := divInt_bot (t := t) b0
  have gl : LbI 8990 ((t.natAbs.gcd b.natAbs : Nat) : Int) := Nat.lt_of_le_of_lt (Nat.gcd_le_right _ (by omega)) bl
  have g0 : ((t.natAbs.gcd b.natAbs : Nat) : Int) ≠ 0 := by
    have := Nat.gcd_pos_of_pos_right t.natAbs (show 0 < b.natAbs by omega)
    omega
  refine ⟨_, rfl, _, rfl, t, b, rfl, ?_⟩
  generalize hg : ((t.natAbs.gcd b.natAbs : Nat) : Int) = g at *
  refine ⟨fun σ' H' => σ' = [some (.ref p), some (.int t), some (.int b), some (.int (if b < 0 then -g else g))] ∧ H' = H2, ⟨_, rfl, b, 0, rfl, rfl, _, rfl, ite2 (fun z => ?_) (fun z => ?_)⟩, ?_⟩
  · have z2 := of_decide_eq_true z
    rw [if_pos z2]
    exact ⟨_, rfl, _, rfl, rfl, rfl⟩
  · have z2 : ¬ b < 0 := fun y => z (decide_eq_true y)
    rw [if_neg z2]
    exact ⟨rfl, rfl⟩
  rintro _ _ ⟨rfl, rfl⟩
  rename_i H2
  have hs : CDivNW t (if b < 0 then -g else g) := by
    split
    · exact gl.neg.div (by omega) (by omega)
    · exact gl.div (by omega) g0
  generalize (if b < 0 then -g else g) = h at *
  have f1 : putF "_top" (V.int (t.fdiv h)) [] = ([("_top", V.int (Rat.divInt t b).num)] : List (Str × V)) := by rw [eT]; rfl
  have f2 : putF "_bottom" (V.int (Int.fdiv b h)) ([("_top", V.int (Rat.divInt t b).num)] : List (Str × V)) = ([("_top", V.int (Rat.divInt t b).num), ("_bottom", V.int (Rat.divInt t b).den)] : List (Str × V)) := by
    show (if ("_top" : Str) = "_bottom" then [(("_top" : Str), V.int (Int.fdiv b h))] else (("_top" : Str), V.int (Rat.divInt t b).num) :: putF "_bottom" (V.int (Int.fdiv b h)) []) = _
    rw [if_neg (by decide +kernel), eB]; rfl
  refine ⟨_, rfl, _, rfl, t, h, rfl, rfl, hs, _, rfl, p, C, dx, [], rfl, hp2, R.cl, R.nT, (by show 0 < 1000; decide), ?_⟩
  refine ⟨_, rfl, _, rfl, b, h, rfl, rfl, hs, _, rfl, p, C, dx, _, rfl, upd_same, R.cl, R.nB, (by rw [f1]; show 1 < 1000; decide), ?_⟩
  rw [f1, f2]
  refine q _ (fun b o nb e => ?_) upd_same
  rw [upd_ne nb, upd_ne nb]
  exact (s1.trans s2) _ _ e
theorem d_rrepr {C fI fR f : Addr} {fd : FuncData} (F : Fun K "__repr__" "Ratio.__repr__" s_Ratio___repr__ f fd) (R : RCls K mg C fI fR) : FnOk P w K mg base CX0 (k + 1) f fd ["self"] (spRR C) := by
  refine F.ok sc_Ratio___repr__ (by rintro _ _ _ _ ⟨p, t, rfl, _⟩; rfl) fun cdv A outer s H vs Q E hr h => ?_
  obtain ⟨a, t, rfl, ⟨p, q, r, b1, b2, rfl⟩, hq⟩ := h
  refine ⟨_, pss_one (ps_ret (pe_joined (.cons pe_str (.cons (pe_fmt (pe_fld (pv 0) rfl)) (.cons pe_str (.cons (pe_fmt (pe_fld (pv 0) rfl)) (.cons pe_str .nil))))))), ?_⟩
  obtain ⟨dx, e⟩ := id r
  have l1 := int_len b1
  have l2 := int_len b2
  have e1 : (Str.ofString "Ratio(").length = 6 := rfl
  have e2 : (Str.ofString ", ").length = 2 := rfl
  have e3 : (Str.ofString ")").length = 1 := rfl
  have e0 : Str.empty ++ Str.ofString "Ratio(" = Str.ofString "Ratio(" := rfl
  have big : 3900 ≤ sizeLine := by decide
  refine ⟨_, rfl, by rw [e0, e1]; omega, _, rfl, a, C, dx, _, .int p, rfl, e, R.cl, R.nT, rfl, .inr ⟨p, rfl, b1, _, rfl, ?_, _, rfl, ?_, _, rfl, a, C, dx, _, .int q, rfl, e, R.cl, R.nB, rfl, .inr ⟨q, rfl, b2, _, rfl, ?_, _, rfl, ?_, ?_⟩⟩⟩
  · rw [e0, strLen_append, e1]; omega
  · rw [e0, strLen_append, strLen_append, e1, e2]; omega
  · rw [e0, strLen_append, strLen_append, strLen_append, e1, e2]; omega
  · rw [e0, strLen_append, strLen_append, strLen_append, strLen_append, e1, e2, e3]; omega
  · exact hq H (Same.refl H)
-- slots: self 0
abbrev s_Ratio_top : Stmt := inClass (top 15) 1
abbrev N_Ratio_top : List Str := ["self"]
theorem sc_Ratio_top : FnScope N_Ratio_top ["self"] (defScope s_Ratio_top) := ⟨rfl, rfl, rfl, by decide +kernel, rfl, by decide +kernel, by decide +kernel⟩
-- slots: self 0
abbrev s_Ratio_bottom : Stmt := inClass (top 15) 2
abbrev N_Ratio_bottom : List Str := ["self"]
theorem sc_Ratio_bottom : FnScope N_Ratio_bottom ["self"] (defScope s_Ratio_bottom) := ⟨rfl, rfl, rfl, by decide +kernel, rfl, by decide +kernel, by decide +kernel⟩
-- slots: self 0
abbrev s_Ratio_sign : Stmt := inClass (top 15) 3
abbrev N_Ratio_sign : List Str := ["self"]
theorem sc_Ratio_sign : FnScope N_Ratio_sign ["self"] (defScope s_Ratio_sign) := ⟨rfl, rfl, rfl, by decide +kernel, rfl, by decide +kernel, by decide +kernel⟩
-- slots: self 0, other 1, more 2
abbrev s_Ratio___add__ : Stmt := inClass (top 15) 5
abbrev N_Ratio___add__ : List Str := ["self", "other", "more"]
theorem sc_Ratio___add__ : FnScope N_Ratio___add__ ["self", "other"] (defScope s_Ratio___add__) := ⟨rfl, rfl, rfl, by decide +kernel, rfl, by decide +kernel, by decide +kernel⟩
-- slots: self 0, other 1
abbrev s_Ratio___radd__ : Stmt := inClass (top 15) 6
abbrev N_Ratio___radd__ : List Str := ["self", "other"]
theorem sc_Ratio___radd__ : FnScope N_Ratio___radd__ ["self", "other"] (defScope s_Ratio___radd__) := ⟨rfl, rfl, rfl, by decide +kernel, rfl, by decide +kernel, by decide +kernel⟩
-- slots: self 0, other 1, less 2
abbrev s_Ratio___sub__ : Stmt := inClass (top 15) 7
abbrev N_Ratio___sub__ : List Str := ["self", "other", "less"]
theorem sc_Ratio___sub__ : FnScope N_Ratio___sub__ ["self", "other"] (defScope s_Ratio___sub__) := ⟨rfl, rfl, rfl, by decide +kernel, rfl, by decide +kernel, by decide +kernel⟩
-- slots: self 0, other 1, by 2
abbrev s_Ratio___mul__ : Stmt := inClass (top 15) 9
abbrev N_Ratio___mul__ : List Str := ["self", "other", "by"]
theorem sc_Ratio___mul__ : FnScope N_Ratio___mul__ ["self", "other"] (defScope s_Ratio___mul__) := ⟨rfl, rfl, rfl, by decide +kernel, rfl, by decide +kernel, by decide +kernel⟩
-- slots: self 0, other 1
abbrev s_Ratio___rmul__ : Stmt := inClass (top 15) 10
abbrev N_Ratio___rmul__ : List Str := ["self", "other"]
theorem sc_Ratio___rmul__ : FnScope N_Ratio___rmul__ ["self", "other"] (defScope s_Ratio___rmul__) := ⟨rfl, rfl, rfl, by decide +kernel, rfl, by decide +kernel, by decide +kernel⟩
-- slots: self 0, other 1, by 2
abbrev s_Ratio_over : Stmt := inClass (top 15) 12
abbrev N_Ratio_over : List Str := ["self", "other", "by"]
theorem sc_Ratio_over : FnScope N_Ratio_over ["self", "other"] (defScope s_Ratio_over) := ⟨rfl, rfl, rfl, by decide +kernel, rfl, by decide +kernel, by decide +kernel⟩
-- slots: self 0, other 1
abbrev s_Ratio___eq__ : Stmt := inClass (top 15) 17
abbrev N_Ratio___eq__ : List Str := ["self", "other"]
theorem sc_Ratio___eq__ : FnScope N_Ratio___eq__ ["self", "other"] (defScope s_Ratio___eq__) := ⟨rfl, rfl, rfl, by decide +kernel, rfl, by decide +kernel, by decide +kernel⟩
theorem d_rtop {C fI fR f : Addr} {fd : FuncData} (F : Fun K "top" "Ratio.top" s_Ratio_top f fd) (R : RCls K mg C fI fR) : FnOk P w K mg base CX0 (k + 1) f fd ["self"] (spTopR C) := by
  refine F.ok sc_Ratio_top (by rintro _ _ _ _ ⟨a, p, q, rfl, _⟩; rfl) fun cdv A outer s H vs Q E hr h => ?_
  obtain ⟨a, p, q, rfl, ⟨dx, r⟩, hq⟩ := h
  refine ⟨_, pss_one (ps_ret (pe_fld (pv 0) rfl)), ?_⟩
  exact ⟨_, rfl, a, C, dx, _, .int p, rfl, r, R.cl, R.nT, rfl, hq⟩
theorem d_rbot {C fI fR f : Addr} {fd : FuncData} (F : Fun K "bottom" "Ratio.bottom" s_Ratio_bottom f fd) (R : RCls K mg C fI fR) : FnOk P w K mg base CX0 (k + 1) f fd ["self"] (spBotR C) := by
  refine F.ok sc_Ratio_bottom (by rintro _ _ _ _ ⟨a, p, q, rfl, _⟩; rfl) fun cdv A outer s H vs Q E hr h => ?_
  obtain ⟨a, p, q, rfl, ⟨dx, r⟩, hq⟩ := h
  refine ⟨_, pss_one (ps_ret (pe_fld (pv 0) rfl)), ?_⟩
  exact ⟨_, rfl, a, C, dx, _, .int q, rfl, r, R.cl, R.nB, rfl, hq⟩
theorem d_rsgn {C fI fR f : Addr} {fd : FuncData} (F : Fun K "sign" "Ratio.sign" s_Ratio_sign f fd) (R : RCls K mg C fI fR) : FnOk P w K mg base CX0 (k + 1) f fd ["self"] (spSgnR C) := by
  refine F.ok sc_Ratio_sign (by rintro _ _ _ _ ⟨a, p, q, rfl, _⟩; rfl) fun cdv A outer s H vs Q E hr h => ?_
  obtain ⟨a, p, q, rfl, ⟨dx, r⟩, hq⟩ := h
  refine ⟨_, C8.pss_cut (ps_if (pt_cmpR op_lt (pe_fld (pv 0) rfl) pe_int (nomark _))
      (pss_one (ps_ret (pe_un un_neg pe_int)))
      (pss_nil))
    (pss_one (ps_ret (pe_ifExp (pt_cmpR op_gt (pe_fld (pv 0) rfl) pe_int (nomark _)) pe_int pe_int))), ?_⟩
  refine ⟨fun σ' H' => σ' = [some (.ref a)] ∧ H' = H ∧ 0 ≤ p, ⟨_, rfl, a, C, dx, _, .int p, rfl, r, R.cl, R.nT, rfl, p, 0, rfl, rfl, _, rfl, ite2 (fun z => ?_) (fun z => ?_)⟩, ?_⟩
  · have z2 := of_decide_eq_true z
    have e : sgnI p = -1 := if_pos z2
    rw [e] at hq
    exact ⟨1, rfl, hq⟩
  · exact ⟨rfl, rfl, by simpa using z⟩
  rintro _ _ ⟨rfl, rfl, h0⟩
  refine ⟨_, rfl, a, C, dx, _, .int p, rfl, r, R.cl, R.nT, rfl, p, 0, rfl, rfl, _, rfl, ite2 (fun z => ?_) (fun z => ?_)⟩
  · have z2 := of_decide_eq_true z
    have e : sgnI p = 1 := by unfold sgnI; rw [if_neg (by omega), if_pos z2]
    rw [e] at hq
    exact hq
  · have z2 : ¬ 0 < p := by simpa using z
    have e : sgnI p = 0 := by unfold sgnI; rw [if_neg (by omega), if_neg z2]
    rw [e] at hq
    exact hq
def spAs (C : Addr) : Sp := fun vs H Q _ => ∃ x p q, vs = [x] ∧ NumV C H x p q ∧ ∀ m H', Same H H' → Rat2 C H' m p q → Q (.ref m) H'
variable {C fI fR : Addr}
-- slots: number 0; cells: 
abbrev s_as_ratio : Stmt := top 17
abbrev N_as_ratio : List Str := ["number"]
theorem sc_as_ratio : FnScope N_as_ratio ["number"] (defScope s_as_ratio) := ⟨rfl, rfl, rfl, by decide +kernel, rfl, by decide +kernel, by decide +kernel⟩
theorem d_as_ratio (B : Bnd K mg "as_ratio" s_as_ratio) (M : Mg mg) (R : RCls K mg C fI fR) (J : RIsi K C) {kr : Nat} (RD : RDef P w K mg base kr C) (hk : kr + 8 ≤ k)  : Def P w K mg base (k + 1) "as_ratio" s_as_ratio ["number"] (spAs C) := by
  refine def_of B sc_as_ratio (by rintro _ _ _ _ ⟨x, p, q, rfl, _⟩; rfl) (fun _ _ _ _ _ _ us hl => match us, hl with | [_], _ => rfl) fun f cdv A outer s H vs Q E hr h => ?_
  obtain ⟨x, p, q, rfl, nv, hq⟩ := h
  have hu := hr.units
  refine ⟨_, C8.pss_cut (ps_if (pt_val (pe_callB call_isi (by rfl) M.isi (by decide +kernel) (pa_cons (pv 0) (pa_cons (pe_glob (v := .ref C) (by rfl) R.mgC rfl) pa_nil))))
      (pss_one (ps_ret (pv 0)))
      (pss_nil))
    (pss_one (ps_ret (pe_rat RD (hr.mono (by omega)) (by rfl) (pa_cons (pv 0) pa_nil)))), ?_⟩
  obtain ⟨ty, t1, t2⟩ := nv.kitC R J
  refine ⟨fun σ' H' => σ' = [some x] ∧ H' = H ∧ x = .int p ∧ q = 1, ⟨_, rfl, x, .ref C, ty, .ref C, isOwn H x, rfl, .own C, t1, t2, isOwn H x, rfl, ?_⟩, ?_⟩
  · rcases nv with ⟨rfl, rfl⟩ | ⟨a, rfl, r⟩
    · exact iteF ⟨rfl, rfl, rfl, rfl⟩
    · obtain ⟨dx, r1⟩ := id r
      exact iteT2 (by unfold isOwn; simp only [r1]) ⟨_, rfl, hq a H (Same.refl H) r⟩
  · rintro _ _ ⟨rfl, rfl, rfl, rfl⟩
    exact ⟨_, rfl, p, rfl, fun a H' na sm r => hq a H' sm r⟩
theorem d_rsub {C fI fR f : Addr} {fd : FuncData} (F : Fun K "__sub__" "Ratio.__sub__" s_Ratio___sub__ f fd) (R : RCls K mg C fI fR) {kr : Nat} (DQ : RDefQ P w K mg base kr C) (PT : PropX P w K mg base kr C "top" (spTopR C)) (PB : PropX P w K mg base kr C "bottom" (spBotR C)) (hk : kr + 8 ≤ k)
    (D_as_ratio : Def P w K mg base k "as_ratio" s_as_ratio ["number"] (spAs C)) : FnOk P w K mg base CX0 (k + 1) f fd ["self", "other"] (spSubQ C) := by
  refine F.ok sc_Ratio___sub__ (by rintro _ _ _ _ ⟨a, y, p, q, n, m, rfl, _⟩; rfl) fun cdv A outer s H vs Q E hr h => ?_
  obtain ⟨a, y, p, q, n, m, rfl, ra, nv, bx, by_, nm, hq⟩ := h
  refine ⟨_, pss_cons (ps_set (i := 2) sc_Ratio___sub__.nd rfl (.inl rfl) (pe_d D_as_ratio hr (by rfl) (pa_cons (pv 1) pa_nil)))
    (pss_one (ps_ret (pe_ratQ DQ (hr.mono (by omega)) (by rfl) (pa_cons (pe_op op_sub (pe_op op_mulW (pe_fld (pv 0) rfl) (pe_propX PB (hr.mono (by omega)) R.cl (pv 2) (by rfl))) (pe_op op_mulW (pe_propX PT (hr.mono (by omega)) R.cl (pv 2) (by rfl)) (pe_fld (pv 0) rfl))) (pa_cons (pe_op op_mulW (pe_fld (pv 0) rfl) (pe_propX PB (hr.mono (by omega)) R.cl (pv 2) (by rfl))) pa_nil))))), ?_⟩
  refine ⟨_, rfl, y, _, _, rfl, nv, fun m' H1 s1 rm => ?_⟩
  obtain ⟨dx, r⟩ := RQ.same ra s1
  obtain ⟨dm, rm1⟩ := id rm
  refine ⟨_, rfl, a, C, dx, _, .int p.num, rfl, r, R.cl, R.nT, rfl, _, rfl, m', dm, _, rfl, rm1, m', _, _, rfl, rm, p.num, q.den, rfl, rfl, bx.1.cm by_.2 (by omega), ?_⟩
  refine ⟨_, rfl, m', dm, _, rfl, rm1, m', _, _, rfl, rm, _, rfl, a, C, dx, _, .int p.den, rfl, r, R.cl, R.nB, rfl, q.num, p.den, rfl, rfl, by_.1.cm bx.2 (by omega), _, _, rfl, rfl, ?_⟩
  refine ⟨_, rfl, a, C, dx, _, .int p.den, rfl, r, R.cl, R.nB, rfl, _, rfl, m', dm, _, rfl, rm1, m', _, _, rfl, rm, p.den, q.den, rfl, rfl, bx.2.cm by_.2 (by omega), ?_⟩
  refine ⟨_, _, rfl, by have := Int.mul_pos (den_pos p) (den_pos q); omega, (bx.2.mul by_.2).mono (by omega), fun b H2 nb s2 rb => hq b H2 (s1.trans s2) ?_⟩
  rw [divInt_sub] at rb
  exact rb
theorem d_rmul {C fI fR f : Addr} {fd : FuncData} (F : Fun K "__mul__" "Ratio.__mul__" s_Ratio___mul__ f fd) (R : RCls K mg C fI fR) {kr : Nat} (DQ : RDefQ P w K mg base kr C) (PT : PropX P w K mg base kr C "top" (spTopR C)) (PB : PropX P w K mg base kr C "bottom" (spBotR C)) (hk : kr + 8 ≤ k)
    (D_as_ratio : Def P w K mg base k "as_ratio" s_as_ratio ["number"] (spAs C)) : FnOk P w K mg base CX0 (k + 1) f fd ["self", "other"] (spMulQ C) := by
  refine F.ok sc_Ratio___mul__ (by rintro _ _ _ _ ⟨a, y, p, q, n, m, rfl, _⟩; rfl) fun cdv A outer s H vs Q E hr h => ?_
  obtain ⟨a, y, p, q, n, m, rfl, ra, nv, bx, by_, nm, hq⟩ := h
  refine ⟨_, pss_cons (ps_set (i := 2) sc_Ratio___mul__.nd rfl (.inl rfl) (pe_d D_as_ratio hr (by rfl) (pa_cons (pv 1) pa_nil)))
    (pss_one (ps_ret (pe_ratQ DQ (hr.mono (by omega)) (by rfl) (pa_cons (pe_op op_mulW (pe_fld (pv 0) rfl) (pe_propX PT (hr.mono (by omega)) R.cl (pv 2) (by rfl))) (pa_cons (pe_op op_mulW (pe_fld (pv 0) rfl) (pe_propX PB (hr.mono (by omega)) R.cl (pv 2) (by rfl))) pa_nil))))), ?_⟩
  refine ⟨_, rfl, y, _, _, rfl, nv, fun m' H1 s1 rm => ?_⟩
  obtain ⟨dx, r⟩ := RQ.same ra s1
  obtain ⟨dm, rm1⟩ := id rm
  refine ⟨_, rfl, a, C, dx, _, .int p.num, rfl, r, R.cl, R.nT, rfl, _, rfl, m', dm, _, rfl, rm1, m', _, _, rfl, rm, p.num, q.num, rfl, rfl, bx.1.cm by_.1 (by omega), ?_⟩
  refine ⟨_, rfl, a, C, dx, _, .int p.den, rfl, r, R.cl, R.nB, rfl, _, rfl, m', dm, _, rfl, rm1, m', _, _, rfl, rm, p.den, q.den, rfl, rfl, bx.2.cm by_.2 (by omega), ?_⟩
  refine ⟨_, _, rfl, by have := Int.mul_pos (den_pos p) (den_pos q); omega, (bx.2.mul by_.2).mono (by omega), fun b H2 nb s2 rb => hq b H2 (s1.trans s2) ?_⟩
  rw [divInt_mul] at rb
  exact rb
theorem d_radd {C fI fR f : Addr} {fd : FuncData} (F : Fun K "__add__" "Ratio.__add__" s_Ratio___add__ f fd) (R : RCls K mg C fI fR) {kr : Nat} (DQ : RDefQ P w K mg base kr C) (PT : PropX P w K mg base kr C "top" (spTopR C)) (PB : PropX P w K mg base kr C "bottom" (spBotR C)) (hk : kr + 8 ≤ k)
    (D_as_ratio : Def P w K mg base k "as_ratio" s_as_ratio ["number"] (spAs C)) : FnOk P w K mg base CX0 (k + 1) f fd ["self", "other"] (spAddQ C) := by
  refine F.ok sc_Ratio___add__ (by rintro _ _ _ _ ⟨a, y, p, q, n, m, rfl, _⟩; rfl) fun cdv A outer s H vs Q E hr h => ?_
  obtain ⟨a, y, p, q, n, m, rfl, ra, nv, bx, by_, nm, hq⟩ := h
  refine ⟨_, pss_cons (ps_set (i := 2) sc_Ratio___add__.nd rfl (.inl rfl) (pe_d D_as_ratio hr (by rfl) (pa_cons (pv 1) pa_nil)))
    (pss_one (ps_ret (pe_ratQ DQ (hr.mono (by omega)) (by rfl) (pa_cons (pe_op op_add (pe_op op_mulW (pe_fld (pv 0) rfl) (pe_propX PB (hr.mono (by omega)) R.cl (pv 2) (by rfl))) (pe_op op_mulW (pe_propX PT (hr.mono (by omega)) R.cl (pv 2) (by rfl)) (pe_fld (pv 0) rfl))) (pa_cons (pe_op op_mulW (pe_fld (pv 0) rfl) (pe_propX PB (hr.mono (by omega)) R.cl (pv 2) (by rfl))) pa_nil))))), ?_⟩
  refine ⟨_, rfl, y, _, _, rfl, nv, fun m' H1 s1 rm => ?_⟩
  obtain ⟨dx, r⟩ := RQ.same ra s1
  obtain ⟨dm, rm1⟩ := id rm
  refine ⟨_, rfl, a, C, dx, _, .int p.num, rfl, r, R.cl, R.nT, rfl, _, rfl, m', dm, _, rfl, rm1, m', _, _, rfl, rm, p.num, q.den, rfl, rfl, bx.1.cm by_.2 (by omega), ?_⟩
  refine ⟨_, rfl, m', dm, _, rfl, rm1, m', _, _, rfl, rm, _, rfl, a, C, dx, _, .int p.den, rfl, r, R.cl, R.nB, rfl, q.num, p.den, rfl, rfl, by_.1.cm bx.2 (by omega), _, _, rfl, rfl, ?_⟩
  refine ⟨_, rfl, a, C, dx, _, .int p.den, rfl, r, R.cl, R.nB, rfl, _, rfl, m', dm, _, rfl, rm1, m', _, _, rfl, rm, p.den, q.den, rfl, rfl, bx.2.cm by_.2 (by omega), ?_⟩
  refine ⟨_, _, rfl, by have := Int.mul_pos (den_pos p) (den_pos q); omega, (bx.2.mul by_.2).mono (by omega), fun b H2 nb s2 rb => hq b H2 (s1.trans s2) ?_⟩
  rw [divInt_add] at rb
  exact rb
theorem d_rradd {C fI fR f : Addr} {fd : FuncData} (F : Fun K "__radd__" "Ratio.__radd__" s_Ratio___radd__ f fd) (R : RCls K mg C fI fR) {kr : Nat} (AD : BinX P w K mg base kr C .Add (spAddQ C)) (hk : kr + 8 ≤ k)
    (D_as_ratio : Def P w K mg base k "as_ratio" s_as_ratio ["number"] (spAs C)) : FnOk P w K mg base CX0 (k + 1) f fd ["self", "other"] (spAddQ C) := by
  refine F.ok sc_Ratio___radd__ (by rintro _ _ _ _ ⟨a, y, p, q, n, m, rfl, _⟩; rfl) fun cdv A outer s H vs Q E hr h => ?_
  obtain ⟨a, y, p, q, n, m, rfl, ra, nv, bx, by_, nm, hq⟩ := h
  refine ⟨_, pss_one (ps_ret (pe_op (op_ownX AD (hr.mono (by omega))) (pe_d D_as_ratio hr (by rfl) (pa_cons (pv 1) pa_nil)) (pv 0))), ?_⟩
  refine ⟨_, rfl, y, _, _, rfl, nv, fun m' H1 s1 rm => ?_⟩
  obtain ⟨dm, rm1⟩ := id rm
  refine ⟨_, rfl, m', dm, _, rfl, rm1, (RQ.same ra s1).nq.own, m', _, q, p, m, n, rfl, rm, (RQ.same ra s1).nq, by_, bx, by omega, fun r H2 s2 rr => ⟨⟨r, rfl⟩, hq r H2 (s1.trans s2) ?_⟩⟩
  rw [Rat.add_comm]; exact rr
theorem d_rrmul {C fI fR f : Addr} {fd : FuncData} (F : Fun K "__rmul__" "Ratio.__rmul__" s_Ratio___rmul__ f fd) (R : RCls K mg C fI fR) {kr : Nat} (MU : BinX P w K mg base kr C .Mult (spMulQ C)) (hk : kr + 8 ≤ k)
    (D_as_ratio : Def P w K mg base k "as_ratio" s_as_ratio ["number"] (spAs C)) : FnOk P w K mg base CX0 (k + 1) f fd ["self", "other"] (spMulQ C) := by
  refine F.ok sc_Ratio___rmul__ (by rintro _ _ _ _ ⟨a, y, p, q, n, m, rfl, _⟩; rfl) fun cdv A outer s H vs Q E hr h => ?_
  obtain ⟨a, y, p, q, n, m, rfl, ra, nv, bx, by_, nm, hq⟩ := h
  refine ⟨_, pss_one (ps_ret (pe_op (op_ownX MU (hr.mono (by omega))) (pe_d D_as_ratio hr (by rfl) (pa_cons (pv 1) pa_nil)) (pv 0))), ?_⟩
  refine ⟨_, rfl, y, _, _, rfl, nv, fun m' H1 s1 rm => ?_⟩
  obtain ⟨dm, rm1⟩ := id rm
  refine ⟨_, rfl, m', dm, _, rfl, rm1, (RQ.same ra s1).nq.own, m', _, q, p, m, n, rfl, rm, (RQ.same ra s1).nq, by_, bx, by omega, fun r H2 s2 rr => ⟨⟨r, rfl⟩, hq r H2 (s1.trans s2) ?_⟩⟩
  rw [Rat.mul_comm]; exact rr
theorem d_rover {C fI fR f : Addr} {fd : FuncData} (F : Fun K "over" "Ratio.over" s_Ratio_over f fd) (R : RCls K mg C fI fR) {kr : Nat} (DQ : RDefQ P w K mg base kr C) (PT : PropX P w K mg base kr C "top" (spTopR C)) (PB : PropX P w K mg base kr C "bottom" (spBotR C)) (PS : PropX P w K mg base kr C "sign" (spSgnR C)) (hk : kr + 8 ≤ k)
    (D_as_ratio : Def P w K mg base k "as_ratio" s_as_ratio ["number"] (spAs C)) : FnOk P w K mg base CX0 (k + 1) f fd ["self", "other"] (spOverQ C) := by
  refine F.ok sc_Ratio_over (by rintro _ _ _ _ ⟨a, y, p, q, n, m, rfl, _⟩; rfl) fun cdv A outer s H vs Q E hr h => ?_
  obtain ⟨a, y, p, q, n, m, rfl, ra, nv, bx, by_, nm, q0, hq⟩ := h
  refine ⟨_, pss_cons (ps_set (i := 2) sc_Ratio_over.nd rfl (.inl rfl) (pe_d D_as_ratio hr (by rfl) (pa_cons (pv 1) pa_nil)))
    (pss_cons (ps_if (pt_cmpR op_eq (pe_propX PS (hr.mono (by omega)) R.cl (pv 2) (by rfl)) pe_int (nomark _)) pss_never pss_nil)
    (pss_one (ps_ret (pe_ratQ DQ (hr.mono (by omega)) (by rfl) (pa_cons (pe_op op_mulW (pe_fld (pv 0) rfl) (pe_propX PB (hr.mono (by omega)) R.cl (pv 2) (by rfl))) (pa_cons (pe_op op_mulW (pe_fld (pv 0) rfl) (pe_propX PT (hr.mono (by omega)) R.cl (pv 2) (by rfl))) pa_nil)))))), ?_⟩
  refine ⟨_, rfl, y, _, _, rfl, nv, fun m' H1 s1 rm => ?_⟩
  obtain ⟨dx, r⟩ := RQ.same ra s1
  obtain ⟨dm, rm1⟩ := id rm
  have sg : sgnI q.num ≠ 0 := by
    have := num_ne q0
    unfold sgnI
    by_cases h : q.num < 0
    · rw [if_pos h]; decide
    · rw [if_neg h, if_pos (by omega)]; decide
  refine ⟨_, rfl, m', dm, _, rfl, rm1, m', _, _, rfl, rm, rfl, _, rfl, iteF2 (decide_eq_false fun z => by injection z with z; exact sg z) ?_⟩
  refine ⟨_, rfl, a, C, dx, _, .int p.num, rfl, r, R.cl, R.nT, rfl, _, rfl, m', dm, _, rfl, rm1, m', _, _, rfl, rm, p.num, q.den, rfl, rfl, bx.1.cm by_.2 (by omega), ?_⟩
  refine ⟨_, rfl, a, C, dx, _, .int p.den, rfl, r, R.cl, R.nB, rfl, _, rfl, m', dm, _, rfl, rm1, m', _, _, rfl, rm, p.den, q.num, rfl, rfl, bx.2.cm by_.1 (by omega), ?_⟩
  refine ⟨_, _, rfl, fun z => ?_, (bx.2.mul by_.1).mono (by omega), fun b H2 nb s2 rb => hq b H2 (s1.trans s2) ?_⟩
  · rcases Int.mul_eq_zero.mp z with e | e
    · have := den_pos p; omega
    · exact num_ne q0 e
  rw [divInt_over] at rb
  exact rb
theorem d_reqB {C fI fR f : Addr} {fd : FuncData} (F : Fun K "__eq__" "Ratio.__eq__" s_Ratio___eq__ f fd) (R : RCls K mg C fI fR) (J : RIsi K C) (M : Mg mg) : FnOk P w K mg base CX0 (k + 1) f fd ["self", "other"] (spEqB (RatB C)) := by
  refine F.ok sc_Ratio___eq__ (by rintro _ _ _ _ ⟨a, b, r, rfl, _⟩; rfl) fun cdv A outer s H vs Q E hr h => ?_
  obtain ⟨a, b, r, rfl, ⟨p, q, p', q', ⟨dx, r1⟩, ⟨dy, r2⟩, rfl⟩, hq⟩ := h
  refine ⟨_, pss_one (ps_ret (pe_and (pe_callB call_isi (by rfl) M.isi (by decide +kernel) (pa_cons (pv 1) (pa_cons (pe_glob (v := .ref C) (by rfl) R.mgC rfl) pa_nil))) (pe_and (pe_cmpR op_eq (pe_fld (pv 0) rfl) (pe_fld (pv 1) rfl) (nomark _)) (pe_one (pe_cmpR op_eq (pe_fld (pv 0) rfl) (pe_fld (pv 1) rfl) (nomark _)))))), ?_⟩
  refine ⟨_, rfl, .ref b, .ref C, .ref C, .ref C, true, rfl, .own C, .base (.ins r2 R.cl R.isA R.isN R.isT R.isM), J.c, true, rfl, iteT ?_⟩
  refine ⟨_, rfl, a, C, dx, _, .int p, rfl, r1, R.cl, R.nT, rfl, _, rfl, b, C, dy, _, .int p', rfl, r2, R.cl, R.nT, rfl, rfl, _, rfl, ?_⟩
  have eP : decide (V.int p = V.int p') = decide (p = p') := by simp
  have eQ : decide (V.int q = V.int q') = decide (q = q') := by simp
  rw [eP]
  cases e : decide (p = p') with
  | false =>
    rw [e, Bool.false_and] at hq
    exact iteF2 rfl (hq H Ext.rfl')
  | true =>
    rw [e, Bool.true_and] at hq
    refine iteT2 rfl ?_
    refine ⟨_, rfl, a, C, dx, _, .int q, rfl, r1, R.cl, R.nB, rfl, _, rfl, b, C, dy, _, .int q', rfl, r2, R.cl, R.nB, rfl, rfl, ?_⟩
    rw [eQ]
    exact hq H Ext.rfl'
end
end K21

namespace K21
open PySem PySem.Spec PyProof.Rows L2 Fp
structure Mg2 (mg : Str → Option Value) : Prop extends Mg mg where
  MOST_DEGREE_polys : ∃ t, mg "MOST_DEGREE_polys" = some (.int 48 t)
  MOST_MAKERS : ∃ t, mg "MOST_MAKERS" = some (.int 4 t)
  GREATEST_DEGREE : ∃ t, mg "GREATEST_DEGREE" = some (.int 7 t)
  MOST_LINES : ∃ t, mg "MOST_LINES" = some (.int 200 t)
  MOST_PARTS : ∃ t, mg "MOST_PARTS" = some (.int 60 t)
  MOST_DEGREE_makings : ∃ t, mg "MOST_DEGREE_makings" = some (.int 96 t)
  MOST_LEFT : ∃ t, mg "MOST_LEFT" = some (.int 24 t)
section
variable {P : Program} {w : World} {K : PySem.W.Frag} {mg : Str → Option Value} {base : Heap} {k : Nat} {C fI fR : Addr}
def spIntegerX (C : Addr) : Sp := fun vs H Q _ => ∃ x d, vs = [x] ∧ Sk C H d x ∧ Ret H Q (.bl (isI x))
def spListX (C : Addr) : Sp := fun vs H Q _ => ∃ x, vs = [x] ∧ ((∃ d, Sk C H d x ∧ Ret H Q (.bl (itemsOf H x).isSome)) ∨ ∃ a us, x = .ref a ∧ (H a = some (.lst us) ∨ H a = some (.tup us)) ∧ Ret H Q (.bl true))
def spNumberX (C : Addr) : Sp := fun vs H Q _ => ∃ x d, vs = [x] ∧ Sk C H d x ∧ Ret H Q (.bl (isNum H x))
def spPolyX (C : Addr) : Sp := fun vs H Q _ => ∃ x d, vs = [x] ∧ Sk C H d x ∧ Ret H Q (.bl (isPolyV H x))
def sp_trimmed (C : Addr) : Sp := fun vs H Q _ => ∃ l us ps, vs = [.ref l] ∧ H l = some (.lst us) ∧ RatL C H us ps ∧ us.length ≤ 1000 ∧ ∀ a H' ws, Same H H' → H a = none → H' a = some (.lst ws) → RatL C H' ws (trimP ps) → Q (.ref a) H'
def sp_told (C : Addr) : Sp := fun vs H Q _ => ∃ x d, vs = [x] ∧ Sk C H d x ∧ isPolyV H x = true ∧ ∀ a H' us, Same H H' → H a = none → H' a = some (.lst us) → RatL C H' us (toldP H x) → Q (.ref a) H'
theorem fm_idxn {xs : List V} (g : V → V) : ∀ n, n ≤ xs.length → (List.range n).filterMap (fun i => (xs[i]?).map g) = (xs.take n).map g
  | 0, _ => by simp
  | n + 1, h => by
    have hn := List.getElem?_eq_getElem (show n < xs.length by omega)
    rw [fm_succ, fm_idxn g n (by omega), takeS hn, List.map_append, hn]; rfl
theorem fm_bl (xs : List V) (g : V → Bool) : (List.range xs.length).filterMap (fun i => (xs[i]?).map fun v => V.bl (g v)) = (xs.map g).map V.bl := by
  rw [fm_idxn _ xs.length (Nat.le_refl _), List.take_length, List.map_map]; rfl
-- slots: value 0; cells: 
abbrev N_is_integer : List Str := ["value"]
theorem sc_is_integer : FnScope N_is_integer ["value"] (defScope sInteger) := ⟨rfl, rfl, rfl, by decide +kernel, rfl, by decide +kernel, by decide +kernel⟩
theorem d_is_integer (B : Bnd K mg "is_integer" sInteger) (M : Mg2 mg) (R : RCls K mg C fI fR)  : Def P w K mg base (k + 1) "is_integer" sInteger ["value"] (spIntegerX C) := by
  refine def_of B sc_is_integer (by rintro _ _ _ _ ⟨x, d, rfl, _⟩; rfl) (fun _ _ _ _ _ _ us hl => match us, hl with | [_], _ => rfl) fun f cdv A outer s H vs Q E hr h => ?_
  obtain ⟨x, d, rfl, hx, q⟩ := h
  have hu := hr.units
  refine ⟨_, pss_one (ps_ret (pe_and (pe_callB call_isi (by rfl) M.isi (by decide +kernel) (pa_cons (pv 0) (pa_cons (pe_bltn (v := .ty "int") (by rfl) M.int (by decide +kernel) rfl) pa_nil))) (pe_one (pe_not (pe_callB call_isi (by rfl) M.isi (by decide +kernel) (pa_cons (pv 0) (pa_cons (pe_bltn (v := .ty "bool") (by rfl) M.bool (by decide +kernel) rfl) pa_nil))))))), ?_⟩
  obtain ⟨ty, t1, t2, t3, _⟩ := hx.kit R
  refine ⟨_, rfl, x, _, ty, _, isI x || isB x, rfl, .ty _, t1, t2, (isI x || isB x), rfl, ?_⟩
  cases e : (isI x || isB x) with
  | false =>
    have e1 : isI x = false := (Bool.or_eq_false_iff.mp e).1
    rw [e1] at q
    exact iteF (q H (Same.refl H))
  | true =>
    refine iteT ⟨_, rfl, x, _, ty, _, isB x, rfl, .ty _, t1, t3, isB x, rfl, ?_⟩
    have e2 : (!isB x) = isI x := by cases x <;> simp_all [isI, isB]
    rw [e2]
    exact q H (Same.refl H)
-- slots: value 0; cells: 
abbrev N_is_list : List Str := ["value"]
theorem sc_is_list : FnScope N_is_list ["value"] (defScope sList) := ⟨rfl, rfl, rfl, by decide +kernel, rfl, by decide +kernel, by decide +kernel⟩
theorem d_is_list (B : Bnd K mg "is_list" sList) (M : Mg2 mg) (R : RCls K mg C fI fR)  : Def P w K mg base (k + 1) "is_list" sList ["value"] (spListX C) := by
  refine def_of B sc_is_list (by rintro _ _ _ _ ⟨x, rfl, _⟩; rfl) (fun _ _ _ _ _ _ us hl => match us, hl with | [_], _ => rfl) fun f cdv A outer s H vs Q E hr h => ?_
  obtain ⟨x, rfl, h⟩ := h
  have hu := hr.units
  refine ⟨_, pss_one (ps_ret (pe_callB call_isiT (by rfl) M.isi (by decide +kernel) (pa_cons (pv 0) (pa_cons (pe_tup (pa_cons (pe_bltn (v := .ty "list") (by rfl) M.list (by decide +kernel) rfl) (pa_cons (pe_bltn (v := .ty "tuple") (by rfl) M.tuple (by decide +kernel) rfl) pa_nil))) pa_nil)))), ?_⟩
  refine ⟨_, rfl, (by show 2 ≤ sizeLine; decide), fun p np => ?_⟩
  have sp := same_new (o := .tup [V.ty "list", V.ty "tuple"]) np
  rcases h with ⟨d, hx, q⟩ | ⟨a, us, rfl, ha, q⟩
  · obtain ⟨ty, t1, _, _, t4⟩ := (hx.same sp).kit R
    rw [itemsOf_same hx sp] at t4
    exact ⟨x, p, _, ty, _, _, rfl, upd_same, .cons (.ty _) (.cons (.ty _) .nil), t1, t4, q _ sp⟩
  · rcases ha with ha | ha
    · exact ⟨.ref a, p, _, _, _, _, rfl, upd_same, .cons (.ty _) (.cons (.ty _) .nil), .base (.lst (sp _ _ ha)), kit_lt.1, q _ sp⟩
    · exact ⟨.ref a, p, _, _, _, _, rfl, upd_same, .cons (.ty _) (.cons (.ty _) .nil), .base (.tup (sp _ _ ha)), kit_lt.2, q _ sp⟩
-- slots: value 0; cells: 
abbrev s_is_number : Stmt := top 16
abbrev N_is_number : List Str := ["value"]
theorem sc_is_number : FnScope N_is_number ["value"] (defScope s_is_number) := ⟨rfl, rfl, rfl, by decide +kernel, rfl, by decide +kernel, by decide +kernel⟩
theorem d_is_number (B : Bnd K mg "is_number" s_is_number) (M : Mg2 mg) (R : RCls K mg C fI fR) (J : RIsi K C) (D_is_integer : Def P w K mg base k "is_integer" sInteger ["value"] (spIntegerX C)) : Def P w K mg base (k + 1) "is_number" s_is_number ["value"] (spNumberX C) := by
  refine def_of B sc_is_number (by rintro _ _ _ _ ⟨x, d, rfl, _⟩; rfl) (fun _ _ _ _ _ _ us hl => match us, hl with | [_], _ => rfl) fun f cdv A outer s H vs Q E hr h => ?_
  obtain ⟨x, d, rfl, hx, q⟩ := h
  have hu := hr.units
  refine ⟨_, pss_one (ps_ret (pe_or (pe_d D_is_integer hr (by rfl) (pa_cons (pv 0) pa_nil)) (pe_one (pe_callB call_isi (by rfl) M.isi (by decide +kernel) (pa_cons (pv 0) (pa_cons (pe_glob (v := .ref C) (by rfl) R.mgC rfl) pa_nil)))))), ?_⟩
  refine ⟨_, rfl, x, d, rfl, hx, fun H1 s1 => ⟨isI x, rfl, ?_⟩⟩
  obtain ⟨ty, t1, t2⟩ := (hx.same s1).kitC R J
  unfold isNum at q
  cases e : isI x with
  | true => rw [e] at q; exact iteT (q H1 s1)
  | false =>
    rw [e] at q
    refine iteF ⟨_, rfl, x, .ref C, ty, .ref C, isOwn H1 x, rfl, .own C, t1, t2, ?_⟩
    rw [isOwn_same hx s1]
    exact q H1 s1
-- slots: value 0, one 1; cells: 
abbrev s_is_poly : Stmt := top 24
abbrev N_is_poly : List Str := ["value", "one"]
theorem sc_is_poly : FnScope N_is_poly ["value"] (defScope s_is_poly) := ⟨rfl, rfl, rfl, by decide +kernel, rfl, by decide +kernel, by decide +kernel⟩
theorem d_is_poly (B : Bnd K mg "is_poly" s_is_poly) (M : Mg2 mg) (R : RCls K mg C fI fR) (D_is_list : Def P w K mg base k "is_list" sList ["value"] (spListX C)) (D_is_number : Def P w K mg base k "is_number" s_is_number ["value"] (spNumberX C)) : Def P w K mg base (k + 1) "is_poly" s_is_poly ["value"] (spPolyX C) := by
  refine def_of B sc_is_poly (by rintro _ _ _ _ ⟨x, d, rfl, _⟩; rfl) (fun _ _ _ _ _ _ us hl => match us, hl with | [_], _ => rfl) fun f cdv A outer s H vs Q E hr h => ?_
  obtain ⟨x, d, rfl, hx, q⟩ := h
  have hu := hr.units
  obtain ⟨t_MOST_DEGREE_polys, m_MOST_DEGREE_polys⟩ := M.MOST_DEGREE_polys
  refine ⟨_, pss_one (ps_ret (pe_and (pe_d D_is_list hr (by rfl) (pa_cons (pv 0) pa_nil)) (pe_and (pe_cmpR op_le (pe_callB call_len_seq (by rfl) M.len boot_len (pa_cons (pv 0) pa_nil)) (pe_op op_add (pe_glob (v := .int 48) (by rfl) m_MOST_DEGREE_polys ⟨_, rfl⟩) pe_int) (nomark _)) (pe_one (pe_callB (cr_all rfl) (by rfl) M.all boot_all (pa_cons (pe_lc (own := [("one", 1)]) (g := (gName 1)) (tt := tYes) (te := (tD _ (tCons (tVar 1) tNil))) rfl sc_is_poly.nd (pi_sq (pv 0)) (blkOk_by (own := [("one", 1)]) (N := N_is_poly) (sc := defScope s_is_poly) (by decide +kernel)) (fun _ _ _ _ _ => pg_name (i := 1) sc_is_poly.nd rfl (.inl rfl)) (fun _ _ _ _ _ => pts_nil) (fun _ _ _ _ _ => pe_d D_is_number hr (by rfl) (pa_cons (pv 1) pa_nil))) pa_nil)))))), ?_⟩
  refine ⟨_, rfl, x, rfl, .inl ⟨d, hx, fun H1 s1 => ⟨(itemsOf H x).isSome, rfl, ?_⟩⟩⟩
  cases e : itemsOf H x with
  | none =>
    refine iteF (q H1 s1 |> fun z => ?_)
    unfold isPolyV at z
    rw [e] at z
    exact z
  | some xs =>
    have ev : isPolyV H x = (decide (xs.length ≤ 49) && xs.all (isNum H)) := by unfold isPolyV; rw [e]
    obtain ⟨b, rfl, hb, l60, hys⟩ := hx.items e
    have hB : Sq K H b xs := hb.elim (fun z => .inl (SqL.of z)) (fun z => .inr (SqT.of z))
    refine iteT ⟨_, rfl, b, xs, rfl, hB.same s1, 48, 1, rfl, rfl, _, _, rfl, rfl, _, rfl, ite2 (fun z => ?_) (fun z => ?_)⟩
    · have z2 : xs.length ≤ 49 := by have := of_decide_eq_true z; omega
      dsimp only [tCB, tCons, tNil]
      refine lc_sq (xs := xs) (fun i => (xs[i]?).map fun v => V.bl (isNum H v)) (fun R r => ⟨_, rfl, r⟩) (hB.same s1) (by rw [sizeLine_eq]; omega) (fun i y H4 hy s4 Y N yy nn => ?_) (fun D H4 s4 hD hD2 => ?_)
      · have sy := hys y (List.mem_of_getElem? hy)
        refine ⟨rfl, _, rfl, y, d, rfl, sy.same (s1.trans s4), fun H5 s5 => ?_⟩
        rw [isNum_same sy (s1.trans s4)]
        exact yy _ _ s5 (by show (xs[i]?).map _ = _; rw [hy]; rfl)
      rw [fm_bl] at hD2
      refine ⟨D, xs.map (isNum H), rfl, SqL.of hD2, ?_⟩
      have al : (xs.map (isNum H)).all id = xs.all (isNum H) := by rw [List.all_map]; rfl
      rw [al, show xs.all (isNum H) = isPolyV H (.ref b) by rw [ev, decide_eq_true z2, Bool.true_and]]
      exact q H4 (s1.trans s4)
    · have z2 : ¬ xs.length ≤ 49 := fun y => z (decide_eq_true (by omega))
      rw [ev, decide_eq_false z2] at q
      exact q H1 s1
-- slots: numbers 0, size 1; cells: 
abbrev s_trimmed : Stmt := top 27
abbrev N_trimmed : List Str := ["numbers", "size"]
theorem sc_trimmed : FnScope N_trimmed ["numbers"] (defScope s_trimmed) := ⟨rfl, rfl, rfl, by decide +kernel, rfl, by decide +kernel, by decide +kernel⟩
theorem d_trimmed (B : Bnd K mg "trimmed" s_trimmed) (M : Mg2 mg) (R : RCls K mg C fI fR) (J : RIsi K C) {kr : Nat} (PS : PropX P w K mg base kr C "sign" (spSgnR C)) (hk : kr + 8 ≤ k)  : Def P w K mg base (k + 1) "trimmed" s_trimmed ["numbers"] (sp_trimmed C) := by
  refine def_of B sc_trimmed (by rintro _ _ _ _ ⟨l, us, ps, rfl, _⟩; rfl) (fun _ _ _ _ _ _ us hl => match us, hl with | [_], _ => rfl) fun f cdv A outer s H vs Q E hr h => ?_
  obtain ⟨l, us, ps, rfl, hl, hR, l1, q⟩ := h
  have hu := hr.units
  refine ⟨_, pss_cons (ps_set (i := 1) sc_trimmed.nd rfl (.inl rfl) (pe_callB call_len_seq (by rfl) M.len boot_len (pa_cons (pv 0) pa_nil)))
    (pss_cons (ps_while PassesOwn.never (PW.pt (pw_and (pt_cmpR op_gt (pv 1) pe_int (nomark _)) (pw_and1 (pt_cmpR op_eq (pe_propX PS (hr.mono (by omega)) R.cl (pe_ix (r := rIxL K) ix_list (pv 0) (pe_op op_sub (pv 1) pe_int) (fun _ _ => rfl)) (by rfl)) pe_int (nomark _)))))
      (pss_one (ps_aug (i := 1) sc_trimmed.nd rfl (.inl rfl) pe_int ip_sub)))
    (pss_one (ps_ret (pe_slice (r := rSlL K) sl_list (pv 0) po_none (po_some (pv 1)))))), ?_⟩
  refine ⟨_, rfl, l, us, rfl, .inl (SqL.of hl), ?_⟩
  refine ⟨fun mm σ H' => ∃ n : Nat, σ = [some (.ref l), some (.int (n : Int))] ∧ H' = H ∧ mm = n ∧ n ≤ us.length ∧ trimP (ps.take n) = trimP ps, ⟨us.length, us.length, rfl, rfl, rfl, Nat.le_refl _, by rw [hR.len, List.take_length]⟩, ?_⟩
  rintro mm σ H' ⟨n, rfl, rfl, rfl, nl, tp⟩
  have fin : ps.take mm = trimP ps → (tRet (tSl (rSlL K) (tVar 0) tNoPart (tPart (tVar 1)))) { nx := fun _ H1 => Q .non H1, rt := Q } [some (.ref l), some (.int (mm : Int))] H' := fun e => by
    refine ⟨_, rfl, _, rfl, mm, rfl, l, us, rfl, SqL.of hl, fun c nc => q c _ _ (same_new nc) nc upd_same ?_⟩
    rw [cut_to, ← e]
    exact (hR.same (same_new nc)).take mm
  refine ⟨_, rfl, mm, 0, rfl, rfl, _, rfl, ite2 (fun z => ?_) (fun z => ?_)⟩
  · have z2 : 0 < mm := by have := of_decide_eq_true z; omega
    obtain ⟨v, hv⟩ : ∃ v, us[mm - 1]? = some v := ⟨_, List.getElem?_eq_getElem (by omega)⟩
    obtain ⟨pq, a, h1, rfl, r⟩ := hR.at_ _ _ hv
    obtain ⟨dx, r1⟩ := id r
    have tk : ps.take mm = ps.take (mm - 1) ++ [pq] := by
      rw [show mm = (mm - 1) + 1 by omega, takeS h1, show mm - 1 + 1 - 1 = mm - 1 by omega]
    refine ⟨_, rfl, _, rfl, (mm : Int), 1, rfl, rfl, l, us, (mm : Int) - 1, _, rfl, rfl, SqL.of hl, at_of (j := mm - 1) (by omega) hv, a, dx, _, rfl, r1, a, pq.1, pq.2, rfl, r, rfl, _, rfl, ite2 (fun z3 => ?_) (fun z3 => ?_)⟩
    · have p0 : pq.1 = 0 := by
        have := of_decide_eq_true z3
        injection this with this
        unfold sgnI at this
        by_cases h : pq.1 < 0
        · rw [if_pos h] at this; omega
        · rw [if_neg h] at this
          by_cases h2 : 0 < pq.1
          · rw [if_pos h2] at this; omega
          · omega
      refine ⟨fun σ' H1 => σ' = [some (.ref l), some (.int ((mm - 1 : Nat) : Int))] ∧ H1 = H', fun σ' H1 ⟨e1, e2⟩ => ⟨mm - 1, by omega, mm - 1, e1, e2, rfl, by omega, by rw [← tp, tk, trimP_zero p0]⟩, ?_⟩
      refine ⟨_, rfl, (mm : Int), 1, rfl, rfl, ?_, rfl⟩
      show [some (V.ref l), some (V.int ((mm : Int) - 1))] = _
      rw [show (mm : Int) - 1 = ((mm - 1 : Nat) : Int) by omega]
    · have p0 : pq.1 ≠ 0 := fun e => z3 (decide_eq_true (by rw [e]; rfl))
      exact fin (by rw [← tp, tk, trimP_nz p0])
  · have z2 : mm = 0 := by
      by_cases e : mm = 0
      · exact e
      · exact absurd (decide_eq_true (by omega)) z
    subst z2
    exact fin (by rw [← tp]; rfl)
-- slots: poly 0, number 1; cells: 
abbrev s_told : Stmt := top 25
abbrev N_told : List Str := ["poly", "number"]
theorem sc_told : FnScope N_told ["poly"] (defScope s_told) := ⟨rfl, rfl, rfl, by decide +kernel, rfl, by decide +kernel, by decide +kernel⟩
theorem d_told (B : Bnd K mg "told" s_told) (M : Mg2 mg) (R : RCls K mg C fI fR) (D_as_ratio : Def P w K mg base k "as_ratio" s_as_ratio ["number"] (spAs C)) (D_is_poly : Def P w K mg base k "is_poly" s_is_poly ["value"] (spPolyX C)) (D_trimmed : Def P w K mg base k "trimmed" s_trimmed ["numbers"] (sp_trimmed C)) : Def P w K mg base (k + 1) "told" s_told ["poly"] (sp_told C) := by
  refine def_of B sc_told (by rintro _ _ _ _ ⟨x, d, rfl, _⟩; rfl) (fun _ _ _ _ _ _ us hl => match us, hl with | [_], _ => rfl) fun f cdv A outer s H vs Q E hr h => ?_
  obtain ⟨x, d, rfl, hx, hp, q⟩ := h
  have hu := hr.units
  refine ⟨_, pss_cons (ps_if (pt_not (pt_val (pe_d D_is_poly hr (by rfl) (pa_cons (pv 0) pa_nil)))) pss_never pss_nil)
    (pss_one (ps_ret (pe_d D_trimmed hr (by rfl) (pa_cons (pe_lc (own := [("number", 1)]) (g := (gName 1)) (tt := tYes) (te := (tD _ (tCons (tVar 1) tNil))) rfl sc_told.nd (pi_sq (pv 0)) (blkOk_by (own := [("number", 1)]) (N := N_told) (sc := defScope s_told) (by decide +kernel)) (fun _ _ _ _ _ => pg_name (i := 1) sc_told.nd rfl (.inl rfl)) (fun _ _ _ _ _ => pts_nil) (fun _ _ _ _ _ => pe_d D_as_ratio hr (by rfl) (pa_cons (pv 1) pa_nil))) pa_nil)))), ?_⟩
  obtain ⟨xs, e, eD, l49, hn⟩ := poly_items hp
  have eT : toldP H x = trimP (xs.map (numOf H)) := by unfold toldP; rw [eD]
  obtain ⟨b, rfl, hb, l60, hys⟩ := hx.items e
  have hB : Sq K H b xs := hb.elim (fun z => .inl (SqL.of z)) (fun z => .inr (SqT.of z))
  refine ⟨_, rfl, .ref b, d, rfl, hx, fun H1 s1 => ⟨_, rfl, iteF2 (by rw [hp]; rfl) ?_⟩⟩
  dsimp only [tNext, tRet, tD, tCons, tNil]
  refine lc_relS (fun i acc Hh => RatL C Hh acc ((xs.map (numOf H)).take i)) (fun R r => ⟨_, rfl, r⟩) (hB.same s1) (by rw [sizeLine_eq]; omega) RatL.nil (fun i acc A B s r => r.same s) (fun D i y acc Ha hD hy sa ha r Yc Nc yc nc => ?_) (fun D acc H' nD sH ha r => ?_)
  · have my := List.mem_of_getElem? hy
    have nv := ((hys y my).num (hn y my)).1
    exact ⟨rfl, _, rfl, y, _, _, rfl, nv.same (s1.trans sa), fun m H4 s4 rm => yc (.ref m) H4 s4 (r.step hy s4 ha rm)⟩
  · rw [show xs.length = (xs.map (numOf H)).length by rw [List.length_map], List.take_length] at r
    have r2 := r.same (wo_le (D := D))
    refine ⟨D, acc, _, rfl, ha, r2, by rw [r2.len, List.length_map]; omega, fun a H2 ws s2 na h2 R2 => q a H2 ws ((s1.trans sH).trans s2) ((s1.trans sH).free na) h2 (by rw [eT]; exact R2)⟩
end
end K21

namespace Fp
/-- quotient and rest -/
structure DivR (xs ys qs rs : List Rat) : Prop where
  tq : Told qs
  tr : Told rs
  lr : rs.length < ys.length
  lq : qs.length ≤ xs.length
  eq : ∀ n, co xs n = prodc ys (co qs) n + co rs n
theorem DivR.uniq {xs ys q1 r1 q2 r2 : List Rat} (h : DivR xs ys q1 r1) (g : DivR xs ys q2 r2) (y0 : ys ≠ []) (ty : Told ys) : q1 = q2 ∧ r1 = r2 :=
  div_unique y0 ty h.tq g.tq h.tr g.tr h.lr g.lr fun n => by rw [← h.eq, ← g.eq]
def AllB (n : Nat) (xs : List Rat) : Prop := ∀ x ∈ xs, Bits n x
/-- behind some steps -/
structure QInv (xs ys : List Rat) (c : Nat) (xs' qs : List Rat) (b : Nat) : Prop where
  len : xs'.length + qs.length = xs.length
  eq : ∀ n, co xs n = prodc ys (qf (xs.length - ys.length) qs) n + co xs' n
  bx : AllB b xs'
  bb : (b + 2 * c + 1) * 2 ^ (xs'.length + 1 - ys.length) ≤ 8000
  bq : AllB 8000 qs
  st : (qs = [] ∧ xs' = xs) ∨ (qs ≠ [] ∧ ys.length ≤ xs'.length + 1 ∧ co qs 0 ≠ 0)
theorem pow_pos' (k : Nat) : 1 ≤ 2 ^ k := Nat.one_le_two_pow
theorem QInv.sizes {xs ys xs' qs : List Rat} {b c : Nat} (h : QInv xs ys c xs' qs b) (hl : ys.length ≤ xs'.length) : b + c ≤ 8000 ∧ 2 * b + 2 * c ≤ 8000 := by
  have e := h.bb
  rw [show xs'.length + 1 - ys.length = (xs'.length - ys.length) + 1 by omega, Nat.pow_succ] at e
  have p := pow_pos' (xs'.length - ys.length)
  have : (b + 2 * c + 1) * 2 ≤ (b + 2 * c + 1) * (2 ^ (xs'.length - ys.length) * 2) := Nat.mul_le_mul_left _ (by omega)
  omega
theorem prodc_add' {ys : List Rat} {f g h : Nat → Rat} (e : ∀ i, f i = g i + h i) (n : Nat) : prodc ys f n = prodc ys g n + prodc ys h n := by
  rw [← prodc_add, prodc_congr e]
theorem QInv.start {xs ys : List Rat} {b c : Nat} (bx : AllB b xs) (bb : (b + 2 * c + 1) * 2 ^ (xs.length + 1 - ys.length) ≤ 8000) : QInv xs ys c xs [] b :=
  ⟨by simp, fun n => by
    have : prodc ys (qf (xs.length - ys.length) []) n = 0 := by
      have e : ∀ i, qf (xs.length - ys.length) [] i = single 0 0 i := fun i => by rw [qf_nil]; unfold single; split <;> rfl
      rw [prodc_congr e, prodc_single]; split <;> grind
    rw [this]; grind, bx, bb, fun x h => (by cases h), .inl ⟨rfl, rfl⟩⟩
theorem mem_restOf {c : Rat} {S xs : List Rat} {z : Rat} (h : z ∈ restOf c S xs) : z ∈ xs ∨ ∃ a ∈ xs, ∃ b ∈ S, z = a - c * b := by
  unfold restOf at h
  rcases List.mem_append.mp h with h | h
  · exact .inl (List.mem_of_mem_take h)
  · have h2 := List.dropLast_subset _ h
    obtain ⟨i, hi⟩ := List.getElem?_of_mem h2
    rw [List.getElem?_zipWith] at hi
    cases e1 : (xs.drop (xs.length - S.length))[i]? with
    | none => rw [e1] at hi; simp at hi
    | some a =>
      cases e2 : S[i]? with
      | none => rw [e1, e2] at hi; simp at hi
      | some b =>
        rw [e1, e2] at hi
        simp at hi
        exact .inr ⟨a, List.mem_of_mem_drop (List.mem_of_getElem? e1), b, List.mem_of_getElem? e2, hi.symm⟩
theorem mem_last {xs : List Rat} (h : xs ≠ []) : co xs (xs.length - 1) ∈ xs := by
  have : 0 < xs.length := List.length_pos_iff.mpr h
  rw [co_at (List.getElem?_eq_getElem (show xs.length - 1 < xs.length by omega))]
  exact List.getElem_mem _
theorem Bits.mulA {n m : Nat} {x y : Rat} (h : Bits n x) (g : Bits m y) : Bits (n + m) (x * y) := by
  rw [← divInt_mul]
  exact Bits.divInt (h.1.mul g.1) (h.2.mul g.2) (by have := Int.mul_pos (den_pos x) (den_pos y); omega)
theorem Bits.subA {n m : Nat} {x y : Rat} (h : Bits n x) (g : Bits m y) : Bits (n + m + 1) (x - y) := by
  rw [← divInt_sub]
  refine Bits.divInt ((h.1.mul g.2).sub ?_) ((h.2.mul g.2).mono (by omega)) (by have := Int.mul_pos (den_pos x) (den_pos y); omega)
  have := g.1.mul h.2
  rw [Nat.add_comm m n] at this
  exact this
theorem Bits.overA {n m : Nat} {x y : Rat} (h : Bits n x) (g : Bits m y) (h0 : y ≠ 0) : Bits (n + m) (x / y) := by
  rw [← divInt_over]
  refine Bits.divInt (h.1.mul g.2) (h.2.mul g.1) fun z => ?_
  rcases Int.mul_eq_zero.mp z with e | e
  · have := den_pos x; omega
  · exact num_ne h0 e
theorem QInv.step {xs ys xs' qs : List Rat} {b c : Nat} (h : QInv xs ys c xs' qs b) (hl : ys.length ≤ xs'.length) (y0 : ys ≠ []) (tx : Told xs) (ty : Told ys) (by_ : AllB c ys) :
    QInv xs ys c (restOf (co xs' (xs'.length - 1) / co ys (ys.length - 1)) ys xs') (qs ++ [co xs' (xs'.length - 1) / co ys (ys.length - 1)]) (2 * b + 2 * c + 1) := by
  have ly : 0 < ys.length := List.length_pos_iff.mpr y0
  have t0 := told_top ty y0
  have x0 : xs' ≠ [] := fun z => by rw [z] at hl; exact absurd (Nat.le_zero.mp hl) (by omega)
  have bl := h.bx _ (mem_last x0)
  have bm := by_ _ (mem_last y0)
  have bp := bl.overA bm t0
  have sz := h.sizes hl
  generalize hp : co xs' (xs'.length - 1) / co ys (ys.length - 1) = p at *
  have hc : co xs' (xs'.length - 1) = p * co ys (ys.length - 1) := by rw [← hp, Rat.div_mul_cancel t0]
  have lr := restOf_len (c := p) ly hl
  have ll := h.len
  have lq : qs.length ≤ xs.length - ys.length := by omega
  refine ⟨by rw [lr, List.length_append, List.length_singleton]; omega, fun n => ?_, fun z hz => ?_, ?_, fun z hz => ?_, .inr ⟨by simp, by rw [lr]; omega, ?_⟩⟩
  · have e1 := restOf_co (c := p) ly hl hc n
    have e2 := h.eq n
    have e3 := prodc_add' (ys := ys) (f := qf (xs.length - ys.length) (qs ++ [p])) (g := qf (xs.length - ys.length) qs) (h := single (xs.length - ys.length - qs.length) p) (fun i => qf_snoc lq i) n
    rw [show xs.length - ys.length - qs.length = xs'.length - ys.length by omega] at e3
    rw [e3]
    grind
  · rcases mem_restOf hz with z1 | ⟨a, ha, d, hd, rfl⟩
    · exact (h.bx z z1).mono (by omega)
    · exact ((h.bx a ha).subA (bp.mulA (by_ d hd))).mono (by omega)
  · have e := h.bb
    rw [show xs'.length + 1 - ys.length = (xs'.length - ys.length) + 1 by omega, Nat.pow_succ] at e
    rw [lr, show xs'.length - 1 + 1 - ys.length = xs'.length - ys.length by omega]
    have : (2 * b + 2 * c + 1 + 2 * c + 1) * 2 ^ (xs'.length - ys.length) = (b + 2 * c + 1) * (2 ^ (xs'.length - ys.length) * 2) := by
      rw [show 2 * b + 2 * c + 1 + 2 * c + 1 = (b + 2 * c + 1) * 2 by omega, Nat.mul_assoc, Nat.mul_comm 2 (2 ^ _)]
    omega
  · rcases List.mem_append.mp hz with z1 | z1
    · exact h.bq z z1
    · rw [List.mem_singleton.mp z1]; exact bp.mono (by omega)
  · rcases h.st with ⟨e1, e2⟩ | ⟨e1, _, e3⟩
    · subst e1
      subst e2
      show p ≠ 0
      intro z
      rw [z] at hc
      exact told_top tx x0 (by rw [hc]; grind)
    · have : 0 < qs.length := List.length_pos_iff.mpr e1
      rw [co_append_left this]; exact e3
theorem QInv.done {xs ys xs' qs : List Rat} {b c : Nat} (h : QInv xs ys c xs' qs b) (hl : xs'.length < ys.length) : DivR xs ys qs.reverse (trimQ xs') ∧ AllB 8000 qs.reverse ∧ AllB 8000 (trimQ xs') := by
  have ll := h.len
  refine ⟨⟨?_, trimQ_told _, Nat.lt_of_le_of_lt (trimQ_len _) hl, by rw [List.length_reverse]; omega, fun n => ?_⟩, fun z hz => h.bq z (List.mem_reverse.mp hz), fun z hz => (h.bx z (trimQ_mem hz)).mono ?_⟩
  · rcases h.st with ⟨e1, _⟩ | ⟨e1, _, e3⟩
    · rw [e1]; exact told_nil
    · refine told_of_top fun _ => ?_
      have : 0 < qs.length := List.length_pos_iff.mpr e1
      have e : qs.reverse[qs.reverse.length - 1]? = qs[0]? := by
        rw [List.getElem?_reverse (by rw [List.length_reverse]; omega), List.length_reverse]; congr 1; omega
      unfold co at e3 ⊢
      rw [List.getD_eq_getElem?_getD, e, ← List.getD_eq_getElem?_getD]
      exact e3
  · rw [trimQ_co, h.eq n]
    rcases h.st with ⟨e1, _⟩ | ⟨e1, e2, _⟩
    · rw [e1]
      congr 1
      exact prodc_congr (fun i => by rw [qf_nil]; rfl) n
    · have : 0 < qs.length := List.length_pos_iff.mpr e1
      congr 1
      exact prodc_congr (fun i => qf_rev (by omega) i) n
  · have := h.bb
    have p := pow_pos' (xs'.length + 1 - ys.length)
    have : (b + 2 * c + 1) * 1 ≤ (b + 2 * c + 1) * 2 ^ (xs'.length + 1 - ys.length) := Nat.mul_le_mul_left _ p
    omega
end Fp

namespace Fp
/-! ### (bottom, whole numbers): the law's own polynomials -/
def ratsOf (b : Int) (zs : List Int) : List Rat := zs.map fun z : Int => (z : Rat) / (b : Rat)
theorem ratsOf_len (b : Int) (zs : List Int) : (ratsOf b zs).length = zs.length := List.length_map _
theorem cast_ne {b : Int} (h : b ≠ 0) : (b : Rat) ≠ 0 := fun z => h (by exact_mod_cast z)
theorem co_rats (b : Int) (zs : List Int) (n : Nat) : co (ratsOf b zs) n = ((zs.getD n 0 : Int) : Rat) / (b : Rat) := by
  unfold co ratsOf
  rw [List.getD_eq_getElem?_getD, List.getD_eq_getElem?_getD, List.getElem?_map]
  cases zs[n]? with
  | none => show (0 : Rat) = ((0 : Int) : Rat) / b; rw [Rat.intCast_zero, Rat.div_def, Rat.zero_mul]
  | some z => rfl
def trimI (zs : List Int) : List Int := (zs.reverse.dropWhile fun x => x == 0).reverse
theorem trimI_zero {A : List Int} {x : Int} (h : x = 0) : trimI (A ++ [x]) = trimI A := by
  unfold trimI
  rw [List.reverse_append, List.reverse_singleton, List.singleton_append, List.dropWhile_cons, if_pos (by simp [h])]
theorem trimI_nz {A : List Int} {x : Int} (h : x ≠ 0) : trimI (A ++ [x]) = A ++ [x] := by
  unfold trimI
  rw [List.reverse_append, List.reverse_singleton, List.singleton_append, List.dropWhile_cons, if_neg (by simp [h])]
  simp
theorem trimI_nil : trimI [] = [] := rfl
theorem div_eq_zero {z b : Int} (h : b ≠ 0) : (z : Rat) / (b : Rat) = 0 ↔ z = 0 := by
  constructor
  · intro e
    have : (z : Rat) = 0 := by
      have h2 := Rat.div_mul_cancel (a := (z : Rat)) (cast_ne h)
      rw [e, Rat.zero_mul] at h2
      exact h2.symm
    exact_mod_cast this
  · intro e
    rw [e, Rat.intCast_zero, Rat.div_def, Rat.zero_mul]
theorem ratsOf_trim {b : Int} (h : b ≠ 0) (zs : List Int) : ratsOf b (trimI zs) = trimQ (ratsOf b zs) := by
  induction zs using snoc_ind with
  | h0 => rfl
  | h1 A x ih =>
    have e : ratsOf b (A ++ [x]) = ratsOf b A ++ [(x : Rat) / b] := by unfold ratsOf; rw [List.map_append]; rfl
    rw [e]
    by_cases hx : x = 0
    · rw [trimI_zero hx, ih, trimQ_zero ((div_eq_zero h).mpr hx)]
    · rw [trimI_nz hx, trimQ_nz fun z => hx ((div_eq_zero h).mp z), e]
theorem trimI_len (zs : List Int) : (trimI zs).length ≤ zs.length := by
  unfold trimI
  rw [List.length_reverse]
  have := (List.dropWhile_suffix (fun x : Int => x == 0) (l := zs.reverse)).length_le
  rw [List.length_reverse] at this
  exact this
theorem trimI_mem {zs : List Int} {x : Int} (h : x ∈ trimI zs) : x ∈ zs := by
  unfold trimI at h
  exact List.mem_reverse.mp ((List.dropWhile_sublist _).mem (List.mem_reverse.mp h))
/-- no number of zs is beyond N -/
def BN (N : Nat) (zs : List Int) : Prop := ∀ z ∈ zs, z.natAbs ≤ N
theorem BN.mono {N M : Nat} {zs : List Int} (h : BN N zs) (l : N ≤ M) : BN M zs := fun z hz => Nat.le_trans (h z hz) l
theorem BN.trim {N : Nat} {zs : List Int} (h : BN N zs) : BN N (trimI zs) := fun z hz => h z (trimI_mem hz)
/-- the same polynomial -/
def crossI (b1 : Int) (zs1 : List Int) (b2 : Int) (zs2 : List Int) : Prop := (zs1.map fun z => z * b2) = (zs2.map fun z => z * b1)
theorem frac_eq {x y b1 b2 : Int} (h1 : b1 ≠ 0) (h2 : b2 ≠ 0) : (x : Rat) / b1 = (y : Rat) / b2 ↔ x * b2 = y * b1 := by
  have c1 := cast_ne h1
  have c2 := cast_ne h2
  constructor
  · intro e
    have e1 := Rat.div_mul_cancel (a := (x : Rat)) c1
    have e2 := Rat.div_mul_cancel (a := (y : Rat)) c2
    have : (x : Rat) * b2 = (y : Rat) * b1 := by
      rw [← e1, ← e2, e]; grind
    exact_mod_cast this
  · intro e
    have e3 : (x : Rat) * b2 = (y : Rat) * b1 := by exact_mod_cast e
    have e1 := Rat.div_mul_cancel (a := (x : Rat)) c1
    have e2 := Rat.div_mul_cancel (a := (y : Rat)) c2
    have : ((x : Rat) / b1 - (y : Rat) / b2) * (b1 * b2) = 0 := by
      generalize (x : Rat) / b1 = u at *
      generalize (y : Rat) / b2 = v at *
      grind
    rcases Rat.mul_eq_zero.mp this with z | z
    · grind
    · rcases Rat.mul_eq_zero.mp z with w | w
      · exact absurd w c1
      · exact absurd w c2
theorem cross_iff {b1 b2 : Int} {zs1 zs2 : List Int} (h1 : b1 ≠ 0) (h2 : b2 ≠ 0) : crossI b1 zs1 b2 zs2 ↔ ratsOf b1 zs1 = ratsOf b2 zs2 := by
  unfold crossI ratsOf
  constructor
  · intro e
    have l : zs1.length = zs2.length := by have := congrArg List.length e; simpa using this
    refine List.ext_getElem (by simpa using l) fun i i1 i2 => ?_
    rw [List.getElem_map, List.getElem_map, frac_eq h1 h2]
    have := congrArg (fun l => l[i]?) e
    simp only [List.getElem?_map] at this
    rw [List.getElem?_eq_getElem (by simpa using i1), List.getElem?_eq_getElem (by simpa using i2)] at this
    simpa using this
  · intro e
    have l : zs1.length = zs2.length := by have := congrArg List.length e; simpa using this
    refine List.ext_getElem (by simpa using l) fun i i1 i2 => ?_
    rw [List.getElem_map, List.getElem_map, ← frac_eq h1 h2]
    have := congrArg (fun l => l[i]?) e
    simp only [List.getElem?_map] at this
    rw [List.getElem?_eq_getElem (by simpa using i1), List.getElem?_eq_getElem (by simpa using i2)] at this
    simpa using this
/-! ### products and sums -/
def sumI (f : Nat → Int) : Nat → Int
  | 0 => 0
  | n + 1 => sumI f n + f n
def shI (i : Nat) (ys : List Int) (n : Nat) : Int := if n < i then 0 else ys.getD (n - i) 0
/-- the first k numbers of xs by ys, at n -/
def prodI (xs ys : List Int) (k n : Nat) : Int := sumI (fun i => xs.getD i 0 * shI i ys n) k
theorem sumI_abs {f : Nat → Int} {M : Nat} : ∀ {k : Nat}, (∀ i, i < k → (f i).natAbs ≤ M) → (sumI f k).natAbs ≤ k * M
  | 0, _ => by show (0 : Int).natAbs ≤ _; simp
  | k + 1, h => by
    show (sumI f k + f k).natAbs ≤ _
    have h1 := sumI_abs (f := f) (M := M) (k := k) fun i hi => h i (by omega)
    have h2 := h k (by omega)
    have h3 := Int.natAbs_add_le (sumI f k) (f k)
    rw [Nat.add_mul]
    omega
theorem getD_abs {zs : List Int} {N : Nat} (h : BN N zs) (i : Nat) : (zs.getD i 0).natAbs ≤ N := by
  rw [List.getD_eq_getElem?_getD]
  cases e : zs[i]? with
  | none => show (0 : Int).natAbs ≤ N; simp
  | some z => exact h z (List.mem_of_getElem? e)
theorem shI_abs {ys : List Int} {N : Nat} (h : BN N ys) (i n : Nat) : (shI i ys n).natAbs ≤ N := by
  unfold shI
  split
  · simp
  · exact getD_abs h _
theorem prodI_abs {xs ys : List Int} {N M : Nat} (h : BN N xs) (g : BN M ys) (k n : Nat) : (prodI xs ys k n).natAbs ≤ k * (N * M) :=
  sumI_abs fun i _ => by rw [Int.natAbs_mul]; exact Nat.mul_le_mul (getD_abs h i) (shI_abs g i n)
theorem sumI_cast (f : Nat → Int) : ∀ k, ((sumI f k : Int) : Rat) = sumN (fun i => (f i : Rat)) k
  | 0 => rfl
  | k + 1 => by
    show ((sumI f k + f k : Int) : Rat) = sumN _ k + (f k : Rat)
    rw [Rat.intCast_add, sumI_cast f k]
theorem prodI_rat {b1 b2 : Int} (h1 : b1 ≠ 0) (h2 : b2 ≠ 0) (xs ys : List Int) (n : Nat) : ((prodI xs ys xs.length n : Int) : Rat) / ((b1 * b2 : Int) : Rat) = prodc (ratsOf b1 xs) (co (ratsOf b2 ys)) n := by
  unfold prodI prodc
  rw [sumI_cast, ratsOf_len, Rat.div_def, Rat.mul_comm, ← sumN_mul]
  refine sumN_congr fun i _ => ?_
  rw [co_rats, Rat.intCast_mul, Rat.intCast_mul]
  have c1 := cast_ne h1
  have c2 := cast_ne h2
  have es : sh i (co (ratsOf b2 ys)) n = ((shI i ys n : Int) : Rat) / b2 := by
    unfold sh shI
    split
    · rw [Rat.intCast_zero, Rat.div_def, Rat.zero_mul]
    · rw [co_rats]
  rw [es, Rat.div_def, Rat.div_def, Rat.inv_mul_rev]
  grind
end Fp
namespace Fp
theorem getD_pad (zs : List Int) (k n : Nat) : (zs ++ List.replicate k 0).getD n 0 = zs.getD n 0 := by
  rw [List.getD_eq_getElem?_getD, List.getD_eq_getElem?_getD]
  by_cases h : n < zs.length
  · rw [List.getElem?_append_left h]
  · rw [List.getElem?_append_right (by omega), List.getElem?_eq_none (show zs.length ≤ n by omega), List.getElem?_replicate]
    split <;> rfl
theorem pad_at {zs : List Int} {k i : Nat} (h : i < zs.length + k) : (zs ++ List.replicate k 0)[i]? = some (zs.getD i 0) := by
  have e := getD_pad zs k i
  rw [List.getD_eq_getElem?_getD] at e
  cases q : (zs ++ List.replicate k 0)[i]? with
  | none => rw [List.getElem?_eq_none_iff, List.length_append, List.length_replicate] at q; omega
  | some x => rw [q] at e; rw [← e]; rfl
theorem getD_out {zs : List Int} {n : Nat} (h : zs.length ≤ n) : zs.getD n 0 = 0 := by
  rw [List.getD_eq_getElem?_getD, List.getElem?_eq_none h]; rfl
theorem getD_range {f : Nat → Int} {m n : Nat} : ((List.range m).map f).getD n 0 = if n < m then f n else 0 := by
  rw [List.getD_eq_getElem?_getD, List.getElem?_map]
  by_cases h : n < m
  · rw [List.getElem?_range h, if_pos h]; rfl
  · rw [if_neg h, List.getElem?_eq_none (by rw [List.length_range]; omega)]; rfl
/-- the sum's numbers -/
def plusI (b1 b2 : Int) (xs ys : List Int) : List Int := (List.range (max xs.length ys.length)).map fun n => xs.getD n 0 * b2 + 1 * ys.getD n 0 * b1
theorem plusI_getD (b1 b2 : Int) (xs ys : List Int) (n : Nat) : (plusI b1 b2 xs ys).getD n 0 = xs.getD n 0 * b2 + 1 * ys.getD n 0 * b1 := by
  unfold plusI
  rw [getD_range]
  split
  · rfl
  · rw [getD_out (zs := xs) (by omega), getD_out (zs := ys) (by omega)]; omega
theorem plusI_co {b1 b2 : Int} (h1 : b1 ≠ 0) (h2 : b2 ≠ 0) (xs ys : List Int) (n : Nat) : co (ratsOf (b1 * b2) (trimI (plusI b1 b2 xs ys))) n = co (ratsOf b1 xs) n + co (ratsOf b2 ys) n := by
  have h3 : b1 * b2 ≠ 0 := fun z => by rcases Int.mul_eq_zero.mp z with e | e <;> omega
  rw [ratsOf_trim h3, trimQ_co, co_rats, co_rats, co_rats, plusI_getD]
  have c1 := cast_ne h1
  have c2 := cast_ne h2
  rw [Rat.intCast_add, Rat.intCast_mul, Rat.intCast_mul, Rat.intCast_mul, Rat.intCast_mul, Rat.intCast_one]
  generalize ((xs.getD n 0 : Int) : Rat) = u
  generalize ((ys.getD n 0 : Int) : Rat) = v
  generalize (b1 : Rat) = p at *
  generalize (b2 : Rat) = q at *
  rw [Rat.div_def, Rat.div_def, Rat.div_def, Rat.inv_mul_rev]
  have i1 := Rat.mul_inv_cancel p c1
  have i2 := Rat.mul_inv_cancel q c2
  grind
theorem plusI_BN {b1 b2 : Int} {xs ys : List Int} {N1 N2 : Nat} (h : BN N1 xs) (g : BN N2 ys) : BN (N1 * b2.natAbs + N2 * b1.natAbs) (plusI b1 b2 xs ys) := fun z hz => by
  unfold plusI at hz
  obtain ⟨n, _, rfl⟩ := List.mem_map.mp hz
  refine Nat.le_trans (Int.natAbs_add_le _ _) ?_
  rw [Int.one_mul, Int.natAbs_mul, Int.natAbs_mul]
  exact Nat.add_le_add (Nat.mul_le_mul_right _ (getD_abs h n)) (Nat.mul_le_mul_right _ (getD_abs g n))
theorem plusI_len (b1 b2 : Int) (xs ys : List Int) : (plusI b1 b2 xs ys).length = max xs.length ys.length := by unfold plusI; rw [List.length_map, List.length_range]
/-- the product's numbers -/
def timesI (xs ys : List Int) : List Int := (List.range (xs.length + ys.length - 1)).map fun n => prodI xs ys xs.length n
theorem sumI_zero {f : Nat → Int} : ∀ {n : Nat}, (∀ i, i < n → f i = 0) → sumI f n = 0
  | 0, _ => rfl
  | n + 1, h => by
    show sumI f n + f n = 0
    rw [sumI_zero fun i hi => h i (by omega), h n (by omega)]; rfl
theorem timesI_getD (xs ys : List Int) (n : Nat) : (timesI xs ys).getD n 0 = prodI xs ys xs.length n := by
  unfold timesI
  rw [getD_range]
  split
  · rfl
  · symm
    refine sumI_zero fun i hi => ?_
    unfold shI
    rw [if_neg (by omega)]
    rw [getD_out (zs := ys) (by omega)]; omega
theorem timesI_co {b1 b2 : Int} (h1 : b1 ≠ 0) (h2 : b2 ≠ 0) (xs ys : List Int) (n : Nat) : co (ratsOf (b1 * b2) (trimI (timesI xs ys))) n = prodc (ratsOf b1 xs) (co (ratsOf b2 ys)) n := by
  have h3 : b1 * b2 ≠ 0 := fun z => by rcases Int.mul_eq_zero.mp z with e | e <;> omega
  rw [ratsOf_trim h3, trimQ_co, co_rats, timesI_getD, prodI_rat h1 h2]
theorem timesI_BN {xs ys : List Int} {N1 N2 : Nat} (h : BN N1 xs) (g : BN N2 ys) : BN (xs.length * (N1 * N2)) (timesI xs ys) := fun z hz => by
  unfold timesI at hz
  obtain ⟨n, _, rfl⟩ := List.mem_map.mp hz
  exact prodI_abs h g _ _
theorem timesI_len (xs ys : List Int) : (timesI xs ys).length = xs.length + ys.length - 1 := by unfold timesI; rw [List.length_map, List.length_range]
theorem told_trim {b : Int} (h : b ≠ 0) (zs : List Int) : Told (ratsOf b (trimI zs)) := by rw [ratsOf_trim h]; exact trimQ_told _
/-- in the midst of the inner loop -/
def partI (xs ys : List Int) (i j n : Nat) : Int := prodI xs ys i n + (if i ≤ n ∧ n < i + j then xs.getD i 0 * ys.getD (n - i) 0 else 0)
theorem partI_zero (xs ys : List Int) (i n : Nat) : partI xs ys i 0 n = prodI xs ys i n := by
  unfold partI; rw [if_neg (by omega)]; omega
theorem partI_all (xs ys : List Int) (i n : Nat) : partI xs ys i ys.length n = prodI xs ys (i + 1) n := by
  show _ = prodI xs ys i n + xs.getD i 0 * shI i ys n
  unfold partI shI
  congr 1
  by_cases h : n < i
  · rw [if_neg (by omega), if_pos h]; omega
  · rw [if_neg h]
    by_cases h2 : n < i + ys.length
    · rw [if_pos (by omega)]
    · rw [if_neg (by omega), getD_out (zs := ys) (by omega)]; omega
theorem partI_step {xs ys : List Int} {i j L : Nat} (h : i + j < L) : ((List.range L).map (partI xs ys i j)).set (i + j) (partI xs ys i j (i + j) + xs.getD i 0 * ys.getD j 0) = (List.range L).map (partI xs ys i (j + 1)) := by
  refine List.ext_getElem (by simp) fun n n1 n2 => ?_
  have nL : n < L := by simpa using n2
  rw [List.getElem_set]
  split
  · rename_i e
    subst e
    rw [List.getElem_map, List.getElem_range]
    unfold partI
    rw [if_neg (by omega), if_pos (by omega), show i + j - i = j by omega]; omega
  · rename_i ne
    rw [List.getElem_map, List.getElem_map, List.getElem_range]
    unfold partI
    by_cases h2 : i ≤ n ∧ n < i + j
    · rw [if_pos h2, if_pos (by omega)]
    · rw [if_neg h2, if_neg (by omega)]
end Fp

namespace Fp
/-! ### sums of lists -/
def addQ (xs ys : List Rat) : List Rat := List.zipWith (fun a b => a + b) xs ys ++ xs.drop ys.length ++ ys.drop xs.length
theorem co_drop (xs : List Rat) (k n : Nat) : co (xs.drop k) n = co xs (k + n) := by
  unfold co
  rw [List.getD_eq_getElem?_getD, List.getD_eq_getElem?_getD, List.getElem?_drop]
theorem co_append (xs ys : List Rat) (n : Nat) : co (xs ++ ys) n = if n < xs.length then co xs n else co ys (n - xs.length) := by
  split
  · exact co_append_left ‹_›
  · exact co_append_right (by omega)
theorem co_zipAdd (xs ys : List Rat) (n : Nat) : co (List.zipWith (fun a b => a + b) xs ys) n = if n < min xs.length ys.length then co xs n + co ys n else 0 := by
  split
  · rename_i h
    have h1 : n < xs.length := by omega
    have h2 : n < ys.length := by omega
    rw [co_at (x := xs[n] + ys[n])]
    · rw [co_at (List.getElem?_eq_getElem h1), co_at (List.getElem?_eq_getElem h2)]
    · rw [List.getElem?_zipWith, List.getElem?_eq_getElem h1, List.getElem?_eq_getElem h2]
  · exact co_out (by rw [List.length_zipWith]; omega)
theorem addQ_co (xs ys : List Rat) (n : Nat) : co (addQ xs ys) n = co xs n + co ys n := by
  unfold addQ
  rw [List.append_assoc, co_append, co_zipAdd, List.length_zipWith, co_append, co_drop, co_drop, List.length_drop]
  by_cases h : n < min xs.length ys.length
  · rw [if_pos h, if_pos h]
  · rw [if_neg h]
    by_cases h2 : n - min xs.length ys.length < xs.length - ys.length
    · rw [if_pos h2, co_out (xs := ys) (i := n) (by omega), show ys.length + (n - min xs.length ys.length) = n by omega]; grind
    · rw [if_neg h2]
      by_cases h3 : n < ys.length
      · rw [co_out (xs := xs) (i := n) (by omega), show xs.length + (n - min xs.length ys.length - (xs.length - ys.length)) = n by omega]; grind
      · rw [co_out (xs := ys) (by omega), co_out (xs := ys) (i := n) (by omega), co_out (xs := xs) (by omega)]; grind
theorem addQ_len (xs ys : List Rat) : (addQ xs ys).length = max xs.length ys.length := by
  unfold addQ
  rw [List.length_append, List.length_append, List.length_zipWith, List.length_drop, List.length_drop]; omega
/-! ### worths -/
def hv : List Rat → Rat → Rat
  | [], _ => 0
  | c :: cs, z => hv cs z * z + c
theorem hv_drop {xs : List Rat} {i : Nat} {x : Rat} (h : xs[i]? = some x) (z : Rat) : hv (xs.drop i) z = hv (xs.drop (i + 1)) z * z + x := by
  obtain ⟨l, e⟩ := List.getElem?_eq_some_iff.mp h
  rw [List.drop_eq_getElem_cons l, e]; rfl
theorem sumN_shift (f : Nat → Rat) : ∀ n, sumN f (n + 1) = f 0 + sumN (fun i => f (i + 1)) n
  | 0 => by show (0 : Rat) + f 0 = f 0 + 0; grind
  | n + 1 => by
    show sumN f (n + 1) + f (n + 1) = f 0 + (sumN (fun i => f (i + 1)) n + f (n + 1))
    rw [sumN_shift f n]; grind
theorem co_cons_zero (c : Rat) (cs : List Rat) : co (c :: cs) 0 = c := rfl
theorem co_cons_succ (c : Rat) (cs : List Rat) (n : Nat) : co (c :: cs) (n + 1) = co cs n := rfl
theorem hv_sum : ∀ (xs : List Rat) (z : Rat) (N : Nat), xs.length ≤ N → hv xs z = sumN (fun i => co xs i * z ^ i) N
  | [], z, N, _ => by
    symm
    exact sumN_zero fun i _ => by rw [co_nil]; grind
  | c :: cs, z, 0, h => by simp at h
  | c :: cs, z, N + 1, h => by
    rw [sumN_shift]
    show hv cs z * z + c = co (c :: cs) 0 * z ^ 0 + _
    rw [hv_sum cs z N (by simpa using h), co_cons_zero, Rat.pow_zero]
    have : sumN (fun i => co (c :: cs) (i + 1) * z ^ (i + 1)) N = z * sumN (fun i => co cs i * z ^ i) N := by
      rw [← sumN_mul]
      refine sumN_congr fun i _ => ?_
      rw [co_cons_succ, Rat.pow_succ]; grind
    rw [this]; grind
theorem hv_add {xs ys zs : List Rat} (h : ∀ n, co zs n = co xs n + co ys n) (z : Rat) : hv zs z = hv xs z + hv ys z := by
  let N := max zs.length (max xs.length ys.length)
  rw [hv_sum zs z N (by omega), hv_sum xs z N (by omega), hv_sum ys z N (by omega), ← sumN_add]
  exact sumN_congr fun i _ => by rw [h]; grind
theorem sumN_swap (f : Nat → Nat → Rat) : ∀ n m : Nat, sumN (fun i => sumN (f i) m) n = sumN (fun j => sumN (fun i => f i j) n) m
  | 0, m => by
    symm
    exact sumN_zero fun j _ => rfl
  | n + 1, m => by
    show sumN (fun i => sumN (f i) m) n + sumN (f n) m = sumN (fun j => sumN (fun i => f i j) n + f n j) m
    rw [sumN_swap f n m, sumN_add]
/-- a shifted one -/
theorem sumN_sh (g : Nat → Rat) (z : Rat) (i : Nat) : ∀ N : Nat, sumN (fun n => sh i g n * z ^ n) (i + N) = z ^ i * sumN (fun n => g n * z ^ n) N
  | 0 => by
    rw [Nat.add_zero]
    rw [sumN_zero fun n hn => by unfold sh; rw [if_pos hn]; grind]
    show (0 : Rat) = z ^ i * 0
    grind
  | N + 1 => by
    show sumN (fun n => sh i g n * z ^ n) (i + N) + sh i g (i + N) * z ^ (i + N) = z ^ i * (sumN (fun n => g n * z ^ n) N + g N * z ^ N)
    rw [sumN_sh g z i N]
    have e : sh i g (i + N) = g N := by unfold sh; rw [if_neg (by omega)]; congr 1; omega
    have p : z ^ (i + N) = z ^ i * z ^ N := by
      induction N with
      | zero => rw [Nat.add_zero, Rat.pow_zero]; grind
      | succ N ih => 
        have := ih (by unfold sh; rw [if_neg (by omega)]; congr 1; omega)
        rw [← Nat.add_assoc, Rat.pow_succ, Rat.pow_succ, this]; grind
    rw [e, p]; grind
theorem sumN_more {f : Nat → Rat} {n : Nat} : ∀ {k : Nat}, (∀ i, n ≤ i → f i = 0) → sumN f (n + k) = sumN f n
  | 0, _ => rfl
  | k + 1, h => by
    show sumN f (n + k) + f (n + k) = _
    rw [sumN_more (k := k) h, h _ (by omega)]; grind
theorem hv_mul {xs ys zs : List Rat} (h : ∀ n, co zs n = prodc xs (co ys) n) (z : Rat) : hv zs z = hv xs z * hv ys z := by
  let M := zs.length + xs.length + ys.length
  rw [hv_sum zs z (zs.length + xs.length + ys.length) (by omega), hv_sum xs z xs.length (Nat.le_refl _)]
  have e1 : sumN (fun n => co zs n * z ^ n) (zs.length + xs.length + ys.length) = sumN (fun n => sumN (fun i => co xs i * (sh i (co ys) n * z ^ n)) xs.length) (zs.length + xs.length + ys.length) := by
    refine sumN_congr fun n _ => ?_
    rw [h]
    unfold prodc
    rw [Rat.mul_comm, ← sumN_mul]
    exact sumN_congr fun i _ => by grind
  rw [e1, sumN_swap (fun n i => co xs i * (sh i (co ys) n * z ^ n))]
  have e2 : ∀ i, i < xs.length → sumN (fun n => co xs i * (sh i (co ys) n * z ^ n)) (zs.length + xs.length + ys.length) = hv ys z * (co xs i * z ^ i) := fun i hi => by
    rw [sumN_mul]
    obtain ⟨k, hk⟩ : ∃ k, zs.length + xs.length + ys.length = i + (ys.length + k) := ⟨zs.length + xs.length - i, by omega⟩
    rw [hk, sumN_sh, sumN_more fun n hn => by rw [co_out hn]; grind, ← hv_sum ys z ys.length (Nat.le_refl _)]; grind
  rw [sumN_congr e2, sumN_mul, Rat.mul_comm]
/-! ### what is derived -/
def derQ (xs : List Rat) : List Rat := ((List.range xs.length).map fun n => co xs n * ((n : Int) : Rat)).drop 1
theorem derQ_co (xs : List Rat) (n : Nat) : co (derQ xs) n = co xs (n + 1) * (((n + 1 : Nat) : Int) : Rat) := by
  unfold derQ
  rw [co_drop, Nat.add_comm 1 n]
  by_cases h : n + 1 < xs.length
  · rw [co_at (x := co xs (n + 1) * (((n + 1 : Nat) : Int) : Rat))]
    rw [List.getElem?_map, List.getElem?_range h]; rfl
  · rw [co_out (by simp; omega), co_out (xs := xs) (by omega)]; grind
theorem derQ_told {xs : List Rat} (t : Told xs) : Told (derQ xs) := told_of_top fun h => by
  have l : (derQ xs).length = xs.length - 1 := by unfold derQ; simp
  have : 0 < (derQ xs).length := List.length_pos_iff.mpr h
  rw [derQ_co]
  intro z
  rcases Rat.mul_eq_zero.mp z with e | e
  · rw [show (derQ xs).length - 1 + 1 = xs.length - 1 by omega] at e
    exact told_top t (fun e => by rw [e] at l this; rw [List.length_nil] at l; omega) e
  · have : (((derQ xs).length - 1 + 1 : Nat) : Int) = 0 := by exact_mod_cast e
    omega
/-! ### times a number -/
def scQ (c : Rat) (xs : List Rat) : List Rat := trimQ (xs.map fun x => x * c)
theorem scQ_co (c : Rat) (xs : List Rat) (n : Nat) : co (scQ c xs) n = co xs n * c := by
  unfold scQ
  rw [trimQ_co]
  unfold co
  rw [List.getD_eq_getElem?_getD, List.getD_eq_getElem?_getD, List.getElem?_map]
  cases xs[n]? with
  | none => show (0 : Rat) = 0 * c; grind
  | some x => rfl
/-- a product of told ones is told -/
theorem prod_told {xs ys zs : List Rat} (tx : Told xs) (ty : Told ys) (x0 : xs ≠ []) (y0 : ys ≠ []) (l : zs.length = xs.length + ys.length - 1) (h : ∀ n, co zs n = prodc xs (co ys) n) : Told zs := told_of_top fun _ => by
  have lx : 0 < xs.length := List.length_pos_iff.mpr x0
  have ly : 0 < ys.length := List.length_pos_iff.mpr y0
  rw [h, show zs.length - 1 = (xs.length - 1) + (ys.length - 1) by omega, prodc_top (by omega) fun i hi => co_out (by omega)]
  intro z
  rcases Rat.mul_eq_zero.mp z with e | e
  · exact told_top tx x0 e
  · exact told_top ty y0 e
theorem prodc_nil_left (g : Nat → Rat) (n : Nat) : prodc [] g n = 0 := rfl
theorem prodc_nil_right (xs : List Rat) (n : Nat) : prodc xs (co []) n = 0 := sumN_zero fun i _ => by
  unfold sh
  split
  · grind
  · rw [co_nil]; grind
end Fp
namespace Fp
theorem lbLe {n : Nat} {a b : Int} (h : LbI n b) (h0 : 0 ≤ a) (l : a ≤ b) : LbI n a := h.of_le (by omega)
theorem ownZ {B : Int} {x : Rat} {n m : Nat} (hB : 0 < B) (hd : (x.den : Int) ∣ B) (bx : Bits n x) (hm : LbI m B) : ((x.num * B.fdiv x.den : Int) : Rat) / (B : Rat) = x ∧ LbI (n + m) (x.num * B.fdiv x.den) ∧ LbI m (B.fdiv x.den) := by
  have d0 := den_pos x
  rw [fdiv_exact hd]
  obtain ⟨c, hc⟩ := hd
  have q : B / (x.den : Int) = c := by
    rw [hc]; exact Int.mul_ediv_cancel_left _ (by omega)
  rw [q]
  have c0 : 0 < c := by
    rcases Int.lt_trichotomy c 0 with z | z | z
    · have := Int.mul_neg_of_pos_of_neg d0 z; omega
    · subst z; rw [Int.mul_zero] at hc; omega
    · exact z
  have cB : c ≤ B := by
    rw [hc]
    have := Int.mul_le_mul_of_nonneg_right (show 1 ≤ (x.den : Int) by omega) (Int.le_of_lt c0)
    omega
  have lc : LbI m c := lbLe hm (by omega) cB
  refine ⟨?_, bx.1.mul lc, lc⟩
  rw [hc, ← Rat.divInt_eq_div, Rat.divInt_mul_right (by omega)]
  exact divInt_self x
theorem lcm_step {L d B : Nat} (h1 : L ∣ B) (h2 : d ∣ B) (L0 : 0 < L) (d0 : 0 < d) : Nat.lcm L d ∣ B ∧ 0 < Nat.lcm L d ∧ L ∣ Nat.lcm L d ∧ d ∣ Nat.lcm L d :=
  ⟨Nat.lcm_dvd h1 h2, Nat.lcm_pos L0 d0, Nat.dvd_lcm_left .., Nat.dvd_lcm_right ..⟩
end Fp

namespace Fp
/-- the sum's numbers, the second ones times a factor -/
def plusF (f b1 b2 : Int) (xs ys : List Int) : List Int := (List.range (max xs.length ys.length)).map fun n => xs.getD n 0 * b2 + f * ys.getD n 0 * b1
theorem plusF_getD (f b1 b2 : Int) (xs ys : List Int) (n : Nat) : (plusF f b1 b2 xs ys).getD n 0 = xs.getD n 0 * b2 + f * ys.getD n 0 * b1 := by
  unfold plusF
  rw [getD_range]
  split
  · rfl
  · rw [getD_out (zs := xs) (by omega), getD_out (zs := ys) (by omega), Int.mul_zero, Int.zero_mul, Int.zero_mul]; rfl
theorem plusF_co {f b1 b2 : Int} (h1 : b1 ≠ 0) (h2 : b2 ≠ 0) (xs ys : List Int) (n : Nat) : co (ratsOf (b1 * b2) (trimI (plusF f b1 b2 xs ys))) n = co (ratsOf b1 xs) n + (f : Rat) * co (ratsOf b2 ys) n := by
  have h3 : b1 * b2 ≠ 0 := fun z => by rcases Int.mul_eq_zero.mp z with e | e <;> omega
  rw [ratsOf_trim h3, trimQ_co, co_rats, co_rats, co_rats, plusF_getD]
  have c1 := cast_ne h1
  have c2 := cast_ne h2
  rw [Rat.intCast_add, Rat.intCast_mul, Rat.intCast_mul, Rat.intCast_mul, Rat.intCast_mul]
  generalize ((xs.getD n 0 : Int) : Rat) = u
  generalize ((ys.getD n 0 : Int) : Rat) = v
  generalize (b1 : Rat) = p at *
  generalize (b2 : Rat) = q at *
  rw [Rat.div_def, Rat.div_def, Rat.div_def, Rat.inv_mul_rev]
  have i1 := Rat.mul_inv_cancel p c1
  have i2 := Rat.mul_inv_cancel q c2
  grind
theorem plusF_BN {f b1 b2 : Int} {xs ys : List Int} {N1 N2 : Nat} (hf : f.natAbs ≤ 1) (h : BN N1 xs) (g : BN N2 ys) : BN (N1 * b2.natAbs + N2 * b1.natAbs) (plusF f b1 b2 xs ys) := fun z hz => by
  unfold plusF at hz
  obtain ⟨n, _, rfl⟩ := List.mem_map.mp hz
  refine Nat.le_trans (Int.natAbs_add_le _ _) ?_
  rw [Int.natAbs_mul, Int.natAbs_mul, Int.natAbs_mul]
  refine Nat.add_le_add (Nat.mul_le_mul_right _ (getD_abs h n)) (Nat.mul_le_mul_right _ ?_)
  have := Nat.mul_le_mul hf (getD_abs g n)
  omega
theorem plusF_len (f b1 b2 : Int) (xs ys : List Int) : (plusF f b1 b2 xs ys).length = max xs.length ys.length := by unfold plusF; rw [List.length_map, List.length_range]
/-- own worths, by whole numbers -/
theorem worth_step {fo lo p q one : Int} (l0 : lo ≠ 0) (q0 : q ≠ 0) {h : Rat} {b : Int} (b0 : b ≠ 0) (e : ((fo * q : Int) : Rat) / ((lo * b : Int) : Rat) = h) :
    (((fo * p + one * lo) * q : Int) : Rat) / (((lo * q) * b : Int) : Rat) = h * ((p : Rat) / (q : Rat)) + (one : Rat) / (b : Rat) := by
  have cl := cast_ne l0
  have cq := cast_ne q0
  have cb := cast_ne b0
  rw [← e]
  simp only [Rat.intCast_mul, Rat.intCast_add]
  generalize (fo : Rat) = F
  generalize (p : Rat) = P
  generalize (one : Rat) = O
  generalize (lo : Rat) = L at *
  generalize (q : Rat) = Qq at *
  generalize (b : Rat) = B at *
  rw [Rat.div_def, Rat.div_def, Rat.div_def, Rat.div_def, Rat.inv_mul_rev, Rat.inv_mul_rev, Rat.inv_mul_rev]
  have i1 := Rat.mul_inv_cancel L cl
  have i2 := Rat.mul_inv_cancel Qq cq
  have i3 := Rat.mul_inv_cancel B cb
  generalize L⁻¹ = L1 at *
  generalize Qq⁻¹ = Q1 at *
  generalize B⁻¹ = B1 at *
  grind
theorem ratsOf_drop (b : Int) (zs : List Int) (n : Nat) : (ratsOf b zs).drop n = ratsOf b (zs.drop n) := by unfold ratsOf; rw [List.map_drop]
theorem ratsOf_at {b : Int} {zs : List Int} {i : Nat} {z : Int} (h : zs[i]? = some z) : (ratsOf b zs)[i]? = some ((z : Rat) / (b : Rat)) := by unfold ratsOf; rw [List.getElem?_map, h]; rfl
/-- derived, by whole numbers -/
def derI (zs : List Int) : List Int := (List.range (zs.length - 1)).map fun n => zs.getD (1 + n) 0 * ((1 + n : Nat) : Int)
theorem derI_co {b : Int} (h : b ≠ 0) (zs : List Int) (n : Nat) : co (ratsOf b (trimI (derI zs))) n = co (derQ (ratsOf b zs)) n := by
  rw [ratsOf_trim h, trimQ_co, derQ_co, co_rats, co_rats]
  unfold derI
  rw [getD_range]
  by_cases l : n < zs.length - 1
  · rw [if_pos l, Nat.add_comm 1 n, Rat.intCast_mul, Rat.div_def, Rat.div_def]; grind
  · rw [if_neg l, getD_out (by omega), Rat.intCast_zero, Rat.div_def]; grind
theorem derI_BN {zs : List Int} {N : Nat} (h : BN N zs) : BN (N * zs.length) (derI zs) := fun z hz => by
  unfold derI at hz
  obtain ⟨n, hn, rfl⟩ := List.mem_map.mp hz
  rw [List.mem_range] at hn
  rw [Int.natAbs_mul]
  exact Nat.mul_le_mul (getD_abs h _) (by omega)
theorem neg_map_co (ys : List Rat) (n : Nat) : co (ys.map fun y => -y) n = - co ys n := by
  unfold co
  rw [List.getD_eq_getElem?_getD, List.getD_eq_getElem?_getD, List.getElem?_map]
  cases ys[n]? with
  | none => show (0 : Rat) = -0; grind
  | some x => rfl
end Fp
namespace Fp
theorem sumN_le {f : Nat → Rat} {n m : Nat} (l : n ≤ m) (h : ∀ i, n ≤ i → f i = 0) : sumN f m = sumN f n := by
  obtain ⟨k, rfl⟩ : ∃ k, m = n + k := ⟨m - n, by omega⟩
  exact sumN_more h
theorem prodc_range (xs : List Rat) (g : Nat → Rat) (n : Nat) : prodc xs g n = sumN (fun i => co xs i * g (n - i)) (n + 1) := by
  unfold prodc
  have h1 : sumN (fun i => co xs i * sh i g n) (max xs.length (n + 1)) = sumN (fun i => co xs i * sh i g n) xs.length := sumN_le (by omega) fun i hi => by rw [co_out hi]; grind
  have h2 : sumN (fun i => co xs i * sh i g n) (max xs.length (n + 1)) = sumN (fun i => co xs i * sh i g n) (n + 1) := sumN_le (by omega) fun i hi => by unfold sh; rw [if_pos (by omega)]; grind
  rw [← h1, h2]
  exact sumN_congr fun i hi => by unfold sh; rw [if_neg (by omega)]
theorem sumN_rev (f : Nat → Rat) : ∀ n, sumN f (n + 1) = sumN (fun i => f (n - i)) (n + 1)
  | 0 => rfl
  | n + 1 => by
    rw [sumN_shift (fun i => f (n + 1 - i)) (n + 1)]
    show sumN f (n + 1) + f (n + 1) = f (n + 1 - 0) + sumN (fun i => f (n + 1 - (i + 1))) (n + 1)
    have e : (fun i => f (n + 1 - (i + 1))) = fun i => f (n - i) := funext fun i => by congr 1; omega
    rw [e, ← sumN_rev f n, Nat.sub_zero]; grind
theorem prodc_comm (xs ys : List Rat) (n : Nat) : prodc xs (co ys) n = prodc ys (co xs) n := by
  rw [prodc_range, prodc_range, sumN_rev]
  exact sumN_congr fun i hi => by rw [show n - (n - i) = i by omega]; grind
theorem prodc_one (xs : List Rat) (c : Rat) (zs : List Rat) (h : ∀ i, co zs i = single 0 c i) (n : Nat) : prodc xs (co zs) n = co xs n * c := by
  rw [prodc_congr h, prodc_single, if_neg (by omega), Nat.sub_zero]; grind
theorem derQ_mem {xs : List Rat} {z : Rat} (h : z ∈ derQ xs) : ∃ n, n < xs.length ∧ z = co xs n * ((n : Int) : Rat) := by
  unfold derQ at h
  obtain ⟨n, hn, rfl⟩ := List.mem_map.mp (List.mem_of_mem_drop h)
  exact ⟨n, List.mem_range.mp hn, rfl⟩
theorem co_allB {xs : List Rat} {n i : Nat} (h : AllB n xs) (n0 : 0 < n) : Bits n (co xs i) := by
  by_cases l : i < xs.length
  · rw [co_at (List.getElem?_eq_getElem l)]; exact h _ (List.getElem_mem _)
  · rw [co_out (by omega)]; exact ⟨Nat.two_pow_pos _, Nat.one_lt_two_pow (by omega)⟩
theorem derQ_allB {xs : List Rat} {n : Nat} (h : AllB n xs) (n0 : 0 < n) (l : xs.length ≤ 49) : AllB (n + 6) (derQ xs) := fun z hz => by
  obtain ⟨i, hi, rfl⟩ := derQ_mem hz
  refine (co_allB h n0).mulA ⟨?_, ?_⟩
  · show ((i : Nat) : Int).natAbs < 2 ^ 6; omega
  · show (1 : Int).natAbs < 2 ^ 6; decide
theorem scQ_allB {xs : List Rat} {n m : Nat} {c : Rat} (h : AllB n xs) (g : Bits m c) : AllB (n + m) (scQ c xs) := fun z hz => by
  obtain ⟨x, hx, rfl⟩ := List.mem_map.mp (trimQ_mem hz)
  exact (h x hx).mulA g
theorem scQ_len (c : Rat) (xs : List Rat) : (scQ c xs).length ≤ xs.length := by
  have := trimQ_len (xs.map fun x => x * c)
  rw [List.length_map] at this
  exact this
theorem derQ_len (xs : List Rat) : (derQ xs).length ≤ xs.length := by unfold derQ; simp
end Fp

namespace Fp
/-! ### numbers over one bottom -/
def Sc (D : Int) (M : Nat) (x : Rat) : Prop := ∃ z : Int, x = (z : Rat) / (D : Rat) ∧ z.natAbs ≤ M
theorem Sc.mono {D : Int} {M N : Nat} {x : Rat} (h : Sc D M x) (l : M ≤ N) : Sc D N x := let ⟨z, e, b⟩ := h; ⟨z, e, Nat.le_trans b l⟩
theorem Sc.bits {D : Int} {M n : Nat} {x : Rat} (h : Sc D M x) (d0 : D ≠ 0) (hD : LbI n D) (hM : M < 2 ^ n) : Bits n x := by
  obtain ⟨z, rfl, b⟩ := h
  rw [← Rat.divInt_eq_div]
  exact Bits.divInt (Nat.lt_of_le_of_lt b hM) hD d0
theorem Sc.int {z : Int} {M : Nat} (h : z.natAbs ≤ M) : Sc 1 M (z : Rat) := ⟨z, by rw [Rat.intCast_one, Rat.div_def, Rat.inv_eq_of_mul_eq_one (Rat.mul_one 1), Rat.mul_one], h⟩
theorem Sc.zero {D : Int} {M : Nat} : Sc D M 0 := ⟨0, by rw [Rat.intCast_zero, Rat.div_def, Rat.zero_mul], by simp⟩
theorem Sc.add {D : Int} {M N : Nat} {x y : Rat} (h : Sc D M x) (g : Sc D N y) : Sc D (M + N) (x + y) := by
  obtain ⟨a, rfl, b1⟩ := h
  obtain ⟨c, rfl, b2⟩ := g
  refine ⟨a + c, ?_, Nat.le_trans (Int.natAbs_add_le _ _) (Nat.add_le_add b1 b2)⟩
  rw [Rat.intCast_add, Rat.div_def, Rat.div_def, Rat.div_def, Rat.add_mul]
theorem Sc.neg {D : Int} {M : Nat} {x : Rat} (h : Sc D M x) : Sc D M (-x) := by
  obtain ⟨a, rfl, b1⟩ := h
  refine ⟨-a, ?_, by rw [Int.natAbs_neg]; exact b1⟩
  rw [Rat.intCast_neg, Rat.div_def, Rat.div_def, Rat.neg_mul]
theorem Sc.mul {D E : Int} {M N : Nat} {x y : Rat} (h : Sc D M x) (g : Sc E N y) : Sc (D * E) (M * N) (x * y) := by
  obtain ⟨a, rfl, b1⟩ := h
  obtain ⟨c, rfl, b2⟩ := g
  refine ⟨a * c, ?_, by rw [Int.natAbs_mul]; exact Nat.mul_le_mul b1 b2⟩
  rw [Rat.intCast_mul, Rat.intCast_mul, Rat.div_def, Rat.div_def, Rat.div_def, Rat.inv_mul_rev]; grind
/-- over more -/
theorem Sc.up {D : Int} {M : Nat} {x : Rat} (h : Sc D M x) (e : Int) (e0 : e ≠ 0) : Sc (D * e) (M * e.natAbs) x := by
  have := h.mul (y := 1) (N := e.natAbs) ⟨e, by
    have := cast_ne e0
    rw [Rat.div_def, Rat.mul_inv_cancel _ this], Nat.le_refl _⟩
  rwa [Rat.mul_one] at this
/-- one step of a division: one less part times two -/
theorem Sc.step {D s : Int} {M S : Nat} {E : Int} {a t y yt : Rat} (ha : Sc D M a) (ht : Sc D M t) (hy : Sc E S y) (hs : yt = (s : Rat) / (E : Rat)) (s0 : s ≠ 0) (E0 : E ≠ 0) (sS : s.natAbs ≤ S) : Sc (D * s) (M * (2 * S)) (a - t / yt * y) := by
  obtain ⟨a', rfl, b1⟩ := ha
  obtain ⟨t', rfl, b2⟩ := ht
  obtain ⟨y', rfl, b3⟩ := hy
  subst hs
  have cs := cast_ne s0
  have cE := cast_ne E0
  refine ⟨a' * s - t' * y', ?_, ?_⟩
  · rw [Rat.intCast_sub, Rat.intCast_mul, Rat.intCast_mul, Rat.intCast_mul]
    generalize (a' : Rat) = A
    generalize (t' : Rat) = T
    generalize (y' : Rat) = Y
    generalize (s : Rat) = S' at *
    generalize (E : Rat) = E' at *
    generalize (D : Rat) = D'
    simp only [Rat.div_def, Rat.inv_mul_rev, Rat.inv_inv]
    have i1 := Rat.mul_inv_cancel S' cs
    have i2 := Rat.mul_inv_cancel E' cE
    generalize S'⁻¹ = S1 at *
    generalize E'⁻¹ = E1 at *
    generalize D'⁻¹ = D1 at *
    grind
  · have h1 := Int.natAbs_sub_le (a' * s) (t' * y')
    rw [Int.natAbs_mul, Int.natAbs_mul] at h1
    have h2 := Nat.mul_le_mul b1 sS
    have h3 := Nat.mul_le_mul b2 b3
    rw [show M * (2 * S) = M * S + M * S by rw [Nat.two_mul, Nat.mul_add]]
    omega
/-- the part -/
theorem Sc.part {D s : Int} {M : Nat} {E : Int} {t yt : Rat} (ht : Sc D M t) (hs : yt = (s : Rat) / (E : Rat)) (s0 : s ≠ 0) (E0 : E ≠ 0) : Sc (D * s) (M * E.natAbs) (t / yt) := by
  obtain ⟨t', rfl, b2⟩ := ht
  subst hs
  have cs := cast_ne s0
  have cE := cast_ne E0
  refine ⟨t' * E, ?_, by rw [Int.natAbs_mul]; exact Nat.mul_le_mul_right _ b2⟩
  rw [Rat.intCast_mul, Rat.intCast_mul]
  simp only [Rat.div_def, Rat.inv_mul_rev, Rat.inv_inv]
  grind
def AllS (D : Int) (M : Nat) (xs : List Rat) : Prop := ∀ x ∈ xs, Sc D M x
theorem AllS.co {D : Int} {M : Nat} {xs : List Rat} (h : AllS D M xs) (i : Nat) : Sc D M (co xs i) := by
  by_cases l : i < xs.length
  · rw [co_at (List.getElem?_eq_getElem l)]; exact h _ (List.getElem_mem _)
  · rw [co_out (by omega)]; exact Sc.zero
theorem AllS.bits {D : Int} {M n : Nat} {xs : List Rat} (h : AllS D M xs) (d0 : D ≠ 0) (hD : LbI n D) (hM : M < 2 ^ n) : AllB n xs := fun x hx => (h x hx).bits d0 hD hM
theorem AllS.of_co {D : Int} {M : Nat} {xs : List Rat} (h : ∀ i, Sc D M (Fp.co xs i)) : AllS D M xs := fun x hx => by
  obtain ⟨i, hi⟩ := List.getElem?_of_mem hx
  have := h i
  rwa [co_at hi] at this
theorem sumN_sc {f : Nat → Rat} {D : Int} {M : Nat} : ∀ {n : Nat}, (∀ i, i < n → Sc D M (f i)) → Sc D (n * M) (sumN f n)
  | 0, _ => Sc.zero
  | n + 1, h => by
    have := (sumN_sc (n := n) fun i hi => h i (by omega)).add (h n (by omega))
    rw [Nat.add_mul, Nat.one_mul]
    exact this
theorem sh_sc {D : Int} {M : Nat} {ys : List Rat} (h : AllS D M ys) (i n : Nat) : Sc D M (sh i (co ys) n) := by
  unfold sh
  split
  · exact Sc.zero
  · exact h.co _
/-- partial products -/
def prodQ (xs ys : List Rat) (k n : Nat) : Rat := sumN (fun i => co xs i * sh i (co ys) n) k
theorem prodQ_sc {D E : Int} {M N : Nat} {xs ys : List Rat} (h : AllS D M xs) (g : AllS E N ys) (k n : Nat) : Sc (D * E) (k * (M * N)) (prodQ xs ys k n) := sumN_sc fun i _ => (h.co i).mul (sh_sc g i n)
def partQ (xs ys : List Rat) (i j n : Nat) : Rat := prodQ xs ys i n + (if i ≤ n ∧ n < i + j then co xs i * co ys (n - i) else 0)
theorem partQ_zero (xs ys : List Rat) (i n : Nat) : partQ xs ys i 0 n = prodQ xs ys i n := by
  unfold partQ; rw [if_neg (by omega)]; grind
theorem partQ_all (xs ys : List Rat) (i n : Nat) : partQ xs ys i ys.length n = prodQ xs ys (i + 1) n := by
  show _ = prodQ xs ys i n + co xs i * sh i (co ys) n
  unfold partQ sh
  congr 1
  by_cases h : n < i
  · rw [if_neg (by omega), if_pos h]; grind
  · rw [if_neg h]
    by_cases h2 : n < i + ys.length
    · rw [if_pos (by omega)]
    · rw [if_neg (by omega), co_out (xs := ys) (by omega)]; grind
theorem partQ_sc {D E : Int} {M N : Nat} {xs ys : List Rat} (h : AllS D M xs) (g : AllS E N ys) (i j n : Nat) : Sc (D * E) ((i + 1) * (M * N)) (partQ xs ys i j n) := by
  unfold partQ
  rw [Nat.add_mul, Nat.one_mul]
  refine (prodQ_sc h g i n).add ?_
  split
  · exact (h.co i).mul (g.co _)
  · exact Sc.zero
theorem partQ_step {xs ys : List Rat} {i j L : Nat} (h : i + j < L) : ((List.range L).map (partQ xs ys i j)).set (i + j) (partQ xs ys i j (i + j) + co xs i * co ys j) = (List.range L).map (partQ xs ys i (j + 1)) := by
  refine List.ext_getElem (by simp) fun n n1 n2 => ?_
  have nL : n < L := by simpa using n2
  rw [List.getElem_set]
  split
  · rename_i e
    subst e
    rw [List.getElem_map, List.getElem_range]
    unfold partQ
    rw [if_neg (by omega), if_pos (by omega), show i + j - i = j by omega]; grind
  · rename_i ne
    rw [List.getElem_map, List.getElem_map, List.getElem_range]
    unfold partQ
    by_cases h2 : i ≤ n ∧ n < i + j
    · rw [if_pos h2, if_pos (by omega)]
    · rw [if_neg h2, if_neg (by omega)]
/-- the product as the law makes it -/
def timesQ (xs ys : List Rat) : List Rat := (List.range (xs.length + ys.length - 1)).map (prodQ xs ys xs.length)
theorem co_range {f : Nat → Rat} {m n : Nat} : co ((List.range m).map f) n = if n < m then f n else 0 := by
  by_cases h : n < m
  · rw [if_pos h, co_at (x := f n)]
    rw [List.getElem?_map, List.getElem?_range h]; rfl
  · rw [if_neg h, co_out (by simp; omega)]
theorem timesQ_co (xs ys : List Rat) (n : Nat) : co (timesQ xs ys) n = prodc xs (co ys) n := by
  unfold timesQ
  rw [co_range]
  split
  · rfl
  · symm
    refine sumN_zero fun i hi => ?_
    unfold sh
    split
    · grind
    · rw [co_out (xs := ys) (by omega)]; grind
theorem timesQ_len (xs ys : List Rat) : (timesQ xs ys).length = xs.length + ys.length - 1 := by unfold timesQ; simp
theorem timesQ_sc {D E : Int} {M N : Nat} {xs ys : List Rat} (h : AllS D M xs) (g : AllS E N ys) : AllS (D * E) (xs.length * (M * N)) (timesQ xs ys) := fun x hx => by
  obtain ⟨n, _, rfl⟩ := List.mem_map.mp hx
  exact prodQ_sc h g _ n
/-- the sum as the law makes it -/
def plusQ (c : Rat) (xs ys : List Rat) : List Rat := (List.range (max xs.length ys.length)).map fun n => co xs n + c * co ys n
theorem plusQ_co (c : Rat) (xs ys : List Rat) (n : Nat) : co (plusQ c xs ys) n = co xs n + c * co ys n := by
  unfold plusQ
  rw [co_range]
  split
  · rfl
  · rw [co_out (xs := xs) (by omega), co_out (xs := ys) (by omega)]; grind
theorem plusQ_len (c : Rat) (xs ys : List Rat) : (plusQ c xs ys).length = max xs.length ys.length := by unfold plusQ; simp
theorem plusQ_sc {D : Int} {M N : Nat} {c : Rat} {xs ys : List Rat} (h : AllS D M xs) (g : ∀ n, Sc D N (c * co ys n)) : AllS D (M + N) (plusQ c xs ys) := fun x hx => by
  obtain ⟨n, _, rfl⟩ := List.mem_map.mp hx
  exact (h.co n).add (g n)
end Fp

namespace Fp
/-! ### quotient and rest, over one bottom -/
/-- what is divided by: over E, its head s over E -/
structure ByQ (E s : Int) (S : Nat) (ys : List Rat) : Prop where
  ne : ys ≠ []
  told : Told ys
  sc : AllS E S ys
  hd : co ys (ys.length - 1) = (s : Rat) / (E : Rat)
  s0 : s ≠ 0
  E0 : E ≠ 0
  sS : s.natAbs ≤ S
structure QSt2 (xs ys : List Rat) (D E s : Int) (M S : Nat) (xs' qs : List Rat) : Prop where
  len : xs'.length + qs.length = xs.length
  eq : ∀ n, co xs n = prodc ys (qf (xs.length - ys.length) qs) n + co xs' n
  bx : AllS (D * s ^ qs.length) (M * (2 * S) ^ qs.length) xs'
  bq : AllS (D * s ^ qs.length) (M * (2 * S * E.natAbs) ^ qs.length) qs
  st : (qs = [] ∧ xs' = xs) ∨ (qs ≠ [] ∧ ys.length ≤ xs'.length + 1 ∧ co qs 0 ≠ 0)
theorem QSt2.start {xs ys : List Rat} {D E s : Int} {M S : Nat} (h : AllS D M xs) : QSt2 xs ys D E s M S xs [] :=
  ⟨by simp, fun n => by
    have : prodc ys (qf (xs.length - ys.length) []) n = 0 := by
      have e : ∀ i, qf (xs.length - ys.length) [] i = single 0 0 i := fun i => by rw [qf_nil]; unfold single; split <;> rfl
      rw [prodc_congr e, prodc_single]; split <;> grind
    rw [this]; grind, by simpa using h, fun x h => (by cases h), .inl ⟨rfl, rfl⟩⟩
theorem pow_ge1 {a k : Nat} (h : 1 ≤ a) : 1 ≤ a ^ k := Nat.one_le_pow _ _ h
theorem QSt2.step {xs ys xs' qs : List Rat} {D E s : Int} {M S : Nat} (B : ByQ E s S ys) (h : QSt2 xs ys D E s M S xs' qs) (hl : ys.length ≤ xs'.length) (tx : Told xs) :
    QSt2 xs ys D E s M S (restOf (co xs' (xs'.length - 1) / co ys (ys.length - 1)) ys xs') (qs ++ [co xs' (xs'.length - 1) / co ys (ys.length - 1)]) := by
  have ly : 0 < ys.length := List.length_pos_iff.mpr B.ne
  have t0 := told_top B.told B.ne
  have x0 : xs' ≠ [] := fun z => by rw [z] at hl; exact absurd (Nat.le_zero.mp hl) (by omega)
  have bt := h.bx _ (mem_last x0)
  have pt := bt.part B.hd B.s0 B.E0
  have E1 : 1 ≤ E.natAbs := by have := B.E0; omega
  have S1 : 1 ≤ 2 * S := by have := B.s0; have := B.sS; omega
  generalize hp : co xs' (xs'.length - 1) / co ys (ys.length - 1) = p at *
  have hc : co xs' (xs'.length - 1) = p * co ys (ys.length - 1) := by rw [← hp, Rat.div_mul_cancel t0]
  have lr := restOf_len (c := p) ly hl
  have ll := h.len
  have lq : qs.length ≤ xs.length - ys.length := by omega
  have eD : D * s ^ (qs ++ [p]).length = D * s ^ qs.length * s := by rw [List.length_append, List.length_singleton, Int.pow_succ, Int.mul_assoc]
  have eM : M * (2 * S) ^ (qs ++ [p]).length = M * (2 * S) ^ qs.length * (2 * S) := by rw [List.length_append, List.length_singleton, Nat.pow_succ, Nat.mul_assoc]
  have eG : M * (2 * S * E.natAbs) ^ (qs ++ [p]).length = M * (2 * S * E.natAbs) ^ qs.length * (2 * S * E.natAbs) := by rw [List.length_append, List.length_singleton, Nat.pow_succ, ← Nat.mul_assoc M]
  have mono : M * (2 * S) ^ qs.length ≤ M * (2 * S * E.natAbs) ^ qs.length := Nat.mul_le_mul_left _ (Nat.pow_le_pow_left (Nat.le_mul_of_pos_right _ E1) _)
  refine ⟨by rw [lr, List.length_append, List.length_singleton]; omega, fun n => ?_, fun z hz => ?_, fun z hz => ?_, .inr ⟨by simp, by rw [lr]; omega, ?_⟩⟩
  · have e1 := restOf_co (c := p) ly hl hc n
    have e2 := h.eq n
    have e3 := prodc_add' (ys := ys) (f := qf (xs.length - ys.length) (qs ++ [p])) (g := qf (xs.length - ys.length) qs) (h := single (xs.length - ys.length - qs.length) p) (fun i => qf_snoc lq i) n
    rw [show xs.length - ys.length - qs.length = xs'.length - ys.length by omega] at e3
    rw [e3]
    grind
  · rw [eD, eM]
    rcases mem_restOf hz with z1 | ⟨a, ha, d, hd, rfl⟩
    · refine ((h.bx z z1).up s B.s0).mono (Nat.mul_le_mul_left _ ?_)
      have := B.sS; omega
    · rw [← hp]
      exact Sc.step (h.bx a ha) bt (B.sc d hd) B.hd B.s0 B.E0 B.sS
  · rw [eD, eG]
    rcases List.mem_append.mp hz with z1 | z1
    · refine ((h.bq z z1).up s B.s0).mono (Nat.mul_le_mul_left _ ?_)
      have := B.sS
      have := Nat.le_mul_of_pos_right (2 * S) E1
      omega
    · rw [List.mem_singleton.mp z1]
      refine pt.mono ?_
      have h2 : E.natAbs ≤ 2 * S * E.natAbs := by
        have := Nat.mul_le_mul_right E.natAbs S1
        rwa [Nat.one_mul] at this
      exact Nat.mul_le_mul mono h2
  · rcases h.st with ⟨e1, e2⟩ | ⟨e1, _, e3⟩
    · subst e1
      subst e2
      show p ≠ 0
      intro z
      rw [z] at hc
      exact told_top tx x0 (by rw [hc]; grind)
    · have : 0 < qs.length := List.length_pos_iff.mpr e1
      rw [co_append_left this]; exact e3
/-- told at the end -/
structure DivS (xs ys : List Rat) (D E s : Int) (M S : Nat) (qs rs : List Rat) : Prop where
  dv : DivR xs ys qs rs
  sq : AllS (D * s ^ qs.length) (M * (2 * S * E.natAbs) ^ qs.length) qs
  sr : AllS (D * s ^ qs.length) (M * (2 * S * E.natAbs) ^ qs.length) rs
  ln : qs.length + ys.length ≤ xs.length + 1 ∨ qs = []
theorem QSt2.done {xs ys xs' qs : List Rat} {D E s : Int} {M S : Nat} (B : ByQ E s S ys) (h : QSt2 xs ys D E s M S xs' qs) (hl : xs'.length < ys.length) : DivS xs ys D E s M S qs.reverse (trimQ xs') := by
  have ll := h.len
  have E1 : 1 ≤ E.natAbs := by have := B.E0; omega
  have mono : M * (2 * S) ^ qs.length ≤ M * (2 * S * E.natAbs) ^ qs.length := Nat.mul_le_mul_left _ (Nat.pow_le_pow_left (Nat.le_mul_of_pos_right _ E1) _)
  refine ⟨⟨?_, trimQ_told _, Nat.lt_of_le_of_lt (trimQ_len _) hl, by rw [List.length_reverse]; omega, fun n => ?_⟩, fun z hz => ?_, fun z hz => ?_, ?_⟩
  · rcases h.st with ⟨e1, _⟩ | ⟨e1, _, e3⟩
    · rw [e1]; exact told_nil
    · refine told_of_top fun _ => ?_
      have : 0 < qs.length := List.length_pos_iff.mpr e1
      have e : qs.reverse[qs.reverse.length - 1]? = qs[0]? := by
        rw [List.getElem?_reverse (by rw [List.length_reverse]; omega), List.length_reverse]; congr 1; omega
      unfold co at e3 ⊢
      rw [List.getD_eq_getElem?_getD, e, ← List.getD_eq_getElem?_getD]
      exact e3
  · rw [trimQ_co, h.eq n]
    rcases h.st with ⟨e1, _⟩ | ⟨e1, e2, _⟩
    · rw [e1]
      congr 1
      exact prodc_congr (fun i => by rw [qf_nil]; rfl) n
    · have : 0 < qs.length := List.length_pos_iff.mpr e1
      congr 1
      exact prodc_congr (fun i => qf_rev (by omega) i) n
  · rw [List.length_reverse]; exact h.bq z (List.mem_reverse.mp hz)
  · rw [List.length_reverse]; exact (h.bx z (trimQ_mem hz)).mono mono
  · rw [List.length_reverse]
    rcases h.st with ⟨e1, _⟩ | ⟨e1, e2, _⟩
    · exact .inr (by rw [e1]; rfl)
    · exact .inl (by omega)
/-! ### digits -/
/-- what digits by ys come to -/
def jl (ys : List Rat) : List (List Rat) → List Rat
  | [] => []
  | d :: ds => trimQ (plusQ 1 (timesQ ys (jl ys ds)) d)
theorem jl_co (ys d : List Rat) (ds : List (List Rat)) (n : Nat) : co (jl ys (d :: ds)) n = prodc ys (co (jl ys ds)) n + co d n := by
  show co (trimQ _) n = _
  rw [trimQ_co, plusQ_co, timesQ_co]; grind
theorem jl_told (ys : List Rat) : ∀ ds, Told (jl ys ds)
  | [] => told_nil
  | _ :: _ => trimQ_told _
/-- digits as they are told -/
structure Digs (ys : List Rat) (ds : List (List Rat)) : Prop where
  told : ∀ d ∈ ds, Told d
  len : ∀ d ∈ ds, d.length < ys.length
  last : ∀ d, ds.getLast? = some d → d ≠ []
theorem Digs.tail {ys d : List Rat} {ds : List (List Rat)} (h : Digs ys (d :: ds)) : Digs ys ds :=
  ⟨fun x hx => h.told x (List.mem_cons_of_mem _ hx), fun x hx => h.len x (List.mem_cons_of_mem _ hx), fun x hx => h.last x (by
    cases ds with
    | nil => cases hx
    | cons y r => rw [List.getLast?_cons_cons]; exact hx)⟩
theorem Digs.nil (ys : List Rat) : Digs ys [] := ⟨fun _ h => (by cases h), fun _ h => (by cases h), fun _ h => (by cases h)⟩
theorem jl_nil {ys : List Rat} (y0 : ys ≠ []) (ty : Told ys) : ∀ {ds : List (List Rat)}, Digs ys ds → jl ys ds = [] → ds = []
  | [], _, _ => rfl
  | d :: ds, h, e => by
    have u := div_unique (Q1 := jl ys ds) (Q2 := []) (R1 := d) (R2 := []) y0 ty (jl_told _ _) told_nil (h.told d List.mem_cons_self) told_nil (h.len d List.mem_cons_self) (List.length_pos_iff.mpr y0) fun n => by
      rw [← jl_co, e, prodc_nil_right, co_nil]; grind
    have e2 := jl_nil y0 ty h.tail u.1
    subst e2
    exact absurd u.2 (h.last d rfl)
theorem digs_unique {ys : List Rat} (y0 : ys ≠ []) (ty : Told ys) : ∀ {ds es : List (List Rat)}, Digs ys ds → Digs ys es → jl ys ds = jl ys es → ds = es
  | [], es, _, h2, e => (jl_nil y0 ty h2 e.symm).symm
  | d :: ds, [], h1, _, e => jl_nil y0 ty h1 e
  | d :: ds, f :: es, h1, h2, e => by
    have u := div_unique (Q1 := jl ys ds) (Q2 := jl ys es) (R1 := d) (R2 := f) y0 ty (jl_told _ _) (jl_told _ _) (h1.told d List.mem_cons_self) (h2.told f List.mem_cons_self) (h1.len d List.mem_cons_self) (h2.len f List.mem_cons_self) fun n => by
      rw [← jl_co, ← jl_co, e]
    rw [digs_unique y0 ty h1.tail h2.tail u.1, u.2]
/-- of the first ones and what is left -/
def jlA (ys : List Rat) (ds : List (List Rat)) (l : List Rat) : List Rat := ds.foldr (fun d acc => trimQ (plusQ 1 (timesQ ys acc) d)) l
theorem jlA_snoc (ys : List Rat) (ds : List (List Rat)) (d l : List Rat) : jlA ys (ds ++ [d]) l = jlA ys ds (trimQ (plusQ 1 (timesQ ys l) d)) := by
  unfold jlA; rw [List.foldr_append]; rfl
theorem jlA_nil (ys : List Rat) : ∀ ds, jlA ys ds [] = jl ys ds
  | [] => rfl
  | d :: ds => by
    show trimQ (plusQ 1 (timesQ ys (jlA ys ds [])) d) = _
    rw [jlA_nil ys ds]; rfl
theorem div_join {xs ys qs rs : List Rat} (D : DivR xs ys qs rs) (tx : Told xs) : trimQ (plusQ 1 (timesQ ys qs) rs) = xs := told_ext (trimQ_told _) tx fun n => by
  rw [trimQ_co, plusQ_co, timesQ_co, D.eq]; grind
end Fp

namespace Fp
/-! ### digits: sizes and how it goes on -/
theorem AllS.upN {D s : Int} {M G T N : Nat} {xs : List Rat} (h : AllS (D * s ^ T) (M * G ^ T) xs) (l : T ≤ N) (s0 : s ≠ 0) (sG : s.natAbs ≤ G) : AllS (D * s ^ N) (M * G ^ N) xs := fun x hx => by
  obtain ⟨k, rfl⟩ := Nat.exists_eq_add_of_le l
  have := (h x hx).up (s ^ k) (Int.pow_ne_zero s0)
  rw [Int.mul_assoc, ← Int.pow_add] at this
  refine this.mono ?_
  rw [Int.natAbs_pow, Nat.pow_add, ← Nat.mul_assoc]
  exact Nat.mul_le_mul_left _ (Nat.pow_le_pow_left sG _)
theorem sq_step {a b t n : Nat} (h : a + 1 ≤ b) (l : t + b * b ≤ n) : t + a + a * a ≤ n := by
  have := Nat.mul_le_mul h h
  rw [Nat.add_mul, Nat.mul_add] at this
  omega
/-- digits while they are made -/
structure DgSt (xs ys : List Rat) (D s : Int) (M G N : Nat) (ds : List (List Rat)) (l : List Rat) (T : Nat) : Prop where
  tl : Told l
  jn : jlA ys ds l = xs
  told : ∀ d ∈ ds, Told d
  len : ∀ d ∈ ds, d.length < ys.length
  last : l = [] → ∀ d, ds.getLast? = some d → d ≠ []
  sl : AllS (D * s ^ T) (M * G ^ T) l
  sd : ∀ d ∈ ds, AllS (D * s ^ N) (M * G ^ N) d
  sz : T + l.length * l.length ≤ N
  cnt : ds.length + l.length ≤ xs.length
theorem DgSt.start {xs ys : List Rat} {D s : Int} {M G : Nat} (tx : Told xs) (h : AllS D M xs) : DgSt xs ys D s M G (xs.length * xs.length) [] xs 0 :=
  ⟨tx, rfl, fun _ h => (by cases h), fun _ h => (by cases h), fun _ _ h => (by cases h), by simpa using h, fun _ h => (by cases h), by omega, by simp⟩
theorem DgSt.step {xs ys l qs rs : List Rat} {D s E : Int} {M S N T : Nat} {ds : List (List Rat)} (B : ByQ E s S ys) (y2 : 2 ≤ ys.length) (h : DgSt xs ys D s M (2 * S * E.natAbs) N ds l T) (l0 : l ≠ []) (v : DivS l ys (D * s ^ T) E s (M * (2 * S * E.natAbs) ^ T) S qs rs) :
    DgSt xs ys D s M (2 * S * E.natAbs) N (ds ++ [rs]) qs (T + qs.length) ∧ qs.length < l.length := by
  have ll : 0 < l.length := List.length_pos_iff.mpr l0
  have ql : qs.length + 1 ≤ l.length := by
    rcases v.ln with e | e
    · omega
    · rw [e]; exact ll
  have E1 : 1 ≤ E.natAbs := by have := B.E0; omega
  have sG : s.natAbs ≤ 2 * S * E.natAbs := by
    have := B.sS
    have := Nat.le_mul_of_pos_right (2 * S) E1
    omega
  have sq := sq_step ql h.sz
  have e1 : D * s ^ T * s ^ qs.length = D * s ^ (T + qs.length) := by rw [Int.mul_assoc, ← Int.pow_add]
  have e2 : M * (2 * S * E.natAbs) ^ T * (2 * S * E.natAbs) ^ qs.length = M * (2 * S * E.natAbs) ^ (T + qs.length) := by rw [Nat.mul_assoc, ← Nat.pow_add]
  have sq1 := v.sq
  have sr1 := v.sr
  rw [e1, e2] at sq1 sr1
  refine ⟨⟨v.dv.tq, ?_, fun d hd => ?_, fun d hd => ?_, fun q0 d hd => ?_, sq1, fun d hd => ?_, sq, ?_⟩, ql⟩
  · rw [jlA_snoc, div_join v.dv h.tl]; exact h.jn
  · rcases List.mem_append.mp hd with z | z
    · exact h.told d z
    · rw [List.mem_singleton.mp z]; exact v.dv.tr
  · rcases List.mem_append.mp hd with z | z
    · exact h.len d z
    · rw [List.mem_singleton.mp z]; exact v.dv.lr
  · rw [List.getLast?_concat] at hd
    obtain rfl := Option.some.inj hd
    intro r0
    have j := div_join v.dv h.tl
    rw [q0, r0] at j
    refine l0 ?_
    rw [← j]
    refine told_ext (trimQ_told _) told_nil fun n => ?_
    rw [trimQ_co, plusQ_co, timesQ_co, prodc_nil_right, co_nil]; grind
  · rcases List.mem_append.mp hd with z | z
    · exact h.sd d z
    · rw [List.mem_singleton.mp z]
      exact sr1.upN (by omega) B.s0 sG
  · have := h.cnt
    rw [List.length_append, List.length_singleton]; omega
/-- told at the end -/
structure DgEnd (xs ys : List Rat) (D s : Int) (M G : Nat) (ds : List (List Rat)) : Prop where
  dg : Digs ys ds
  jn : jl ys ds = xs
  sd : ∀ d ∈ ds, AllS (D * s ^ (xs.length * xs.length)) (M * G ^ (xs.length * xs.length)) d
  cnt : ds.length ≤ xs.length
theorem DgSt.done {xs ys : List Rat} {D s : Int} {M G T : Nat} {ds : List (List Rat)} (h : DgSt xs ys D s M G (xs.length * xs.length) ds [] T) : DgEnd xs ys D s M G ds :=
  ⟨⟨h.told, h.len, h.last rfl⟩, by rw [← jlA_nil]; exact h.jn, h.sd, by have := h.cnt; simpa using this⟩
end Fp

namespace Fp
/-! ### digits put together, as the law does it -/
def jw (ys : List Rat) : List (List Rat) → List Rat
  | [] => []
  | d :: ds => plusQ 1 (timesQ (jw ys ds) ys) d
theorem jw_len {ys : List Rat} (y0 : 0 < ys.length) : ∀ {ds : List (List Rat)}, (∀ d ∈ ds, d.length ≤ ys.length) → (jw ys ds).length ≤ ds.length * ys.length
  | [], _ => Nat.zero_le _
  | d :: ds, h => by
    have ih := jw_len y0 (ds := ds) fun x hx => h x (List.mem_cons_of_mem _ hx)
    have hd := h d List.mem_cons_self
    show (plusQ 1 (timesQ (jw ys ds) ys) d).length ≤ (ds.length + 1) * ys.length
    rw [plusQ_len, timesQ_len, Nat.add_mul, Nat.one_mul]; omega
theorem jw_sc {D : Int} {M N : Nat} {ys : List Rat} (sy : AllS 1 N ys) (y0 : 0 < ys.length) : ∀ {ds : List (List Rat)}, (∀ d ∈ ds, d.length ≤ ys.length) → (∀ d ∈ ds, AllS D M d) → ds.length * ys.length ≤ 99 → AllS D (M * (100 * N + 1) ^ ds.length) (jw ys ds)
  | [], _, _, _ => fun _ h => by cases h
  | d :: ds, h, g, l => by
    have l2 : ds.length * ys.length ≤ 99 := by rw [List.length_cons, Nat.add_mul] at l; omega
    have ih := jw_sc sy y0 (ds := ds) (fun x hx => h x (List.mem_cons_of_mem _ hx)) (fun x hx => g x (List.mem_cons_of_mem _ hx)) l2
    have jl := jw_len y0 (ds := ds) fun x hx => h x (List.mem_cons_of_mem _ hx)
    have t := timesQ_sc ih sy
    rw [Int.mul_one] at t
    have p := plusQ_sc (c := 1) (ys := d) (N := M) t fun n => by rw [Rat.one_mul]; exact (g d List.mem_cons_self).co n
    intro x hx
    refine (p x hx).mono ?_
    have e1 : M ≤ M * (100 * N + 1) ^ ds.length := Nat.le_mul_of_pos_right _ (Nat.pow_pos (by omega))
    have e3 : M * (100 * N + 1) ^ (d :: ds).length = M * (100 * N + 1) ^ ds.length * (100 * N + 1) := by rw [List.length_cons, Nat.pow_succ, Nat.mul_assoc]
    rw [e3]
    generalize M * (100 * N + 1) ^ ds.length = X at *
    have e2 : (jw ys ds).length * (X * N) ≤ 100 * (X * N) := Nat.mul_le_mul_right _ (by omega)
    have e4 : X * (100 * N + 1) = 100 * (X * N) + X := by rw [Nat.mul_add, Nat.mul_one, Nat.mul_left_comm]
    omega
theorem jw_le {M N k n l : Nat} (h : k + 1 ≤ n) (hl : l ≤ 99) : l * (M * (100 * N + 1) ^ k * N) ≤ M * (100 * N + 1) ^ n ∧ M * (100 * N + 1) ^ k ≤ M * (100 * N + 1) ^ n := by
  have e1 : M * (100 * N + 1) ^ (k + 1) ≤ M * (100 * N + 1) ^ n := Nat.mul_le_mul_left _ (Nat.pow_le_pow_right (by omega) h)
  have e3 : M * (100 * N + 1) ^ (k + 1) = M * (100 * N + 1) ^ k * (100 * N + 1) := by rw [Nat.pow_succ, Nat.mul_assoc]
  rw [e3] at e1
  generalize M * (100 * N + 1) ^ k = X at *
  have e2 : l * (X * N) ≤ 100 * (X * N) := Nat.mul_le_mul_right _ (by omega)
  have e4 : X * (100 * N + 1) = 100 * (X * N) + X := by rw [Nat.mul_add, Nat.mul_one, Nat.mul_left_comm]
  omega
theorem jw_co (ys : List Rat) : ∀ (ds : List (List Rat)) (zs : List Rat), (∀ n, co zs n = co ys n) → ∀ n, co (jw ys ds) n = co (jl zs ds) n
  | [], _, _, _ => rfl
  | d :: ds, zs, h, n => by
    rw [jl_co]
    show co (plusQ 1 (timesQ (jw ys ds) ys) d) n = _
    rw [plusQ_co, timesQ_co, prodc_comm, Rat.one_mul]
    congr 1
    have ih := jw_co ys ds zs h
    rw [prodc_congr (fun i => ih i), prodc_comm zs, prodc_comm ys]
    exact prodc_congr (fun i => (h i).symm) n
theorem jw_drop {ys : List Rat} {ds : List (List Rat)} {i : Nat} {d : List Rat} (h : ds[i]? = some d) : jw ys (ds.drop i) = plusQ 1 (timesQ (jw ys (ds.drop (i + 1))) ys) d := by
  have li := (List.getElem?_eq_some_iff.mp h).1
  rw [List.drop_eq_getElem_cons li]
  obtain rfl : ds[i] = d := (List.getElem?_eq_some_iff.mp h).2
  rfl
end Fp

namespace Fp
abbrev intQ (zs : List Int) : List Rat := zs.map fun z : Int => (z : Rat)
theorem ints_sc {zs : List Int} {M : Nat} (h : ∀ z ∈ zs, z.natAbs ≤ M) : AllS 1 M (intQ zs) := fun x hx => by
  obtain ⟨z, hz, rfl⟩ := List.mem_map.mp hx
  exact Sc.int (h z hz)
theorem trim_sc {D : Int} {M : Nat} {xs : List Rat} (h : AllS D M xs) : AllS D M (trimQ xs) := fun x hx => h x (trimQ_mem hx)
theorem cast_div_one (s : Int) : (s : Rat) = (s : Rat) / ((1 : Int) : Rat) := by rw [Rat.intCast_one, Rat.div_def, Rat.inv_eq_of_mul_eq_one (Rat.mul_one 1), Rat.mul_one]
theorem byq_of {zs : List Int} {S : Nat} (h : ∀ z ∈ zs, z.natAbs ≤ S) (n : trimQ (intQ zs) ≠ []) : ∃ s : Int, ByQ 1 s S (trimQ (intQ zs)) := by
  obtain ⟨z, hz, e⟩ := List.mem_map.mp (trimQ_mem (mem_last n))
  have t := told_top (trimQ_told (intQ zs)) n
  refine ⟨z, n, trimQ_told _, trim_sc (ints_sc h), by rw [← e]; exact cast_div_one z, fun z0 => t ?_, by decide, h z hz⟩
  rw [← e, z0]; rfl
theorem shift_digs {X Y xs ys : List Rat} {ds es : List (List Rat)} (y0 : Y ≠ []) (ty : Told Y) (d1 : Digs Y ds) (j1 : jl Y ds = X) (d2 : Digs Y es) (j2 : jl Y es = trimQ (timesQ xs ys)) (hx : ∀ n, co X n = co xs n) (hy : ∀ n, co Y n = co ys n) :
    es = if ds = [] then [] else [] :: ds := by
  have e : ∀ n, co (trimQ (timesQ xs ys)) n = prodc Y (co X) n := fun n => by
    rw [trimQ_co, timesQ_co, prodc_congr (fun i => (hy i).symm), prodc_comm, prodc_congr (fun i => (hx i).symm)]
  split
  · rename_i z
    refine jl_nil y0 ty d2 ?_
    rw [j2]
    refine told_ext (trimQ_told _) told_nil fun n => ?_
    rw [e, ← j1, z]
    show prodc Y (co []) n = 0
    rw [prodc_nil_right]
  · rename_i z
    refine digs_unique y0 ty d2 ⟨fun d hd => ?_, fun d hd => ?_, fun d hd => ?_⟩ ?_
    · rcases List.mem_cons.mp hd with q | q
      · rw [q]; exact told_nil
      · exact d1.told d q
    · rcases List.mem_cons.mp hd with q | q
      · rw [q]; exact List.length_pos_iff.mpr y0
      · exact d1.len d q
    · cases ds with
      | nil => exact absurd rfl z
      | cons q r => rw [List.getLast?_cons_cons] at hd; exact d1.last d hd
    · rw [j2]
      refine told_ext (trimQ_told _) (jl_told _ _) fun n => ?_
      rw [e, jl_co, j1, co_nil]; grind
theorem jw_eq {X Y ys : List Rat} {ds : List (List Rat)} (tx : Told X) (j : jl Y ds = X) (hy : ∀ n, co Y n = co ys n) : trimQ (jw ys ds) = X := told_ext (trimQ_told _) tx fun n => by
  rw [trimQ_co, jw_co ys ds Y hy, j]
end Fp

namespace Fp
/-! ### digits added, empty ones taken off -/
def dueL (m : Nat) (ds es : List (List Rat)) : List (List Rat) := (List.range m).map fun i => trimQ (plusQ 1 (ds.getD i []) (es.getD i []))
theorem dueL_succ (m : Nat) (ds es : List (List Rat)) : dueL (m + 1) ds es = trimQ (plusQ 1 (ds.getD 0 []) (es.getD 0 [])) :: dueL m (ds.drop 1) (es.drop 1) := by
  unfold dueL
  rw [List.range_succ_eq_map, List.map_cons, List.map_map]
  congr 1
  refine List.map_congr_left fun i _ => ?_
  show trimQ (plusQ 1 (ds.getD (i + 1) []) (es.getD (i + 1) [])) = trimQ (plusQ 1 ((ds.drop 1).getD i []) ((es.drop 1).getD i []))
  rw [List.getD_eq_getElem?_getD, List.getD_eq_getElem?_getD, List.getD_eq_getElem?_getD, List.getD_eq_getElem?_getD, List.getElem?_drop, List.getElem?_drop, Nat.add_comm 1 i]
theorem jl_head (Y : List Rat) (ds : List (List Rat)) (n : Nat) : co (jl Y ds) n = prodc Y (co (jl Y (ds.drop 1))) n + co (ds.getD 0 []) n := by
  cases ds with
  | nil =>
    show co [] n = prodc Y (co []) n + co [] n
    rw [prodc_nil_right]; grind
  | cons d r => exact jl_co Y d r n
theorem jl_sum (Y : List Rat) : ∀ (m : Nat) (ds es : List (List Rat)), ds.length ≤ m → es.length ≤ m → ∀ n, co (jl Y (dueL m ds es)) n = co (jl Y ds) n + co (jl Y es) n
  | 0, ds, es, h1, h2, n => by
    obtain rfl := List.length_eq_zero_iff.mp (Nat.le_zero.mp h1)
    obtain rfl := List.length_eq_zero_iff.mp (Nat.le_zero.mp h2)
    show co [] n = co [] n + co [] n
    rw [co_nil]; grind
  | m + 1, ds, es, h1, h2, n => by
    have ih := jl_sum Y m (ds.drop 1) (es.drop 1) (by rw [List.length_drop]; omega) (by rw [List.length_drop]; omega)
    rw [dueL_succ, jl_co, prodc_congr ih, prodc_add, trimQ_co, plusQ_co, jl_head Y ds, jl_head Y es]
    grind
theorem jl_take (Y : List Rat) : ∀ (n : Nat) (ds : List (List Rat)), (∀ (j : Nat) d, n ≤ j → ds[j]? = some d → d = []) → ∀ m, co (jl Y (ds.take n)) m = co (jl Y ds) m
  | 0, [], _, m => rfl
  | 0, d :: ds, h, m => by
    have ih := jl_take Y 0 ds (fun j e _ he => h (j + 1) e (Nat.zero_le _) he)
    rw [List.take_zero] at ih ⊢
    rw [jl_co, prodc_congr (fun i => (ih i).symm), h 0 d (Nat.le_refl _) rfl]
    show co [] m = prodc Y (co []) m + co [] m
    rw [prodc_nil_right]; grind
  | n + 1, [], _, m => rfl
  | n + 1, d :: ds, h, m => by
    have ih := jl_take Y n ds (fun j e hj he => h (j + 1) e (by omega) he)
    rw [List.take_succ_cons, jl_co, jl_co, prodc_congr ih]
theorem jl_one {Y d : List Rat} (td : Told d) : jl Y [d] = d := told_ext (jl_told _ _) td fun n => by
  rw [jl_co]
  show prodc Y (co []) n + co d n = co d n
  rw [prodc_nil_right]; grind
end Fp

namespace Fp
/-! ### one polynomial put into another: sizes over any bottoms -/
theorem AllS.lift {D E : Int} {M n : Nat} {xs : List Rat} (h : AllS D M xs) (E0 : E ≠ 0) : AllS (D * E ^ n) (M * E.natAbs ^ n) xs := fun x hx => by
  have := (h x hx).up (E ^ n) (Int.pow_ne_zero E0)
  rw [Int.natAbs_pow] at this
  exact this
theorem jw_scE {D E : Int} {M N : Nat} {ys : List Rat} (sy : AllS E N ys) (E0 : E ≠ 0) (y0 : 0 < ys.length) : ∀ {ds : List (List Rat)}, (∀ d ∈ ds, d.length ≤ ys.length) → (∀ d ∈ ds, AllS D M d) → ds.length * ys.length ≤ 99 → AllS (D * E ^ ds.length) (M * (100 * N + E.natAbs) ^ ds.length) (jw ys ds)
  | [], _, _, _ => fun _ h => by cases h
  | d :: ds, h, g, l => by
    have l2 : ds.length * ys.length ≤ 99 := by rw [List.length_cons, Nat.add_mul] at l; omega
    have ih := jw_scE sy E0 y0 (ds := ds) (fun x hx => h x (List.mem_cons_of_mem _ hx)) (fun x hx => g x (List.mem_cons_of_mem _ hx)) l2
    have jl := jw_len y0 (ds := ds) fun x hx => h x (List.mem_cons_of_mem _ hx)
    have t := timesQ_sc ih sy
    have gd : AllS (D * E ^ (ds.length + 1)) (M * E.natAbs ^ (ds.length + 1)) d := (g d List.mem_cons_self).lift E0
    have eE : D * E ^ ds.length * E = D * E ^ (ds.length + 1) := by rw [Int.pow_succ, Int.mul_assoc]
    rw [eE] at t
    have p := plusQ_sc (c := 1) (ys := d) (N := M * E.natAbs ^ (ds.length + 1)) t fun n => by rw [Rat.one_mul]; exact gd.co n
    intro x hx
    refine (p x hx).mono ?_
    have e1 : M * E.natAbs ^ ds.length ≤ M * (100 * N + E.natAbs) ^ ds.length := Nat.mul_le_mul_left _ (Nat.pow_le_pow_left (by omega) _)
    have e2 := Nat.mul_le_mul_right E.natAbs e1
    have e3 : M * (100 * N + E.natAbs) ^ (d :: ds).length = M * (100 * N + E.natAbs) ^ ds.length * (100 * N + E.natAbs) := by rw [List.length_cons, Nat.pow_succ, Nat.mul_assoc]
    have e5 : M * E.natAbs ^ (ds.length + 1) = M * E.natAbs ^ ds.length * E.natAbs := by rw [Nat.pow_succ, Nat.mul_assoc]
    rw [e3, e5]
    generalize M * (100 * N + E.natAbs) ^ ds.length = X at *
    have e6 : (jw ys ds).length * (X * N) ≤ 100 * (X * N) := Nat.mul_le_mul_right _ (by omega)
    have e4 : X * (100 * N + E.natAbs) = 100 * (X * N) + X * E.natAbs := by rw [Nat.mul_add, Nat.mul_left_comm]
    omega
/-- composition, as numbers: what is put in is told by its digits -/
theorem jl_sing_len {ys : List Rat} {xs : List Rat} (y2 : 2 ≤ ys.length) (tx : Told xs) : Digs ys (xs.map fun x => trimQ [x]) := by
  refine ⟨fun d hd => ?_, fun d hd => ?_, fun d hd => ?_⟩
  · obtain ⟨x, _, rfl⟩ := List.mem_map.mp hd
    exact trimQ_told _
  · obtain ⟨x, _, rfl⟩ := List.mem_map.mp hd
    have := trimQ_len [x]
    rw [List.length_singleton] at this
    omega
  · rw [List.getLast?_map] at hd
    cases e : xs.getLast? with
    | none => rw [e] at hd; cases hd
    | some x =>
      rw [e] at hd
      obtain rfl := Option.some.inj hd
      have x0 : x ≠ 0 := tx x e
      show trimQ [x] ≠ []
      rw [show trimQ [x] = [x] from trimQ_nz (A := []) x0]
      exact List.cons_ne_nil _ _
end Fp

namespace Fp
/-! ### one polynomial put into another: what outer ones are -/
abbrev tsing (xs : List Rat) : List (List Rat) := xs.map fun x => trimQ [x]
abbrev osing (xs : List Rat) : List (List Rat) := xs.map fun x => [x]
theorem jl_cong {Y : List Rat} : ∀ {ds es : List (List Rat)}, ds.length = es.length → (∀ (i : Nat) n, co (ds.getD i []) n = co (es.getD i []) n) → ∀ n, co (jl Y ds) n = co (jl Y es) n
  | [], [], _, _, _ => rfl
  | [], _ :: _, h, _, _ => by simp at h
  | _ :: _, [], h, _, _ => by simp at h
  | d :: ds, e :: es, h, g, n => by
    rw [jl_co, jl_co, prodc_congr (jl_cong (by simpa using h) fun i n => g (i + 1) n), show co d n = co e n from g 0 n]
theorem jl_ts (Y xs : List Rat) (n : Nat) : co (jl Y (tsing xs)) n = co (jl Y (osing xs)) n := by
  refine jl_cong (by simp) (fun i n => ?_) n
  rw [List.getD_eq_getElem?_getD, List.getD_eq_getElem?_getD, List.getElem?_map, List.getElem?_map]
  cases xs[i]? with
  | none => rfl
  | some x => exact trimQ_co [x] n
/-- the head of what is put together of numbers -/
theorem jo_head (Y xs : List Rat) (n : Nat) : co (jl Y (osing xs)) n = prodc Y (co (jl Y (osing (xs.drop 1)))) n + single 0 (co xs 0) n := by
  rw [jl_head]
  congr 1
  · rw [← List.map_drop]
  · cases xs with
    | nil => show co [] n = single 0 (co [] 0) n; unfold single; split <;> rfl
    | cons x r =>
      show co [x] n = single 0 x n
      unfold single
      cases n with
      | zero => rfl
      | succ n => rw [if_neg (by omega), co_out (by simp)]
theorem co_drop1 (xs : List Rat) (n : Nat) : co (xs.drop 1) n = co xs (n + 1) := by rw [co_drop, Nat.add_comm]
theorem prodc_mul (xs : List Rat) (c : Rat) (g : Nat → Rat) (n : Nat) : prodc xs (fun i => c * g i) n = c * prodc xs g n := by
  unfold prodc
  rw [← sumN_mul]
  refine sumN_congr fun i _ => ?_
  unfold sh
  split <;> grind
theorem jo_lin (Y : List Rat) (c : Rat) : ∀ (m : Nat) (xs ys zs : List Rat), xs.length ≤ m → ys.length ≤ m → zs.length ≤ m → (∀ i, co zs i = co xs i + c * co ys i) → ∀ n, co (jl Y (osing zs)) n = co (jl Y (osing xs)) n + c * co (jl Y (osing ys)) n
  | 0, xs, ys, zs, h1, h2, h3, _, n => by
    obtain rfl := List.length_eq_zero_iff.mp (Nat.le_zero.mp h1)
    obtain rfl := List.length_eq_zero_iff.mp (Nat.le_zero.mp h2)
    obtain rfl := List.length_eq_zero_iff.mp (Nat.le_zero.mp h3)
    show co [] n = co [] n + c * co [] n
    rw [co_nil]; grind
  | m + 1, xs, ys, zs, h1, h2, h3, h, n => by
    have ih := jo_lin Y c m (xs.drop 1) (ys.drop 1) (zs.drop 1) (by rw [List.length_drop]; omega) (by rw [List.length_drop]; omega) (by rw [List.length_drop]; omega) (fun i => by rw [co_drop1, co_drop1, co_drop1]; exact h (i + 1))
    have e : ∀ i, co (jl Y (osing (zs.drop 1))) i = (fun i => co (jl Y (osing (xs.drop 1))) i + (fun i => c * co (jl Y (osing (ys.drop 1))) i) i) i := fun i => ih i
    rw [jo_head Y zs, jo_head Y xs, jo_head Y ys, prodc_congr e, prodc_add, prodc_mul, h 0]
    unfold single
    split <;> grind
theorem jo_congr (Y : List Rat) {xs ys : List Rat} (h : ∀ i, co xs i = co ys i) (n : Nat) : co (jl Y (osing xs)) n = co (jl Y (osing ys)) n := by
  have := jo_lin Y 0 (max xs.length ys.length) xs [] ys (by omega) (by simp) (by omega) (fun i => by rw [h i, co_nil]; grind) n
  rw [this]; grind
theorem jo_trim (Y xs : List Rat) (n : Nat) : co (jl Y (osing (trimQ xs))) n = co (jl Y (osing xs)) n := jo_congr Y (trimQ_co xs) n
/-- how long it is -/
theorem jo_len {Y : List Rat} (y2 : 2 ≤ Y.length) (ty : Told Y) : ∀ (xs : List Rat), Told xs → xs ≠ [] → (jl Y (osing xs)).length = (xs.length - 1) * (Y.length - 1) + 1
  | [], _, h => absurd rfl h
  | [x], t, _ => by
    have e : jl Y (osing [x]) = [x] := jl_one (show Told [x] from t)
    rw [e]; simp
  | x :: y :: r, t, _ => by
    have t2 : Told (y :: r) := fun z hz => t z (by rw [List.getLast?_cons_cons]; exact hz)
    have ih := jo_len y2 ty (y :: r) t2 (List.cons_ne_nil _ _)
    generalize hZ : jl Y (osing (y :: r)) = Z at ih
    have tZ : Told Z := by rw [← hZ]; exact jl_told _ _
    have z0 : Z ≠ [] := fun e => by rw [e] at ih; simp at ih
    have zl : 0 < Z.length := List.length_pos_iff.mpr z0
    have tl := timesQ_len Y Z
    have tt : Told (timesQ Y Z) := prod_told ty tZ (fun e => by rw [e] at y2; simp at y2) z0 tl (timesQ_co Y Z)
    have w : Told (plusQ 1 (timesQ Y Z) [x]) := told_of_top fun _ => by
      rw [plusQ_len, List.length_singleton, plusQ_co, co_out (xs := [x]) (by rw [List.length_singleton]; omega)]
      have := told_top tt (fun e => by rw [e] at tl; simp at tl; omega)
      rw [show max (timesQ Y Z).length 1 - 1 = (timesQ Y Z).length - 1 by omega]
      intro e
      exact this (by grind)
    show (trimQ (plusQ 1 (timesQ Y (jl Y (osing (y :: r)))) [x])).length = _
    rw [hZ, trimQ_id w, plusQ_len, tl, List.length_singleton, ih]
    simp only [List.length_cons, Nat.add_sub_cancel]
    rw [Nat.add_mul]
    generalize r.length * (Y.length - 1) = q
    omega
/-- digits that are numbers -/
theorem sing_of {Y : List Rat} {ds : List (List Rat)} (d : Digs Y ds) (one : ∀ x ∈ ds, x.length ≤ 1) : ds = tsing (ds.map fun x => co x 0) ∧ Told (ds.map fun x => co x 0) := by
  refine ⟨?_, fun z hz => ?_⟩
  · unfold tsing
    rw [List.map_map]
    refine (List.map_id ds).symm.trans (List.map_congr_left fun x hx => ?_)
    show x = trimQ [co x 0]
    have l := one x hx
    match x, l, d.told x hx with
    | [], _, _ => exact (trimQ_zero (A := []) rfl).symm
    | [a], _, t => exact (trimQ_nz (A := []) (t a rfl)).symm
  · rw [List.getLast?_map] at hz
    cases e : ds.getLast? with
    | none => rw [e] at hz; cases hz
    | some x =>
      rw [e] at hz
      obtain rfl := Option.some.inj hz
      have n := d.last x e
      have mx := List.mem_of_getLast? e
      match x, one x mx, d.told x mx, n with
      | [], _, _, n => exact absurd rfl n
      | [a], _, t, _ => exact t a rfl
theorem ts_one (zs : List Rat) : ∀ x ∈ tsing zs, x.length ≤ 1 := fun x hx => by
  obtain ⟨z, _, rfl⟩ := List.mem_map.mp hx
  have := trimQ_len [z]
  simpa using this
theorem ts_co (zs : List Rat) : (tsing zs).map (fun x => co x 0) = zs := by
  rw [List.map_map]
  refine (List.map_congr_left fun x _ => ?_).trans (List.map_id zs)
  show co (trimQ [x]) 0 = x
  rw [trimQ_co]; rfl
/-- what was put together of numbers is told back -/
theorem outer_back {Y zs : List Rat} {ds : List (List Rat)} (y0 : Y ≠ []) (y2 : 2 ≤ Y.length) (ty : Told Y) (tz : Told zs) (d : Digs Y ds) (e : ∀ n, co (jl Y ds) n = co (jl Y (osing zs)) n) : ds = tsing zs :=
  digs_unique y0 ty d (jl_sing_len y2 tz) (told_ext (jl_told _ _) (jl_told _ _) fun n => by rw [e n, jl_ts])
/-- a power more that is no multiple -/
theorem no_outer {Y zs : List Rat} {ds : List (List Rat)} {c : Rat} {m : Nat} (y2 : 2 ≤ Y.length) (ty : Told Y) (c0 : c ≠ 0) (d : Digs Y ds) (e : ∀ n, co (jl Y ds) n = co (jl Y (osing zs)) n + single m c n) (one : ∀ x ∈ ds, x.length ≤ 1) : m % (Y.length - 1) = 0 := by
  obtain ⟨ed, tw⟩ := sing_of d one
  generalize ds.map (fun x => co x 0) = ws at *
  subst ed
  have lin := jo_lin Y (-1) (max ws.length zs.length) ws zs (plusQ (-1) ws zs) (by omega) (by omega) (by rw [plusQ_len]; omega) (plusQ_co (-1) ws zs)
  have eU : ∀ n, co (jl Y (osing (trimQ (plusQ (-1) ws zs)))) n = single m c n := fun n => by
    have := e n
    rw [jl_ts] at this
    rw [jo_trim, lin n, this]; grind
  generalize hU : trimQ (plusQ (-1) ws zs) = us at *
  have tu : Told us := by rw [← hU]; exact trimQ_told _
  by_cases u0 : us = []
  · have := eU m
    rw [u0] at this
    exact absurd (by unfold single at this; rw [if_pos rfl] at this; exact this.symm) c0
  have len := jo_len y2 ty us tu u0
  have tj := jl_told Y (osing us)
  have top := told_top tj (fun z => by rw [z] at len; simp at len)
  rw [eU, len, Nat.add_sub_cancel] at top
  unfold single at top
  by_cases h : (us.length - 1) * (Y.length - 1) = m
  · rw [← h]; exact Nat.mul_mod_left _ _
  · rw [if_neg h] at top; exact absurd rfl top
theorem prodc_id (n : Nat) (g : Nat → Rat) : prodc [0, 1] g n = if n = 0 then 0 else g (n - 1) := by
  show (0 + (0 : Rat) * sh 0 g n) + 1 * sh 1 g n = _
  unfold sh
  by_cases h : n = 0
  · subst h; simp; grind
  · rw [if_neg (by omega), if_neg (by omega), if_neg h]; grind
/-- by t -/
theorem jo_id : ∀ (xs : List Rat) (n : Nat), co (jl [0, 1] (osing xs)) n = co xs n
  | [], n => rfl
  | x :: xs, n => by
    rw [jo_head, prodc_id]
    unfold single
    show (if n = 0 then 0 else co (jl [0, 1] (osing xs)) (n - 1)) + (if n = 0 then x else 0) = _
    rw [jo_id xs]
    cases n with
    | zero => show (0 : Rat) + x = x; grind
    | succ n => show co xs n + 0 = co xs n; grind
/-- by itself -/
theorem jo_self (Y : List Rat) (n : Nat) : co (jl Y (osing [0, 1])) n = co Y n := by
  rw [jo_head]
  show prodc Y (co (jl Y [[1]])) n + single 0 0 n = co Y n
  rw [jl_one (show Told [1] from fun z hz => by obtain rfl := Option.some.inj hz; decide), prodc_one Y 1 [1] fun i => by
    unfold single
    cases i with
    | zero => rfl
    | succ i => rw [if_neg (by omega), co_out (by simp)]]
  unfold single
  split <;> grind
theorem told_id : Told [0, 1] := fun z hz => by obtain rfl := Option.some.inj hz; decide
/-- t, by a line, and back -/
theorem jo_line {b0 b1 : Rat} (h : b1 ≠ 0) (n : Nat) : co (jl [b0, b1] (osing [-b0 / b1, 1 / b1])) n = co [0, 1] n := by
  have e1 : b1 * (1 / b1) = 1 := by rw [Rat.div_def, Rat.one_mul, Rat.mul_inv_cancel _ h]
  have e2 : -b0 / b1 = -b0 * (1 / b1) := by rw [Rat.div_def, Rat.div_def, Rat.one_mul]
  rw [jo_head]
  show prodc [b0, b1] (co (jl [b0, b1] [[1 / b1]])) n + single 0 (-b0 / b1) n = _
  have t1 : Told [1 / b1] := fun z hz => by
    have hz : 1 / b1 = z := Option.some.inj hz
    intro w
    rw [hz, w] at e1; grind
  rw [jl_one t1, e2]
  generalize 1 / b1 = q at *
  show ((0 + b0 * sh 0 (co [q]) n) + b1 * sh 1 (co [q]) n) + single 0 (-b0 * q) n = _
  unfold sh single
  match n with
  | 0 => show ((0 + b0 * q) + b1 * 0) + -b0 * q = 0; grind
  | 1 => show ((0 + b0 * 0) + b1 * q) + 0 = 1; grind
  | n + 2 =>
    rw [if_neg (by omega), if_neg (by omega), if_neg (by omega), co_out (by simp), co_out (by simp), co_out (by simp)]; grind
theorem jo_back {b0 b1 : Rat} (h : b1 ≠ 0) (n : Nat) : co (jl [-b0 / b1, 1 / b1] (osing [b0, b1])) n = co [0, 1] n := by
  have e1 : b1 * (1 / b1) = 1 := by rw [Rat.div_def, Rat.one_mul, Rat.mul_inv_cancel _ h]
  have e2 : -b0 / b1 = -b0 * (1 / b1) := by rw [Rat.div_def, Rat.div_def, Rat.one_mul]
  rw [jo_head, e2]
  generalize 1 / b1 = q at *
  show prodc [-b0 * q, q] (co (jl [-b0 * q, q] [[b1]])) n + single 0 b0 n = _
  rw [jl_one (show Told [b1] from fun z hz => by obtain rfl := Option.some.inj hz; exact h)]
  show ((0 + -b0 * q * sh 0 (co [b1]) n) + q * sh 1 (co [b1]) n) + single 0 b0 n = _
  unfold sh single
  match n with
  | 0 => show ((0 + -b0 * q * b1) + q * 0) + b0 = 0; grind
  | 1 => show ((0 + -b0 * q * 0) + q * b1) + 0 = 1; grind
  | n + 2 =>
    rw [if_neg (by omega), if_neg (by omega), if_neg (by omega), co_out (by simp), co_out (by simp), co_out (by simp)]; grind
/-- as the law puts it together -/
theorem jw_jo {ys Y : List Rat} (h : ∀ n, co Y n = co ys n) (xs : List Rat) (n : Nat) : co (jw ys (osing xs)) n = co (jl Y (osing xs)) n := jw_co ys _ Y h n
theorem jw_scL {D E : Int} {M N L : Nat} {ys : List Rat} (sy : AllS E N ys) (E0 : E ≠ 0) (y0 : 0 < ys.length) : ∀ {ds : List (List Rat)}, (∀ d ∈ ds, d.length ≤ ys.length) → (∀ d ∈ ds, AllS D M d) → ds.length * ys.length ≤ L → AllS (D * E ^ ds.length) (M * (L * N + E.natAbs) ^ ds.length) (jw ys ds)
  | [], _, _, _ => fun _ h => by cases h
  | d :: ds, h, g, l => by
    have l2 : ds.length * ys.length ≤ L := by rw [List.length_cons, Nat.add_mul] at l; omega
    have ih := jw_scL sy E0 y0 (ds := ds) (fun x hx => h x (List.mem_cons_of_mem _ hx)) (fun x hx => g x (List.mem_cons_of_mem _ hx)) l2
    have jl := jw_len y0 (ds := ds) fun x hx => h x (List.mem_cons_of_mem _ hx)
    have t := timesQ_sc ih sy
    have gd : AllS (D * E ^ (ds.length + 1)) (M * E.natAbs ^ (ds.length + 1)) d := (g d List.mem_cons_self).lift E0
    have eE : D * E ^ ds.length * E = D * E ^ (ds.length + 1) := by rw [Int.pow_succ, Int.mul_assoc]
    rw [eE] at t
    have p := plusQ_sc (c := 1) (ys := d) (N := M * E.natAbs ^ (ds.length + 1)) t fun n => by rw [Rat.one_mul]; exact gd.co n
    intro x hx
    refine (p x hx).mono ?_
    have e1 : M * E.natAbs ^ ds.length ≤ M * (L * N + E.natAbs) ^ ds.length := Nat.mul_le_mul_left _ (Nat.pow_le_pow_left (by omega) _)
    have e2 := Nat.mul_le_mul_right E.natAbs e1
    have e3 : M * (L * N + E.natAbs) ^ (d :: ds).length = M * (L * N + E.natAbs) ^ ds.length * (L * N + E.natAbs) := by rw [List.length_cons, Nat.pow_succ, Nat.mul_assoc]
    have e5 : M * E.natAbs ^ (ds.length + 1) = M * E.natAbs ^ ds.length * E.natAbs := by rw [Nat.pow_succ, Nat.mul_assoc]
    rw [e3, e5]
    generalize M * (L * N + E.natAbs) ^ ds.length = X at *
    have e6 : (jw ys ds).length * (X * N) ≤ L * (X * N) := Nat.mul_le_mul_right _ (by omega)
    have e4 : X * (L * N + E.natAbs) = L * (X * N) + X * E.natAbs := by rw [Nat.mul_add, Nat.mul_left_comm]
    omega
theorem osing_sc {D : Int} {M : Nat} {xs : List Rat} (h : AllS D M xs) : ∀ d ∈ osing xs, AllS D M d := fun d hd z hz => by
  obtain ⟨x, hx, rfl⟩ := List.mem_map.mp hd
  rw [List.mem_singleton.mp hz]; exact h x hx
theorem osing_one {xs ys : List Rat} (y0 : 0 < ys.length) : ∀ d ∈ osing xs, d.length ≤ ys.length := fun d hd => by
  obtain ⟨x, _, rfl⟩ := List.mem_map.mp hd
  exact y0
theorem AllS.conv {D E : Int} {M N : Nat} {xs : List Rat} (h : AllS D M xs) (e : E = D) (l : M ≤ N) : AllS E N xs := fun x hx => by rw [e]; exact (h x hx).mono l
theorem pow_mono {a b m n : Nat} (h : m ≤ n) (l : a ≤ b) (b1 : 1 ≤ b) : a ^ m ≤ b ^ n := Nat.le_trans (Nat.pow_le_pow_left l m) (Nat.pow_le_pow_right b1 h)
/-- put in, small: over one bottom that does not hang on the length -/
theorem jw_small {D E F : Int} {M N L n B : Nat} {xs ys : List Rat} (sx : AllS D M xs) (sy : AllS E N ys) (E0 : E ≠ 0) (y0 : 0 < ys.length) (l : xs.length * ys.length ≤ L) (ln : xs.length ≤ n) (eF : F = D * E ^ n) (hB : M * (L * N + E.natAbs) ^ n ≤ B) : AllS F B (jw ys (osing xs)) := by
  have lo : (osing xs).length = xs.length := by simp
  have h := jw_scL sy E0 y0 (ds := osing xs) (osing_one y0) (osing_sc sx) (by rw [lo]; exact l)
  rw [lo] at h
  obtain ⟨k, rfl⟩ := Nat.exists_eq_add_of_le ln
  have h2 : AllS (D * E ^ xs.length * E ^ k) (M * (L * N + E.natAbs) ^ xs.length * E.natAbs ^ k) (jw ys (osing xs)) := h.lift E0
  refine h2.conv (by rw [eF, Int.pow_add, Int.mul_assoc]) (Nat.le_trans ?_ hB)
  rw [Nat.pow_add, ← Nat.mul_assoc]
  exact Nat.mul_le_mul_left _ (Nat.pow_le_pow_left (by omega) _)
end Fp

namespace Fp
/-! ### numbers packed into one -/
def pk (w : Nat) : List Int → Int
  | [] => 0
  | x :: r => x + 2 ^ w * pk w r
theorem p2pos (n : Nat) : (0 : Int) < 2 ^ n := Int.pow_pos (by decide)
theorem p2add (a b : Nat) : (2 : Int) ^ (a + b) = 2 ^ a * 2 ^ b := Int.pow_add 2 a b
theorem pk_app (w : Nat) : ∀ (xs ys : List Int), pk w (xs ++ ys) = pk w xs + 2 ^ (w * xs.length) * pk w ys
  | [], ys => by show pk w ys = 0 + 2 ^ (w * 0) * pk w ys; simp
  | x :: xs, ys => by
    show x + 2 ^ w * pk w (xs ++ ys) = x + 2 ^ w * pk w xs + 2 ^ (w * (xs.length + 1)) * pk w ys
    rw [pk_app w xs ys, Nat.mul_add, Nat.mul_one, p2add, Int.mul_add]
    generalize (2 : Int) ^ w = a
    generalize (2 : Int) ^ (w * xs.length) = b
    grind
/-- two by two -/
def pairs (w : Nat) : List Int → List Int
  | [] => []
  | [a] => [a + 0 * 2 ^ w]
  | a :: b :: r => (a + b * 2 ^ w) :: pairs w r
theorem pairs_pk (w : Nat) : ∀ xs : List Int, pk (2 * w) (pairs w xs) = pk w xs
  | [] => rfl
  | [a] => by show a + 0 * 2 ^ w + 2 ^ (2 * w) * 0 = a + 2 ^ w * 0; grind
  | a :: b :: r => by
    show a + b * 2 ^ w + 2 ^ (2 * w) * pk (2 * w) (pairs w r) = a + 2 ^ w * (b + 2 ^ w * pk w r)
    rw [pairs_pk w r, Nat.two_mul, p2add]; grind
theorem pairs_len (w : Nat) : ∀ xs : List Int, (pairs w xs).length = (xs.length + 1) / 2
  | [] => by simp [pairs]
  | [_] => by simp [pairs]
  | _ :: _ :: r => by
    show (pairs w r).length + 1 = (r.length + 2 + 1) / 2
    rw [pairs_len w r]; omega
theorem pairs_at (w : Nat) : ∀ (xs : List Int) (i : Nat), (pairs w xs)[i]? = (xs[2 * i]?).map fun a => a + (xs[2 * i + 1]?).getD 0 * 2 ^ w
  | [], i => by simp [pairs]
  | [a], 0 => rfl
  | [a], i + 1 => by show ([] : List Int)[i]? = (([] : List Int)[2 * i + 1]?).map _; simp
  | a :: b :: r, 0 => rfl
  | a :: b :: r, i + 1 => pairs_at w r i
/-- how large the parts are -/
def PkB (b w : Nat) (xs : List Int) : Prop := ∀ x ∈ xs, x.natAbs ≤ 2 ^ b * (2 ^ w - 1)
theorem PkB.pairs {b w : Nat} : ∀ {xs : List Int}, PkB b w xs → PkB b (2 * w) (pairs w xs)
  | [], _ => fun x h => by cases h
  | [a], h => fun x hx => by
    rw [show x = a + 0 * 2 ^ w from List.mem_singleton.mp hx, Int.zero_mul, Int.add_zero]
    refine Nat.le_trans (h a (List.mem_singleton.mpr rfl)) (Nat.mul_le_mul_left _ ?_)
    have := Nat.pow_le_pow_right (show 0 < 2 by decide) (show w ≤ 2 * w by omega)
    omega
  | a :: b' :: r, h => fun x hx => by
    rcases List.mem_cons.mp hx with e | e
    · have h1 := h a List.mem_cons_self
      have h2 := h b' (List.mem_cons_of_mem _ List.mem_cons_self)
      rw [e]
      have h3 := Int.natAbs_add_le a (b' * 2 ^ w)
      rw [Int.natAbs_mul, Int.natAbs_pow] at h3
      have h4 := Nat.mul_le_mul_right (2 ^ w) h2
      have e5 : 2 ^ b * (2 ^ (2 * w) - 1) = 2 ^ b * (2 ^ w - 1) + 2 ^ b * (2 ^ w - 1) * 2 ^ w := by
        have p := Nat.two_pow_pos w
        obtain ⟨q, hq⟩ : ∃ q, 2 ^ w = q + 1 := ⟨2 ^ w - 1, by omega⟩
        rw [Nat.two_mul, Nat.pow_add, hq]
        have : (q + 1) * (q + 1) - 1 = q + q * (q + 1) := by grind
        rw [this]
        grind
      rw [e5]
      have e6 : (2 : Int).natAbs ^ w = 2 ^ w := rfl
      rw [e6] at h3
      omega
    · exact PkB.pairs (xs := r) (fun y hy => h y (List.mem_cons_of_mem _ (List.mem_cons_of_mem _ hy))) x e
theorem PkB.start {b w : Nat} {xs : List Int} (h : ∀ x ∈ xs, x.natAbs ≤ 2 ^ b) (w1 : 1 ≤ w) : PkB b w xs := fun x hx => by
  refine Nat.le_trans (h x hx) (Nat.le_mul_of_pos_right _ ?_)
  have := Nat.pow_le_pow_right (show 0 < 2 by decide) w1
  omega
theorem PkB.bits {b w : Nat} {xs : List Int} (h : PkB b w xs) {x : Int} (hx : x ∈ xs) : x.natAbs < 2 ^ (b + w) := by
  have := h x hx
  rw [Nat.pow_add]
  refine Nat.lt_of_le_of_lt this ?_
  have p1 := Nat.two_pow_pos b
  have p2 := Nat.two_pow_pos w
  exact Nat.mul_lt_mul_of_pos_left (by omega) p1
/-! ### and back -/
/-- rests of a slot each -/
def InS (w : Nat) (ds : List Int) : Prop := ∀ d ∈ ds, 0 ≤ d ∧ d < 2 ^ w
theorem pk_in {w : Nat} : ∀ {ds : List Int}, InS w ds → 0 ≤ pk w ds ∧ pk w ds < 2 ^ (w * ds.length)
  | [], _ => ⟨Int.le_refl _, by show (0 : Int) < 2 ^ (w * 0); simp⟩
  | d :: r, h => by
    obtain ⟨a, b⟩ := pk_in (ds := r) fun x hx => h x (List.mem_cons_of_mem _ hx)
    obtain ⟨d0, d1⟩ := h d List.mem_cons_self
    have p := p2pos w
    refine ⟨?_, ?_⟩
    · have := Int.mul_nonneg (Int.le_of_lt p) a
      show 0 ≤ d + 2 ^ w * pk w r
      omega
    · show d + 2 ^ w * pk w r < 2 ^ (w * (r.length + 1))
      rw [Nat.mul_add, Nat.mul_one, p2add, Int.mul_comm (2 ^ (w * r.length))]
      have : 2 ^ w * (pk w r + 1) ≤ 2 ^ w * 2 ^ (w * r.length) := Int.mul_le_mul_of_nonneg_left (by omega) (Int.le_of_lt p)
      rw [Int.mul_add, Int.mul_one] at this
      omega
/-- parted in the middle -/
theorem pk_low {w : Nat} {as bs : List Int} (h : InS w as) : pk w (as ++ bs) % 2 ^ (w * as.length) = pk w as := by
  obtain ⟨a, b⟩ := pk_in h
  rw [pk_app, Int.add_mul_emod_self_left, Int.emod_eq_of_lt a b]
theorem pk_high {w : Nat} {as bs : List Int} (h : InS w as) : pk w (as ++ bs) / 2 ^ (w * as.length) = pk w bs := by
  obtain ⟨a, b⟩ := pk_in h
  rw [pk_app, Int.add_mul_ediv_left _ _ (Int.ne_of_gt (p2pos _)), Int.ediv_eq_zero_of_lt a b, Int.zero_add]
/-- each one parted -/
def split2 (w : Nat) (xs : List Int) : List Int := (xs.map fun x => [x % 2 ^ w, x / 2 ^ w]).flatten
/-- the packed pieces of k numbers each -/
def pieces (w k : Nat) : Nat → List Int → List Int
  | 0, _ => []
  | n + 1, ds => pk w (ds.take k) :: pieces w k n (ds.drop k)
theorem pieces_split {w k : Nat} : ∀ (n : Nat) {ds : List Int}, InS w ds → ds.length = n * (2 * k) → split2 (w * k) (pieces w (2 * k) n ds) = pieces w k (2 * n) ds
  | 0, _, _, _ => rfl
  | n + 1, ds, h, l => by
    have e : ds.take (2 * k) = ds.take k ++ (ds.drop k).take k := by rw [Nat.two_mul, List.take_add]
    have l1 : (ds.take k).length = k := by rw [List.length_take]; rw [Nat.add_mul] at l; omega
    have hi : InS w (ds.take k) := fun d hd => h d (List.mem_of_mem_take hd)
    have ih := pieces_split (w := w) (k := k) n (ds := ds.drop (2 * k)) (fun d hd => h d (List.mem_of_mem_drop hd)) (by rw [List.length_drop, l, Nat.add_mul]; omega)
    show [pk w (ds.take (2 * k)) % 2 ^ (w * k), pk w (ds.take (2 * k)) / 2 ^ (w * k)] ++ split2 (w * k) (pieces w (2 * k) n (ds.drop (2 * k))) = _
    have lo := pk_low (w := w) (bs := (ds.drop k).take k) hi
    have hh := pk_high (w := w) (bs := (ds.drop k).take k) hi
    rw [l1] at lo hh
    rw [ih, e, lo, hh, show 2 * (n + 1) = 2 * n + 1 + 1 by omega]
    show _ = pk w (ds.take k) :: pk w ((ds.drop k).take k) :: pieces w k (2 * n) ((ds.drop k).drop k)
    rw [List.drop_drop, ← Nat.two_mul]; rfl
theorem pieces_one {w : Nat} : ∀ (n : Nat) {ds : List Int}, ds.length = n → pieces w 1 n ds = ds
  | 0, ds, l => (List.length_eq_zero_iff.mp l).symm
  | n + 1, [], l => by simp at l
  | n + 1, d :: r, l => by
    show pk w [d] :: pieces w 1 n r = d :: r
    rw [pieces_one n (by simpa using l)]
    congr 1
    show d + 2 ^ w * 0 = d
    omega
theorem pieces_len (w k : Nat) : ∀ (n : Nat) (ds : List Int), (pieces w k n ds).length = n
  | 0, _ => rfl
  | n + 1, ds => by show (pieces w k n (ds.drop k)).length + 1 = n + 1; rw [pieces_len w k n]
/-- all halves -/
def halves (w : Nat) : Nat → Int
  | 0 => 2 ^ (w - 1)
  | j + 1 => halves w j + halves w j * 2 ^ (w * 2 ^ j)
theorem halves_pk (w : Nat) : ∀ j, halves w j = pk w (List.replicate (2 ^ j) (2 ^ (w - 1)))
  | 0 => by show _ = (2 : Int) ^ (w - 1) + 2 ^ w * 0; show (2 : Int) ^ (w - 1) = _; omega
  | j + 1 => by
    show halves w j + halves w j * 2 ^ (w * 2 ^ j) = _
    rw [Nat.pow_succ, Nat.mul_two, ← List.replicate_append_replicate, pk_app, List.length_replicate, ← halves_pk w j, Int.mul_comm]
theorem halves_bits {w : Nat} (w1 : 1 ≤ w) (j : Nat) : (halves w j).natAbs < 2 ^ (w * 2 ^ j) := by
  have h : InS w (List.replicate (2 ^ j) ((2 : Int) ^ (w - 1))) := fun d hd => by
    rw [(List.mem_replicate.mp hd).2]
    have e : (2 : Int) ^ w = 2 ^ (w - 1) + 2 ^ (w - 1) := by
      have := p2add (w - 1) 1
      rw [show w - 1 + 1 = w by omega] at this
      rw [this]; omega
    have p := p2pos (w - 1)
    omega
  obtain ⟨a, b⟩ := pk_in h
  rw [← halves_pk, List.length_replicate] at b
  rw [← halves_pk] at a
  have b2 : ((halves w j).natAbs : Int) < ((2 ^ (w * 2 ^ j) : Nat) : Int) := by
    rw [Int.natAbs_of_nonneg a]
    exact_mod_cast b
  exact_mod_cast b2
theorem split2_snoc (w : Nat) (xs : List Int) (x : Int) : split2 w (xs ++ [x]) = split2 w xs ++ [x % 2 ^ w, x / 2 ^ w] := by
  unfold split2; rw [List.map_append, List.flatten_append]; simp
theorem split2_len (w : Nat) (xs : List Int) : (split2 w xs).length = 2 * xs.length := by
  induction xs with
  | nil => rfl
  | cons x r ih =>
    show ([x % 2 ^ w, x / 2 ^ w] ++ split2 w r).length = 2 * (r.length + 1)
    rw [List.length_append, ih]; show 2 + _ = _; omega
theorem pk_add (w : Nat) : ∀ (xs ys : List Int), xs.length = ys.length → pk w xs + pk w ys = pk w (List.zipWith (· + ·) xs ys)
  | [], [], _ => rfl
  | [], _ :: _, h => by simp at h
  | _ :: _, [], h => by simp at h
  | x :: xs, y :: ys, h => by
    have := pk_add w xs ys (by simpa using h)
    show x + 2 ^ w * pk w xs + (y + 2 ^ w * pk w ys) = x + y + 2 ^ w * pk w (List.zipWith (· + ·) xs ys)
    rw [← this]; grind
theorem pk_zeros (w : Nat) : ∀ n, pk w (List.replicate n 0) = 0
  | 0 => rfl
  | n + 1 => by show 0 + 2 ^ w * pk w (List.replicate n 0) = 0; rw [pk_zeros w n]; simp
/-- the whole way back -/
theorem unpack {w j : Nat} {cs : List Int} (w1 : 1 ≤ w) (l : cs.length ≤ 2 ^ j) (h : ∀ c ∈ cs, c.natAbs < 2 ^ (w - 1)) :
    ∃ ds : List Int, InS w ds ∧ ds.length = 2 ^ j ∧ pk w cs + halves w j = pk w ds ∧ ds.map (fun d => d - 2 ^ (w - 1)) = cs ++ List.replicate (2 ^ j - cs.length) 0 := by
  refine ⟨(cs ++ List.replicate (2 ^ j - cs.length) 0).map fun c => c + 2 ^ (w - 1), ?_, ?_, ?_, ?_⟩
  · intro d hd
    obtain ⟨c, hc, rfl⟩ := List.mem_map.mp hd
    have e : (2 : Int) ^ w = 2 ^ (w - 1) + 2 ^ (w - 1) := by
      have := p2add (w - 1) 1
      rw [show w - 1 + 1 = w by omega] at this
      rw [this]; omega
    have p := p2pos (w - 1)
    have b : c.natAbs < 2 ^ (w - 1) := by
      rcases List.mem_append.mp hc with z | z
      · exact h c z
      · rw [(List.mem_replicate.mp z).2]; exact Nat.two_pow_pos _
    have b2 : ((c.natAbs : Nat) : Int) < 2 ^ (w - 1) := by exact_mod_cast b
    rw [e]
    omega
  · rw [List.length_map, List.length_append, List.length_replicate]; omega
  · have e1 : pk w cs = pk w (cs ++ List.replicate (2 ^ j - cs.length) 0) := by rw [pk_app, pk_zeros]; simp
    rw [halves_pk, e1, pk_add w _ _ (by rw [List.length_append, List.length_replicate, List.length_replicate]; omega)]
    congr 1
    refine List.ext_getElem (by simp; omega) fun i h1 h2 => by
      rw [List.getElem_zipWith, List.getElem_replicate, List.getElem_map]
  · rw [List.map_map]
    refine (List.map_congr_left fun c _ => ?_).trans (List.map_id _)
    show c + 2 ^ (w - 1) - 2 ^ (w - 1) = c
    omega
end Fp

namespace Fp
open PySem PySem.Spec PyProof.Rows L2
/-! ### a comprehension's loop at any depth, what it makes of an item left open -/
/-- slots that know at least as much -/
def Wk (a b : L2.St) : Prop := a.length = b.length ∧ ∀ (j : Nat) v, a[j]? = some (some v) → b[j]? = some (some v)
theorem Wk.refl (a : L2.St) : Wk a a := ⟨rfl, fun _ _ h => h⟩
theorem Wk.trans {a b c : L2.St} (h : Wk a b) (g : Wk b c) : Wk a c := ⟨h.1.trans g.1, fun j v e => g.2 j v (h.2 j v e)⟩
theorem wk_wipe (a : L2.St) (vs : List Nat) : Wk (wipe a vs) a := ⟨wipe_length a vs, fun j v e => (wipe_some e).1⟩
/-- what the code does at one turn -/
def Turned (e : Expr) (dp : Nat) (it acc : Value) (env : Env) (tg : Expr) (ifs : List Expr) (mk : Sem Fin → Sem Fin) : Prop := ∃ p : Pos, compTurn e dp it acc env = (do
  standAt p
  match ← pyNext it with
  | none => pure (.done .next)
  | some u =>
    letOwnedTupleGo tg it u
    assign tg env u
    let mut ok := true
    for c in ifs do
      if ok then ok ← isTrue c env (eval c env)
    if ok then mk (again (.compLoop e dp it acc env)) else again (.compLoop e dp it acc env))
section
variable {Y : Cx} {tg kx vx : Expr} {gens : List Comprehension} {scope : Scope} {pos : Pos} {dp : Nat} {it : Addr} {acc : Value} {ifs : List Expr} {mk : Sem Fin → Sem Fin} {fp : List Addr} {tn : Nat → Heap → Prop} {J : It} {g : TG} {tt : TT} {R : Result → Shared → Prop} {pl : List (Addr × Obj)} {a0 : L2.St}
theorem toE {α : Type} {t : Sem α} {Q Q' : α → Shared → Prop} {E : Value → Shared → Prop} {s : Shared} (hx : ∀ v s, ¬ Y.xe v s) (h : wpAny (model Y.prog Y.w) Y.A t Q Y.xe s) (k : ∀ a s, Q a s → Q' a s) : wpAny (model Y.prog Y.w) Y.A t Q' E s :=
  wpAny_mono h k fun v z y => absurd y (hx v z)
theorem level (eq : Turned (.DictComp kx vx gens scope pos) dp (.ref it) acc Y.env tg ifs mk) (T : Turn Y.prog Y.w Y.K tg J fp it tn) (calm : Y.calm = true) (hx : ∀ v s, ¬ Y.xe v s) (pg : PG Y tg g) (pt : PTs Y ifs tt) (W : Nat → Nat → Hp → Prop)
    (st : ∀ {b0 : L2.St} {G : Hp} {z : Shared}, Inv Y pl b0 G z → (∀ b ∈ fp, G b = none) → ∀ b ∈ fp, FpOk Y pl G b)
    (turn : ∀ i m G, W i m G → (J.stop i G ∧ ∀ z, Inv Y pl a0 G z → R (.ok .next) z) ∨ (J.go i G ∧ ∃ (Nx : Hp → Prop) (Bd : L2.St → Hp → Prop), (∀ G', Nx G' → ∃ m', m' < m ∧ W (i + 1) m' G') ∧
      (∀ x G', J.yld i G x G' → g x a0 G' fun a2 G2 => Wk a0 a2 ∧ tt a2 G2 fun b G3 => if b = true then Bd a2 G3 else Nx G3) ∧
      ∀ a2 G3 pm z, Wk a0 a2 → Bd a2 G3 → Inv Y (pl ++ pm) a2 G3 z → ∀ (kk : Sem Fin) (Qk : Fin → Shared → Prop) (Ek : Value → Shared → Prop), (∀ z' a3 G4, Inv Y (pl ++ pm) a3 G4 z' → Wk a0 a3 → Nx G4 → wpAny (model Y.prog Y.w) Y.A kk Qk Ek z') → wpAny (model Y.prog Y.w) Y.A (mk kk) Qk Ek z))
    {m : Nat} {G : Hp} {z : Shared} (I : Inv Y pl a0 G z) (t0 : tn 0 z.heap) (n0 : ∀ b ∈ fp, G b = none) (w0 : W 0 m G) : codeAny (model Y.prog Y.w) Y.A (.compLoop (.DictComp kx vx gens scope pos) dp (.ref it) acc Y.env) R z := by
  obtain ⟨p, eq⟩ := eq
  refine codeAny_loop rfl (fun k y => ∃ i F, Inv Y pl a0 F y ∧ tn i y.heap ∧ (∀ b ∈ fp, F b = none) ∧ W i k F) (fun k y ⟨i, F, J1, t1, n1, w1⟩ => ?_) m ⟨0, G, I, t0, n0, w0⟩
  show wpAny _ Y.A ((compTurn (.DictComp kx vx gens scope pos) dp (.ref it) acc Y.env).onRaise (fun x => do noteFrame x Y.env; theTreesLotGoes x)) _ _ y
  refine wpAny_noted ?_
  rw [eq]
  refine wpAny_bind (wpAny_standAt (wpAny_bind ?_))
  rcases turn i k F w1 with ⟨sp, done⟩ | ⟨go, Nx, Bd, nxt, step, run⟩
  · refine thnF (T.done Y rfl rfl rfl calm i pl y a0 F (fun _ _ => False) J1 (st J1 n1) t1 sp) fun r y1 ⟨er, J2⟩ => ?_
    subst er
    exact wpAny_pure (done y1 J2)
  · refine thnF (T.item Y rfl rfl rfl calm i pl y a0 F (fun _ _ => False) J1 (st J1 n1) t1 go) fun r y1 ⟨u, er, more⟩ => ?_
    subst er
    refine wpAny_bind (thnF more fun _ y2 ⟨x, F2, J2, rx, yx, t2, n2⟩ => ?_)
    have J2p := J2.pinned (st J2 n2) (T.obj _ _ t2)
    have back : ∀ {a3 : L2.St} {F3 : Hp} {y3 : Shared}, Inv Y (pl ++ pinsAt fp y2.heap) a3 F3 y3 → Wk a0 a3 → Nx F3 → ∃ j, j < k ∧ ∃ i F, Inv Y pl a0 F y3 ∧ tn i y3.heap ∧ (∀ b ∈ fp, F b = none) ∧ W i j F := fun {a3 F3 y3} J3 wk nx => by
      obtain ⟨j, lt, w'⟩ := nxt F3 nx
      have pin' : ∀ b ∈ fp, ∀ o, y2.heap.get? b = some o → y3.heap.get? b = some o ∧ F3 b = none := fun b hb o eo =>
        have q := J3.pin (b, o) (List.mem_append_right _ (List.mem_append_right _ (mem_pinsAt hb eo)))
        ⟨q.1, q.2.1⟩
      exact ⟨j, lt, i + 1, F3, J3.unpinned.weak wk.1 wk.2, T.keep _ _ _ t2 fun b hb o eo => (pin' b hb o eo).1, fun b hb => let ⟨o, eo, _⟩ := T.obj _ _ t2 b hb; (pin' b hb o eo).2, w'⟩
    refine wpAny_bind (toE hx (pg.run _ y2 _ F2 x u _ J2p rx (step x F2 yx)) fun _ y3 ⟨a3, F3, J3, wk3, q3⟩ => ?_)
    refine wpAny_bind (toE hx (pt.run _ y3 a3 F3 _ J3 q3) fun b y4 ⟨F4, J4, q4⟩ => ?_)
    cases b with
    | false =>
      simp only [Bool.false_eq_true, if_false] at q4 ⊢
      exact wpAny_pure ⟨rfl, back J4 wk3 q4⟩
    | true =>
      simp only [if_true] at q4 ⊢
      exact run a3 F4 _ y4 wk3 q4 J4 _ _ _ fun y5 a5 F5 J5 wk5 nx => wpAny_pure ⟨rfl, back J5 wk5 nx⟩
theorem wipe_not {a : L2.St} {i : Nat} {vs : List Nat} (h : i ∉ vs) : (wipe a vs)[i]? = a[i]? := wipe_out h
theorem Wk.inner {a b : L2.St} {vs vs1 : List Nat} (h : Wk (wipe a vs) b) (sub : ∀ i ∈ vs1, i ∈ vs) : Wk (wipe a vs) (wipe b vs1) :=
  ⟨h.1.trans (wipe_length b vs1).symm, fun j v e => by
    have n : j ∉ vs1 := fun z => (wipe_some e).2 (sub j z)
    rw [wipe_not n]; exact h.2 j v e⟩
end
/-- {k: v for tg in iter if .. for tg1 in iter1 if ..} -/
def tDc2 (wi : TI) (g : TG) (tt : TT) (wi1 : TI) (g1 : TG) (tt1 : TT) (tk tv : TE) (vs vs1 : List Nat) : TE := fun a G Q => wi a G fun J G1 => ∀ D, G1 D = none → ∃ W : Nat → Nat → Hp → Prop, (∃ m, W 0 m (upd G1 D (.dK []))) ∧
  ∀ i m F, W i m F → (J.stop i F ∧ Q (.ref D) F) ∨ (J.go i F ∧ ∃ Nx : Hp → Prop, (∀ F', Nx F' → ∃ m', m' < m ∧ W (i + 1) m' F') ∧ ∀ x F', J.yld i F x F' → g x (wipe a vs) F' fun a2 F2 => Wk (wipe a vs) a2 ∧ tt a2 F2 fun b F3 =>
    if b = true then wi1 a2 F3 fun J1 F4 => ∃ W1 : Nat → Nat → Hp → Prop, (∃ m, W1 0 m F4) ∧ ∀ j k F, W1 j k F → (J1.stop j F ∧ Nx F) ∨ (J1.go j F ∧ ∃ Nx1 : Hp → Prop, (∀ F', Nx1 F' → ∃ k', k' < k ∧ W1 (j + 1) k' F') ∧ ∀ x F', J1.yld j F x F' →
      g1 x (wipe a2 vs1) F' fun a3 F5 => Wk (wipe a2 vs1) a3 ∧ tt1 a3 F5 fun b F6 => if b = true then tk a3 F6 fun y F7 => tv a3 F7 fun z F8 => ∃ kvs kk, y = kV kk ∧ F8 D = some (.dK kvs) ∧ kvs.length < sizeLine ∧ Nx1 (upd F8 D (.dK (putK kvs kk z))) else Nx1 F6)
    else Nx F3)
section
variable {X : Cx} {kx vx tg iter tg1 iter1 : Expr} {ifs ifs1 : List Expr} {scope : Scope} {pos : Pos}
theorem turned_in (kx vx tg iter tg1 iter1 : Expr) (ifs ifs1 : List Expr) (scope : Scope) (pos : Pos) (it : Value) (D : Addr) (env : Env) : Turned (.DictComp kx vx [⟨tg, iter, ifs, 0⟩, ⟨tg1, iter1, ifs1, 0⟩] scope pos) 1 it (.ref D) env tg1 ifs1 (fun kk => (do
    let p ← eval kx env
    let q ← holding [p] (eval vx env)
    standAt { kx.pos with endLine := vx.pos.endLine, endCol := vx.pos.endCol }
    holding [p, q] (dictSet D p q)) >>= fun _ => kk) := ⟨iter1.pos, rfl⟩
theorem turned_out (kx vx tg iter tg1 iter1 : Expr) (ifs ifs1 : List Expr) (scope : Scope) (pos : Pos) (it acc : Value) (env : Env) : Turned (.DictComp kx vx [⟨tg, iter, ifs, 0⟩, ⟨tg1, iter1, ifs1, 0⟩] scope pos) 0 it acc env tg ifs (fun kk => do
    let w ← eval iter1 env
    standAt iter1.pos
    let w ← foldedSetIterable iter1 env w
    let _ ← runOwn (.compStart (.DictComp kx vx [⟨tg, iter, ifs, 0⟩, ⟨tg1, iter1, ifs1, 0⟩] scope pos) 1 (← holding [w] (pyIter w)) acc env) env
    kk) := ⟨iter.pos, rfl⟩
theorem start_in {P : Program} {w : World} {A : Around} {R : Result → Shared → Prop} {z : Shared} {it acc : Value} {env : Env} (h0 : codeAny (model P w) A (.compLoop (.DictComp kx vx [⟨tg, iter, ifs, 0⟩, ⟨tg1, iter1, ifs1, 0⟩] scope pos) 1 it acc env) R z)
    (h1 : wpAny (model P w) A (pyIter it) (fun it' z' => codeAny (model P w) A (.compLoop (.DictComp kx vx [⟨tg, iter, ifs, 0⟩, ⟨tg1, iter1, ifs1, 0⟩] scope pos) 1 it' acc env) R z') (notedBy (model P w) A env fun x z' => R (.error x) z') z) :
    codeAny (model P w) A (.compStart (.DictComp kx vx [⟨tg, iter, ifs, 0⟩, ⟨tg1, iter1, ifs1, 0⟩] scope pos) 1 it acc env) R z := by
  refine codeAny_of_tree ?_
  show wpAny _ _ ((compStart (.DictComp kx vx [⟨tg, iter, ifs, 0⟩, ⟨tg1, iter1, ifs1, 0⟩] scope pos) 1 it acc env).onRaise (fun x => do noteFrame x env; standAt theWindowsPlace)) _ _ z
  refine wpAny_notedAt ?_
  unfold compStart
  show wpAny _ _ (ask >>= _) _ _ z
  refine wpAny_bind (wpAny_askSetting (wpAny_ite ?_))
  split
  · first
      | exact wpAny_bind (wpAny_pure (wpAny_pure ⟨rfl, h0⟩))
      | exact wpAny_pure ⟨rfl, h0⟩
  · refine wpAny_bind (wpAny_rule ?_)
    show wpAny _ _ (standAt iter1.pos >>= _) _ _ z
    exact wpAny_bind (wpAny_standAt (wpAny_bind (thn h1 fun it' z' h' => wpAny_pure ⟨rfl, h'⟩)))
/-- the outer source is walked; for each of its items the inner one; each item of that is put in -/
theorem pe_dc2 {own : List (Str × Nat)} {vs1 : List Nat} {wi wi1 : TI} {g g1 : TG} {tt tt1 : TT} {tk tv : TE} (calm : X.calm = true) (nd : X.N.Nodup) (src : PI X tg iter wi) (blk : BlkOk X.N X.env.scope scope own) (sub : ∀ i ∈ vs1, i ∈ own.map (·.2))
    (ug : ∀ (a : Shared) (F : Hp) (c : Addr) (cl : List (Str × Addr)) (fq : List Addr), PG (X.blk a F scope (compEnvC scope cl c X.env) fq) tg g)
    (ut : ∀ (a : Shared) (F : Hp) (c : Addr) (cl : List (Str × Addr)) (fq : List Addr), PTs (X.blk a F scope (compEnvC scope cl c X.env) fq) ifs tt)
    (ui1 : ∀ (a : Shared) (F : Hp) (c : Addr) (cl : List (Str × Addr)) (fq : List Addr), PI (X.blk a F scope (compEnvC scope cl c X.env) fq) tg1 iter1 wi1)
    (ug1 : ∀ (a : Shared) (F : Hp) (c : Addr) (cl : List (Str × Addr)) (fq : List Addr), PG (X.blk a F scope (compEnvC scope cl c X.env) fq) tg1 g1)
    (ut1 : ∀ (a : Shared) (F : Hp) (c : Addr) (cl : List (Str × Addr)) (fq : List Addr), PTs (X.blk a F scope (compEnvC scope cl c X.env) fq) ifs1 tt1)
    (uk : ∀ (a : Shared) (F : Hp) (c : Addr) (cl : List (Str × Addr)) (fq : List Addr), PE (X.blk a F scope (compEnvC scope cl c X.env) fq) kx tk)
    (uv : ∀ (a : Shared) (F : Hp) (c : Addr) (cl : List (Str × Addr)) (fq : List Addr), PE (X.blk a F scope (compEnvC scope cl c X.env) fq) vx tv)
    (f0 : ∀ x, foldedSetIterable iter X.env x = pure x := by intro _; rfl) (f1 : ∀ env x, foldedSetIterable iter1 env x = pure x := by intro _ _; rfl) :
    PE X (.DictComp kx vx [⟨tg, iter, ifs, 0⟩, ⟨tg1, iter1, ifs1, 0⟩] scope pos) (tDc2 wi g tt wi1 g1 tt1 tk tv (own.map (·.2)) vs1) := by
  refine ⟨fun pl z0 a G Q I0 w => ?_⟩
  rw [arm_eval_DictComp]
  have clo : ∀ y ∈ scope.names, y.2 = .free → ∃ c, X.env.cells.lookup y.1 = some c := fun y hy e => (blk.free y hy e).elim (fun k => I0.ok.has _ (.inl k)) fun k => I0.ok.has _ (.inr k)
  refine wpAny_comprehension_free (use := none) rfl f0 (closure_ok clo) blk.kind (fun y hy e => by rw [blk.uniq y hy, e]) (thn (src.run pl z0 a G _ I0 w) fun _ z1 q1 => thn q1 fun _ z2 q2 => ?_)
  obtain ⟨it, fp, tn, J, G2, rfl, I2, T, t2, f2, q⟩ := q2
  refine wpAny_newObj_type (newEnv_comp ?_)
  generalize eD : z2.heap.objs.size = D
  have dn : G2 D = none := I2.hok.fresh (Nat.le_of_eq eD)
  obtain ⟨W, ⟨m0, w0⟩, turn⟩ := q D dn
  generalize ez : ({ z2 with heap := z2.heap.push { cls := .type "dict", data := .dict #[] } } : Shared) = z3
  have hz : z3.heap = z2.heap.push { cls := .type "dict", data := .dict #[] } := by rw [← ez]
  have I3 : Inv X pl a (upd G2 D (.dK [])) z3 := by
    rw [← ez]
    exact I2.laid (t' := z2.toks) (fun b o e => Heap.get?_push_of_some _ e) (Nat.le_of_eq eD) (by rw [← eD]; exact dk_empty z2.heap I2.big)
  have young : ∀ b ∈ fp, b < z2.heap.objs.size := fun b hb => let ⟨o, eo, _⟩ := T.obj _ _ t2 b hb; Heap.lt_size eo
  have f3 : ∀ b ∈ fp, FpOk X pl (upd G2 D (.dK [])) b ∧ b < z3.heap.objs.size := fun b hb => by
    have lt := young b hb
    refine ⟨⟨?_, (f2 b hb).2⟩, by rw [hz, Heap.size_push]; exact Nat.lt_succ_of_lt lt⟩
    rw [upd_ne (by rw [← eD]; exact Nat.ne_of_lt lt)]
    exact (f2 b hb).1
  have t3 : tn 0 z3.heap := T.keep _ _ _ t2 fun b _ o eo => by rw [hz]; exact Heap.get?_push_of_some _ eo
  have I4 := block_start I3 blk nd f3
  have pg := ug z3 (upd G2 D (.dK [])) z3.heap.objs.size (cellsFrom (z3.heap.objs.size + 1) scope.names (cloFrom X.env.cells scope.names [])) fp
  have pt := ut z3 (upd G2 D (.dK [])) z3.heap.objs.size (cellsFrom (z3.heap.objs.size + 1) scope.names (cloFrom X.env.cells scope.names [])) fp
  have pi1 := ui1 z3 (upd G2 D (.dK [])) z3.heap.objs.size (cellsFrom (z3.heap.objs.size + 1) scope.names (cloFrom X.env.cells scope.names [])) fp
  have pg1 := ug1 z3 (upd G2 D (.dK [])) z3.heap.objs.size (cellsFrom (z3.heap.objs.size + 1) scope.names (cloFrom X.env.cells scope.names [])) fp
  have pt1 := ut1 z3 (upd G2 D (.dK [])) z3.heap.objs.size (cellsFrom (z3.heap.objs.size + 1) scope.names (cloFrom X.env.cells scope.names [])) fp
  have pk := uk z3 (upd G2 D (.dK [])) z3.heap.objs.size (cellsFrom (z3.heap.objs.size + 1) scope.names (cloFrom X.env.cells scope.names [])) fp
  have pv := uv z3 (upd G2 D (.dK [])) z3.heap.objs.size (cellsFrom (z3.heap.objs.size + 1) scope.names (cloFrom X.env.cells scope.names [])) fp
  show codeAny _ _ (.compStart _ 0 (.ref it) (.ref D) (compEnvC scope (cellsFrom (z3.heap.objs.size + 1) scope.names (cloFrom X.env.cells scope.names [])) z3.heap.objs.size X.env)) (compPost (model X.prog X.w) X.A X.xe none (EP X pl a Q) (.ref D) z3.heap.objs.size) { z3 with heap := pushCells (z3.heap.push { cls := .type "dict", data := .dict #[] }) scope.names }
  have nf : ∀ b ∈ fp, (upd G2 D (.dK [])) b = none := fun b hb => (f3 b hb).1.1
  generalize ec : compEnvC scope (cellsFrom (z3.heap.objs.size + 1) scope.names (cloFrom X.env.cells scope.names [])) z3.heap.objs.size X.env = cn at I4 pg pt pi1 pg1 pt1 pk pv ⊢
  have cl : cn.locals = z3.heap.objs.size := by subst ec; rfl
  generalize eG : upd G2 D (.dK []) = G3 at I3 I4 pg pt pi1 pg1 pt1 pk pv w0 nf f3
  generalize e4 : ({ z3 with heap := pushCells (z3.heap.push { cls := .type "dict", data := .dict #[] }) scope.names } : Shared) = z4 at I4 ⊢
  have t4 : tn 0 z4.heap := T.keep _ _ _ t3 fun b _ o eo => by rw [← e4]; exact pushCells_keeps _ _ _ _ (Heap.get?_push_of_some _ eo)
  have noxe : ∀ v y, ¬ (X.blk z3 G3 scope cn fp).xe v y := fun _ _ h => h
  have loop : codeAny (model X.prog X.w) X.A (.compLoop (.DictComp kx vx [⟨tg, iter, ifs, 0⟩, ⟨tg1, iter1, ifs1, 0⟩] scope pos) 0 (.ref it) (.ref D) cn) (compPost (model X.prog X.w) X.A X.xe none (EP X pl a Q) (.ref D) z3.heap.objs.size) z4 := by
    refine level (Y := X.blk z3 G3 scope cn fp) (a0 := wipe a (own.map (·.2))) (pl := []) (turned_out _ _ _ _ _ _ _ _ _ _ _ _ _) T calm noxe pg pt W (fun J0 n0 b hb => ?_) (fun i m F wi' => ?_) I4 t4 nf w0
    · exact ⟨n0 b hb, (J0.ok.exf b hb).1, J0.ok.exfs b hb, .inl hb, fun x c ex => (J0.ok.exf b hb).2 x c ex, fun p hp => by cases hp⟩
    rcases turn i m F wi' with ⟨sp, qq⟩ | ⟨go, Nx, nxt, step⟩
    · refine .inl ⟨sp, fun y J6 => ?_⟩
      have J7 : Inv X pl a F y := I3.call' (ch := fp) J6.os J6.base J6.hok J6.bare fun b hb => ⟨(f3 b hb).1.2.2.2.1, (f3 b hb).1.2.1, (f3 b hb).1.2.2.2.2.1, (f3 b hb).1.2.2.2.2.2⟩
      have nc : F z3.heap.objs.size = none := by rw [← cl]; exact J6.free
      obtain ⟨mm, hn, _⟩ := J6.loc
      have hn : y.heap.Ns cn.locals mm := hn
      rw [cl] at hn
      obtain ⟨k0, k1, _, k3, k4, k5⟩ := I3.fpOk (H' := F) (Nat.le_refl _) nc
      exact ⟨mm, hn, fun h'' sb => ⟨.ref D, F, J7.turned (t' := y.toks) (fun b o hb eo => (sb.2 b hb).trans eo) k0 k1 k3 k4 k5, rfl, qq⟩⟩
    · refine .inr ⟨go, Nx, _, nxt, step, fun a2 F3 pm y wk2 bd J2 kk Qk Ek after => ?_⟩
      refine wpAny_bind (toE (Y := X.blk z3 G3 scope cn fp) noxe (pi1.run _ y a2 F3 _ J2 bd) fun v1 y1 h1 => ?_)
      refine wpAny_bind (wpAny_standAt (wpAny_bind (wpAny_of_eq (f1 cn v1) (wpAny_bind (wpAny_holding (toE (Y := X.blk z3 G3 scope cn fp) noxe h1 fun v2 y2 h2 => ?_))))))
      obtain ⟨it1, fp1, tn1, J1, F4, rfl, J4, T1, s1, k1, W1, ⟨m1, w1⟩, turn1⟩ := h2
      refine wpAny_bind (wpAny_runOwn ?_)
      rw [Around.mark_none]
      have pins1 : ∀ {F' : Hp}, (∀ b ∈ fp1, F' b = none) → ∀ b ∈ fp1, FpOk (X.blk z3 G3 scope cn fp) ([] ++ pm) F' b := fun n0 b hb => ⟨n0 b hb, (k1 b hb).2⟩
      have loop1 : codeAny (model X.prog X.w) X.A (.compLoop (.DictComp kx vx [⟨tg, iter, ifs, 0⟩, ⟨tg1, iter1, ifs1, 0⟩] scope pos) 1 (.ref it1) (.ref D) cn) (fun r y' => match r with
          | .ok _ => ∃ a3 G4, Inv (X.blk z3 G3 scope cn fp) ([] ++ pm) a3 G4 y' ∧ Wk (wipe a (own.map (·.2))) a3 ∧ Nx G4
          | .error _ => False) y2 := by
        refine level (Y := X.blk z3 G3 scope cn fp) (a0 := wipe a2 vs1) (pl := [] ++ pm) (turned_in _ _ _ _ _ _ _ _ _ _ _ _ _) T1 calm noxe pg1 pt1 W1 (fun _ n0 => pins1 n0) (fun j k F' w' => ?_) (J4.weak (wk_wipe a2 vs1).1 (wk_wipe a2 vs1).2) s1 (fun b hb => (k1 b hb).1) w1
        rcases turn1 j k F' w' with ⟨sp, nx⟩ | ⟨go1, Nx1, nxt1, step1⟩
        · exact .inl ⟨sp, fun y6 J6 => ⟨_, _, J6, wk2.inner sub, nx⟩⟩
        · refine .inr ⟨go1, Nx1, _, nxt1, step1, fun a3 F6 pm1 y6 wk3 bd1 J6 kk1 Qk1 Ek1 after1 => ?_⟩
          refine wpAny_bind ?_
          refine wpAny_bind (toE (Y := X.blk z3 G3 scope cn fp) noxe (pk.run _ y6 a3 F6 _ J6 bd1) fun u1 y7 ⟨x1, F7, J7, r7, q7⟩ => ?_)
          refine wpAny_bind (wpAny_holding (toE (Y := X.blk z3 G3 scope cn fp) noxe (pv.run _ y7 a3 F7 _ J7 q7) fun u2 y8 ⟨x2, F8, J8, r8, kvs, kk2, ek, hD, lz, nx1⟩ => ?_))
          subst ek
          refine wpAny_bind (wpAny_standAt (wpAny_holding ?_))
          exact d_dictSet (X := X.blk z3 G3 scope cn fp) J8 hD lz r7 r8 fun y9 J9 => after1 y9 a3 _ J9 wk3 nx1
      refine codeAny_mono (start_in loop1 (T1.self X.A 0 _ _ _ s1 loop1)) fun r y' hr => ?_
      cases r with
      | ok fl => obtain ⟨a3, G4, J9, wk9, nx9⟩ := hr; exact after y' a3 G4 J9 wk9 nx9
      | error e => exact hr.elim
  exact codeAny_compStart_dict loop (T.self X.A 0 _ _ _ t4 loop)
end
end Fp

namespace Fp
open PySem PySem.Spec PyProof.Rows L2
/-! ### every other item -/
def evens {α : Type} : List α → List α
  | [] => []
  | [x] => [x]
  | x :: _ :: r => x :: evens r
theorem evens_len {α : Type} : ∀ xs : List α, (evens xs).length = (xs.length + 1) / 2
  | [] => by simp [evens]
  | [_] => by simp [evens]
  | _ :: _ :: r => by
    show (evens r).length + 1 = (r.length + 2 + 1) / 2
    rw [evens_len r]; omega
theorem evens_at {α : Type} : ∀ (xs : List α) (i : Nat), (evens xs)[i]? = xs[2 * i]?
  | [], i => by simp [evens]
  | [x], i => by
    cases i with
    | zero => rfl
    | succ i => show ([] : List α)[i]? = ([] : List α)[2 * i + 1]?; simp
  | x :: y :: r, 0 => rfl
  | x :: y :: r, i + 1 => evens_at r i
theorem vals_evens : ∀ {xs : List V} {us : List Value}, Vals xs us → Vals (evens xs) (evens us)
  | _, _, .nil => .nil
  | _, _, .cons r .nil => .cons r .nil
  | _, _, .cons r (.cons _ q) => .cons r (vals_evens q)
theorem vals_tail : ∀ {xs : List V} {us : List Value}, Vals xs us → Vals (xs.drop 1) (us.drop 1)
  | _, _, .nil => .nil
  | _, _, .cons _ q => q
theorem pick_evens (items : Array Value) (d : Nat) : ((List.range ((items.size - d + 1) / 2)).map (fun k => d + 2 * k)).filterMap (items[·]?) = evens (items.toList.drop d) := by
  have e : ∀ n, n ≤ (items.size - d + 1) / 2 → ((List.range n).map (fun k => d + 2 * k)).filterMap (items[·]?) = (evens (items.toList.drop d)).take n := fun n => by
    induction n with
    | zero => intro _; simp
    | succ n ih =>
      intro h
      have l : (evens (items.toList.drop d)).length = (items.size - d + 1) / 2 := by rw [evens_len, List.length_drop, Array.length_toList]
      have hn : (evens (items.toList.drop d))[n]? = some ((evens (items.toList.drop d))[n]'(by omega)) := List.getElem?_eq_getElem _
      have h2 : items[d + 2 * n]? = (evens (items.toList.drop d))[n]? := by rw [evens_at, List.getElem?_drop, Array.getElem?_toList]
      rw [List.range_succ, List.map_append, List.filterMap_append, ih (by omega), List.take_add_one, hn]
      congr 1
      show List.filterMap (fun x => items[x]?) [d + 2 * n] = _
      rw [List.filterMap_cons, h2, hn]; rfl
  rw [e _ (Nat.le_refl _), List.take_of_length_le]
  rw [evens_len, List.length_drop, Array.length_toList]; exact Nat.le_refl _
theorem range_two (n d : Nat) (h : d ≤ n) : sliceRange (d : Int) (n : Int) 2 = (List.range ((n - d + 1) / 2)).map fun k => d + 2 * k := by
  unfold sliceRange
  have c : (if (2 : Int) > 0 then (if (d : Int) < n then ((n : Int) - d + 2 - 1) / 2 else 0) else (if (d : Int) > n then ((d : Int) - n - 2 - 1) / (-2) else 0)) = (((n - d + 1) / 2 : Nat) : Int) := by
    rw [if_pos (by decide)]
    split <;> omega
  simp only [c, Int.toNat_natCast]
  refine List.map_congr_left fun k _ => ?_
  omega
theorem step_pick0 (items : Array Value) : slicePick items none none (some 2) = (evens items.toList).toArray := by
  unfold slicePick
  have b : sliceBounds none none (some 2) items.size = (((0 : Nat) : Int), (items.size : Int), 2) := rfl
  rw [b]
  have := pick_evens items 0
  rw [List.drop_zero] at this
  show ((sliceRange ((0 : Nat) : Int) (items.size : Int) 2).filterMap (items[·]?)).toArray = _
  rw [range_two _ _ (Nat.zero_le _), this]
theorem step_pick1 (items : Array Value) : slicePick items (some 1) none (some 2) = (evens (items.toList.drop 1)).toArray := by
  unfold slicePick
  by_cases h : 1 ≤ items.size
  · have b : sliceBounds (some 1) none (some 2) items.size = (((1 : Nat) : Int), (items.size : Int), 2) := by
      show (max 0 (min 1 (items.size : Int)), (items.size : Int), (2 : Int)) = _
      rw [show max 0 (min 1 (items.size : Int)) = ((1 : Nat) : Int) by omega]
    rw [b]
    show ((sliceRange ((1 : Nat) : Int) (items.size : Int) 2).filterMap (items[·]?)).toArray = _
    rw [range_two _ _ h, pick_evens items 1]
  · have e : items.size = 0 := by omega
    have b : sliceBounds (some 1) none (some 2) items.size = (((0 : Nat) : Int), (items.size : Int), 2) := by
      show (max 0 (min 1 (items.size : Int)), (items.size : Int), (2 : Int)) = _
      rw [show max 0 (min 1 (items.size : Int)) = ((0 : Nat) : Int) by omega]
    rw [b]
    show ((sliceRange ((0 : Nat) : Int) (items.size : Int) 2).filterMap (items[·]?)).toArray = _
    have l : items.toList = [] := List.length_eq_zero_iff.mp (by rw [Array.length_toList]; exact e)
    rw [range_two _ _ (Nat.zero_le _), e, l]
    rfl
theorem du {n : Nat} (h : n + 64 < cLine) : n + 1 < cLine := by omega
abbrev rShl : R2 := fun x y F Q => ∃ (i : Int) (n : Nat), x = .int i ∧ y = .int (n : Int) ∧ CShl i (n : Int) ∧ Q (.int (i * 2 ^ n)) F
abbrev rShr : R2 := fun x y F Q => ∃ (i : Int) (n : Nat), x = .int i ∧ y = .int (n : Int) ∧ Q (.int (i / 2 ^ n)) F
abbrev rAndM : R2 := fun x y F Q => ∃ (i : Int) (n : Nat), x = .int i ∧ y = .int (2 ^ n - 1) ∧ Q (.int (i % 2 ^ n)) F
section
variable {X : Cx}
/-- xs[::2] -/
def tStep0 (K : PySem.W.Frag) (te : TE) : TE := fun a F Q => te a F fun x F1 => ∃ l xs, x = .ref l ∧ SqL K F1 l xs ∧ ∀ p, F1 p = none → Q (.ref p) (upd F1 p (.lst (evens xs)))
/-- xs[1::2] -/
def tStep1 (K : PySem.W.Frag) (te : TE) : TE := fun a F Q => te a F fun x F1 => ∃ l xs, x = .ref l ∧ SqL K F1 l xs ∧ ∀ p, F1 p = none → Q (.ref p) (upd F1 p (.lst (evens (xs.drop 1))))
theorem evens_le {α : Type} (xs : List α) : (evens xs).length ≤ xs.length := by rw [evens_len]; omega
theorem pe_step0 {e : Expr} {te : TE} {k : Nat} {p1 p3 pos : Pos} (he : PE X e te) : PE X (.Subscript e (.Slice none none (some (.Constant (.int 2) k p1)) p3) pos) (tStep0 X.K te) := by
  refine ⟨fun pl z a G Q I h => ?_⟩
  refine Subscript_ (thn (he.run pl z a G _ I h) fun v z1 ⟨x, G1, I1, rx, w⟩ => ?_)
  obtain ⟨l, xs, rfl, hx, q⟩ := w
  cases rx
  refine wpAny_Slice (thn (po_none.run pl z1 a G1 (fun o F => o = none ∧ F = G1) I1 ⟨rfl, rfl⟩) fun v1 z2 ⟨o1, G2, I2, q1, w1, w2⟩ => ?_)
  subst w1 w2
  refine thn (po_none.run pl z2 a G2 (fun o F => o = none ∧ F = G2) I2 ⟨rfl, rfl⟩) fun v2 z3 ⟨o2, G3, I3, q2, w1, w2⟩ => ?_
  subst w1 w2
  refine thn ((po_some pe_int).run pl z3 a G3 (fun o F => o = some 2 ∧ F = G3) I3 ⟨2, rfl, rfl, rfl⟩) fun v3 z4 ⟨o3, G4, I4, q3, w1, w2⟩ => ?_
  subst w1 w2
  have I5 : Inv X pl a G4 { z4 with heap := z4.heap.push { cls := .type "slice", data := .fields #[v1, v2, v3] } } := I4.kept (t' := z4.toks) fun b o eo => Heap.get?_push_of_some _ eo
  obtain ⟨us, r, at_, sz⟩ := I5.list hx
  have len := r.length
  refine tail_any (ops := [.ref l, .ref z4.heap.objs.size]) at_.isList.typeIs PySem.slot_list_getitem.lookup ?_ (by with_unfolding_all rfl)
  refine wpAny_getItem_list_slice at_.isList (Heap.IsSliceOf.new _ v1 v2 v3) q1 q2 q3 (by decide) ?_ (by rw [List.size_toArray]; omega)
  rw [step_pick0]
  exact ⟨.ref _, _, I5.laid (t' := z4.toks) (o := .lst (evens xs)) (fun b o eo => Heap.get?_push_of_some _ eo) (Nat.le_refl _) ⟨Nat.le_trans (evens_le xs) sz, _, 0, vals_evens r, Heap.get?_push_size _ rfl⟩, rfl, q _ (I5.hok.fresh (Nat.le_refl _))⟩
theorem pe_step1 {e : Expr} {te : TE} {k k1 : Nat} {p1 p2 p3 pos : Pos} (he : PE X e te) : PE X (.Subscript e (.Slice (some (.Constant (.int 1) k1 p2)) none (some (.Constant (.int 2) k p1)) p3) pos) (tStep1 X.K te) := by
  refine ⟨fun pl z a G Q I h => ?_⟩
  refine Subscript_ (thn (he.run pl z a G _ I h) fun v z1 ⟨x, G1, I1, rx, w⟩ => ?_)
  obtain ⟨l, xs, rfl, hx, q⟩ := w
  cases rx
  refine wpAny_Slice (thn ((po_some pe_int).run pl z1 a G1 (fun o F => o = some 1 ∧ F = G1) I1 ⟨1, rfl, rfl, rfl⟩) fun v1 z2 ⟨o1, G2, I2, q1, w1, w2⟩ => ?_)
  subst w1 w2
  refine thn (po_none.run pl z2 a G2 (fun o F => o = none ∧ F = G2) I2 ⟨rfl, rfl⟩) fun v2 z3 ⟨o2, G3, I3, q2, w1, w2⟩ => ?_
  subst w1 w2
  refine thn ((po_some pe_int).run pl z3 a G3 (fun o F => o = some 2 ∧ F = G3) I3 ⟨2, rfl, rfl, rfl⟩) fun v3 z4 ⟨o3, G4, I4, q3, w1, w2⟩ => ?_
  subst w1 w2
  have I5 : Inv X pl a G4 { z4 with heap := z4.heap.push { cls := .type "slice", data := .fields #[v1, v2, v3] } } := I4.kept (t' := z4.toks) fun b o eo => Heap.get?_push_of_some _ eo
  obtain ⟨us, r, at_, sz⟩ := I5.list hx
  have len := r.length
  refine tail_any (ops := [.ref l, .ref z4.heap.objs.size]) at_.isList.typeIs PySem.slot_list_getitem.lookup ?_ (by with_unfolding_all rfl)
  refine wpAny_getItem_list_slice at_.isList (Heap.IsSliceOf.new _ v1 v2 v3) q1 q2 q3 (by decide) ?_ (by rw [List.size_toArray]; omega)
  rw [step_pick1]
  have lt : (evens (xs.drop 1)).length ≤ sizeLine := Nat.le_trans (evens_le _) (by rw [List.length_drop]; omega)
  exact ⟨.ref _, _, I5.laid (t' := z4.toks) (o := .lst (evens (xs.drop 1))) (fun b o eo => Heap.get?_push_of_some _ eo) (Nat.le_refl _) ⟨lt, _, 0, vals_evens (vals_tail r), Heap.get?_push_size _ rfl⟩, rfl, q _ (I5.hok.fresh (Nat.le_refl _))⟩
end
end Fp

namespace K21
open PySem PySem.Spec PyProof.Rows L2 Fp
section
variable {P : Program} {w : World} {K : PySem.W.Frag} {mg : Str → Option Value} {base : Heap} {k : Nat} {C fI fR : Addr}
def sp_packed (K : PySem.W.Frag) : Sp := fun vs H Q _ => ∃ (a : Addr) (xs : List Int) (s b : Nat), vs = [.ref a, .int (s : Nat)] ∧ H a = some (.lst (VI xs)) ∧ xs.length ≤ 200 ∧ 1 ≤ s ∧ s ≤ 100000 ∧ b ≤ 100000 ∧ (∀ x ∈ xs, x.natAbs ≤ 2 ^ b) ∧ Ret H Q (.int (pk s xs))
def sp_unpacked (K : PySem.W.Frag) : Sp := fun vs H Q _ => ∃ (s n : Nat) (cs : List Int), vs = [.int (pk s cs), .int (s : Nat), .int (n : Nat)] ∧ 1 ≤ s ∧ s ≤ 100000 ∧ n ≤ 400 ∧ cs.length ≤ n ∧ (∀ c ∈ cs, c.natAbs < 2 ^ (s - 1)) ∧ ∀ a H' m, Same H H' → H a = none → H' a = some (.lst (VI (cs ++ List.replicate m 0))) → m ≤ 800 → Q (.ref a) H'
theorem evens_vi (xs : List Int) : evens (VI xs) = VI (evens xs) := by
  refine List.ext_getElem? fun i => ?_
  rw [evens_at, List.getElem?_map, List.getElem?_map, evens_at]
theorem odds_vi (xs : List Int) : evens ((VI xs).drop 1) = VI (evens (xs.drop 1)) := by
  rw [show (VI xs).drop 1 = VI (xs.drop 1) from List.map_drop.symm]; exact evens_vi _
theorem fm_map {α : Type} (xs : List α) (g : α → V) : (List.range xs.length).filterMap (fun i => (xs[i]?).map g) = xs.map g := by
  have e : ∀ n, n ≤ xs.length → (List.range n).filterMap (fun i => (xs[i]?).map g) = (xs.take n).map g := fun n => by
    induction n with
    | zero => intro _; simp
    | succ n ih =>
      intro h
      have hn := List.getElem?_eq_getElem (show n < xs.length by omega)
      rw [fm_succ, ih (by omega), takeS hn, List.map_append, hn]; rfl
  rw [e xs.length (Nat.le_refl _), List.take_length]
theorem p2le {b n : Nat} (h : b ≤ n) : (2 : Nat) ^ b ≤ 2 ^ n := Nat.pow_le_pow_right (by decide) h
-- slots: wholes 0, slot 1, parts 2, wide 3, low 4, high 5; cells: wide
abbrev s_packed : Stmt := top 34
abbrev N_packed : List Str := ["wholes", "slot", "parts", "wide", "low", "high"]
theorem sc_packed : FnScope N_packed ["wholes", "slot"] (defScope s_packed) := ⟨rfl, rfl, rfl, by decide +kernel, rfl, by decide +kernel, by decide +kernel⟩
theorem d_packed (B : Bnd K mg "packed" s_packed) (M : Mg2 mg)   : Def P w K mg base (k + 1) "packed" s_packed ["wholes", "slot"] (sp_packed K) := by
  refine def_of B sc_packed (by rintro _ _ _ _ ⟨a, xs, s, b, rfl, _⟩; rfl) (fun _ _ _ _ _ _ us hl => match us, hl with | [_, _], _ => rfl) fun f cdv A outer s H vs Q E hr h => ?_
  obtain ⟨a, xs, s, b, rfl, ha, lx, s1, s2, b2, hb, q⟩ := h
  have hu := hr.units
  refine ⟨_, pss_cons (ps_asg (pe_tup (pa_cons (pv 0) (pa_cons (pv 1) pa_nil))) (pg_tup rfl (pgs_cons (pg_name (i := 2) sc_packed.nd rfl (.inl rfl)) (pgs_cons (pg_name (i := 3) sc_packed.nd rfl (.inr rfl)) pgs_nil))))
    (pss_cons (ps_while PassesOwn.never (pt_cmpR op_gt (pe_callB call_len_seq (by rfl) M.len boot_len (pa_cons (pv 2) pa_nil)) pe_int (nomark _))
      (pss_cons (ps_setLc (i := 2) (own := [("low", 4), ("high", 5)]) (g := (gTup K 2 (gCons (gName 4) (gCons (gName 5) gNil)))) (tt := tYes) (te := (tOp _ (tVar 4) (tOp rShl (tVar 5) (tVar 3)))) rfl sc_packed.nd rfl rfl (sw_true rfl rfl rfl (by decide +kernel)) (pi_zipS (by rfl) M.zip (pa_cons (pe_step0 (pv 2)) (pa_cons (pe_lst (StX.pa_star (pe_step1 (pv 2)) (pa_cons pe_int pa_nil))) pa_nil))) (blkOk_by (own := [("low", 4), ("high", 5)]) (N := N_packed) (sc := defScope s_packed) (by decide +kernel)) (fun _ _ _ _ _ => pg_tup rfl (pgs_cons (pg_name (i := 4) sc_packed.nd rfl (.inl rfl)) (pgs_cons (pg_name (i := 5) sc_packed.nd rfl (.inl rfl)) pgs_nil))) (fun _ _ _ _ _ => pts_nil) (fun _ _ _ _ _ => pe_op op_add (pv 4) (pe_op (r := rShl) op_shlN (pv 5) (pv 3))))
      (pss_one (ps_set (i := 3) sc_packed.nd rfl (.inr rfl) (pe_op op_mulX pe_int (pv 3))))))
    (pss_one (ps_ret (pe_ifExp (pt_truth (pv 2) (by intro _; rfl)) (pe_ix (r := rIxL K) ix_list (pv 2) pe_int (fun _ _ => rfl)) pe_int)))), ?_⟩
  refine ⟨_, rfl, _, rfl, by show 2 ≤ sizeLine; decide, fun t0 nt0 => ?_⟩
  have st0 := same_new (o := .tup [V.ref a, V.int (s : Nat)]) nt0
  refine ⟨t0, _, rfl, SqT.of upd_same, rfl, _, _, rfl, _, _, rfl, rfl, ?_⟩
  refine ⟨fun mm σ G => ∃ (l : Addr) (ys : List Int) (ws : Nat) (o4 o5 : Option V), σ = [some (.ref a), some (.int (s : Nat)), some (.ref l), some (.int (ws : Nat)), o4, o5] ∧ mm = ys.length ∧ Same H G ∧ G l = some (.lst (VI ys)) ∧ ys.length ≤ 200 ∧ 1 ≤ ws ∧ ws * (ys.length - 1) ≤ s * 200 ∧ pk ws ys = pk s xs ∧ PkB b ws ys,
    ⟨xs.length, a, xs, s, none, none, rfl, rfl, st0, st0 _ _ ha, lx, s1, Nat.mul_le_mul_left _ (by omega), rfl, PkB.start hb s1⟩, ?_⟩
  rintro mm σ G ⟨l, ys, ws, o4, o5, rfl, rfl, sm, hl, ly, w1, wl, ep, pb⟩
  have lv := vi_len ys
  refine ⟨_, rfl, l, _, rfl, .inl (SqL.of hl), _, 1, rfl, rfl, _, rfl, ite2 (fun z => ?_) (fun z => ?_)⟩
  · have y2 : 2 ≤ ys.length := by have := of_decide_eq_true z; omega
    have wb : ws ≤ 40000000 := by
      have h1 := Nat.mul_le_mul_left ws (show 1 ≤ ys.length - 1 by omega)
      have h2 := Nat.mul_le_mul_right 200 s2
      omega
    refine ⟨fun σ' G' => ∃ m', m' < ys.length ∧ _, fun _ _ h => h, ?_⟩
    refine ⟨_, rfl, l, _, rfl, SqL.of hl, fun e1 n1 => ⟨_, rfl, l, _, rfl, SqL.of ((same_new n1) _ _ hl), fun e2 n2 => ?_⟩⟩
    have t1 := same_new (o := .lst (evens (VI ys))) n1
    have t2 := same_new (o := .lst (evens ((VI ys).drop 1))) n2
    have lo : (evens ((VI ys).drop 1)).length = ys.length / 2 := by rw [evens_len, List.length_drop, lv]; omega
    refine ⟨e2, _, rfl, .inr (SqL.of upd_same), by rw [List.length_append, lo, sizeLine_eq]; show _ + 1 ≤ _; omega, fun e3 n3 => ?_⟩
    have t3 := same_new (o := .lst (evens ((VI ys).drop 1) ++ [V.int 0])) n3
    have hE := t3 _ _ (t2 _ _ (upd_same (H := G) (a := e1) (o := .lst (evens (VI ys)))))
    have hO : (upd (upd (upd G e1 (.lst (evens (VI ys)))) e2 (.lst (evens ((VI ys).drop 1)))) e3 (.lst (evens ((VI ys).drop 1) ++ [V.int 0]))) e3 = some (.lst (evens ((VI ys).drop 1) ++ [V.int 0])) := upd_same
    have sG := (t1.trans t2).trans t3
    generalize upd (upd (upd G e1 (.lst (evens (VI ys)))) e2 (.lst (evens ((VI ys).drop 1)))) e3 (.lst (evens ((VI ys).drop 1) ++ [V.int 0])) = G3 at *
    obtain ⟨κ1, k1⟩ := sqk_of (sq_lst (K := K) hE)
    obtain ⟨κ2, k2⟩ := sqk_of (sq_lst (K := K) hO)
    refine ⟨e1, e3, _, _, κ1, κ2, rfl, k1, k2, fun D nD => ?_⟩
    have lp := pairs_len ws ys
    refine lc_rel (walk_zipS (n := (pairs ws ys).length) (by rw [evens_len, List.length_append, lo, lv, lp]; show _ = min _ (_ + 1); omega)) (fun i acc Hh => acc = (VI (pairs ws ys)).take i) nD (by rw [sizeLine_eq]; omega) (fun Hh sh => ⟨k1.same sh, k2.same sh⟩) (by simp) (fun i acc A B s r => r) (fun i v acc Ha Hb hi sa hac hr hy Yc Nc yc nc => ?_) (fun acc H4 s4 hD hr => ?_)
    · obtain ⟨Tt, v1, v2, rfl, nT, rfl, hx1, hx2⟩ := hy
      have sT := same_new (o := .tup [v1, v2]) nT
      have hx1 : (evens (VI ys))[i]? = some v1 := hx1
      have hx2 : (evens ((VI ys).drop 1) ++ [V.int 0])[i]? = some v2 := hx2
      rw [evens_at, List.getElem?_map] at hx1
      obtain ⟨y1, hy1, rfl⟩ : ∃ y1, ys[2 * i]? = some y1 ∧ v1 = .int y1 := by
        cases e : ys[2 * i]? with
        | none => rw [e] at hx1; cases hx1
        | some y1 => rw [e] at hx1; exact ⟨y1, rfl, (Option.some.inj hx1).symm⟩
      have hv2 : v2 = .int ((ys[2 * i + 1]?).getD 0) := by
        by_cases e : i < ys.length / 2
        · rw [List.getElem?_append_left (by omega), evens_at, List.getElem?_drop, List.getElem?_map, show 1 + 2 * i = 2 * i + 1 by omega] at hx2
          rw [List.getElem?_eq_getElem (show 2 * i + 1 < ys.length by omega)] at hx2 ⊢
          exact (Option.some.inj hx2).symm
        · rw [List.getElem?_append_right (by omega), show i - (evens ((VI ys).drop 1)).length = 0 by omega] at hx2
          rw [List.getElem?_eq_none (show ys.length ≤ 2 * i + 1 by omega)]
          exact (Option.some.inj hx2).symm
      subst hv2
      have my1 := pb.bits (List.mem_of_getElem? hy1)
      have bz : ((ys[2 * i + 1]?).getD 0).natAbs < 2 ^ (b + ws) := by
        cases e : ys[2 * i + 1]? with
        | none => exact Nat.two_pow_pos _
        | some z => exact pb.bits (List.mem_of_getElem? e)
      refine ⟨Tt, _, rfl, SqT.of upd_same, rfl, _, _, rfl, _, _, rfl, rfl, rfl, _, rfl, _, rfl, _, rfl, _, ws, rfl, rfl, shl_ok bz (by omega), _, _, rfl, rfl, yc _ _ sT ?_⟩
      rw [hr, takeS (show (VI (pairs ws ys))[i]? = some (.int (y1 + (ys[2 * i + 1]?).getD 0 * 2 ^ ws)) by rw [List.getElem?_map, Fp.pairs_at, hy1]; rfl)]
    · rw [List.take_of_length_le (by rw [vi_len]; exact Nat.le_refl _)] at hr
      subst hr
      refine ⟨_, rfl, 2, _, rfl, rfl, mulx_ok (a := 2) (b := 40) (by decide) (by show ws < 2 ^ 40; omega) (by decide), ?_⟩
      refine ⟨(pairs ws ys).length, by omega, D, pairs ws ys, 2 * ws, o4, o5, ?_, rfl, (sm.trans sG).trans s4, hD, by omega, by omega, ?_, by rw [pairs_pk, ep], pb.pairs⟩
      · show [_, _, _, some (V.int (2 * (ws : Int))), _, _] = _
        rw [show (2 * (ws : Int)) = ((2 * ws : Nat) : Int) by omega]
      · rw [lp]
        have e1 : 2 * ws * ((ys.length + 1) / 2 - 1) ≤ ws * (ys.length - 1) := by
          rw [Nat.mul_comm 2, Nat.mul_assoc]
          exact Nat.mul_le_mul_left _ (by omega)
        omega
  · have y1 : ys.length ≤ 1 := by
      by_cases e : ys.length ≤ 1
      · exact e
      · exact absurd (decide_eq_true (by omega)) z
    rw [← ep] at q
    match ys, hl, y1, q with
    | [], hl, _, q => exact ⟨_, rfl, false, .inl ⟨_, SqL.of hl, rfl⟩, iteF (q G sm)⟩
    | [y], hl, _, q =>
      refine ⟨_, rfl, true, .inl ⟨_, SqL.of hl, rfl⟩, iteT ⟨_, rfl, l, _, 0, .int y, rfl, rfl, SqL.of hl, at_of (j := 0) rfl rfl, ?_⟩⟩
      have := q G sm
      rwa [show pk ws [y] = y by show y + 2 ^ ws * 0 = y; omega] at this
-- slots: number 0, slot 1, size 2, wide 3, half 4, all_halves 5, parts 6, mask 7, part 8, half_part 9; cells: half mask wide
abbrev s_unpacked : Stmt := top 35
abbrev N_unpacked : List Str := ["number", "slot", "size", "wide", "half", "all_halves", "parts", "mask", "part", "half_part"]
theorem sc_unpacked : FnScope N_unpacked ["number", "slot", "size"] (defScope s_unpacked) := ⟨rfl, rfl, rfl, by decide +kernel, rfl, by decide +kernel, by decide +kernel⟩
theorem d_unpacked (B : Bnd K mg "unpacked" s_unpacked) (M : Mg2 mg)   : Def P w K mg base (k + 1) "unpacked" s_unpacked ["number", "slot", "size"] (sp_unpacked K) := by
  refine def_of B sc_unpacked (by rintro _ _ _ _ ⟨s, n, cs, rfl, _⟩; rfl) (fun _ _ _ _ _ _ us hl => match us, hl with | [_, _, _], _ => rfl) fun f cdv A outer s H vs Q E hr h => ?_
  obtain ⟨s, n, cs, rfl, s1, s2, n4, ln, hb, q⟩ := h
  have hu := hr.units
  refine ⟨_, pss_cons (ps_asg (pe_tup (pa_cons (pv 1) (pa_cons (pe_op op_shlN pe_int (pe_op op_sub (pv 1) pe_int)) (pa_cons (pe_op op_shlN pe_int (pe_op op_sub (pv 1) pe_int)) pa_nil)))) (pg_tup rfl (pgs_cons (pg_name (i := 3) sc_unpacked.nd rfl (.inr rfl)) (pgs_cons (pg_name (i := 4) sc_unpacked.nd rfl (.inr rfl)) (pgs_cons (pg_name (i := 5) sc_unpacked.nd rfl (.inl rfl)) pgs_nil)))))
    (pss_cons (ps_while PassesOwn.never (pt_cmpR op_lt (pv 3) (pe_op op_mulX (pv 1) (pv 2)) (nomark _))
      (pss_cons (ps_set (i := 5) sc_unpacked.nd rfl (.inl rfl) (pe_op op_add (pv 5) (pe_op op_shlN (pv 5) (pv 3))))
      (pss_one (ps_set (i := 3) sc_unpacked.nd rfl (.inr rfl) (pe_op op_mulX pe_int (pv 3))))))
    (pss_cons (ps_set (i := 6) sc_unpacked.nd rfl (.inl rfl) (pe_lst (pa_cons (pe_op op_add (pv 0) (pv 5)) pa_nil)))
    (pss_cons (ps_while PassesOwn.never (pt_cmpR op_gt (pv 3) (pv 1) (nomark _))
      (pss_cons (ps_set (i := 3) sc_unpacked.nd rfl (.inr rfl) (pe_op op_fdiv (pv 3) pe_int))
      (pss_cons (ps_set (i := 7) sc_unpacked.nd rfl (.inr rfl) (pe_op op_sub (pe_op op_shlN pe_int (pv 3)) pe_int))
      (pss_one (ps_setLc2 (i := 6) (wi1 := (iTup K (tTup (tCons (tOp rAndM (tVar 8) (tVar 7)) (tCons (tOp rShr (tVar 8) (tVar 3)) tNil))))) (own := [("part", 8), ("half_part", 9)]) (vs1 := [9]) (g := (gName 8)) (tt := tYes) (g1 := (gName 9)) (tt1 := tYes) (te := (tVar 9)) rfl sc_unpacked.nd rfl rfl (sw_true rfl rfl rfl (by decide +kernel)) (pi_list (pv 6)) (blkOk_by (own := [("part", 8), ("half_part", 9)]) (N := N_unpacked) (sc := defScope s_unpacked) (by decide +kernel)) (by decide) (fun _ _ _ _ _ => pg_name (i := 8) sc_unpacked.nd rfl (.inl rfl)) (fun _ _ _ _ _ => pts_nil) (fun _ _ _ _ _ => pi_tup (pe_tup (pa_cons (pe_op (r := rAndM) op_andM (pv 8) (pv 7)) (pa_cons (pe_op (r := rShr) op_shrN (pv 8) (pv 3)) pa_nil)))) (fun _ _ _ _ _ => pg_name (i := 9) sc_unpacked.nd rfl (.inl rfl)) (fun _ _ _ _ _ => pts_nil) (fun _ _ _ _ _ => pv 9))))))
    (pss_one (ps_ret (pe_lc (own := [("part", 8)]) (g := (gName 8)) (tt := tYes) (te := (tOp _ (tVar 8) (tVar 4))) rfl sc_unpacked.nd (pi_list (pv 6)) (blkOk_by (own := [("part", 8)]) (N := N_unpacked) (sc := defScope s_unpacked) (by decide +kernel)) (fun _ _ _ _ _ => pg_name (i := 8) sc_unpacked.nd rfl (.inl rfl)) (fun _ _ _ _ _ => pts_nil) (fun _ _ _ _ _ => pe_op op_sub (pv 8) (pv 4)))))))), ?_⟩
  have eS : V.int ((s : Int) - 1) = V.int ((s - 1 : Nat) : Int) := by rw [show (s : Int) - 1 = ((s - 1 : Nat) : Int) by omega]
  refine ⟨_, rfl, _, rfl, _, 1, rfl, rfl, 1, s - 1, rfl, eS, shl_ok (n := 1) (by decide) (by omega), _, rfl, _, 1, rfl, rfl, 1, s - 1, rfl, eS, shl_ok (n := 1) (by decide) (by omega), by show 3 ≤ sizeLine; decide, fun t nt => ?_⟩
  have st := same_new (o := .tup [V.int (s : Nat), V.int (1 * 2 ^ (s - 1)), V.int (1 * 2 ^ (s - 1))]) nt
  refine ⟨t, _, rfl, SqT.of upd_same, rfl, _, _, rfl, _, _, rfl, _, _, rfl, rfl, ?_⟩
  refine ⟨fun mm σ G => ∃ j : Nat, σ = [some (.int (pk s cs)), some (.int (s : Nat)), some (.int (n : Nat)), some (.int ((s * 2 ^ j : Nat) : Int)), some (.int (2 ^ (s - 1))), some (.int (halves s j)), none, none, none, none] ∧ mm = 1000 - 2 ^ j ∧ Same H G ∧ 2 ^ j ≤ 800,
    ⟨1000 - 2 ^ 0, 0, ?_, rfl, st, by decide⟩, ?_⟩
  · show [_, _, _, some (V.int (s : Nat)), some (V.int (1 * 2 ^ (s - 1))), some (V.int (1 * 2 ^ (s - 1))), _, _, _, _] = _
    rw [Int.one_mul, Nat.pow_zero, Nat.mul_one]; rfl
  rintro mm σ G ⟨j, rfl, rfl, sm, j8⟩
  have sj : s * 2 ^ j ≤ 100000 * 800 := Nat.mul_le_mul s2 j8
  refine ⟨_, rfl, _, rfl, _, rfl, _, _, rfl, rfl, mulx_ok (a := 40) (b := 40) (by show s < 2 ^ 40; omega) (by show n < 2 ^ 40; omega) (by decide), _, _, rfl, rfl, _, rfl, ite2 (fun z => ?_) (fun z => ?_)⟩
  · have z2 : s * 2 ^ j < s * n := by
      have := of_decide_eq_true z
      exact_mod_cast this
    have z3 : 2 ^ j < n := Nat.lt_of_mul_lt_mul_left z2
    have sj4 : s * 2 ^ j ≤ 100000 * 400 := Nat.mul_le_mul s2 (by omega)
    refine ⟨fun σ' G' => ∃ m', m' < 1000 - 2 ^ j ∧ _, fun _ _ h => h, ?_⟩
    refine ⟨_, rfl, _, rfl, _, rfl, halves s j, s * 2 ^ j, rfl, rfl, shl_ok (halves_bits s1 j) (by omega), _, _, rfl, rfl, _, rfl, 2, _, rfl, rfl, mulx_ok (a := 2) (b := 40) (by decide) (by show s * 2 ^ j < 2 ^ 40; omega) (by decide), ?_⟩
    refine ⟨1000 - 2 ^ (j + 1), by rw [Nat.pow_succ]; have := Nat.two_pow_pos j; omega, j + 1, ?_, rfl, sm, by rw [Nat.pow_succ]; omega⟩
    show [_, _, _, some (V.int (2 * ((s * 2 ^ j : Nat) : Int))), _, some (V.int (halves s (j + 1))), _, _, _, _] = _
    rw [show 2 * ((s * 2 ^ j : Nat) : Int) = ((s * 2 ^ (j + 1) : Nat) : Int) by rw [Nat.pow_succ, ← Nat.mul_assoc]; omega]
  have nj : n ≤ 2 ^ j := by
    by_cases e : n ≤ 2 ^ j
    · exact e
    · refine absurd (decide_eq_true ?_) z
      have := Nat.mul_lt_mul_of_pos_left (show 2 ^ j < n by omega) (show 0 < s by omega)
      exact_mod_cast this
  clear z
  obtain ⟨ds, hS, hl, hp, hm⟩ := unpack s1 (Nat.le_trans ln nj) hb
  refine ⟨_, rfl, _, rfl, _, _, rfl, rfl, by show 1 ≤ sizeLine; decide, fun D nD => ?_⟩
  have sD := same_new (o := .lst [V.int (pk s cs + halves s j)]) nD
  refine ⟨fun mm σ G' => ∃ (i : Nat) (l : Addr) (o7 o8 o9 : Option V), σ = [some (.int (pk s cs)), some (.int (s : Nat)), some (.int (n : Nat)), some (.int ((s * 2 ^ i : Nat) : Int)), some (.int (2 ^ (s - 1))), some (.int (halves s j)), some (.ref l), o7, o8, o9] ∧ mm = i ∧ i ≤ j ∧ Same H G' ∧ G' l = some (.lst (VI (pieces s (2 ^ i) (2 ^ (j - i)) ds))),
    ⟨j, j, D, none, none, none, rfl, rfl, Nat.le_refl _, sm.trans sD, ?_⟩, ?_⟩
  · rw [upd_same, Nat.sub_self, Nat.pow_zero]
    show some (HO.lst [V.int (pk s cs + halves s j)]) = some (HO.lst (VI [pk s (ds.take (2 ^ j))]))
    rw [hp, ← hl, List.take_length]; rfl
  rintro mm σ G' ⟨i, l, o7, o8, o9, rfl, rfl, ij, sm2, hG⟩
  have pij := Nat.pow_le_pow_right (show 0 < 2 by decide) ij
  have si : s * 2 ^ mm ≤ 100000 * 800 := Nat.mul_le_mul s2 (by omega)
  have lp := pieces_len s (2 ^ mm) (2 ^ (j - mm)) ds
  have ppos := Nat.two_pow_pos (j - mm)
  have pw : 2 ^ mm * 2 ^ (j - mm) = 2 ^ j := by rw [← Nat.pow_add, show mm + (j - mm) = j by omega]
  have p800 : 2 ^ (j - mm) ≤ 800 := Nat.le_trans (Nat.pow_le_pow_right (by decide) (Nat.sub_le j mm)) j8
  refine ⟨_, rfl, _, rfl, _, _, rfl, rfl, _, rfl, ite2 (fun z => ?_) (fun z => ?_)⟩
  · have i1 : 1 ≤ mm := by
      by_cases e : mm = 0
      · subst e
        have := of_decide_eq_true z
        rw [Nat.pow_zero, Nat.mul_one] at this
        omega
      · omega
    have e2 : 2 ^ mm = 2 * 2 ^ (mm - 1) := by rw [← Nat.pow_succ', show (mm - 1).succ = mm by omega]
    have eW : ((s * 2 ^ mm : Nat) : Int) / 2 = ((s * 2 ^ (mm - 1) : Nat) : Int) := by
      rw [e2, ← Nat.mul_assoc, Nat.mul_comm s 2, Nat.mul_assoc]; omega
    refine ⟨fun σ' G1 => ∃ m', m' < mm ∧ _, fun _ _ h => h, ?_⟩
    refine ⟨_, rfl, _, 2, rfl, rfl, ⟨by decide, by decide⟩, ?_⟩
    dsimp only
    rw [eW]
    refine ⟨_, rfl, 1, s * 2 ^ (mm - 1), rfl, rfl, shl_ok (n := 1) (by decide) (by rw [e2, ← Nat.mul_assoc, Nat.mul_comm s 2, Nat.mul_assoc] at si; omega), _, 1, rfl, rfl, ?_⟩
    have pS := pieces_split (w := s) (k := 2 ^ (mm - 1)) (2 ^ (j - mm)) hS (by rw [hl, ← e2, ← pw, Nat.mul_comm])
    rw [← e2] at pS
    generalize hP : pieces s (2 ^ mm) (2 ^ (j - mm)) ds = Ps at *
    generalize hW : s * 2 ^ (mm - 1) = W at *
    have lv := vi_len Ps
    refine ⟨_, rfl, l, rfl, ⟨_, SqL.of hG⟩, fun D3 hD3 => ?_⟩
    refine lc2_rel (walk_list (K := K) (a := l) (xs := VI Ps)) (fun i acc Hh => acc = VI (split2 W (Ps.take i))) hD3 (fun Hh sh => SqL.of (sh _ _ hG)) rfl (fun j acc A B e r => r)
      (fun i x acc3 Ha Hb hi sa ha hr3 hy Nx nx => ?_) (fun acc3 Hn3 sn3 hn3 hr3 => ?_)
    · obtain ⟨rfl, hx⟩ := hy
      obtain ⟨y, hy, rfl⟩ := vi_at hx
      refine ⟨rfl, _, rfl, _, rfl, y, W, rfl, by show V.int (1 * 2 ^ W - 1) = _; rw [Int.one_mul], _, rfl, _, rfl, y, W, rfl, rfl, by show 2 ≤ sizeLine; decide, fun T nT => ?_⟩
      have sT := same_new (o := .tup [V.int (y % 2 ^ W), V.int (y / 2 ^ W)]) nT
      have nTD : D3 ≠ T := fun z => by rw [← z, ha] at nT; cases nT
      refine ⟨T, rfl, ⟨_, SqT.of upd_same⟩, ?_⟩
      refine lc2_in (walk_tup (K := K) (a := T) (xs := [V.int (y % 2 ^ W), V.int (y / 2 ^ W)])) (fun k acc4 Hh => acc4 = VI (split2 W (Ps.take i)) ++ [V.int (y % 2 ^ W), V.int (y / 2 ^ W)].take k) (sT _ _ ha)
        (by rw [List.take_zero, List.append_nil]; exact hr3) (fun k acc4 Hh hk r => ?_) (fun Hh sh => ?_) (fun k x4 acc4 Hd2 Hc hk sc hac hr4 hy Yc Nc yc nc => ?_) (fun acc4 Hc sc hac hr4 => ?_)
      · rw [r, List.length_append, vi_len, split2_len, List.length_take, List.length_take, sizeLine_eq]
        simp only [List.length_cons, List.length_nil]
        omega
      · exact SqT.of (wo_le _ _ (sh _ _ (by rw [wo_ne (Ne.symm nTD)]; exact upd_same)))
      · obtain ⟨rfl, hx4⟩ := hy
        refine ⟨rfl, _, rfl, yc _ _ (Same.refl _) ?_⟩
        rw [hr4, List.append_assoc, ← takeS hx4]
      · refine nx acc4 _ ?_ hac ?_
        · exact ((same_wo hD3 (sa.trans sT)).trans sc).trans wo_le
        · rw [hr4, takeS hy, split2_snoc]; unfold VI; rw [List.map_append]; rfl
    · rw [lv, List.take_length, pS] at hr3
      subst hr3
      refine ⟨mm - 1, by omega, mm - 1, D3, some (V.int (1 * 2 ^ W - 1)), o8, o9, ?_, rfl, by omega, (sm2.trans sn3), ?_⟩
      · rw [hW]; rfl
      · rw [hn3, show j - (mm - 1) = (j - mm) + 1 by omega, Nat.pow_succ, Nat.mul_comm (2 ^ (j - mm)) 2]
  · have i0 : mm = 0 := by
      by_cases e : mm = 0
      · exact e
      · refine absurd (decide_eq_true ?_) z
        have := Nat.mul_le_mul_left s (show 2 ≤ 2 ^ mm by
          have := Nat.pow_le_pow_right (show 0 < 2 by decide) (show 1 ≤ mm by omega)
          omega)
        omega
    subst i0
    rw [Nat.sub_zero, Nat.pow_zero, pieces_one _ hl] at hG
    refine ⟨_, rfl, l, rfl, ⟨_, SqL.of hG⟩, fun D3 hD3 => ?_⟩
    refine lc_l (fun i => (ds[i]?).map fun d => V.int (d - 2 ^ (s - 1))) (SqL.of hG) hD3 (by rw [vi_len, hl, sizeLine_eq]; omega) (fun i v H2 hv s3 Y N y nn => ?_) (fun H2 s3 hE => ?_)
    · obtain ⟨d, hd, rfl⟩ := vi_at hv
      refine ⟨rfl, _, rfl, _, rfl, d, _, rfl, rfl, y _ _ (Same.refl _) ?_⟩
      show (ds[i]?).map _ = _
      rw [hd]; rfl
    · have e : (List.range (VI ds).length).filterMap (fun i => (ds[i]?).map fun d => V.int (d - 2 ^ (s - 1))) = VI (ds.map fun d => d - 2 ^ (s - 1)) := by
        rw [vi_len]
        refine (fm_map ds fun d => V.int (d - 2 ^ (s - 1))).trans ?_
        unfold VI; rw [List.map_map]; rfl
      rw [e, hm] at hE
      exact q D3 H2 _ (sm2.trans s3) (sm2.free hD3) hE (by omega)
end
end K21

namespace K21
open PySem PySem.Spec PyProof.Rows L2 Fp
section
variable {P : Program} {w : World} {K : PySem.W.Frag} {mg : Str → Option Value} {base : Heap} {k : Nat} {C fI fR : Addr}
def sp_wn (K : PySem.W.Frag) : Sp := fun vs H Q _ => ∃ (a : Addr) (xs : List Int), vs = [.ref a] ∧ H a = some (.lst (VI xs)) ∧ xs.length ≤ 2000 ∧ ∀ c H', Same H H' → H c = none → H' c = some (.lst (VI (trimI xs))) → Q (.ref c) H'
def sp_most_bits (K : PySem.W.Frag) : Sp := fun vs H Q _ => ∃ (a : Addr) (xs : List Int), vs = [.ref a] ∧ H a = some (.lst (VI xs)) ∧ xs ≠ [] ∧ xs.length ≤ 2000 ∧ ∀ (m : Nat) H', Same H H' → (∀ x ∈ xs, x.natAbs < 2 ^ m) → (∀ B, (∀ x ∈ xs, x.natAbs < 2 ^ B) → m ≤ B) → Q (.int (m : Nat)) H'
def sp_lowest (K : PySem.W.Frag) : Sp := fun vs H Q _ => ∃ (a : Addr) (xs : List Int) (b : Int), vs = [.ref a, .int b] ∧ H a = some (.lst (VI xs)) ∧ xs.length ≤ 2000 ∧ 0 < b ∧ LbI 4000 b ∧ (∀ x ∈ xs, LbI 4000 x) ∧
  ∀ (t l : Addr) H' (g : Int) (ys : List Int) (b' : Int), Same H H' → H t = none → H' t = some (.tup [.ref l, .int b']) → H' l = some (.lst (VI ys)) → 0 < g → 0 < b' → b = b' * g → xs = ys.map (· * g) → (∀ E : Int, (∀ x ∈ xs, b ∣ x * E) → b' ∣ E) → Q (.ref t) H'
-- slots: wholes 0, size 1; cells: 
abbrev s_without_noughts : Stmt := top 21
abbrev N_without_noughts : List Str := ["wholes", "size"]
theorem sc_without_noughts : FnScope N_without_noughts ["wholes"] (defScope s_without_noughts) := ⟨rfl, rfl, rfl, by decide +kernel, rfl, by decide +kernel, by decide +kernel⟩
theorem d_without_noughts (B : Bnd K mg "without_noughts" s_without_noughts) (M : Mg2 mg)   : Def P w K mg base (k + 1) "without_noughts" s_without_noughts ["wholes"] (sp_wn K) := by
  refine def_of B sc_without_noughts (by rintro _ _ _ _ ⟨a, xs, rfl, _⟩; rfl) (fun _ _ _ _ _ _ us hl => match us, hl with | [_], _ => rfl) fun f cdv A outer s H vs Q E hr h => ?_
  obtain ⟨a, xs, rfl, ha, lx, q⟩ := h
  have hu := hr.units
  refine ⟨_, pss_cons (ps_set (i := 1) sc_without_noughts.nd rfl (.inl rfl) (pe_callB call_len_seq (by rfl) M.len boot_len (pa_cons (pv 0) pa_nil)))
    (pss_cons (ps_while PassesOwn.never (PW.pt (pw_and (pt_cmpR op_gt (pv 1) pe_int (nomark _)) (pw_and1 (pt_cmpR op_eq (pe_ix (r := rIxL K) ix_list (pv 0) (pe_op op_sub (pv 1) pe_int) (fun _ _ => rfl)) pe_int (nomark _)))))
      (pss_one (ps_aug (i := 1) sc_without_noughts.nd rfl (.inl rfl) pe_int ip_sub)))
    (pss_one (ps_ret (pe_slice (r := rSlL K) sl_list (pv 0) po_none (po_some (pv 1)))))), ?_⟩
  have lv := vi_len xs
  refine ⟨_, rfl, a, _, rfl, .inl (SqL.of ha), ?_⟩
  refine ⟨fun mm σ G => σ = [some (.ref a), some (.int (mm : Int))] ∧ G = H ∧ mm ≤ xs.length ∧ trimI (xs.take mm) = trimI xs, ⟨xs.length, by rw [← lv]; rfl, rfl, Nat.le_refl _, by rw [List.take_length]⟩, ?_⟩
  rintro mm σ G ⟨rfl, rfl, nl, tp⟩
  have fin : xs.take mm = trimI xs → (tRet (tSl (rSlL K) (tVar 0) tNoPart (tPart (tVar 1)))) { nx := fun _ H1 => Q .non H1, rt := Q } [some (.ref a), some (.int (mm : Int))] G := fun e => by
    refine ⟨_, rfl, _, rfl, mm, rfl, a, _, rfl, SqL.of ha, fun c nc => q c _ (same_new nc) nc ?_⟩
    rw [cut_to, ← e, upd_same]
    unfold VI; rw [List.map_take]
  refine ⟨_, rfl, _, _, rfl, rfl, _, rfl, ite2 (fun z => ?_) (fun z => ?_)⟩
  · have z2 : 0 < mm := by have := of_decide_eq_true z; omega
    have hv : xs[mm - 1]? = some xs[mm - 1] := List.getElem?_eq_getElem (by omega)
    have tk : xs.take mm = xs.take (mm - 1) ++ [xs[mm - 1]] := by
      have := takeS hv
      rwa [show mm - 1 + 1 = mm by omega] at this
    refine ⟨_, rfl, _, rfl, _, 1, rfl, rfl, a, _, _, _, rfl, rfl, SqL.of ha, at_of (j := mm - 1) (by show (mm : Int) - 1 = _; omega) (show (VI xs)[mm - 1]? = some (.int xs[mm - 1]) by rw [List.getElem?_map, hv]; rfl), rfl, _, rfl, ite2 (fun z3 => ?_) (fun z3 => ?_)⟩
    · have p0 : xs[mm - 1] = 0 := by
        have := of_decide_eq_true z3
        injection this
      refine ⟨fun σ' H1 => σ' = [some (.ref a), some (.int ((mm - 1 : Nat) : Int))] ∧ H1 = G, fun σ' H1 ⟨e1, e2⟩ => ⟨mm - 1, by omega, e1, e2, by omega, by rw [← tp, tk, trimI_zero p0]⟩, ?_⟩
      refine ⟨_, rfl, _, 1, rfl, rfl, ?_, rfl⟩
      show [some (V.ref a), some (V.int ((mm : Int) - 1))] = _
      rw [show (mm : Int) - 1 = ((mm - 1 : Nat) : Int) by omega]
    · have p0 : xs[mm - 1] ≠ 0 := fun e => z3 (decide_eq_true (by rw [e]))
      exact fin (by rw [← tp, tk, trimI_nz p0])
  · have z2 : mm = 0 := by
      by_cases e : mm = 0
      · exact e
      · exact absurd (decide_eq_true (by omega)) z
    subst z2
    exact fin (by rw [← tp]; rfl)
theorem lt_bits (x : Int) : x.natAbs < 2 ^ Builtin.Int.intBits x := by
  unfold Builtin.Int.intBits
  split
  · rename_i h
    have : x = 0 := by simpa using h
    subst this; decide
  · exact Nat.lt_log2_self
-- slots: wholes 0, whole 1; cells: 
abbrev s_most_bits : Stmt := top 37
abbrev N_most_bits : List Str := ["wholes", "whole"]
theorem sc_most_bits : FnScope N_most_bits ["wholes"] (defScope s_most_bits) := ⟨rfl, rfl, rfl, by decide +kernel, rfl, by decide +kernel, by decide +kernel⟩
theorem d_most_bits (B : Bnd K mg "most_bits" s_most_bits) (M : Mg2 mg)   : Def P w K mg base (k + 1) "most_bits" s_most_bits ["wholes"] (sp_most_bits K) := by
  refine def_of B sc_most_bits (by rintro _ _ _ _ ⟨a, xs, rfl, _⟩; rfl) (fun _ _ _ _ _ _ us hl => match us, hl with | [_], _ => rfl) fun f cdv A outer s H vs Q E hr h => ?_
  obtain ⟨a, xs, rfl, ha, x0, lx, q⟩ := h
  have hu := hr.units
  refine ⟨_, pss_one (ps_ret (pe_callB (cr_max rfl) (by rfl) M.max (by decide +kernel) (pa_cons (pe_lc (own := [("whole", 1)]) (g := (gName 1)) (tt := tYes) (te := (tBits (tVar 1))) rfl sc_most_bits.nd (pi_list (pv 0)) (blkOk_by (own := [("whole", 1)]) (N := N_most_bits) (sc := defScope s_most_bits) (by decide +kernel)) (fun _ _ _ _ _ => pg_name (i := 1) sc_most_bits.nd rfl (.inl rfl)) (fun _ _ _ _ _ => pts_nil) (fun _ _ _ _ _ => pe_bits (pv 1))) pa_nil))), ?_⟩
  have lv := vi_len xs
  refine ⟨_, rfl, a, rfl, ⟨_, SqL.of ha⟩, fun D nD => ?_⟩
  refine lc_l (fun i => (xs[i]?).map fun x => V.int ((Builtin.Int.intBits x : Nat) : Int)) (SqL.of ha) nD (by rw [lv, sizeLine_eq]; omega) (fun i v H2 hv s3 Y N y nn => ?_) (fun H2 s3 hE => ?_)
  · obtain ⟨d, hd, rfl⟩ := vi_at hv
    refine ⟨rfl, _, rfl, d, rfl, y _ _ (Same.refl _) ?_⟩
    show (xs[i]?).map _ = _
    rw [hd]; rfl
  · have e : (List.range (VI xs).length).filterMap (fun i => (xs[i]?).map fun x => V.int ((Builtin.Int.intBits x : Nat) : Int)) = VI (xs.map fun x => ((Builtin.Int.intBits x : Nat) : Int)) := by
      rw [lv]
      refine (fm_map xs _).trans ?_
      unfold VI; rw [List.map_map]; rfl
    rw [e] at hE
    refine ⟨D, _, rfl, SqL.of hE, by rw [List.length_map]; exact List.length_pos_iff.mpr x0, fun m hm hall => ?_⟩
    obtain ⟨x, hx, rfl⟩ := List.mem_map.mp hm
    refine q _ H2 s3 (fun y hy => ?_) (fun B hB => PyProof.Rows.intBits_le (hB x hx))
    have := hall _ (List.mem_map.mpr ⟨y, hy, rfl⟩)
    exact Nat.lt_of_lt_of_le (lt_bits y) (Nat.pow_le_pow_right (by decide) (by omega))
theorem gcd_step {b s x E : Int} (h1 : b ∣ s * E) (h2 : b ∣ x * E) : b ∣ ((Nat.gcd s.natAbs x.natAbs : Nat) : Int) * E := by
  have a1 := Int.natAbs_dvd_natAbs.mpr h1
  have a2 := Int.natAbs_dvd_natAbs.mpr h2
  rw [Int.natAbs_mul] at a1 a2
  refine Int.natAbs_dvd_natAbs.mp ?_
  rw [Int.natAbs_mul, Int.natAbs_natCast, ← Nat.gcd_mul_right]
  exact Nat.dvd_gcd a1 a2
-- slots: tops 0, bottom 1, shared 2, top 3; cells: shared
abbrev s_lowest : Stmt := top 20
abbrev N_lowest : List Str := ["tops", "bottom", "shared", "top"]
theorem sc_lowest : FnScope N_lowest ["tops", "bottom"] (defScope s_lowest) := ⟨rfl, rfl, rfl, by decide +kernel, rfl, by decide +kernel, by decide +kernel⟩
theorem d_lowest (B : Bnd K mg "lowest" s_lowest) (M : Mg2 mg)   : Def P w K mg base (k + 1) "lowest" s_lowest ["tops", "bottom"] (sp_lowest K) := by
  refine def_of B sc_lowest (by rintro _ _ _ _ ⟨a, xs, b, rfl, _⟩; rfl) (fun _ _ _ _ _ _ us hl => match us, hl with | [_, _], _ => rfl) fun f cdv A outer s H vs Q E hr h => ?_
  obtain ⟨a, xs, b, rfl, ha, lx, b0, bb, bx, q⟩ := h
  have hu := hr.units
  refine ⟨_, pss_cons (ps_set (i := 2) sc_lowest.nd rfl (.inr rfl) (pv 1))
    (C8.pss_cut (ps_for PassesOwn.never rfl (pi_list (pv 0)) (pg_name (i := 3) sc_lowest.nd rfl (.inl rfl))
      (pss_cons (ps_set (i := 2) sc_lowest.nd rfl (.inr rfl) (pe_callBfun cr_gcd (by rfl) M.gcd  (pa_cons (pv 2) (pa_cons (pv 3) pa_nil))))
      (pss_one (ps_if (pt_cmpR op_eq (pv 2) pe_int (nomark _))
        (pss_one (ps_break))
        (pss_nil)))))
    (C8.pss_cut (ps_if (pt_cmpR op_lt (pv 1) pe_int (nomark _))
      (pss_one (ps_set (i := 2) sc_lowest.nd rfl (.inr rfl) (pe_un un_neg (pe_callB call_abs (by rfl) M.abs (by decide +kernel) (pa_cons (pv 2) pa_nil)))))
      (pss_one (ps_set (i := 2) sc_lowest.nd rfl (.inr rfl) (pe_callB call_abs (by rfl) M.abs (by decide +kernel) (pa_cons (pv 2) pa_nil)))))
    (pss_one (ps_ret (pe_tup (pa_cons (pe_lc (own := [("top", 3)]) (g := (gName 3)) (tt := tYes) (te := (tOp _ (tVar 3) (tVar 2))) rfl sc_lowest.nd (pi_list (pv 0)) (blkOk_by (own := [("top", 3)]) (N := N_lowest) (sc := defScope s_lowest) (by decide +kernel)) (fun _ _ _ _ _ => pg_name (i := 3) sc_lowest.nd rfl (.inl rfl)) (fun _ _ _ _ _ => pts_nil) (fun _ _ _ _ _ => pe_op op_fdivNW (pv 3) (pv 2))) (pa_cons (pe_op op_fdivNW (pv 1) (pv 2)) pa_nil))))))), ?_⟩
  have lv := vi_len xs
  refine ⟨_, rfl, ?_⟩
  refine ⟨fun σ' G => ∃ (s : Int) (o : Option V), σ' = [some (.ref a), some (.int b), some (.int s), o] ∧ G = H ∧ 0 < s ∧ s ∣ b ∧ (∀ x ∈ xs, s ∣ x) ∧ ∀ E : Int, (∀ x ∈ xs, b ∣ x * E) → b ∣ s * E, ?_, ?_⟩
  · refine ⟨_, rfl, a, rfl, ⟨_, SqL.of ha⟩, ?_⟩
    refine for_list (xs := VI xs) (fun i σ G => ∃ (s : Int) (o : Option V), σ = [some (.ref a), some (.int b), some (.int s), o] ∧ G = H ∧ 0 < s ∧ s ∣ b ∧ (∀ (j : Nat) x, j < i → xs[j]? = some x → s ∣ x) ∧ ∀ E : Int, (∀ x ∈ xs, b ∣ x * E) → b ∣ s * E)
      ⟨b, none, rfl, rfl, b0, Int.dvd_refl _, fun j x h => absurd h (Nat.not_lt_zero _), fun E _ => Int.dvd_mul_right _ _⟩ (fun i σ G _ ⟨_, _, _, e, _⟩ => by rw [e]; exact SqL.of ha) (fun i v σ G hv ⟨s, o, e, eG, s0, sb, sj, sE⟩ => ?_) (fun σ G ⟨s, o, e, eG, s0, sb, sj, sE⟩ => ?_)
    · subst e eG
      obtain ⟨x, hx, rfl⟩ := vi_at hv
      have mx := List.mem_of_getElem? hx
      have g0 : 0 < Nat.gcd s.natAbs x.natAbs := Nat.gcd_pos_of_pos_left _ (by omega)
      have gs : ((Nat.gcd s.natAbs x.natAbs : Nat) : Int) ∣ s := Int.natAbs_dvd_natAbs.mp (by rw [Int.natAbs_natCast]; exact Nat.gcd_dvd_left _ _)
      have gx : ((Nat.gcd s.natAbs x.natAbs : Nat) : Int) ∣ x := Int.natAbs_dvd_natAbs.mp (by rw [Int.natAbs_natCast]; exact Nat.gcd_dvd_right _ _)
      refine ⟨_, rfl, _, rfl, s, x, rfl, _, rfl, rfl, _, rfl, ite2 (fun z => ?_) (fun z => ?_)⟩
      · have e1 : Nat.gcd s.natAbs x.natAbs = 1 := by
          have := of_decide_eq_true z
          injection this with this
          omega
        exact ⟨1, _, by rw [e1]; rfl, rfl, by decide, Int.one_dvd _, fun y _ => Int.one_dvd _, fun E hE => by have := gcd_step (sE E hE) (hE x mx); rwa [e1] at this⟩
      · refine ⟨_, _, rfl, rfl, by omega, Int.dvd_trans gs sb, fun j y hj hy => ?_, fun E hE => gcd_step (sE E hE) (hE x mx)⟩
        by_cases e : j = i
        · subst e
          rw [hx] at hy
          rw [← Option.some.inj hy]; exact gx
        · exact Int.dvd_trans gs (sj j y (by omega) hy)
    · exact ⟨s, o, e, eG, s0, sb, fun x hx => by
        obtain ⟨j, hj⟩ := List.getElem?_of_mem hx
        exact sj j x (by rw [lv]; exact (List.getElem?_eq_some_iff.mp hj).1) hj, sE⟩
  rintro _ G ⟨g, o, rfl, eG, g0, gb, gx, gE⟩
  subst eG
  obtain ⟨b', eb⟩ := gb
  have b'0 : 0 < b' := by
    rcases Int.lt_trichotomy b' 0 with h | h | h
    · have := Int.mul_neg_of_pos_of_neg g0 h; omega
    · rw [h] at eb; omega
    · exact h
  have gB : LbI 4000 g := bb.of_le (by
    have := Int.le_of_dvd b0 ⟨b', eb⟩
    omega)
  refine ⟨fun σ' G' => σ' = [some (.ref a), some (.int b), some (.int g), o] ∧ G' = G, ⟨_, rfl, _, _, rfl, rfl, _, rfl, ite2 (fun z => ?_) (fun z => ?_)⟩, ?_⟩
  · have := of_decide_eq_true z; omega
  · refine ⟨_, rfl, g, rfl, ?_⟩
    rw [if_neg (by omega)]
    exact ⟨rfl, rfl⟩
  rintro _ G' ⟨rfl, eG'⟩
  subst eG'
  have dg : ∀ x : Int, LbI 4000 x → CDivNW x g := fun x hx => gB.div (by decide) (by omega)
  refine ⟨_, rfl, a, rfl, ⟨_, SqL.of ha⟩, fun D nD => ?_⟩
  refine lc_l (fun i => (xs[i]?).map fun x => V.int (x.fdiv g)) (SqL.of ha) nD (by rw [lv, sizeLine_eq]; omega) (fun i v H2 hv s3 Y N y nn => ?_) (fun H2 s3 hE => ?_)
  · obtain ⟨x, hx, rfl⟩ := vi_at hv
    refine ⟨rfl, _, rfl, _, rfl, x, g, rfl, rfl, dg x (bx x (List.mem_of_getElem? hx)), y _ _ (Same.refl _) ?_⟩
    show (xs[i]?).map _ = _
    rw [hx]; rfl
  · have e : (List.range (VI xs).length).filterMap (fun i => (xs[i]?).map fun x => V.int (x.fdiv g)) = VI (xs.map fun x => x.fdiv g) := by
      rw [lv]
      refine (fm_map xs _).trans ?_
      unfold VI; rw [List.map_map]; rfl
    rw [e] at hE
    refine ⟨_, rfl, _, rfl, b, g, rfl, rfl, dg b bb, by show 2 ≤ sizeLine; decide, fun T nT => ?_⟩
    have sT := same_new (o := .tup [V.ref D, V.int (b.fdiv g)]) nT
    have eb2 : b.fdiv g = b' := by rw [eb]; exact Int.mul_fdiv_cancel_left _ (by omega)
    show Q (.ref T) (upd H2 T (.tup [V.ref D, V.int (b.fdiv g)]))
    rw [eb2] at sT ⊢
    refine q T D _ g _ b' (s3.trans sT) (s3.free nT) upd_same (sT _ _ hE) g0 b'0 (by rw [eb, Int.mul_comm]) ?_ fun E hE2 => ?_
    · rw [List.map_map]
      refine ((List.map_congr_left fun x hx => ?_).trans (List.map_id xs)).symm
      obtain ⟨y, ey⟩ := gx x hx
      show x.fdiv g * g = x
      rw [ey, Int.mul_fdiv_cancel_left _ (by omega : g ≠ 0), Int.mul_comm]
    · have := gE E hE2
      rw [eb] at this
      exact Int.dvd_of_mul_dvd_mul_left (by omega) this
end
end K21

namespace Fp
/-! ### sums of products of whole polynomials -/
def addL : List Int → List Int → List Int
  | [], ys => ys
  | x :: xs, [] => x :: xs
  | x :: xs, y :: ys => (x + y) :: addL xs ys
def smL (n : Int) (xs : List Int) : List Int := xs.map fun x => n * x
def mulL : List Int → List Int → List Int
  | [], _ => []
  | x :: xs, ys => addL (smL x ys) (0 :: mulL xs ys)
theorem addL_at : ∀ (xs ys : List Int) (i : Nat), (addL xs ys).getD i 0 = xs.getD i 0 + ys.getD i 0
  | [], ys, i => by show ys.getD i 0 = 0 + ys.getD i 0; omega
  | x :: xs, [], i => by show (x :: xs).getD i 0 = (x :: xs).getD i 0 + 0; omega
  | x :: xs, y :: ys, 0 => rfl
  | x :: xs, y :: ys, i + 1 => addL_at xs ys i
theorem smL_at (n : Int) (xs : List Int) (i : Nat) : (smL n xs).getD i 0 = n * xs.getD i 0 := by
  unfold smL
  rw [List.getD_eq_getElem?_getD, List.getD_eq_getElem?_getD, List.getElem?_map]
  cases xs[i]? with
  | none => show (0 : Int) = n * 0; omega
  | some x => rfl
theorem addL_len : ∀ xs ys : List Int, (addL xs ys).length = max xs.length ys.length
  | [], ys => by show ys.length = max 0 ys.length; omega
  | x :: xs, [] => by show xs.length + 1 = max (xs.length + 1) 0; omega
  | x :: xs, y :: ys => by
    show (addL xs ys).length + 1 = max (xs.length + 1) (ys.length + 1)
    rw [addL_len xs ys]; omega
theorem smL_len (n : Int) (xs : List Int) : (smL n xs).length = xs.length := List.length_map _
theorem mulL_len : ∀ (xs ys : List Int), xs ≠ [] → ys ≠ [] → (mulL xs ys).length = xs.length + ys.length - 1
  | [], _, h, _ => absurd rfl h
  | [x], ys, _, h => by
    show (addL (smL x ys) [0]).length = _
    have := List.length_pos_iff.mpr h
    rw [addL_len, smL_len]; simp; omega
  | x :: y :: r, ys, _, h => by
    have ih := mulL_len (y :: r) ys (List.cons_ne_nil _ _) h
    have := List.length_pos_iff.mpr h
    show (addL (smL x ys) (0 :: mulL (y :: r) ys)).length = _
    rw [addL_len, smL_len, List.length_cons, ih]; simp only [List.length_cons]; omega
theorem pk_addL (w : Nat) : ∀ xs ys : List Int, pk w (addL xs ys) = pk w xs + pk w ys
  | [], ys => by show pk w ys = 0 + pk w ys; omega
  | x :: xs, [] => by show pk w (x :: xs) = pk w (x :: xs) + 0; omega
  | x :: xs, y :: ys => by
    show x + y + 2 ^ w * pk w (addL xs ys) = x + 2 ^ w * pk w xs + (y + 2 ^ w * pk w ys)
    rw [pk_addL w xs ys]; grind
theorem pk_smL (w : Nat) (n : Int) : ∀ xs : List Int, pk w (smL n xs) = n * pk w xs
  | [] => by show (0 : Int) = n * 0; omega
  | x :: xs => by
    show n * x + 2 ^ w * pk w (smL n xs) = n * (x + 2 ^ w * pk w xs)
    rw [pk_smL w n xs]; grind
theorem pk_mulL (w : Nat) : ∀ xs ys : List Int, pk w (mulL xs ys) = pk w xs * pk w ys
  | [], ys => by show (0 : Int) = 0 * pk w ys; omega
  | x :: xs, ys => by
    show pk w (addL (smL x ys) (0 :: mulL xs ys)) = (x + 2 ^ w * pk w xs) * pk w ys
    rw [pk_addL, pk_smL]
    show x * pk w ys + (0 + 2 ^ w * pk w (mulL xs ys)) = _
    rw [pk_mulL w xs ys]; grind
theorem BN.addL {N M : Nat} : ∀ {xs ys : List Int}, BN N xs → BN M ys → BN (N + M) (addL xs ys)
  | [], ys, _, h => h.mono (by omega)
  | x :: xs, [], h, _ => h.mono (by omega)
  | x :: xs, y :: ys, h, g => fun z hz => by
    rcases List.mem_cons.mp hz with e | e
    · rw [e]
      have a := h x List.mem_cons_self
      have b := g y List.mem_cons_self
      have := Int.natAbs_add_le x y
      omega
    · exact BN.addL (xs := xs) (ys := ys) (fun z hz => h z (List.mem_cons_of_mem _ hz)) (fun z hz => g z (List.mem_cons_of_mem _ hz)) z e
theorem BN.smL {N A : Nat} {n : Int} {xs : List Int} (h : BN N xs) (hn : n.natAbs ≤ A) : BN (A * N) (smL n xs) := fun z hz => by
  obtain ⟨x, hx, rfl⟩ := List.mem_map.mp hz
  rw [Int.natAbs_mul]; exact Nat.mul_le_mul hn (h x hx)
theorem BN.mulL {N M : Nat} : ∀ {xs ys : List Int}, BN N xs → BN M ys → BN (xs.length * (N * M)) (mulL xs ys)
  | [], _, _, _ => fun z h => by cases h
  | x :: xs, ys, h, g => by
    have ih := BN.mulL (xs := xs) (ys := ys) (fun z hz => h z (List.mem_cons_of_mem _ hz)) g
    have z : BN (xs.length * (N * M)) (0 :: Fp.mulL xs ys) := fun z hz => by
      rcases List.mem_cons.mp hz with e | e
      · rw [e]; exact Nat.zero_le _
      · exact ih z e
    have := BN.addL (g.smL (h x List.mem_cons_self)) z
    refine this.mono ?_
    rw [List.length_cons, Nat.add_mul, Nat.one_mul]; omega
/-- a line's parts: first, second, number -/
abbrev Part := Nat × Nat × Int
def linL (P : Nat → List Int) (ps : List Part) : List Int := ps.foldl (fun acc p => addL acc (smL p.2.2 (mulL (P p.1) (P p.2.1)))) []
theorem linL_snoc (P : Nat → List Int) (ps : List Part) (p : Part) : linL P (ps ++ [p]) = addL (linL P ps) (smL p.2.2 (mulL (P p.1) (P p.2.1))) := by unfold linL; rw [List.foldl_append]; rfl
theorem linL_len {P : Nat → List Int} {L : Nat} : ∀ ps : List Part, (∀ p ∈ ps, P p.1 ≠ [] ∧ P p.2.1 ≠ [] ∧ (P p.1).length ≤ L ∧ (P p.2.1).length ≤ L) → (linL P ps).length ≤ 2 * L :=
  snoc_ind (fun _ => Nat.zero_le _) fun A p ih h => by
    have h1 := ih fun q hq => h q (List.mem_append_left _ hq)
    obtain ⟨a, b, c, d⟩ := h p (List.mem_append_right _ (List.mem_singleton.mpr rfl))
    rw [linL_snoc, addL_len, smL_len, mulL_len _ _ a b]; omega
theorem linL_BN {P : Nat → List Int} {L W : Nat} : ∀ ps : List Part, (∀ p ∈ ps, (P p.1).length ≤ L ∧ ∃ a b c, BN (2 ^ a) (P p.1) ∧ BN (2 ^ b) (P p.2.1) ∧ p.2.2.natAbs ≤ 2 ^ c ∧ a + b + c ≤ W) → BN (ps.length * (L * 2 ^ W)) (linL P ps) :=
  snoc_ind (fun _ => fun z h => by cases h) fun A p ih h => by
    have h1 := ih fun q hq => h q (List.mem_append_left _ hq)
    obtain ⟨l, a, b, c, ha, hb, hc, hw⟩ := h p (List.mem_append_right _ (List.mem_singleton.mpr rfl))
    rw [linL_snoc]
    refine (h1.addL ((ha.mulL hb).smL hc)).mono ?_
    rw [List.length_append, List.length_singleton, Nat.add_mul, Nat.one_mul]
    refine Nat.add_le_add_left ?_ _
    have e : 2 ^ c * ((P p.1).length * (2 ^ a * 2 ^ b)) = (P p.1).length * 2 ^ (a + b + c) := by
      rw [← Nat.pow_add, Nat.mul_left_comm, ← Nat.pow_add, Nat.add_comm c]
    rw [e]
    exact Nat.mul_le_mul l (Nat.pow_le_pow_right (by decide) hw)
theorem pk_linL (w : Nat) (P : Nat → List Int) (ps : List Part) (p : Part) : pk w (linL P (ps ++ [p])) = pk w (linL P ps) + p.2.2 * (pk w (P p.1) * pk w (P p.2.1)) := by
  rw [linL_snoc, pk_addL, pk_smL, pk_mulL]
/-! ### the same over bottoms -/
theorem prodc_cons (x : Rat) (xs : List Rat) (g : Nat → Rat) (n : Nat) : prodc (x :: xs) g n = x * g n + (if n = 0 then 0 else prodc xs g (n - 1)) := by
  unfold prodc
  rw [List.length_cons, sumN_shift]
  congr 1
  by_cases h : n = 0
  · subst h
    rw [if_pos rfl]
    refine sumN_zero fun i _ => ?_
    unfold sh; rw [if_pos (by omega)]; grind
  · rw [if_neg h]
    refine sumN_congr fun i _ => ?_
    show co xs i * sh (i + 1) g n = co xs i * sh i g (n - 1)
    congr 1
    unfold sh
    by_cases z : n < i + 1
    · rw [if_pos z, if_pos (by omega)]
    · rw [if_neg z, if_neg (by omega), show n - (i + 1) = n - 1 - i by omega]
theorem mulL_co {b1 b2 : Int} (h1 : b1 ≠ 0) (h2 : b2 ≠ 0) : ∀ (xs ys : List Int) (n : Nat), (((mulL xs ys).getD n 0 : Int) : Rat) / ((b1 * b2 : Int) : Rat) = prodc (ratsOf b1 xs) (co (ratsOf b2 ys)) n
  | [], ys, n => by
    show ((0 : Int) : Rat) / _ = prodc [] _ n
    rw [prodc_nil_left, Rat.intCast_zero, Rat.div_def, Rat.zero_mul]
  | x :: xs, ys, n => by
    have ih := mulL_co h1 h2 xs ys
    show (((addL (smL x ys) (0 :: mulL xs ys)).getD n 0 : Int) : Rat) / _ = prodc ((x : Rat) / (b1 : Rat) :: ratsOf b1 xs) _ n
    rw [prodc_cons, addL_at, smL_at, co_rats, Rat.intCast_add, Rat.intCast_mul, Rat.intCast_mul]
    have e1 : (x : Rat) * ((ys.getD n 0 : Int) : Rat) / ((b1 : Rat) * (b2 : Rat)) = (x : Rat) / (b1 : Rat) * (((ys.getD n 0 : Int) : Rat) / (b2 : Rat)) := by
      simp only [Rat.div_def, Rat.inv_mul_rev]; grind
    cases n with
    | zero =>
      rw [if_pos rfl, ← e1]
      show (_ + ((0 : Int) : Rat)) / _ = _
      rw [Rat.intCast_zero]; grind
    | succ n =>
      rw [if_neg (by omega), ← e1, show n + 1 - 1 = n by omega, ← ih n, Rat.intCast_mul]
      show ((x : Rat) * _ + (((mulL xs ys).getD n 0 : Int) : Rat)) / _ = _
      simp only [Rat.div_def]; grind
end Fp

namespace Fp
open PySem PySem.Spec PyProof.Rows L2
/-! ### dicts from counts to ints -/
abbrev KV := List (Key × V)
def dG (ks : List Nat) (g : Nat → Int) : KV := ks.map fun j : Nat => ((Sum.inl ((j : Nat) : Int) : Key), V.int (g j))
theorem dG_len (ks : List Nat) (g : Nat → Int) : (dG ks g).length = ks.length := List.length_map _
theorem dG_at {ks : List Nat} {g : Nat → Int} {i : Nat} {k : Key} {v : V} (h : (dG ks g)[i]? = some (k, v)) : ∃ j, ks[i]? = some j ∧ k = .inl (j : Int) ∧ v = .int (g j) := by
  unfold dG at h
  rw [List.getElem?_map] at h
  cases e : ks[i]? with
  | none => rw [e] at h; cases h
  | some j => rw [e] at h; injection (Option.some.inj h) with h1 h2; exact ⟨j, rfl, h1.symm, h2.symm⟩
theorem inl_eq {i j : Nat} : ((.inl (i : Int) : Key) = .inl (j : Int)) ↔ i = j := by
  constructor
  · intro h; injection h with h; omega
  · intro h; rw [h]
theorem dG_val (ks : List Nat) (g : Nat → Int) (j : Nat) : valV (dG ks g) (.inl (j : Int)) = if j ∈ ks then some (.int (g j)) else none := by
  induction ks with
  | nil => rfl
  | cons a r ih =>
    have ih' : ((dG r g).find? fun kv => decide (kv.1 = (.inl (j : Int) : Key))).map (·.2) = if j ∈ r then some (.int (g j)) else none := ih
    show (((((.inl (a : Int) : Key), V.int (g a)) :: dG r g).find? fun kv => decide (kv.1 = (.inl (j : Int) : Key))).map (·.2)) = _
    by_cases e : a = j
    · subst e
      rw [List.find?_cons_of_pos (by simp)]
      simp
    · rw [List.find?_cons_of_neg (by simpa using fun z => e (by omega)), ih']
      simp [Ne.symm e]
def setF (g : Nat → Int) (j : Nat) (v : Int) : Nat → Int := fun i => if i = j then v else g i
theorem dG_congr {ks : List Nat} {g h : Nat → Int} (e : ∀ j ∈ ks, g j = h j) : dG ks g = dG ks h := List.map_congr_left fun j hj => by rw [e j hj]
theorem dG_put {ks : List Nat} {g : Nat → Int} {j : Nat} {v : Int} : putK (dG ks g) (.inl (j : Int)) (.int v) = dG (if j ∈ ks then ks else ks ++ [j]) (setF g j v) := by
  by_cases h : j ∈ ks
  · rw [if_pos h]
    unfold putK
    have a : ((dG ks g).any fun kv => decide (kv.1 = (.inl (j : Int) : Key))) = true := by
      rw [List.any_eq_true]
      exact ⟨(.inl (j : Int), .int (g j)), List.mem_map.mpr ⟨j, h, rfl⟩, by simp⟩
    rw [if_pos a]
    unfold dG
    rw [List.map_map]
    refine List.map_congr_left fun i _ => ?_
    show (if (.inl (i : Int) : Key) = .inl (j : Int) then ((.inl (i : Int) : Key), V.int v) else ((.inl (i : Int) : Key), V.int (g i))) = (.inl (i : Int), .int (setF g j v i))
    unfold setF
    by_cases e : i = j
    · rw [if_pos (inl_eq.mpr e), if_pos e]
    · rw [if_neg (fun z => e (inl_eq.mp z)), if_neg e]
  · rw [if_neg h, putK_new _ (by rw [dG_val, if_neg h])]
    have e : dG ks g = dG ks (setF g j v) := dG_congr fun i hi => by
      unfold setF
      rw [if_neg (fun z : i = j => h (z ▸ hi))]
    rw [e]
    unfold dG
    rw [List.map_append]
    congr 1
    show [((.inl (j : Int) : Key), V.int v)] = [(.inl (j : Int), .int (setF g j v j))]
    unfold setF; rw [if_pos rfl]
theorem nodup_put {ks : List Nat} {j : Nat} (h : ks.Nodup) : (if j ∈ ks then ks else ks ++ [j]).Nodup := by
  split
  · exact h
  · rename_i n
    rw [List.nodup_append]
    exact ⟨h, by simp, fun a ha b hb => by rw [List.mem_singleton.mp hb]; exact fun z => n (z ▸ ha)⟩
theorem mem_put {ks : List Nat} {i j : Nat} : i ∈ (if j ∈ ks then ks else ks ++ [j]) ↔ i ∈ ks ∨ i = j := by
  split
  · rename_i h
    exact ⟨Or.inl, fun z => z.elim id fun e => e ▸ h⟩
  · simp
/-- sums over the keys -/
def sumG (h : Nat → Int) (ks : List Nat) : Int := (ks.map h).sum
theorem sumG_congr {f g : Nat → Int} {ks : List Nat} (e : ∀ j ∈ ks, f j = g j) : sumG f ks = sumG g ks := by unfold sumG; rw [List.map_congr_left e]
theorem sumG_set {c g : Nat → Int} {j : Nat} {d : Int} : ∀ {ks : List Nat}, ks.Nodup → j ∈ ks → sumG (fun i => c i * setF g j (g j + d) i) ks = sumG (fun i => c i * g i) ks + c j * d
  | [], _, h => by cases h
  | a :: r, n, h => by
    obtain ⟨n1, n2⟩ := List.nodup_cons.mp n
    show c a * setF g j (g j + d) a + sumG _ r = c a * g a + sumG _ r + c j * d
    by_cases e : a = j
    · subst e
      have e2 : sumG (fun i => c i * setF g a (g a + d) i) r = sumG (fun i => c i * g i) r := sumG_congr fun i hi => by
        unfold setF; rw [if_neg (fun z : i = a => n1 (z ▸ hi))]
      rw [e2]
      unfold setF; rw [if_pos rfl]; grind
    · have hr : j ∈ r := (List.mem_cons.mp h).resolve_left fun z => e z.symm
      rw [sumG_set n2 hr]
      unfold setF; rw [if_neg e]; omega
theorem sumG_app (f : Nat → Int) (ks : List Nat) (j : Nat) : sumG f (ks ++ [j]) = sumG f ks + f j := by unfold sumG; rw [List.map_append, List.sum_append]; simp
/-! ### walks that make dicts -/
theorem woM {D : Addr} {H F : Hp} (s : Same H F) : Same (wo D H) (wo D F) := fun b o e => by
  unfold wo at e ⊢
  split at e
  · cases e
  · rename_i z; rw [if_neg z]; exact s b o e
section
variable {J : It} {n : Nat} {G : Hp → Prop} {Y : Nat → Hp → V → Hp → Prop} {g : TG} {tt : TT} {tk tv : TE} {vs : List Nat} {σ : L2.St} {H1 : Hp} {D : Addr} {Qd : Hp → Prop}
def DIn (D : Addr) (a2 : L2.St) (vs1 : List Nat) (g1 : TG) (tt1 : TT) (tk tv : TE) (Nx : Hp → Prop) (J1 : It) (F4 : Hp) : Prop := ∃ W1 : Nat → Nat → Hp → Prop, (∃ m, W1 0 m F4) ∧ ∀ j k F, W1 j k F → (J1.stop j F ∧ Nx F) ∨ (J1.go j F ∧ ∃ Nx1 : Hp → Prop, (∀ F', Nx1 F' → ∃ k', k' < k ∧ W1 (j + 1) k' F') ∧ ∀ x F', J1.yld j F x F' →
  g1 x (wipe a2 vs1) F' fun a3 F5 => Wk (wipe a2 vs1) a3 ∧ tt1 a3 F5 fun b F6 => if b = true then tk a3 F6 fun y F7 => tv a3 F7 fun z F8 => ∃ kvs kk, y = kV kk ∧ F8 D = some (.dK kvs) ∧ kvs.length < sizeLine ∧ Nx1 (upd F8 D (.dK (putK kvs kk z))) else Nx1 F6)
theorem dc2_in {a2 : L2.St} {vs1 : List Nat} {g1 : TG} {tt1 : TT} {Nx : Hp → Prop} {F4 : Hp} {kv0 : KV} (w : Walk J n G Y) (Rel : Nat → KV → Prop) (hD : F4 D = some (.dK kv0)) (h0 : Rel 0 kv0) (hz : ∀ i kvs, i < n → Rel i kvs → kvs.length < sizeLine) (hG : ∀ F, Same (wo D F4) (wo D F) → G F)
    (hs : ∀ i x kvs Fa Fb, i < n → Same (wo D F4) (wo D Fa) → Fa D = some (.dK kvs) → Rel i kvs → Y i Fa x Fb → ∀ (Yc : V → V → Hp → Prop) (Nc : Hp → Prop), (∀ kk z F, Same Fa F → Rel (i + 1) (putK kvs kk z) → Yc (kV kk) z F) → (∀ F, Same Fa F → Rel (i + 1) kvs → Nc F) →
      g1 x (wipe a2 vs1) Fb fun a3 F5 => Wk (wipe a2 vs1) a3 ∧ tt1 a3 F5 fun b F6 => if b = true then tk a3 F6 fun y F7 => tv a3 F7 fun z F8 => Yc y z F8 else Nc F6)
    (hd : ∀ kvs F, Same (wo D F4) (wo D F) → F D = some (.dK kvs) → Rel n kvs → Nx F) : DIn D a2 vs1 g1 tt1 tk tv Nx J F4 := by
  refine ⟨fun i m F => m = n - i ∧ i ≤ n ∧ Same (wo D F4) (wo D F) ∧ ∃ kvs, F D = some (.dK kvs) ∧ Rel i kvs, ⟨n, by simp, Nat.zero_le _, Same.refl _, kv0, hD, h0⟩, ?_⟩
  rintro i m F ⟨rfl, hi, s1, kvs, hF, hr⟩
  by_cases lt : i < n
  · refine .inr ⟨w.goes i F lt (hG F s1), fun F' => i + 1 ≤ n ∧ Same (wo D F4) (wo D F') ∧ ∃ kvs, F' D = some (.dK kvs) ∧ Rel (i + 1) kvs, fun F' p => ⟨n - (i + 1), by omega, rfl, p.1, p.2⟩, fun x F' y => ?_⟩
    refine hs i x kvs F F' lt s1 hF hr (w.yields i F x F' lt (hG F s1) y) (fun y z F8 => ∃ kvs kk, y = kV kk ∧ F8 D = some (.dK kvs) ∧ kvs.length < sizeLine ∧ (i + 1 ≤ n ∧ Same (wo D F4) (wo D (upd F8 D (.dK (putK kvs kk z)))) ∧ ∃ kvs', (upd F8 D (.dK (putK kvs kk z))) D = some (.dK kvs') ∧ Rel (i + 1) kvs')) _ (fun kk z F8 s8 r8 => ?_) fun F8 s8 r8 => ?_
    · exact ⟨kvs, kk, rfl, s8 _ _ hF, hz i kvs lt hr, lt, by rw [wo_upd]; exact s1.trans (woM s8), _, upd_same, r8⟩
    · exact ⟨lt, s1.trans (woM s8), kvs, s8 _ _ hF, r8⟩
  · have e : i = n := by omega
    subst e
    exact .inl ⟨w.stops F (hG F s1), hd kvs F s1 hF hr⟩
theorem dc2_rel {wi1 : TI} {vs1 : List Nat} {g1 : TG} {tt1 : TT} (w : Walk J n G Y) (Rel : Nat → KV → Prop) (hD : H1 D = none) (hG : ∀ F, Same H1 F → G F) (h0 : Rel 0 [])
    (hs : ∀ i x kvs Fa Fb, i < n → Same H1 Fa → Fa D = some (.dK kvs) → Rel i kvs → Y i Fa x Fb → ∀ Nx : Hp → Prop, (∀ kvs' F', Same H1 F' → F' D = some (.dK kvs') → Rel (i + 1) kvs' → Nx F') →
      g x (wipe σ vs) Fb fun a2 F2 => Wk (wipe σ vs) a2 ∧ tt a2 F2 fun b F3 => if b = true then wi1 a2 F3 (DIn D a2 vs1 g1 tt1 tk tv Nx) else Nx F3)
    (hd : ∀ kvs F, Same H1 F → F D = some (.dK kvs) → Rel n kvs → Qd F) :
    ∃ W : Nat → Nat → Hp → Prop, (∃ m, W 0 m (upd H1 D (.dK []))) ∧ ∀ i m F, W i m F → (J.stop i F ∧ Qd F) ∨ (J.go i F ∧ ∃ Nx : Hp → Prop, (∀ F', Nx F' → ∃ m', m' < m ∧ W (i + 1) m' F') ∧ ∀ x F', J.yld i F x F' → g x (wipe σ vs) F' fun a2 F2 => Wk (wipe σ vs) a2 ∧ tt a2 F2 fun b F3 =>
      if b = true then wi1 a2 F3 (DIn D a2 vs1 g1 tt1 tk tv Nx) else Nx F3) := by
  refine ⟨fun i m F => m = n - i ∧ i ≤ n ∧ Same H1 F ∧ ∃ kvs, F D = some (.dK kvs) ∧ Rel i kvs, ⟨n, by simp, Nat.zero_le _, same_new hD, [], upd_same, h0⟩, ?_⟩
  rintro i m F ⟨rfl, hi, s1, kvs, hF, hr⟩
  by_cases lt : i < n
  · refine .inr ⟨w.goes i F lt (hG F s1), fun F' => i + 1 ≤ n ∧ Same H1 F' ∧ ∃ kvs, F' D = some (.dK kvs) ∧ Rel (i + 1) kvs, fun F' p => ⟨n - (i + 1), by omega, rfl, p.1, p.2⟩, fun x F' y => ?_⟩
    exact hs i x kvs F F' lt s1 hF hr (w.yields i F x F' lt (hG F s1) y) _ fun kvs' F' a b c => ⟨lt, a, kvs', b, c⟩
  · have e : i = n := by omega
    subst e
    exact .inl ⟨w.stops F (hG F s1), hd kvs F s1 hF hr⟩
theorem same_upd_none {H F : Hp} {D : Addr} {o : HO} (n : H D = none) (s : Same H F) : Same H (upd F D o) := fun b u e => by
  rw [upd_ne (ne_of_none e n)]; exact s b u e
theorem dc_rel (w : Walk J n G Y) (Rel : Nat → KV → Prop) (hD : H1 D = none) (hG : ∀ F, Same H1 F → G F) (h0 : Rel 0 []) (hz : ∀ i kvs, i < n → Rel i kvs → kvs.length < sizeLine)
    (hs : ∀ i x kvs Fa Fb, i < n → Same H1 Fa → Fa D = some (.dK kvs) → Rel i kvs → Y i Fa x Fb → ∀ (Yc : V → V → Hp → Prop) (Nc : Hp → Prop), (∀ kk z F, Same Fa F → Rel (i + 1) (putK kvs kk z) → Yc (kV kk) z F) → (∀ F, Same Fa F → Rel (i + 1) kvs → Nc F) →
      g x (wipe σ vs) Fb fun a2 F2 => wipe a2 vs = wipe σ vs ∧ tt a2 F2 fun b F3 => if b = true then tk a2 F3 fun y F4 => tv a2 F4 fun z F5 => Yc y z F5 else Nc F3)
    (hd : ∀ kvs F, Same H1 F → F D = some (.dK kvs) → Rel n kvs → Qd F) :
    ∃ W : Nat → Nat → Hp → Prop, (∃ m, W 0 m (upd H1 D (.dK []))) ∧ ∀ i m F, W i m F → (J.stop i F ∧ Qd F) ∨ (J.go i F ∧ ∃ Nx : Hp → Prop, (∀ F', Nx F' → ∃ m', m' < m ∧ W (i + 1) m' F') ∧ ∀ x F', J.yld i F x F' → g x (wipe σ vs) F' fun a2 F2 => wipe a2 vs = wipe σ vs ∧ tt a2 F2 fun b F3 =>
      if b = true then tk a2 F3 fun y F4 => tv a2 F4 fun z F5 => ∃ kvs k, y = kV k ∧ F5 D = some (.dK kvs) ∧ kvs.length < sizeLine ∧ Nx (upd F5 D (.dK (putK kvs k z))) else Nx F3) := by
  refine ⟨fun i m F => m = n - i ∧ i ≤ n ∧ Same H1 F ∧ ∃ kvs, F D = some (.dK kvs) ∧ Rel i kvs, ⟨n, by simp, Nat.zero_le _, same_new hD, [], upd_same, h0⟩, ?_⟩
  rintro i m F ⟨rfl, hi, s1, kvs, hF, hr⟩
  by_cases lt : i < n
  · refine .inr ⟨w.goes i F lt (hG F s1), fun F' => i + 1 ≤ n ∧ Same H1 F' ∧ ∃ kvs, F' D = some (.dK kvs) ∧ Rel (i + 1) kvs, fun F' p => ⟨n - (i + 1), by omega, rfl, p.1, p.2⟩, fun x F' y => ?_⟩
    refine hs i x kvs F F' lt s1 hF hr (w.yields i F x F' lt (hG F s1) y) (fun y z F8 => ∃ kvs kk, y = kV kk ∧ F8 D = some (.dK kvs) ∧ kvs.length < sizeLine ∧ (i + 1 ≤ n ∧ Same H1 (upd F8 D (.dK (putK kvs kk z))) ∧ ∃ kvs', (upd F8 D (.dK (putK kvs kk z))) D = some (.dK kvs') ∧ Rel (i + 1) kvs')) _ (fun kk z F8 s8 r8 => ?_) fun F8 s8 r8 => ?_
    · exact ⟨kvs, kk, rfl, s8 _ _ hF, hz i kvs lt hr, lt, same_upd_none hD (s1.trans s8), _, upd_same, r8⟩
    · exact ⟨lt, s1.trans s8, kvs, s8 _ _ hF, r8⟩
  · have e : i = n := by omega
    subst e
    exact .inl ⟨w.stops F (hG F s1), hd kvs F s1 hF hr⟩
end
theorem wk_set {a : L2.St} {i : Nat} {v : V} (h : a[i]? = some none) : Wk a (a.set i (some v)) := ⟨(List.length_set ..).symm, fun j u e => by
  by_cases z : i = j
  · subst z; rw [h] at e; cases e
  · rw [List.getElem?_set_ne z]; exact e⟩
/-! ### a dict that is locked meanwhile -/
theorem same_locked {H F : Hp} {d : Addr} {u : HO} {od : Obj} (h : H d = some u) (s : Same (upd H d (.frz od u)) F) : Same H (upd F d u) := fun b o e => by
  by_cases z : b = d
  · subst z; rw [upd_same]; rw [h] at e; exact e
  · rw [upd_ne z]; exact s b o (by rw [upd_ne z]; exact e)
theorem up_locked {H : Hp} {d b : Addr} {u o : HO} {od : Obj} (n : b ≠ d) (e : H b = some o) : (upd H d (.frz od u)) b = some o := by rw [upd_ne n]; exact e
end Fp

namespace K21
open PySem PySem.Spec PyProof.Rows L2 Fp
section
variable {P : Program} {w : World} {K : PySem.W.Frag} {mg : Str → Option Value} {base : Heap} {k : Nat} {C fI fR : Addr}
/-- a line's parts, as they stand -/
def PartsV (H : Hp) (us : List V) (ps : List Part) : Prop := us.length = ps.length ∧ ∀ (i : Nat) (v : V), us[i]? = some v → ∃ (p : Part) (t : Addr), ps[i]? = some p ∧ v = .ref t ∧ H t = some (.tup [.int (p.1 : Nat), .int (p.2.1 : Nat), .int p.2.2])
theorem PartsV.same {H H' : Hp} {us : List V} {ps : List Part} (h : PartsV H us ps) (e : Same H H') : PartsV H' us ps := ⟨h.1, fun i v hv => let ⟨p, t, h1, h2, h3⟩ := h.2 i v hv; ⟨p, t, h1, h2, e _ _ h3⟩⟩
def PolysV (H : Hp) (ws : List V) (F : Nat → List Int) : Prop := ∀ j, j < ws.length → ∃ l, ws[j]? = some (.ref l) ∧ H l = some (.lst (VI (F j)))
theorem PolysV.same {H H' : Hp} {ws : List V} {F : Nat → List Int} (h : PolysV H ws F) (e : Same H H') : PolysV H' ws F := fun j hj => let ⟨l, h1, h2⟩ := h j hj; ⟨l, h1, e _ _ h2⟩
/-- a place that is right -/
def PlOk (n : Nat) (F : Nat → List Int) (B j : Nat) : Prop := j < n ∧ F j ≠ [] ∧ (F j).length ≤ 200 ∧ ∀ x ∈ F j, x.natAbs < 2 ^ B
def sp_sop (K : PySem.W.Frag) : Sp := fun vs H Q _ => ∃ (a b : Addr) (us ws : List V) (ps : List Part) (F : Nat → List Int) (B : Nat), vs = [.ref a, .ref b] ∧ H a = some (.lst us) ∧ H b = some (.lst ws) ∧ PartsV H us ps ∧ PolysV H ws F ∧ ps.length ≤ 60 ∧ ws.length ≤ 1000 ∧ B ≤ 5000 ∧ (∀ p ∈ ps, PlOk ws.length F B p.1 ∧ PlOk ws.length F B p.2.1 ∧ p.2.2.natAbs < 2 ^ B) ∧
  ∀ c H', Same H H' → H c = none → H' c = some (.lst (VI (trimI (linL F ps)))) → Q (.ref c) H'
def SzOk (n : Nat) (F : Nat → List Int) (B : Nat) (ks : List Nat) (g : Nat → Int) : Prop := ks.Nodup ∧ ∀ j ∈ ks, PlOk n F B j ∧ ∃ m : Nat, g j = (m : Int) ∧ (∀ x ∈ F j, x.natAbs < 2 ^ m) ∧ m ≤ B
theorem SzOk.put {n : Nat} {F : Nat → List Int} {B j m : Nat} {ks : List Nat} {g : Nat → Int} (h : SzOk n F B ks g) (o : PlOk n F B j) (b : ∀ x ∈ F j, x.natAbs < 2 ^ m) (l : m ≤ B) : SzOk n F B (if j ∈ ks then ks else ks ++ [j]) (setF g j m) := ⟨nodup_put h.1, fun i hi => by
  unfold setF
  by_cases e : i = j
  · subst e; rw [if_pos rfl]; exact ⟨o, m, rfl, b, l⟩
  · rw [if_neg e]; exact h.2 i ((mem_put.mp hi).resolve_right e)⟩
theorem put_len {ks : List Nat} {j : Nat} : (if j ∈ ks then ks else ks ++ [j]).length ≤ ks.length + 1 := by
  split
  · omega
  · rw [List.length_append]; simp
theorem ncut (x y z : V) : ¬ (HT.sIx [x, y, z].length 0 none = 0 ∧ HT.sIx [x, y, z].length [x, y, z].length (some 2) = [x, y, z].length) := by
  show ¬ (HT.sIx 3 0 none = 0 ∧ HT.sIx 3 3 (some 2) = 3)
  decide
theorem cut2 (x y z : V) : cutV [x, y, z] none (some 2) = [x, y] := cut_to (xs := [x, y, z]) 2
theorem nodup_at {ks : List Nat} {i j : Nat} (h : ks.Nodup) (e : ks[i]? = some j) : j ∉ ks.take i := fun z => by
  obtain ⟨m, hm, e2⟩ := List.mem_take_iff_getElem.mp z
  obtain ⟨hi, e3⟩ := List.getElem?_eq_some_iff.mp e
  have := (List.getElem_inj h).mp (e2.trans e3.symm)
  omega
theorem setF_id (g : Nat → Int) (j : Nat) : setF g j (g j) = g := funext fun i => by
  unfold setF
  by_cases e : i = j
  · rw [if_pos e, e]
  · rw [if_neg e]
theorem vi_snoc (xs : List Int) (x : Int) : VI xs ++ [V.int x] = VI (xs ++ [x]) := by
  show xs.map V.int ++ _ = (xs ++ [x]).map V.int
  rw [List.map_append]; rfl
theorem pk_bound {w b : Nat} : ∀ (xs : List Int), (∀ x ∈ xs, x.natAbs ≤ 2 ^ b) → (pk w xs).natAbs ≤ 2 ^ (b + (w + 1) * xs.length)
  | [], _ => Nat.zero_le _
  | x :: xs, h => by
    have ih := pk_bound (w := w) xs fun y hy => h y (List.mem_cons_of_mem _ hy)
    show (x + 2 ^ w * pk w xs).natAbs ≤ _
    have h1 := Int.natAbs_add_le x (2 ^ w * pk w xs)
    rw [Int.natAbs_mul, Int.natAbs_pow] at h1
    have h2 : (2 : Int).natAbs ^ w * (pk w xs).natAbs ≤ 2 ^ w * 2 ^ (b + (w + 1) * xs.length) := Nat.mul_le_mul_left _ ih
    rw [← Nat.pow_add] at h2
    have h3 := h x List.mem_cons_self
    have h4 : (2 : Nat) ^ b ≤ 2 ^ (w + (b + (w + 1) * xs.length)) := Nat.pow_le_pow_right (by decide) (by omega)
    have h5 : (2 : Nat) ^ (w + (b + (w + 1) * xs.length)) + 2 ^ (w + (b + (w + 1) * xs.length)) = 2 ^ (w + (b + (w + 1) * xs.length) + 1) := by rw [Nat.pow_succ]; omega
    have h6 : w + (b + (w + 1) * xs.length) + 1 = b + (w + 1) * (x :: xs).length := by rw [List.length_cons, Nat.mul_add, Nat.mul_one]; omega
    rw [← h6, ← h5]; omega
/-- the dict behind, after some parts -/
def Beh (s T : Nat) (F : Nat → List Int) (ks hs : List Nat) (gg : Nat → Int) (qs : List Part) : Prop := hs.Nodup ∧ (∀ j ∈ hs, j ∈ ks) ∧ sumG (fun j => pk s (F j) * gg j) hs = pk s (linL F qs) ∧ (∀ j ∈ hs, (gg j).natAbs ≤ qs.length * 2 ^ T) ∧ hs.length ≤ qs.length
theorem Beh.put {s T : Nat} {F : Nat → List Int} {ks hs : List Nat} {gg : Nat → Int} {qs : List Part} (h : Beh s T F ks hs gg qs) {p : Part} (hp : p.1 ∈ ks) (hb : (p.2.2 * pk s (F p.2.1)).natAbs ≤ 2 ^ T) :
    Beh s T F ks (if p.1 ∈ hs then hs else hs ++ [p.1]) (setF gg p.1 ((if p.1 ∈ hs then gg p.1 else 0) + p.2.2 * pk s (F p.2.1))) (qs ++ [p]) := by
  obtain ⟨h1, h2, h3, h4, h5⟩ := h
  have l : (qs ++ [p]).length * 2 ^ T = qs.length * 2 ^ T + 2 ^ T := by rw [List.length_append, List.length_singleton, Nat.add_mul, Nat.one_mul]
  refine ⟨nodup_put h1, fun j hj => (mem_put.mp hj).elim (h2 j) fun e => e ▸ hp, ?_, fun j hj => ?_, ?_⟩
  · rw [pk_linL, ← h3]
    by_cases z : p.1 ∈ hs
    · rw [if_pos z, if_pos z, sumG_set h1 z]; grind
    · rw [if_neg z, if_neg z, sumG_app, sumG_congr (g := fun j => pk s (F j) * gg j) (ks := hs) fun j hj => ?_]
      · unfold setF; rw [if_pos rfl]; grind
      · unfold setF; rw [if_neg fun e : j = p.1 => z (e ▸ hj)]
  · rw [l]
    unfold setF
    by_cases e : j = p.1
    · rw [if_pos e]
      have := Int.natAbs_add_le (if p.1 ∈ hs then gg p.1 else 0) (p.2.2 * pk s (F p.2.1))
      have : (if p.1 ∈ hs then gg p.1 else 0).natAbs ≤ qs.length * 2 ^ T := by
        by_cases z : p.1 ∈ hs
        · rw [if_pos z]; exact h4 _ z
        · rw [if_neg z]; exact Nat.zero_le _
      omega
    · rw [if_neg e]
      have := h4 j ((mem_put.mp hj).resolve_right e)
      omega
  · have := put_len (ks := hs) (j := p.1)
    rw [List.length_append, List.length_singleton]; omega
theorem Beh.nil (s T : Nat) (F : Nat → List Int) (ks : List Nat) : Beh s T F ks [] (fun _ => 0) [] := ⟨List.nodup_nil, fun _ h => by simp at h, rfl, fun _ h => by simp at h, Nat.zero_le _⟩
theorem sixty {a l N : Nat} (h : a ≤ l * N) (hl : l ≤ 60) (hN : 0 < N) : a < N * 2 ^ 7 := by
  have := Nat.mul_le_mul_right N hl
  omega
theorem same_none {H G : Hp} {c : Addr} (s : Same H G) (n : G c = none) : H c = none := by
  cases e : H c with
  | none => rfl
  | some o => have := s _ _ e; rw [n] at this; cases this
theorem trimI_noughts (xs : List Int) : ∀ m, trimI (xs ++ List.replicate m 0) = trimI xs
  | 0 => by rw [List.replicate_zero, List.append_nil]
  | m + 1 => by rw [List.replicate_succ', ← List.append_assoc, trimI_zero rfl]; exact trimI_noughts xs m
-- slots: parts 0, polys 1, sizes 2, longest 3, widest 4, slot 5, shut 6, behind 7, first 8, second 9, number 10, found 11, part 12, place 13, more 14; cells: polys shut sizes slot
abbrev s_sum_of_products : Stmt := top 36
abbrev N_sum_of_products : List Str := ["parts", "polys", "sizes", "longest", "widest", "slot", "shut", "behind", "first", "second", "number", "found", "part", "place", "more"]
theorem sc_sum_of_products : FnScope N_sum_of_products ["parts", "polys"] (defScope s_sum_of_products) := ⟨rfl, rfl, rfl, by decide +kernel, rfl, by decide +kernel, by decide +kernel⟩
theorem d_sum_of_products (B : Bnd K mg "sum_of_products" s_sum_of_products) (M : Mg2 mg)  (D_without_noughts : Def P w K mg base k "without_noughts" s_without_noughts ["wholes"] (sp_wn K)) (D_packed : Def P w K mg base k "packed" s_packed ["wholes", "slot"] (sp_packed K)) (D_unpacked : Def P w K mg base k "unpacked" s_unpacked ["number", "slot", "size"] (sp_unpacked K)) (D_most_bits : Def P w K mg base k "most_bits" s_most_bits ["wholes"] (sp_most_bits K)) : Def P w K mg base (k + 1) "sum_of_products" s_sum_of_products ["parts", "polys"] (sp_sop K) := by
  refine def_of B sc_sum_of_products (by rintro _ _ _ _ ⟨a, b, us, ws, ps, F, B, rfl, _⟩; rfl) (fun _ _ _ _ _ _ us hl => match us, hl with | [_, _], _ => rfl) fun f cdv A outer s H vs Q E hr h => ?_
  obtain ⟨a, b, us, ws, ps, F, B, rfl, ha, hb, hP, hW, lp, lw, lB, ok, q⟩ := h
  have hu := hr.units
  refine ⟨_, C8.pss_cut (ps_if (pt_not (pt_truth (pv 0) (by intro _; rfl)))
      (pss_one (ps_ret (pe_lst pa_nil)))
      (pss_nil))
    (pss_cons (ps_set (i := 2) sc_sum_of_products.nd rfl (.inr rfl) (pe_dc2 (wi1 := (iTup K (tSl (rSlT K) (tVar 12) tNoPart (tPart (tC (.int 2)))))) (own := [("part", 12), ("place", 13)]) (vs1 := [13]) (g := (gName 12)) (tt := tYes) (g1 := (gName 13)) (tt1 := tYes) (tk := (tVar 13)) (tv := (tD _ (tCons (tOp (rIxL K) (tVar 1) (tVar 13)) tNil))) rfl sc_sum_of_products.nd (pi_list (pv 0)) (blkOk_by (own := [("part", 12), ("place", 13)]) (N := N_sum_of_products) (sc := defScope s_sum_of_products) (by decide +kernel)) (by decide) (fun _ _ _ _ _ => pg_name (i := 12) sc_sum_of_products.nd rfl (.inl rfl)) (fun _ _ _ _ _ => pts_nil) (fun _ _ _ _ _ => pi_tup (pe_slice (r := rSlT K) sl_tup (pv 12) po_none (po_some pe_int))) (fun _ _ _ _ _ => pg_name (i := 13) sc_sum_of_products.nd rfl (.inl rfl)) (fun _ _ _ _ _ => pts_nil) (fun _ _ _ _ _ => pv 13) (fun _ _ _ _ _ => pe_d D_most_bits hr (by rfl) (pa_cons (pe_ix (r := rIxL K) ix_list (pv 1) (pv 13) (fun _ _ => rfl)) pa_nil))))
    (pss_cons (ps_set (i := 3) sc_sum_of_products.nd rfl (.inl rfl) (pe_callB (cr_max rfl) (by rfl) M.max (by decide +kernel) (pa_cons (pe_lock (pe_lc (own := [("place", 13)]) (g := (gName 13)) (tt := tYes) (te := (tCB (rLenS K) (tCons (tOp (rIxL K) (tVar 1) (tVar 13)) tNil))) rfl sc_sum_of_products.nd (pi_keys (pv 2)) (blkOk_by (own := [("place", 13)]) (N := N_sum_of_products) (sc := defScope s_sum_of_products) (by decide +kernel)) (fun _ _ _ _ _ => pg_name (i := 13) sc_sum_of_products.nd rfl (.inl rfl)) (fun _ _ _ _ _ => pts_nil) (fun _ _ _ _ _ => pe_callB (show CallR _ _ (rLenS K) from call_len_seq) (by rfl) M.len boot_len (pa_cons (pe_ix (r := rIxL K) ix_list (pv 1) (pv 13) (fun _ _ => rfl)) pa_nil)))) pa_nil)))
    (pss_cons (ps_set (i := 4) sc_sum_of_products.nd rfl (.inl rfl) (pe_callB (cr_max rfl) (by rfl) M.max (by decide +kernel) (pa_cons (pe_lc (own := [("first", 8), ("second", 9), ("number", 10)]) (g := (gTup K 3 (gCons (gName 8) (gCons (gName 9) (gCons (gName 10) gNil))))) (tt := tYes) (te := (tOp _ (tOp _ (tDGet (tVar 2) (tVar 8)) (tDGet (tVar 2) (tVar 9))) (tBits (tVar 10)))) rfl sc_sum_of_products.nd (pi_list (pv 0)) (blkOk_by (own := [("first", 8), ("second", 9), ("number", 10)]) (N := N_sum_of_products) (sc := defScope s_sum_of_products) (by decide +kernel)) (fun _ _ _ _ _ => pg_tup rfl (pgs_cons (pg_name (i := 8) sc_sum_of_products.nd rfl (.inl rfl)) (pgs_cons (pg_name (i := 9) sc_sum_of_products.nd rfl (.inl rfl)) (pgs_cons (pg_name (i := 10) sc_sum_of_products.nd rfl (.inl rfl)) pgs_nil)))) (fun _ _ _ _ _ => pts_nil) (fun _ _ _ _ _ => pe_op op_add (pe_op op_add (pe_dget (du hu) (pv 2) (pv 8) (fun _ _ => rfl)) (pe_dget (du hu) (pv 2) (pv 9) (fun _ _ => rfl))) (pe_bits (pv 10)))) pa_nil)))
    (pss_cons (ps_set (i := 5) sc_sum_of_products.nd rfl (.inr rfl) (pe_op op_add (pe_op op_add (pv 4) (pe_bits (pe_op op_mulX (pv 3) (pe_callB call_len_seq (by rfl) M.len boot_len (pa_cons (pv 0) pa_nil))))) pe_int))
    (pss_cons (ps_set (i := 6) sc_sum_of_products.nd rfl (.inr rfl) (pe_lock (pe_dc (own := [("place", 13)]) (g := (gName 13)) (tt := tYes) (tk := (tVar 13)) (tv := (tD _ (tCons (tOp (rIxL K) (tVar 1) (tVar 13)) (tCons (tVar 5) tNil)))) rfl sc_sum_of_products.nd (pi_keys (pv 2)) (blkOk_by (own := [("place", 13)]) (N := N_sum_of_products) (sc := defScope s_sum_of_products) (by decide +kernel)) (fun _ _ _ _ _ => pg_name (i := 13) sc_sum_of_products.nd rfl (.inl rfl)) (fun _ _ _ _ _ => pts_nil) (fun _ _ _ _ _ => pv 13) (fun _ _ _ _ _ => pe_d D_packed hr (by rfl) (pa_cons (pe_ix (r := rIxL K) ix_list (pv 1) (pv 13) (fun _ _ => rfl)) (pa_cons (pv 5) pa_nil))))))
    (pss_cons (ps_set (i := 7) sc_sum_of_products.nd rfl (.inl rfl) pe_dnewK)
    (pss_cons (ps_for PassesOwn.never rfl (pi_list (pv 0)) (pg_tup rfl (pgs_cons (pg_name (i := 8) sc_sum_of_products.nd rfl (.inl rfl)) (pgs_cons (pg_name (i := 9) sc_sum_of_products.nd rfl (.inl rfl)) (pgs_cons (pg_name (i := 10) sc_sum_of_products.nd rfl (.inl rfl)) pgs_nil))))
      (pss_one (ps_dput (du hu) (pv 7) (pv 8) (pe_op op_add (pe_dget2 (du hu) (pv 7) (pv 8) pe_int ⟨rfl, rfl, rfl, rfl⟩) (pe_op op_mulX (pv 10) (pe_dget (du hu) (pv 6) (pv 9) (fun _ _ => rfl)))) rfl)))
    (pss_cons (ps_set (i := 11) sc_sum_of_products.nd rfl (.inl rfl) (pe_callB (cr_sum rfl) (by rfl) M.sum boot_sum (pa_cons (pe_lock (pe_lc (own := [("first", 8), ("more", 14)]) (g := (gTup K 2 (gCons (gName 8) (gCons (gName 14) gNil)))) (tt := tYes) (te := (tOp _ (tDGet (tVar 6) (tVar 8)) (tVar 14))) rfl sc_sum_of_products.nd (pi_items (pv 7)) (blkOk_by (own := [("first", 8), ("more", 14)]) (N := N_sum_of_products) (sc := defScope s_sum_of_products) (by decide +kernel)) (fun _ _ _ _ _ => pg_tup rfl (pgs_cons (pg_name (i := 8) sc_sum_of_products.nd rfl (.inl rfl)) (pgs_cons (pg_name (i := 14) sc_sum_of_products.nd rfl (.inl rfl)) pgs_nil))) (fun _ _ _ _ _ => pts_nil) (fun _ _ _ _ _ => pe_op op_mulX (pe_dget (du hu) (pv 6) (pv 8) (fun _ _ => rfl)) (pv 14)))) pa_nil)))
    (pss_one (ps_ret (pe_d D_without_noughts hr (by rfl) (pa_cons (pe_d D_unpacked hr (by rfl) (pa_cons (pv 11) (pa_cons (pv 5) (pa_cons (pe_op op_mulX pe_int (pv 3)) pa_nil)))) pa_nil)))))))))))), ?_⟩
  have lu := hP.1
  refine ⟨fun σ' G => σ' = [some (.ref a), some (.ref b), none, none, none, none, none, none, none, none, none, none, none, none, none] ∧ G = H ∧ ps ≠ [], ?_, ?_⟩
  · refine ⟨_, rfl, _, .inl ⟨us, SqL.of ha, rfl⟩, ?_⟩
    by_cases u0 : us = []
    · subst u0
      have p0 : ps = [] := List.length_eq_zero_iff.mp lu.symm
      subst p0
      exact iteT2 rfl ⟨Nat.zero_le _, fun c nc => q c _ (same_new nc) nc upd_same⟩
    · refine iteF2 (by cases us; exact absurd rfl u0; rfl) ⟨rfl, rfl, fun z => u0 ?_⟩
      rw [z] at lu
      exact List.length_eq_zero_iff.mp lu
  rintro _ _ ⟨rfl, rfl, p0⟩
  rename_i H
  -- sizes
  refine ⟨_, rfl, a, rfl, ⟨us, SqL.of ha⟩, fun D nD => ?_⟩
  refine dc2_rel (walk_list (K := K) (a := a) (xs := us)) (fun i kvs => ∃ (ks : List Nat) (g : Nat → Int), kvs = dG ks g ∧ SzOk ws.length F B ks g ∧ (∀ p ∈ ps.take i, p.1 ∈ ks ∧ p.2.1 ∈ ks) ∧ ks.length ≤ 2 * i) nD (fun G s => SqL.of (s _ _ ha)) ⟨[], fun _ => 0, rfl, ⟨by simp, fun j h => by cases h⟩, fun p h => by simp at h, by simp⟩
    (fun i x kvs Fa Fb hi sa hD rel hy Nx nx => ?_) (fun kvs G1 s1 hD rel => ?_)
  · obtain ⟨rfl, hx⟩ := hy
    obtain ⟨p, t, hp, rfl, ht⟩ := hP.2 i x hx
    obtain ⟨o1, o2, o3⟩ := ok p (List.mem_of_getElem? hp)
    obtain ⟨ks, g, rfl, sz, cov, lk⟩ := rel
    refine ⟨wk_set rfl, _, rfl, 2, rfl, t, _, rfl, SqT.of (sa _ _ ht), ncut _ _ _, fun T nT => ?_⟩
    rw [cut2]
    have sT := same_new (o := .tup [V.int (p.1 : Nat), V.int (p.2.1 : Nat)]) nT
    have nTD : D ≠ T := fun z => by rw [← z, hD] at nT; cases nT
    refine ⟨T, rfl, ⟨_, SqT.of upd_same⟩, ?_⟩
    refine dc2_in (walk_tup (K := K) (a := T) (xs := [V.int (p.1 : Nat), V.int (p.2.1 : Nat)])) (fun c kvs => ∃ (ks : List Nat) (g : Nat → Int), kvs = dG ks g ∧ SzOk ws.length F B ks g ∧ (∀ p ∈ ps.take i, p.1 ∈ ks ∧ p.2.1 ∈ ks) ∧ (1 ≤ c → p.1 ∈ ks) ∧ (2 ≤ c → p.2.1 ∈ ks) ∧ ks.length ≤ 2 * i + c) (sT _ _ hD)
      ⟨ks, g, rfl, sz, cov, fun z => by omega, fun z => by omega, by omega⟩ (fun c kvs hc r => ?_) (fun F' s => ?_) (fun c x kvs Fa2 Fb2 hc sc hD2 r hy Yc Nc yc nc => ?_) (fun kvs F' s hF r => ?_)
    · obtain ⟨ks, g, rfl, _, _, _, _, l⟩ := r
      have : c < 2 := hc
      rw [dG_len, sizeLine_eq]; rw [lu] at hi; omega
    · exact SqT.of (wo_le _ _ (s _ _ (by rw [wo_ne (Ne.symm nTD)]; exact upd_same)))
    · obtain ⟨rfl, hx⟩ := hy
      obtain ⟨ks, g, rfl, sz, cov, c1, c2, l⟩ := r
      have hc : c < 2 := hc
      have sHa : Same H Fb2 := ((same_wo nD (sa.trans sT)).trans sc).trans wo_le
      obtain ⟨j, oj, rfl, e1, e2⟩ : ∃ j, PlOk ws.length F B j ∧ x = .int (j : Nat) ∧ (c = 0 → j = p.1) ∧ (c = 1 → j = p.2.1) := by
        match c, hc, hx with
        | 0, _, hx => exact ⟨p.1, o1, (Option.some.inj hx).symm, fun _ => rfl, fun z => by omega⟩
        | 1, _, hx => exact ⟨p.2.1, o2, (Option.some.inj hx).symm, fun z => by omega, fun _ => rfl⟩
      obtain ⟨oj1, oj2, oj3, oj4⟩ := id oj
      obtain ⟨lj, hl1, hl2⟩ := hW j oj1
      refine ⟨wk_set rfl, _, rfl, _, rfl, _, rfl, b, ws, _, .ref lj, rfl, rfl, SqL.of (sHa _ _ hb), at_of (j := j) rfl hl1, lj, F j, rfl, sHa _ _ hl2, oj2, by omega, fun m H' s' bm lm => yc (.inl (j : Int)) _ H' s' ?_⟩
      refine ⟨_, _, dG_put, sz.put oj bm (lm B oj4), fun p' hp' => ⟨mem_put.mpr (.inl (cov p' hp').1), mem_put.mpr (.inl (cov p' hp').2)⟩, fun _ => ?_, fun z => ?_, by have := put_len (ks := ks) (j := j); omega⟩
      · by_cases z : c = 0
        · exact mem_put.mpr (.inr (e1 z).symm)
        · exact mem_put.mpr (.inl (c1 (by omega)))
      · exact mem_put.mpr (.inr (e2 (by omega)).symm)
    · obtain ⟨ks, g, rfl, sz, cov, c1, c2, l⟩ := r
      refine nx _ F' (((same_wo nD (sa.trans sT)).trans s).trans wo_le) hF ⟨ks, g, rfl, sz, fun p' hp' => ?_, by omega⟩
      rw [takeS hp] at hp'
      rcases List.mem_append.mp hp' with h | h
      · exact cov p' h
      · rw [List.mem_singleton.mp h]; exact ⟨c1 (by show 1 ≤ 2; decide), c2 (by show 2 ≤ 2; decide)⟩
  obtain ⟨ks, g, rfl, sz, cov, lk⟩ := rel
  rw [lu, List.take_length] at cov
  rw [lu] at lk
  have k0 : ks ≠ [] := fun z => by
    obtain ⟨p, r, rfl⟩ := List.exists_cons_of_ne_nil p0
    have := (cov p List.mem_cons_self).1
    rw [z] at this; cases this
  have lkn := dG_len ks g
  -- the longest one
  refine ⟨D, _, hD, trivial, fun od => ⟨_, rfl, D, od, rfl, .inl ⟨_, upd_same, fun L nL => ?_⟩⟩⟩
  have nLD : L ≠ D := fun z => by rw [z, upd_same] at nL; cases nL
  refine lc_rel (walk_keys (d := D) (o := od) (kvs := dG ks g)) (fun i acc Hh => acc = VI ((ks.take i).map fun j => ((F j).length : Int))) nL (by rw [lkn, sizeLine_eq]; omega) (fun Hh sh => sh _ _ upd_same) rfl (fun i acc A B e r => r) (fun i x acc Ha Hb hi sa hA hr hy Yc Nc yc nc => ?_) (fun acc G2 s2 hL hr => ?_)
  · obtain ⟨rfl, kk, v, hk, rfl⟩ := hy
    obtain ⟨j, hj, rfl, rfl⟩ := dG_at hk
    obtain ⟨oj, _⟩ := sz.2 j (List.mem_of_getElem? hj)
    obtain ⟨lj, hl1, hl2⟩ := hW j oj.1
    have rd : ∀ {z : Addr} {o : HO}, H z = some o → Hb z = some o := fun h => sa _ _ (up_locked (ne_of_none h nD) (s1 _ _ h))
    refine ⟨rfl, _, rfl, _, rfl, b, ws, _, .ref lj, rfl, rfl, SqL.of (rd hb), at_of (j := j) rfl hl1, lj, VI (F j), rfl, .inl (SqL.of (rd hl2)), ?_⟩
    rw [vi_len]
    exact yc _ _ (Same.refl _) (by rw [hr, takeS hj, List.map_append]; exact vi_snoc _ _)
  rw [lkn, List.take_length] at hr
  have hD2 := s2 _ _ (upd_same (H := G1) (a := D))
  have s3 := same_locked hD s2
  have nLD' : L ≠ D := nLD
  refine ⟨hD2, L, ks.map fun j => ((F j).length : Int), rfl, SqL.of (by rw [upd_ne nLD, hL, hr]), by rw [List.length_map]; exact List.length_pos_iff.mpr k0, fun mz mm mx => ?_⟩
  obtain ⟨lg, rfl, lg1, lg2, lgm⟩ : ∃ lg : Nat, mz = (lg : Int) ∧ 1 ≤ lg ∧ lg ≤ 200 ∧ ∀ j ∈ ks, (F j).length ≤ lg := by
    obtain ⟨j, hj, rfl⟩ := List.mem_map.mp mm
    obtain ⟨⟨_, o2, o3, _⟩, _⟩ := sz.2 j hj
    exact ⟨_, rfl, List.length_pos_iff.mpr o2, o3, fun i hi => by have := mx _ (List.mem_map.mpr ⟨i, hi, rfl⟩); omega⟩
  have hD3 : (upd G2 D (.dK (dG ks g))) D = some (.dK (dG ks g)) := upd_same
  generalize upd G2 D (.dK (dG ks g)) = G3 at *
  have s13 : Same H G3 := s1.trans s3
  -- the widest part
  refine ⟨_, rfl, a, rfl, ⟨us, SqL.of (s13 _ _ ha)⟩, fun L2 nL2 => ?_⟩
  have nLD2 : L2 ≠ D := fun z => by rw [z, hD3] at nL2; cases nL2
  refine lc_rel (walk_list (K := K) (a := a) (xs := us)) (fun i acc Hh => acc = VI ((ps.take i).map fun p => g p.1 + g p.2.1 + ((Builtin.Int.intBits p.2.2 : Nat) : Int))) nL2 (by rw [lu, sizeLine_eq]; omega) (fun Hh sh => SqL.of (sh _ _ (s13 _ _ ha))) rfl (fun i acc A B e r => r) (fun i x acc Ha Hb hi sa hA hr hy Yc Nc yc nc => ?_) (fun acc G4 s4 hL2 hr => ?_)
  · obtain ⟨rfl, hx⟩ := hy
    obtain ⟨p, t, hp, rfl, ht⟩ := hP.2 i x hx
    obtain ⟨c1, c2⟩ := cov p (List.mem_of_getElem? hp)
    have hDb := sa _ _ hD3
    refine ⟨t, _, rfl, SqT.of (sa _ _ (s13 _ _ ht)), rfl, _, _, rfl, _, _, rfl, _, _, rfl, rfl, rfl, ?_⟩
    refine ⟨_, rfl, _, rfl, D, _, rfl, .inl ⟨_, .inl ((p.1 : Nat) : Int), .inl hDb, rfl, by rw [dG_val, if_pos c1]⟩, _, rfl, _, rfl, D, _, rfl, .inl ⟨_, .inl ((p.2.1 : Nat) : Int), .inl hDb, rfl, by rw [dG_val, if_pos c2]⟩, _, _, rfl, rfl, _, rfl, _, rfl, _, _, rfl, rfl, ?_⟩
    exact yc _ _ (Same.refl _) (by rw [hr, takeS hp, List.map_append]; exact vi_snoc _ _)
  rw [lu, List.take_length] at hr
  refine ⟨L2, ps.map fun p => g p.1 + g p.2.1 + ((Builtin.Int.intBits p.2.2 : Nat) : Int), rfl, SqL.of (by rw [hL2, hr]), by rw [List.length_map]; exact List.length_pos_iff.mpr p0, fun wz wm wx => ?_⟩
  obtain ⟨wd, rfl, wd1, wdm⟩ : ∃ wd : Nat, wz = (wd : Int) ∧ wd ≤ 3 * B ∧ ∀ p ∈ ps, ∃ m1 m2 : Nat, (∀ x ∈ F p.1, x.natAbs < 2 ^ m1) ∧ (∀ x ∈ F p.2.1, x.natAbs < 2 ^ m2) ∧ m1 + m2 + Builtin.Int.intBits p.2.2 ≤ wd := by
    have ge : ∀ p ∈ ps, ∃ m1 m2 : Nat, g p.1 = (m1 : Int) ∧ g p.2.1 = (m2 : Int) ∧ (∀ x ∈ F p.1, x.natAbs < 2 ^ m1) ∧ (∀ x ∈ F p.2.1, x.natAbs < 2 ^ m2) ∧ m1 ≤ B ∧ m2 ≤ B ∧ Builtin.Int.intBits p.2.2 ≤ B := fun p hp => by
      obtain ⟨c1, c2⟩ := cov p hp
      obtain ⟨_, m1, e1, b1, l1⟩ := sz.2 _ c1
      obtain ⟨_, m2, e2, b2, l2⟩ := sz.2 _ c2
      exact ⟨m1, m2, e1, e2, b1, b2, l1, l2, PyProof.Rows.intBits_le (ok p hp).2.2⟩
    obtain ⟨p, hp, rfl⟩ := List.mem_map.mp wm
    obtain ⟨m1, m2, e1, e2, b1, b2, l1, l2, l3⟩ := ge p hp
    refine ⟨m1 + m2 + Builtin.Int.intBits p.2.2, by rw [e1, e2]; omega, by omega, fun r hr => ?_⟩
    obtain ⟨n1, n2, f1, f2, d1, d2, _⟩ := ge r hr
    refine ⟨n1, n2, d1, d2, ?_⟩
    have := wx _ (List.mem_map.mpr ⟨r, hr, rfl⟩)
    rw [e1, e2, f1, f2] at this
    omega
  have s14 := s13.trans s4
  have hD4 := s4 _ _ hD3
  clear s4 hL2 hr nLD2 nL2 wx wm
  -- the slot
  refine ⟨_, rfl, _, rfl, _, rfl, a, us, rfl, .inl (SqL.of (s14 _ _ ha)), _, _, rfl, rfl, mulx_ok (a := 8) (b := 6) (by rw [Int.natAbs_natCast]; omega) (by rw [Int.natAbs_natCast, lu]; omega) (by decide), _, rfl, _, _, rfl, rfl, _, _, rfl, rfl, ?_⟩
  obtain ⟨s, es⟩ : ∃ s : Nat, s = wd + Builtin.Int.intBits ((lg * ps.length : Nat) : Int) + 2 := ⟨_, rfl⟩
  have sB : s ≤ 15016 := by
    have h1 : lg * ps.length ≤ 200 * 60 := Nat.mul_le_mul lg2 lp
    have := PyProof.Rows.intBits_le (a := ((lg * ps.length : Nat) : Int)) (k := 14) (by rw [Int.natAbs_natCast]; omega)
    omega
  have s1' : 1 ≤ s := by omega
  change gName 5 (V.int (((wd : Nat) : Int) + ((Builtin.Int.intBits (((lg : Nat) : Int) * ((us.length : Nat) : Int)) : Nat) : Int) + 2)) _ _ _
  rw [show ((wd : Nat) : Int) + ((Builtin.Int.intBits (((lg : Nat) : Int) * ((us.length : Nat) : Int)) : Nat) : Int) + 2 = ((s : Nat) : Int) by rw [es, lu, Int.natCast_mul]; omega]
  -- shut
  refine ⟨D, _, hD4, trivial, fun od2 => ⟨_, rfl, D, od2, rfl, .inl ⟨_, upd_same, fun Z nZ => ?_⟩⟩⟩
  have nZD : Z ≠ D := fun z => by rw [z, upd_same] at nZ; cases nZ
  refine dc_rel (walk_keys (d := D) (o := od2) (kvs := dG ks g)) (fun i kvs => kvs = dG (ks.take i) fun j => pk s (F j)) nZ (fun Hh sh => sh _ _ upd_same) rfl (fun i kvs hi e => by rw [e, dG_len, List.length_take, sizeLine_eq]; omega) (fun i x kvs Ha Hb hi sa hA hr hy Yc Nc yc nc => ?_) (fun kvs G5 s5 hZ hr => ?_)
  · obtain ⟨rfl, kk, v, hk, rfl⟩ := hy
    obtain ⟨j, hj, rfl, rfl⟩ := dG_at hk
    obtain ⟨oj, _⟩ := sz.2 j (List.mem_of_getElem? hj)
    obtain ⟨lj, hl1, hl2⟩ := hW j oj.1
    have rd : ∀ {z : Addr} {o : HO}, H z = some o → Hb z = some o := fun h => sa _ _ (up_locked (ne_of_none h nD) (s14 _ _ h))
    refine ⟨rfl, _, rfl, _, rfl, _, rfl, b, ws, _, .ref lj, rfl, rfl, SqL.of (rd hb), at_of (j := j) rfl hl1, _, rfl, lj, F j, s, B, rfl, rd hl2, oj.2.2.1, s1', by omega, by omega, fun x hx => Nat.le_of_lt (oj.2.2.2 x hx), fun H' s' => ?_⟩
    exact yc (.inl (j : Int)) _ H' s' (by rw [hr, dG_put, if_neg (nodup_at sz.1 hj), takeS hj, setF_id])
  rw [lkn, List.take_length] at hr
  subst hr
  have hD5 := s5 _ _ (upd_same (H := G4) (a := D))
  have s6 := same_locked hD4 s5
  refine ⟨hD5, ?_⟩
  have hZ6 : (upd G5 D (.dK (dG ks g))) Z = some (.dK (dG ks fun j => pk s (F j))) := by rw [upd_ne nZD, hZ]
  have nDH := nD
  have nZH : H Z = none := by
    cases e : H Z with
    | none => rfl
    | some o => have := up_locked (od := od2) (u := .dK (dG ks g)) nZD (s14 _ _ e); rw [nZ] at this; cases this
  generalize upd G5 D (.dK (dG ks g)) = G6 at *
  have s16 := s14.trans s6
  clear hD5 s5 nZ hZ hD4 s6
  -- behind
  refine fun E2 nE => ?_
  have sE := same_new (o := .dK []) nE
  have nEZ : Z ≠ E2 := fun z => by rw [← z, hZ6] at nE; cases nE
  have nEH : H E2 = none := by
    cases e : H E2 with
    | none => rfl
    | some o => have := s16 _ _ e; rw [nE] at this; cases this
  have hZE : (upd G6 E2 (.dK [])) Z = some (.dK (dG ks fun j => pk s (F j))) := sE _ _ hZ6
  have pkb : ∀ j, PlOk ws.length F B j → (pk s (F j)).natAbs ≤ 2 ^ (B + 3003400) := fun j oj => by
    refine Nat.le_trans (pk_bound (b := B) (F j) fun x hx => Nat.le_of_lt (oj.2.2.2 x hx)) (Nat.pow_le_pow_right (by decide) ?_)
    have : (s + 1) * (F j).length ≤ 15017 * 200 := Nat.mul_le_mul (by omega) oj.2.2.1
    omega
  refine ⟨_, rfl, a, rfl, ⟨us, SqL.of (sE _ _ (s16 _ _ ha))⟩, ?_⟩
  refine for_it (walk_list (K := K) (a := a) (xs := us)) (fun i σ G => ∃ (o8 o9 o10 : Option V) (hs : List Nat) (gg : Nat → Int), σ = [some (.ref a), some (.ref b), some (.ref D), some (.int (lg : Nat)), some (.int (wd : Nat)), some (.int (s : Nat)), some (.ref Z), some (.ref E2), o8, o9, o10, none, none, none, none] ∧ Same G6 (wo E2 G) ∧ G E2 = some (.dK (dG hs gg)) ∧ Beh s (B + (B + 3003400)) F ks hs gg (ps.take i))
    ⟨none, none, none, [], fun _ => 0, rfl, same_wo nE sE, upd_same, Beh.nil ..⟩ (fun i σ G _ ⟨_, _, _, _, _, _, sm, _⟩ => SqL.of (wo_le _ _ (sm _ _ (s16 _ _ ha)))) (fun i x σ G Gb hi ⟨o8, o9, o10, hs, gg, e, sm, hG, bh⟩ hy => ?_) (fun σ G ⟨o8, o9, o10, hs, gg, e, sm, hG, bh⟩ => ?_)
  · subst e
    obtain ⟨rfl, hx⟩ := hy
    obtain ⟨p, t, hp, rfl, ht⟩ := hP.2 i x hx
    obtain ⟨c1, c2⟩ := cov p (List.mem_of_getElem? hp)
    obtain ⟨o1, o2, o3⟩ := ok p (List.mem_of_getElem? hp)
    have hZG := wo_le _ _ (sm _ _ hZ6)
    have pb2 := pkb _ o2
    have tl : (ps.take i).length = i := by rw [List.length_take]; omega
    refine ⟨t, _, rfl, SqT.of (wo_le _ _ (sm _ _ (s16 _ _ ht))), rfl, _, _, rfl, _, _, rfl, _, _, rfl, rfl, ?_⟩
    refine ⟨_, rfl, E2, rfl, .inl ⟨_, .inl hG⟩, _, rfl, _, .inl ⟨_, .inl ((p.1 : Nat) : Int), .inl hG, rfl, (dG_val hs gg p.1).symm⟩, _, rfl, _, rfl, _, rfl, Z, _, rfl, .inl ⟨_, .inl ((p.2.1 : Nat) : Int), .inl hZG, rfl, by rw [dG_val, if_pos c2]⟩, _, _, rfl, rfl, mulx_ok (a := B) (b := B + 3003400 + 1) o3 (Nat.lt_of_le_of_lt pb2 (Nat.pow_lt_pow_right (by decide) (by omega))) (by omega), if p.1 ∈ hs then gg p.1 else 0, _, by split <;> rfl, rfl, _, rfl, _, rfl, E2, _, rfl, .inl ⟨_, .inl ((p.1 : Nat) : Int), hG, rfl, ?_, rfl⟩, ?_⟩
    · rw [dG_len, sizeLine_eq]; have := bh.2.2.2.2; omega
    · refine ⟨_, _, _, _, _, rfl, by rw [wo_upd]; exact sm, by rw [upd_same, dG_put], ?_⟩
      rw [takeS hp]
      exact bh.put c1 (by
        rw [Int.natAbs_mul, Nat.pow_add]
        exact Nat.mul_le_mul (Nat.le_of_lt o3) pb2)
  subst e
  rw [lu, List.take_length] at bh
  obtain ⟨b1, b2, b3, b4, b5⟩ := bh
  have hZG := wo_le _ _ (sm _ _ hZ6)
  have sG : Same H G := (s16.trans sm).trans wo_le
  have lhn := dG_len hs gg
  refine ⟨E2, _, hG, trivial, fun od3 => ⟨_, rfl, E2, od3, _, rfl, upd_same, fun L3 nL3 => ?_⟩⟩
  have nL3E : L3 ≠ E2 := fun z => by rw [z, upd_same] at nL3; cases nL3
  refine lc_rel (walk_items (d := E2) (o := od3) (kvs := dG hs gg)) (fun i acc Hh => acc = VI ((hs.take i).map fun j => pk s (F j) * gg j)) nL3 (by rw [lhn, sizeLine_eq]; omega) (fun Hh sh => sh _ _ upd_same) rfl (fun i acc A B e r => r) (fun i x acc Ha Hb hi sa hA hr hy Yc Nc yc nc => ?_) (fun acc G7 s7 hL3 hr => ?_)
  · obtain ⟨T, v1, v2, rfl, nT, rfl, hx1, hx2⟩ := hy
    have hj := List.getElem?_eq_getElem (show i < hs.length by omega)
    generalize hs[i]'(by omega) = j at hj
    have e : (dG hs gg)[i]? = some (.inl ((j : Nat) : Int), V.int (gg j)) := by unfold dG; rw [List.getElem?_map, hj]; rfl
    dsimp only at hx1 hx2
    rw [e] at hx1 hx2
    obtain rfl := Option.some.inj hx1
    obtain rfl := Option.some.inj hx2
    have hjm := List.mem_of_getElem? hj
    have sT := same_new (o := .tup [kV (.inl ((j : Nat) : Int)), V.int (gg j)]) nT
    have hZa := sT _ _ (sa _ _ (up_locked nEZ hZG))
    have hg := b4 j hjm
    have hg2 : (gg j).natAbs < 2 ^ (B + (B + 3003400) + 7) := by
      rw [Nat.pow_add 2 (B + (B + 3003400)) 7]
      exact sixty hg lp (Nat.two_pow_pos _)
    refine ⟨T, _, rfl, SqT.of upd_same, rfl, _, _, rfl, _, _, rfl, rfl, rfl, _, rfl, _, rfl, Z, _, rfl, .inl ⟨_, .inl ((j : Nat) : Int), .inl hZa, rfl, by rw [dG_val, if_pos (b2 j hjm)]⟩, _, rfl, _, _, rfl, rfl, mulx_ok (a := B + 3003400 + 1) (b := B + (B + 3003400) + 7) (Nat.lt_of_le_of_lt (pkb j (sz.2 j (b2 j hjm)).1) (Nat.pow_lt_pow_right (by decide) (by omega))) hg2 (by omega), ?_⟩
    exact yc _ _ sT (by rw [hr, takeS hj, List.map_append]; exact vi_snoc _ _)
  rw [lhn, List.take_length] at hr
  subst hr
  have hE7 := s7 _ _ (upd_same (H := G) (a := E2))
  have sg := same_locked hG s7
  refine ⟨hE7, L3, hs.map fun j => pk s (F j) * gg j, rfl, SqL.of (by rw [upd_ne nL3E, hL3]), ?_⟩
  change gName 11 (V.int (sumG (fun j => pk s (F j) * gg j) hs)) _ _ _
  rw [b3]
  generalize upd G7 E2 (.dK (dG hs gg)) = G8 at *
  have s18 := sG.trans sg
  have l0 : ∀ p ∈ ps, F p.1 ≠ [] ∧ F p.2.1 ≠ [] ∧ (F p.1).length ≤ lg ∧ (F p.2.1).length ≤ lg := fun p hp => ⟨(ok p hp).1.2.1, (ok p hp).2.1.2.1, lgm _ (cov p hp).1, lgm _ (cov p hp).2⟩
  have ll := linL_len ps l0
  have lb := linL_BN (P := F) (L := lg) (W := wd) ps fun p hp => by
    obtain ⟨m1, m2, h1, h2, h3⟩ := wdm p hp
    exact ⟨(l0 p hp).2.2.1, m1, m2, _, fun x hx => Nat.le_of_lt (h1 x hx), fun x hx => Nat.le_of_lt (h2 x hx), Nat.le_of_lt (lt_bits p.2.2), h3⟩
  refine ⟨_, rfl, _, rfl, _, rfl, _, _, rfl, rfl, mulx_ok (a := 2) (b := 8) (by decide) (by rw [Int.natAbs_natCast]; omega) (by decide), s, 2 * lg, linL F ps, by rw [Int.natCast_mul]; rfl, s1', by omega, by omega, ll, fun c hc => ?_, fun l H1 m sm1 n1 h1 lm => ?_⟩
  · have h1 := lb c hc
    have h2 := lt_bits ((lg * ps.length : Nat) : Int)
    rw [Int.natAbs_natCast] at h2
    have h3 : ps.length * (lg * 2 ^ wd) = (lg * ps.length) * 2 ^ wd := by rw [← Nat.mul_assoc, Nat.mul_comm ps.length]
    have h4 := Nat.mul_lt_mul_of_pos_right h2 (Nat.two_pow_pos wd)
    rw [← Nat.pow_add] at h4
    have h5 : (2 : Nat) ^ (Builtin.Int.intBits ((lg * ps.length : Nat) : Int) + wd) ≤ 2 ^ (s - 1) := Nat.pow_le_pow_right (by decide) (by omega)
    omega
  · refine ⟨l, _, rfl, h1, by rw [List.length_append, List.length_replicate]; omega, fun c H2 sm2 n2 h2 => ?_⟩
    rw [trimI_noughts] at h2
    exact q c H2 ((s18.trans sm1).trans sm2) (same_none (s18.trans sm1) n2) h2
end
end K21

namespace K21
open PySem PySem.Spec PyProof.Rows L2 Fp
section
variable {P : Program} {w : World} {K : PySem.W.Frag} {mg : Str → Option Value} {base : Heap} {k : Nat} {C fI fR : Addr}
def spMakersX (C : Addr) : Sp := fun vs H Q _ => ∃ x d, vs = [x] ∧ Sk C H d x ∧ Ret H Q (.bl (isMakersV H x))
def sp_degree (C : Addr) : Sp := fun vs H Q _ => ∃ x d, vs = [x] ∧ Sk C H d x ∧ isPolyV H x = true ∧ Ret H Q (.int (((toldP H x).length : Int) - 1))
/-- lists of numbers, new where H stood -/
structure Tls (C : Addr) (H H' : Hp) (gs : List V) (pss : List (List (Int × Int))) : Prop where
  len : gs.length = pss.length
  at_ : ∀ (i : Nat) (v : V), gs[i]? = some v → ∃ (ps : List (Int × Int)) (g : Addr) (us : List V), pss[i]? = some ps ∧ v = .ref g ∧ H g = none ∧ H' g = some (.lst us) ∧ RatL C H' us ps
theorem Tls.same {H H1 H2 : Hp} {gs : List V} {pss : List (List (Int × Int))} (h : Tls C H H1 gs pss) (e : Same H1 H2) : Tls C H H2 gs pss :=
  ⟨h.len, fun i v hv => let ⟨ps, g, us, h1, h2, h3, h4, h5⟩ := h.at_ i v hv; ⟨ps, g, us, h1, h2, h3, e _ _ h4, h5.same e⟩⟩
theorem Tls.nil {H H1 : Hp} : Tls C H H1 [] [] := ⟨rfl, fun i v h => by cases h⟩
theorem Tls.snoc {H H1 : Hp} {gs us : List V} {pss : List (List (Int × Int))} {ps : List (Int × Int)} {g : Addr} (h : Tls C H H1 gs pss) (n : H g = none) (hg : H1 g = some (.lst us)) (r : RatL C H1 us ps) : Tls C H H1 (gs ++ [.ref g]) (pss ++ [ps]) :=
  ⟨by rw [List.length_append, List.length_append, h.len]; rfl, fun i v hv => by
    rcases Nat.lt_trichotomy i gs.length with l | l | l
    · rw [List.getElem?_append_left l] at hv
      obtain ⟨ps1, b, us1, h1, h2, h3, h4, h5⟩ := h.at_ i v hv
      exact ⟨ps1, b, us1, by rw [List.getElem?_append_left (h.len ▸ l)]; exact h1, h2, h3, h4, h5⟩
    · subst l
      rw [List.getElem?_append_right (Nat.le_refl _), Nat.sub_self] at hv
      obtain rfl := Option.some.inj hv
      exact ⟨ps, g, us, by rw [h.len, List.getElem?_append_right (Nat.le_refl _), Nat.sub_self]; rfl, rfl, n, hg, r⟩
    · rw [List.getElem?_eq_none (by rw [List.length_append]; simp; omega)] at hv; cases hv⟩
theorem RatL.wo {D : Addr} {H : Hp} {us acc : List V} {ps : List (Int × Int)} (r : RatL C H us ps) (hD : H D = some (.lst acc)) : RatL C (wo D H) us ps :=
  ⟨r.len, fun i v hv => let ⟨pq, a, h1, h2, h3⟩ := r.at_ i v hv; ⟨pq, a, h1, h2, h3.wo hD⟩⟩
theorem makers_items {H : Hp} {x : V} (h : isMakersV H x = true) : ∃ xs, itemsOf H x = some xs ∧ itemsD H x = xs ∧ 1 ≤ xs.length ∧ xs.length ≤ 4 ∧ ∀ y ∈ xs, isMakerV H y = true := by
  unfold isMakersV at h
  cases q : itemsOf H x with
  | none => rw [q] at h; cases h
  | some xs =>
    rw [q] at h
    simp only [Bool.and_eq_true, decide_eq_true_eq, List.all_eq_true] at h
    exact ⟨xs, rfl, by unfold itemsD; rw [q]; rfl, h.1, h.2.1, h.2.2⟩
theorem maker_poly {H : Hp} {y : V} (h : isMakerV H y = true) : isPolyV H y = true ∧ 2 ≤ (toldP H y).length ∧ (toldP H y).length ≤ 8 := by
  unfold isMakerV at h
  simp only [Bool.and_eq_true, decide_eq_true_eq] at h
  exact h
def sp_told_makers (C : Addr) : Sp := fun vs H Q _ => ∃ x d, vs = [x] ∧ Sk C H d x ∧ isMakersV H x = true ∧ ∀ a H' gs, Same H H' → H a = none → H' a = some (.lst gs) → Tls C H (wo a H') gs (toldsP H x) → Q (.ref a) H'
theorem fm_mapI {α : Type} (xs : List α) (g : α → Int) : (List.range xs.length).filterMap (fun i => (xs[i]?).map fun x => V.int (g x)) = VI (xs.map g) := by
  have := fm_all xs fun x : α => some (V.int (g x))
  have e2 : (fun i : Nat => (xs[i]?).map fun x : α => V.int (g x)) = fun i : Nat => (xs[i]?).bind fun x : α => some (V.int (g x)) := by
    funext i; cases xs[i]? <;> rfl
  rw [e2, this, List.filterMap_eq_map']; unfold VI; rw [List.map_map]; rfl
def sp_over_one (C : Addr) : Sp := fun vs H Q _ => ∃ (l : Addr) (us : List V) (xs : List Rat) (n m : Nat) (B : Nat), vs = [.ref l] ∧ H l = some (.lst us) ∧ QL C H us xs ∧ xs.length ≤ 49 ∧ AllB n xs ∧ n ≤ 4000 ∧ 0 < B ∧ B < 2 ^ m ∧ m ≤ 63 ∧ (∀ x ∈ xs, x.den ∣ B) ∧
  ∀ (t a : Addr) (H' : Hp) (bo : Int) (ts : List Int), Same H H' → H a = none → H' t = some (.tup [.ref a, .int bo]) → H' a = some (.lst (VI ts)) → 0 < bo → LbI m bo → ratsOf bo ts = xs → BN (2 ^ (n + m)) ts → (∀ B' : Nat, (∀ x ∈ xs, x.den ∣ B') → bo.natAbs ∣ B') → Q (.ref t) H'
-- slots: poly 0; cells: 
abbrev s_degree : Stmt := top 26
abbrev N_degree : List Str := ["poly"]
theorem sc_degree : FnScope N_degree ["poly"] (defScope s_degree) := ⟨rfl, rfl, rfl, by decide +kernel, rfl, by decide +kernel, by decide +kernel⟩
theorem d_degree (B : Bnd K mg "degree" s_degree) (M : Mg2 mg) (R : RCls K mg C fI fR)  (D_told : Def P w K mg base k "told" s_told ["poly"] (sp_told C)) : Def P w K mg base (k + 1) "degree" s_degree ["poly"] (sp_degree C) := by
  refine def_of B sc_degree (by rintro _ _ _ _ ⟨x, d, rfl, _⟩; rfl) (fun _ _ _ _ _ _ us hl => match us, hl with | [_], _ => rfl) fun f cdv A outer s H vs Q E hr h => ?_
  obtain ⟨x, d, rfl, hx, hp, q⟩ := h
  have hu := hr.units
  refine ⟨_, pss_one (ps_ret (pe_op op_sub (pe_callB call_len_seq (by rfl) M.len boot_len (pa_cons (pe_d D_told hr (by rfl) (pa_cons (pv 0) pa_nil)) pa_nil)) pe_int)), ?_⟩
  refine ⟨_, rfl, x, d, rfl, hx, hp, fun a H1 us s1 na h1 R1 => ⟨a, us, rfl, .inl (SqL.of h1), _, _, rfl, rfl, ?_⟩⟩
  rw [R1.len]
  exact q H1 s1
-- slots: value 0, one 1; cells: 
abbrev s_is_makers : Stmt := top 31
abbrev N_is_makers : List Str := ["value", "one"]
theorem sc_is_makers : FnScope N_is_makers ["value"] (defScope s_is_makers) := ⟨rfl, rfl, rfl, by decide +kernel, rfl, by decide +kernel, by decide +kernel⟩
theorem d_is_makers (B : Bnd K mg "is_makers" s_is_makers) (M : Mg2 mg) (R : RCls K mg C fI fR)  (D_is_list : Def P w K mg base k "is_list" sList ["value"] (spListX C)) (D_is_poly : Def P w K mg base k "is_poly" s_is_poly ["value"] (spPolyX C)) (D_degree : Def P w K mg base k "degree" s_degree ["poly"] (sp_degree C)) : Def P w K mg base (k + 1) "is_makers" s_is_makers ["value"] (spMakersX C) := by
  refine def_of B sc_is_makers (by rintro _ _ _ _ ⟨x, d, rfl, _⟩; rfl) (fun _ _ _ _ _ _ us hl => match us, hl with | [_], _ => rfl) fun f cdv A outer s H vs Q E hr h => ?_
  obtain ⟨x, d, rfl, hx, q⟩ := h
  have hu := hr.units
  obtain ⟨t_GREATEST_DEGREE, m_GREATEST_DEGREE⟩ := M.GREATEST_DEGREE
  obtain ⟨t_MOST_MAKERS, m_MOST_MAKERS⟩ := M.MOST_MAKERS
  refine ⟨_, C8.pss_cut (ps_if (PW.pt (pw_or (pt_not (pt_val (pe_d D_is_list hr (by rfl) (pa_cons (pv 0) pa_nil)))) (pw_or (pt_cmpR op_lt (pe_callB call_len_seq (by rfl) M.len boot_len (pa_cons (pv 0) pa_nil)) pe_int (nomark _)) (pw_or1 (pt_cmpR op_gt (pe_callB call_len_seq (by rfl) M.len boot_len (pa_cons (pv 0) pa_nil)) (pe_glob (v := .int 4) (by rfl) m_MOST_MAKERS ⟨_, rfl⟩) (nomark _))))))
      (pss_one (ps_ret pe_bl))
      (pss_nil))
    (pss_one (ps_ret (pe_callB (cr_all rfl) (by rfl) M.all boot_all (pa_cons (pe_lc (own := [("one", 1)]) (g := (gName 1)) (tt := tYes) (te := (tAndV (tD _ (tCons (tVar 1) tNil)) (tChain _ _ (tC (.int 1)) (tD _ (tCons (tVar 1) tNil)) (tC (.int 7))))) rfl sc_is_makers.nd (pi_sq (pv 0)) (blkOk_by (own := [("one", 1)]) (N := N_is_makers) (sc := defScope s_is_makers) (by decide +kernel)) (fun _ _ _ _ _ => pg_name (i := 1) sc_is_makers.nd rfl (.inl rfl)) (fun _ _ _ _ _ => pts_nil) (fun _ _ _ _ _ => pe_and (pe_d D_is_poly hr (by rfl) (pa_cons (pv 1) pa_nil)) (pe_one (pe_chain op_le op_le pe_int (pe_d D_degree hr (by rfl) (pa_cons (pv 1) pa_nil)) (pe_glob (v := .int 7) (by rfl) m_GREATEST_DEGREE ⟨_, rfl⟩))))) pa_nil)))), ?_⟩
  refine ⟨fun σ' H' => ∃ xs, σ' = [some x, none] ∧ Same H H' ∧ itemsOf H x = some xs ∧ 1 ≤ xs.length ∧ xs.length ≤ 4, ?_, ?_⟩
  · refine ⟨_, rfl, x, rfl, .inl ⟨d, hx, fun H3 s3 => ?_⟩⟩
    have no : isMakersV H x = false → ∀ H', Same H H' → Q (.bl false) H' := fun z H' sm => by
      rw [← z]; exact q H' sm
    cases e : itemsOf H x with
    | none => exact ⟨false, rfl, iteT (iteT (no (by unfold isMakersV; rw [e]) _ s3))⟩
    | some xs =>
      obtain ⟨b, rfl, hb, l60, hys⟩ := hx.items e
      have hB : Sq K H b xs := hb.elim (fun z => .inl (SqL.of z)) (fun z => .inr (SqT.of z))
      refine ⟨true, rfl, iteF ⟨_, rfl, b, xs, rfl, hB.same s3, _, _, rfl, rfl, _, rfl, ite2 (fun z => ?_) (fun z => ?_)⟩⟩
      · have z2 := of_decide_eq_true z
        exact iteT (no (by unfold isMakersV; rw [e]; simp; omega) _ s3)
      · have z2 : 1 ≤ xs.length := by
          by_cases h : 1 ≤ xs.length
          · exact h
          · exact absurd (decide_eq_true (by omega)) z
        refine ⟨_, rfl, b, xs, rfl, hB.same s3, _, _, rfl, rfl, _, rfl, ite2 (fun z3 => ?_) (fun z3 => ?_)⟩
        · have z4 := of_decide_eq_true z3
          exact no (by unfold isMakersV; rw [e]; simp; omega) _ s3
        · have z4 : xs.length ≤ 4 := by
            by_cases h : xs.length ≤ 4
            · exact h
            · exact absurd (decide_eq_true (by omega)) z3
          exact ⟨xs, rfl, s3, rfl, z2, z4⟩
  rintro _ H3 ⟨xs, rfl, s3, e, l1, l4⟩
  obtain ⟨b, rfl, hb, l60, hys⟩ := hx.items e
  have hB : Sq K H b xs := hb.elim (fun z => .inl (SqL.of z)) (fun z => .inr (SqT.of z))
  have ev : isMakersV H (.ref b) = xs.all (isMakerV H) := by
    unfold isMakersV
    rw [e]
    simp [l1, l4]
  dsimp only [tRet, tCB, tCons, tNil]
  refine lc_sq (xs := xs) (fun i => (xs[i]?).map fun v => V.bl (isMakerV H v)) (fun R r => ⟨_, rfl, r⟩) (hB.same s3) (by rw [sizeLine_eq]; omega) (fun i y H4 hy s4 Y N yy nn => ?_) (fun D H4 s4 hD hD2 => ?_)
  · have sy := hys y (List.mem_of_getElem? hy)
    have s34 := s3.trans s4
    refine ⟨rfl, _, rfl, y, d, rfl, sy.same s34, fun H5 s5 => ⟨_, rfl, ?_⟩⟩
    have s35 := s34.trans s5
    rw [isPolyV_same sy s34]
    cases ep : isPolyV H y with
    | false => exact iteF (yy _ _ s5 (by show (xs[i]?).map _ = _; rw [hy]; show some (V.bl (isMakerV H y)) = _; unfold isMakerV; rw [ep]; rfl))
    | true =>
      have em : isMakerV H y = (decide (2 ≤ (toldP H y).length) && decide ((toldP H y).length ≤ 8)) := by unfold isMakerV; rw [ep]; rfl
      refine iteT ⟨_, rfl, y, d, rfl, sy.same s35, by rw [isPolyV_same sy s35]; exact ep, fun H6 s6 => ?_⟩
      rw [toldP_same sy s35]
      refine ⟨1, _, rfl, rfl, _, rfl, ite2 (fun z => ?_) (fun z => ?_)⟩
      · have z2 := of_decide_eq_true z
        refine ⟨_, 7, rfl, rfl, yy _ _ (s5.trans s6) ?_⟩
        show (xs[i]?).map _ = _
        rw [hy]
        show some (V.bl (isMakerV H y)) = _
        rw [em, decide_eq_true (show 2 ≤ (toldP H y).length by omega), Bool.true_and]
        congr 2
        exact decide_eq_decide.mpr ⟨fun h => by omega, fun h => by omega⟩
      · have z2 : ¬ 2 ≤ (toldP H y).length := fun h => z (decide_eq_true (by omega))
        refine yy _ _ (s5.trans s6) ?_
        show (xs[i]?).map _ = _
        rw [hy]
        show some (V.bl (isMakerV H y)) = _
        rw [em, decide_eq_false z2]; rfl
  rw [fm_bl] at hD2
  refine ⟨D, xs.map (isMakerV H), rfl, SqL.of hD2, ?_⟩
  have al : (xs.map (isMakerV H)).all id = xs.all (isMakerV H) := by rw [List.all_map]; rfl
  rw [al, ← ev]
  exact q H4 (s3.trans s4)
-- slots: makers 0, one 1; cells: 
abbrev s_told_makers : Stmt := top 32
abbrev N_told_makers : List Str := ["makers", "one"]
theorem sc_told_makers : FnScope N_told_makers ["makers"] (defScope s_told_makers) := ⟨rfl, rfl, rfl, by decide +kernel, rfl, by decide +kernel, by decide +kernel⟩
theorem d_told_makers (B : Bnd K mg "told_makers" s_told_makers) (M : Mg2 mg) (R : RCls K mg C fI fR)  (D_told : Def P w K mg base k "told" s_told ["poly"] (sp_told C)) (D_is_makers : Def P w K mg base k "is_makers" s_is_makers ["value"] (spMakersX C)) : Def P w K mg base (k + 1) "told_makers" s_told_makers ["makers"] (sp_told_makers C) := by
  refine def_of B sc_told_makers (by rintro _ _ _ _ ⟨x, d, rfl, _⟩; rfl) (fun _ _ _ _ _ _ us hl => match us, hl with | [_], _ => rfl) fun f cdv A outer s H vs Q E hr h => ?_
  obtain ⟨x, d, rfl, hx, hm, q⟩ := h
  have hu := hr.units
  refine ⟨_, pss_cons (ps_if (pt_not (pt_val (pe_d D_is_makers hr (by rfl) (pa_cons (pv 0) pa_nil)))) pss_never pss_nil)
    (pss_one (ps_ret (pe_lc (own := [("one", 1)]) (g := (gName 1)) (tt := tYes) (te := (tD _ (tCons (tVar 1) tNil))) rfl sc_told_makers.nd (pi_sq (pv 0)) (blkOk_by (own := [("one", 1)]) (N := N_told_makers) (sc := defScope s_told_makers) (by decide +kernel)) (fun _ _ _ _ _ => pg_name (i := 1) sc_told_makers.nd rfl (.inl rfl)) (fun _ _ _ _ _ => pts_nil) (fun _ _ _ _ _ => pe_d D_told hr (by rfl) (pa_cons (pv 1) pa_nil))))), ?_⟩
  obtain ⟨xs, e, eD, m1, m4, hn⟩ := makers_items hm
  have eT : toldsP H x = xs.map (toldP H) := by unfold toldsP; rw [eD]
  obtain ⟨b, rfl, hb, l60, hys⟩ := hx.items e
  have hB : Sq K H b xs := hb.elim (fun z => .inl (SqL.of z)) (fun z => .inr (SqT.of z))
  refine ⟨_, rfl, .ref b, d, rfl, hx, fun H1 s1 => ⟨_, rfl, iteF2 (by rw [hm]; rfl) ?_⟩⟩
  dsimp only [tNext, tRet, tD, tCons, tNil]
  refine lc_relS (fun i acc Hh => Tls C H Hh acc ((xs.map (toldP H)).take i)) (fun R r => ⟨_, rfl, r⟩) (hB.same s1) (by rw [sizeLine_eq]; omega) Tls.nil (fun i acc A B s r => r.same s) (fun D i y acc Ha hD hy sa ha r Yc Nc yc nc => ?_) (fun D acc H' nD sH ha r => ?_)
  · have my := List.mem_of_getElem? hy
    have sy := hys y my
    have s1a := s1.trans sa
    refine ⟨rfl, _, rfl, y, d, rfl, sy.same s1a, by rw [isPolyV_same sy s1a]; exact (maker_poly (hn y my)).1, fun g H4 us s4 ng hg R4 => yc (.ref g) H4 s4 ?_⟩
    rw [toldP_same sy s1a] at R4
    rw [takeS (show (xs.map (toldP H))[i]? = some (toldP H y) by rw [List.getElem?_map, hy]; rfl)]
    have hD4 := s4 _ _ ha
    have neg : g ≠ D := fun z => by rw [z, ha] at ng; cases ng
    exact (r.same (wo_mono s4)).snoc (s1a.free ng) (by rw [wo_ne neg]; exact hg) (RatL.wo R4 hD4)
  · rw [show xs.length = (xs.map (toldP H)).length by rw [List.length_map], List.take_length] at r
    exact q D H' acc (s1.trans sH) (s1.free nD) ha (by rw [eT]; exact r)
-- slots: numbers 0, fractions 1, bottom 2, fraction 3, number 4; cells: bottom
abbrev s_over_one_bottom : Stmt := top 18
abbrev N_over_one_bottom : List Str := ["numbers", "fractions", "bottom", "fraction", "number"]
theorem sc_over_one_bottom : FnScope N_over_one_bottom ["numbers"] (defScope s_over_one_bottom) := ⟨rfl, rfl, rfl, by decide +kernel, rfl, by decide +kernel, by decide +kernel⟩
theorem d_over_one_bottom (B : Bnd K mg "over_one_bottom" s_over_one_bottom) (M : Mg2 mg) (R : RCls K mg C fI fR) {kr : Nat} (PT : PropX P w K mg base kr C "top" (spTopR C)) (PB : PropX P w K mg base kr C "bottom" (spBotR C)) (hk : kr + 8 ≤ k) (D_as_ratio : Def P w K mg base k "as_ratio" s_as_ratio ["number"] (spAs C)) : Def P w K mg base (k + 1) "over_one_bottom" s_over_one_bottom ["numbers"] (sp_over_one C) := by
  refine def_of B sc_over_one_bottom (by rintro _ _ _ _ ⟨l, us, xs, n, m, B, rfl, _⟩; rfl) (fun _ _ _ _ _ _ us hl => match us, hl with | [_], _ => rfl) fun f cdv A outer s H vs Q E hr h => ?_
  obtain ⟨l, us, xs, n, m, B, rfl, hl, hQ, lx, bx, n4, B0, Bm, m3, dv, q⟩ := h
  have hu := hr.units
  refine ⟨_, pss_cons (ps_setLc (i := 1) (own := [("number", 4)]) (g := (gName 4)) (tt := tYes) (te := (tD _ (tCons (tVar 4) tNil))) rfl sc_over_one_bottom.nd rfl rfl (sw_true rfl rfl rfl (by decide +kernel)) (pi_list (pv 0)) (blkOk_by (own := [("number", 4)]) (N := N_over_one_bottom) (sc := defScope s_over_one_bottom) (by decide +kernel)) (fun _ _ _ _ _ => pg_name (i := 4) sc_over_one_bottom.nd rfl (.inl rfl)) (fun _ _ _ _ _ => pts_nil) (fun _ _ _ _ _ => pe_d D_as_ratio hr (by rfl) (pa_cons (pv 4) pa_nil)))
    (pss_cons (ps_set (i := 2) sc_over_one_bottom.nd rfl (.inr rfl) pe_int)
    (pss_cons (ps_for PassesOwn.never rfl (pi_list (pv 1)) (pg_name (i := 3) sc_over_one_bottom.nd rfl (.inl rfl))
      (pss_one (ps_set (i := 2) sc_over_one_bottom.nd rfl (.inr rfl) (pe_callBfun cr_lcm (by rfl) M.lcm  (pa_cons (pv 2) (pa_cons (pe_propX PB (hr.mono (by omega)) R.cl (pv 3) (by rfl)) pa_nil))))))
    (pss_one (ps_ret (pe_tup (pa_cons (pe_lc (own := [("fraction", 3)]) (g := (gName 3)) (tt := tYes) (te := (tOp _ (tProp _ _ [] E0 (tVar 3)) (tOp _ (tVar 2) (tProp _ _ [] E0 (tVar 3))))) rfl sc_over_one_bottom.nd (pi_list (pv 1)) (blkOk_by (own := [("fraction", 3)]) (N := N_over_one_bottom) (sc := defScope s_over_one_bottom) (by decide +kernel)) (fun _ _ _ _ _ => pg_name (i := 3) sc_over_one_bottom.nd rfl (.inl rfl)) (fun _ _ _ _ _ => pts_nil) (fun _ _ _ _ _ => pe_op op_mulX (pe_propX PT (hr.mono (by omega)) R.cl (pv 3) (by rfl)) (pe_op op_fdivNW (pv 2) (pe_propX PB (hr.mono (by omega)) R.cl (pv 3) (by rfl))))) (pa_cons (pv 2) pa_nil))))))), ?_⟩
  have lu := QL.len hQ
  refine ⟨_, rfl, l, rfl, ⟨us, SqL.of hl⟩, fun D nD => ?_⟩
  refine lc_rel (walk_list (K := K) (a := l) (xs := us)) (fun i acc Hh => QL C Hh acc (xs.take i)) nD (by rw [sizeLine_eq]; omega) (fun Hh sh => SqL.of (sh _ _ hl)) QL.nil (fun i acc A B s r => RatL.same r s) (fun i v acc Ha Hb hi sa ha hr hy Yc Nc yc nc => ?_) (fun acc H1 s1 hD hr => ?_)
  · obtain ⟨rfl, hv⟩ := hy
    obtain ⟨x, a, hx, rfl, rx⟩ := QL.at hQ hv
    have r1 := rx.same sa
    refine ⟨rfl, _, rfl, .ref a, _, _, rfl, r1.nq, fun m' H4 s4 rm => yc _ H4 s4 ?_⟩
    rw [takeS hx]
    exact QL.snoc (RatL.same hr (wo_mono s4)) (Rat2.wo rm (s4 _ _ ha))
  rw [lu, List.take_length] at hr
  have hF := RatL.same hr (wo_le (D := D))
  have la := QL.len hF
  refine ⟨_, rfl, D, rfl, ⟨acc, SqL.of hD⟩, ?_⟩
  refine for_list (xs := acc) (fun i σ G => ∃ (L : Nat) (o3 : Option V), σ = [some (.ref l), some (.ref D), some (.int (L : Nat)), o3, none] ∧ Same H1 G ∧ 0 < L ∧ (∀ B' : Nat, (∀ x ∈ xs, x.den ∣ B') → L ∣ B') ∧ ∀ (j : Nat) (x : Rat), j < i → xs[j]? = some x → x.den ∣ L)
    ⟨1, none, rfl, Same.refl _, by decide, fun _ _ => Nat.one_dvd _, fun j x h => absurd h (Nat.not_lt_zero _)⟩ (fun i σ G _ ⟨L, o, _, sm, _⟩ => SqL.of (sm _ _ hD)) (fun i v σ G hv ⟨L, o, e, sm, L0, LA, Ld⟩ => ?_) (fun σ G ⟨L, o, e, sm, L0, LA, Ld⟩ => ?_)
  all_goals have LB := LA B dv
  · subst e
    obtain ⟨x, a, hx, rfl, rx⟩ := QL.at hF hv
    have r1 := rx.same sm
    obtain ⟨dx, r2⟩ := id r1
    have dB := dv x (List.mem_of_getElem? hx)
    have lB := Nat.le_of_dvd B0 LB
    have dl := Nat.le_of_dvd B0 dB
    have B63 : B < 2 ^ 63 := Nat.lt_of_lt_of_le Bm (Nat.pow_le_pow_right (by decide) m3)
    obtain ⟨g1, g2, g3, g4⟩ := lcm_step LB dB L0 x.den_pos
    refine ⟨_, rfl, _, rfl, a, dx, _, rfl, r2, a, _, _, rfl, r1, (L : Int), (x.den : Int), rfl, by omega, by omega, ?_⟩
    refine ⟨Nat.lcm L x.den, _, rfl, sm, g2, fun B' h => Nat.lcm_dvd (LA B' h) (h x (List.mem_of_getElem? hx)), fun j y hj hy => ?_⟩
    by_cases e : j = i
    · subst e
      rw [hx] at hy
      obtain rfl := Option.some.inj hy
      exact g4
    · exact Nat.dvd_trans (Ld j y (by omega) hy) g3
  · subst e
    have hdv : ∀ (j : Nat) (x : Rat), xs[j]? = some x → (x.den : Int) ∣ (L : Int) := fun j x hx => by
      have := Ld j x (by have := (List.getElem?_eq_some_iff.mp hx).1; omega) hx
      exact Int.natCast_dvd_natCast.mpr this
    have Lm : LbI m (L : Int) := Nat.lt_of_le_of_lt (Nat.le_of_dvd B0 LB) Bm
    have L0' : (0 : Int) < L := by omega
    have hF2 := RatL.same hF sm
    refine ⟨_, rfl, D, rfl, ⟨acc, SqL.of (sm _ _ hD)⟩, fun E nE => ?_⟩
    refine lc_l (fun i => (xs[i]?).map fun x : Rat => V.int (x.num * (L : Int).fdiv x.den)) (SqL.of (sm _ _ hD)) nE (by rw [sizeLine_eq]; omega) (fun i v H2 hv s2 Y N y nn => ?_) (fun H2 s2 hE => ?_)
    · obtain ⟨x, a, hx, rfl, rx⟩ := QL.at hF2 hv
      have r1 := rx.same s2
      obtain ⟨dx, r2⟩ := id r1
      have bX := bx x (List.mem_of_getElem? hx)
      obtain ⟨z1, z2, z3⟩ := ownZ L0' (hdv i x hx) bX Lm
      refine ⟨rfl, _, rfl, a, dx, _, rfl, r2, a, _, _, rfl, r1, _, rfl, _, rfl, a, dx, _, rfl, r2, a, _, _, rfl, r1, (L : Int), x.den, rfl, rfl, (bX.2).div (by omega) (by have := den_pos x; omega), x.num, _, rfl, rfl, mulx_ok (show x.num.natAbs < 2 ^ _ from bX.1) (show ((L : Int).fdiv x.den).natAbs < 2 ^ _ from z3) (by omega), ?_⟩
      exact y _ _ (Same.refl _) (by show (xs[i]?).map _ = _; rw [hx]; rfl)
    · rw [la, fm_mapI] at hE
      refine ⟨_, rfl, by show 2 ≤ sizeLine; decide, fun t nt => ?_⟩
      have st := same_new (o := .tup [V.ref E, V.int (L : Int)]) nt
      refine q t E _ (L : Int) (xs.map fun x : Rat => x.num * (L : Int).fdiv x.den) (((s1.trans sm).trans s2).trans st) ((s1.trans sm).free nE) upd_same (st _ _ hE) L0' Lm ?_ (fun z hz => ?_) fun B' h => by rw [Int.natAbs_natCast]; exact LA B' h
      · unfold ratsOf
        rw [List.map_map]
        conv => rhs; rw [← List.map_id xs]
        refine List.map_congr_left fun x hx => ?_
        obtain ⟨j, hj⟩ := List.getElem?_of_mem hx
        exact (ownZ L0' (hdv j x hj) (bx x hx) Lm).1
      · obtain ⟨x, hx, rfl⟩ := List.mem_map.mp hz
        obtain ⟨j, hj⟩ := List.getElem?_of_mem hx
        exact Nat.le_of_lt (ownZ L0' (hdv j x hj) (bx x hx) Lm).2.1
end
end K21

namespace K21
open PySem PySem.Spec PyProof.Rows L2 Fp
section
variable {P : Program} {w : World} {K : PySem.W.Frag} {mg : Str → Option Value} {base : Heap} {k : Nat} {C fI fR : Addr}
/-- items that are each one of a kind -/
def Ea {α : Type} (R : Hp → V → α → Prop) (H : Hp) (us : List V) (xs : List α) : Prop := us.length = xs.length ∧ ∀ (i : Nat) (v : V), us[i]? = some v → ∃ x, xs[i]? = some x ∧ R H v x
def Mo {α : Type} (R : Hp → V → α → Prop) : Prop := ∀ H H' v x, R H v x → Same H H' → R H' v x
section
variable {α : Type} {R : Hp → V → α → Prop} {H H' : Hp} {us ws : List V} {xs ys : List α}
theorem Ea.same (h : Ea R H us xs) (m : Mo R) (e : Same H H') : Ea R H' us xs := ⟨h.1, fun i v hv => let ⟨x, h1, h2⟩ := h.2 i v hv; ⟨x, h1, m _ _ _ _ h2 e⟩⟩
theorem Ea.nil : Ea R H [] [] := ⟨rfl, fun i v h => by cases h⟩
theorem Ea.app (h : Ea R H us xs) (g : Ea R H ws ys) : Ea R H (us ++ ws) (xs ++ ys) := by
  have l := h.1
  refine ⟨by rw [List.length_append, List.length_append, h.1, g.1], fun i v hv => ?_⟩
  by_cases z : i < us.length
  · rw [List.getElem?_append_left z] at hv
    obtain ⟨x, h1, h2⟩ := h.2 i v hv
    exact ⟨x, by rw [List.getElem?_append_left (by omega)]; exact h1, h2⟩
  · rw [List.getElem?_append_right (by omega)] at hv
    obtain ⟨x, h1, h2⟩ := g.2 _ v hv
    exact ⟨x, by rw [List.getElem?_append_right (by omega), ← l]; exact h1, h2⟩
theorem Ea.one {v : V} {x : α} (h : R H v x) : Ea R H [v] [x] := ⟨rfl, fun i u hu => by
  cases i with
  | zero => obtain rfl := Option.some.inj hu; exact ⟨x, rfl, h⟩
  | succ i => cases hu⟩
theorem Ea.snoc {v : V} {x : α} (h : Ea R H us xs) (g : R H v x) : Ea R H (us ++ [v]) (xs ++ [x]) := h.app (Ea.one g)
theorem Ea.get {x : α} {i : Nat} (h : Ea R H us xs) (hx : xs[i]? = some x) : ∃ v, us[i]? = some v ∧ R H v x := by
  have l := (List.getElem?_eq_some_iff.mp hx).1
  have l2 := h.1
  have hv := List.getElem?_eq_getElem (show i < us.length by omega)
  obtain ⟨y, h1, h2⟩ := h.2 i _ hv
  rw [hx] at h1
  obtain rfl := Option.some.inj h1
  exact ⟨_, hv, h2⟩
end
/-- a part, as it may stand: first, second, number -/
abbrev PartQ := Nat × Nat × Rat
def PartR (C : Addr) (H : Hp) (v : V) (p : PartQ) : Prop := ∃ t nv, v = .ref t ∧ H t = some (.tup [.int (p.1 : Nat), .int (p.2.1 : Nat), nv]) ∧ NumQ C H nv p.2.2 ∧ okS p.2.2.num ∧ okS (p.2.2.den : Int) ∧ p.1 < 10 ^ 6 ∧ p.2.1 < 10 ^ 6
theorem PartR.mo : Mo (PartR C) := fun H H' v p ⟨t, nv, h1, h2, h3, h4⟩ e => ⟨t, nv, h1, e _ _ h2, h3.same e, h4⟩
/-- a list or a tuple of such -/
def SeqR {α : Type} (R : Hp → V → α → Prop) (H : Hp) (v : V) (xs : List α) : Prop := ∃ a us, v = .ref a ∧ (H a = some (.lst us) ∨ H a = some (.tup us)) ∧ Ea R H us xs
theorem SeqR.mo {α : Type} {R : Hp → V → α → Prop} (m : Mo R) : Mo (SeqR R) := fun H H' v p ⟨a, us, h1, h2, h3⟩ e => ⟨a, us, h1, h2.imp (e _ _) (e _ _), h3.same m e⟩
abbrev LineR (C : Addr) := SeqR (PartR C)
abbrev MakR (C : Addr) := SeqR (LineR C)
theorem seq_sq {H : Hp} {a : Addr} {us : List V} (h : H a = some (.lst us) ∨ H a = some (.tup us)) : Sq K H a us := h.elim (fun z => .inl (SqL.of z)) (fun z => .inr (SqT.of z))
theorem numq_sk {H : Hp} {v : V} {x : Rat} (h : NumQ C H v x) (h1 : okS x.num) (h2 : okS (x.den : Int)) : Sk C H 0 v ∧ isNum H v = true := by
  rcases h with ⟨rfl, _⟩ | ⟨a, rfl, r⟩
  · exact ⟨Sk.int h1, rfl⟩
  · obtain ⟨dx, r2⟩ := id r
    exact ⟨Sk.own r h1 h2 RQ.red, by unfold isNum isOwn; simp [r2]⟩
/-! ### lines among any values -/
def tupOf (H : Hp) : V → Option (List V)
  | .ref a => match H a with
    | some (.tup xs) => some xs
    | _ => none
  | _ => none
def isPosV (m : Nat) : V → Bool
  | .int i => decide (0 ≤ i) && decide (i < (m : Nat))
  | _ => false
def isPart3 (H : Hp) (m : Nat) : List V → Bool
  | [a, b, c] => (isPosV m a && isPosV m b) && isNum H c
  | _ => false
def isPartV (H : Hp) (m : Nat) (v : V) : Bool := match tupOf H v with
  | none => false
  | some xs => isPart3 H m xs
def isLineV (H : Hp) (m : Nat) (v : V) : Bool := match itemsOf H v with
  | none => false
  | some us => decide (us.length ≤ 60) && us.all (isPartV H m)
/-- any value, as a part and as a line -/
def AnyL (C : Addr) (H : Hp) (v : V) : Prop := (itemsOf H v = none ∧ ∃ d, Sk C H d v) ∨ ∃ a us, v = .ref a ∧ (H a = some (.lst us) ∨ H a = some (.tup us)) ∧ us.length ≤ 1000 ∧ ∀ u ∈ us, Sk C H 2 u
theorem tupOf_sk {H : Hp} {d : Nat} {v : V} (h : Sk C H d v) {xs : List V} (e : tupOf H v = some xs) : ∃ a, v = .ref a ∧ H a = some (.tup xs) ∧ ∀ y ∈ xs, Sk C H d y := by
  cases v with
  | ref a =>
    unfold tupOf at e
    dsimp only at e
    cases ha : H a with
    | none => rw [ha] at e; cases e
    | some o =>
      rw [ha] at e
      cases o with
      | tup ys =>
        obtain rfl := Option.some.inj e
        have i1 : itemsOf H (.ref a) = some ys := by unfold itemsOf; simp only [ha]
        obtain ⟨b, eb, hb, _, hy⟩ := h.items i1
        exact ⟨a, rfl, ha, hy⟩
      | _ => cases e
  | _ => cases e
theorem tupOf_same {H H' : Hp} {d : Nat} {v : V} (h : Sk C H d v) (e : Same H H') : tupOf H' v = tupOf H v := by
  obtain ⟨t, h, _⟩ := h
  cases h with
  | int h => rfl
  | bl b => rfl
  | non => rfl
  | str x h => rfl
  | own r h1 h2 =>
    obtain ⟨dx, r⟩ := r
    unfold tupOf
    simp only [r, e _ _ r]
  | lst h1 => unfold tupOf; simp only [h1, e _ _ h1]
  | tup h1 => unfold tupOf; simp only [h1, e _ _ h1]
  | dct h1 => unfold tupOf; simp only [h1, e _ _ h1]
  | dcl h1 => unfold tupOf; simp only [h1, e _ _ h1]
theorem isPart3_same {H H' : Hp} {m d : Nat} {xs : List V} (h : ∀ y ∈ xs, Sk C H d y) (e : Same H H') : isPart3 H' m xs = isPart3 H m xs := by
  match xs, h with
  | [], _ => rfl
  | [_], _ => rfl
  | [_, _], _ => rfl
  | [a, b, c], h =>
    show ((isPosV m a && isPosV m b) && isNum H' c) = ((isPosV m a && isPosV m b) && isNum H c)
    rw [isNum_same (h c (by simp)) e]
  | _ :: _ :: _ :: _ :: _, _ => rfl
theorem isPartV_same {H H' : Hp} {m d : Nat} {v : V} (h : Sk C H d v) (e : Same H H') : isPartV H' m v = isPartV H m v := by
  unfold isPartV
  rw [tupOf_same h e]
  cases q : tupOf H v with
  | none => rfl
  | some xs => exact isPart3_same (tupOf_sk h q).choose_spec.2.2 e
theorem items_lt {H : Hp} {a : Addr} {us : List V} (h : H a = some (.lst us) ∨ H a = some (.tup us)) : itemsOf H (.ref a) = some us := by
  unfold itemsOf
  rcases h with h | h <;> simp only [h]
theorem all_same {f g : V → Bool} : ∀ {us : List V}, (∀ u ∈ us, f u = g u) → us.all f = us.all g
  | [], _ => rfl
  | u :: us, h => by rw [List.all_cons, List.all_cons, h u List.mem_cons_self, all_same fun v hv => h v (List.mem_cons_of_mem _ hv)]
theorem AnyL.same {H H' : Hp} {v : V} (h : AnyL C H v) (e : Same H H') : AnyL C H' v ∧ ∀ m, isLineV H' m v = isLineV H m v := by
  rcases h with ⟨h1, d, h2⟩ | ⟨a, us, rfl, h1, hl, h2⟩
  · have e1 := itemsOf_same h2 e
    exact ⟨.inl ⟨by rw [e1]; exact h1, d, h2.same e⟩, fun m => by unfold isLineV; rw [e1, h1]⟩
  · have h3 := h1.imp (e _ _) (e _ _)
    refine ⟨.inr ⟨a, us, rfl, h3, hl, fun u hu => (h2 u hu).same e⟩, fun m => ?_⟩
    unfold isLineV
    rw [items_lt h1, items_lt h3]
    dsimp only
    rw [all_same fun u hu => isPartV_same (h2 u hu) e]
def sp_count (C : Addr) : Sp := fun vs H Q _ => ∃ (v : V) (d : Nat), vs = [v] ∧ Sk C H d v ∧ Ret H Q (.bl (isCnt v))
def sp_is_part (C : Addr) : Sp := fun vs H Q _ => ∃ (v : V) (m d : Nat), vs = [v, .int (m : Nat)] ∧ Sk C H d v ∧ Ret H Q (.bl (isPartV H m v))
def sp_is_line (C : Addr) : Sp := fun vs H Q _ => ∃ (v : V) (m : Nat), vs = [v, .int (m : Nat)] ∧ AnyL C H v ∧ Ret H Q (.bl (isLineV H m v))
/-- of a tuple or not -/
theorem sk_kitT {H : Hp} {d : Nat} {x : V} (h : Sk C H d x) (R : RCls K mg C fI fR) : ∃ ty, TyX K H x ty ∧ PySem.W.kitOne K ty (.type "tuple") = some (tupOf H x).isSome := by
  obtain ⟨t, h, lt⟩ := h
  cases h with
  | int h => exact ⟨_, .base (.int _), kit_ty (r := false) (by decide +kernel)⟩
  | bl b => exact ⟨_, .base (.bl _), kit_ty (r := false) (by decide +kernel)⟩
  | non => exact ⟨_, .base .non, kit_ty (r := false) (by decide +kernel)⟩
  | str x h => exact ⟨_, .base (.str _), kit_ty (r := false) (by decide +kernel)⟩
  | @own d a p q r h1 h2 _ =>
    obtain ⟨dx, r⟩ := r
    refine ⟨_, .base (.ins r R.cl R.isA R.isN R.isT R.isM), ?_⟩
    have e : (tupOf H (.ref a)).isSome = false := by unfold tupOf; simp only [r]; rfl
    rw [e]
    exact R.kT
  | @lst d a xs ts h1 h0 h2 h3 =>
    refine ⟨_, .base (.lst h1), ?_⟩
    have e : (tupOf H (.ref a)).isSome = false := by unfold tupOf; simp only [h1]; rfl
    rw [e]
    exact kit_ty (r := false) (by decide +kernel)
  | @tup d a xs ts h1 h0 h2 h3 =>
    refine ⟨_, .base (.tup h1), ?_⟩
    have e : (tupOf H (.ref a)).isSome = true := by unfold tupOf; simp only [h1]; rfl
    rw [e]
    exact kit_ty (r := true) (by decide +kernel)
  | @dct d a ds h1 h0 h2 =>
    refine ⟨_, .base (.dK h1), ?_⟩
    have e : (tupOf H (.ref a)).isSome = false := by unfold tupOf; simp only [h1]; rfl
    rw [e]
    exact kit_ty (r := false) (by decide +kernel)
  | @dcl d a b k ns h1 h2 =>
    refine ⟨_, .base (.dK h1), ?_⟩
    have e : (tupOf H (.ref a)).isSome = false := by unfold tupOf; simp only [h1]; rfl
    rw [e]
    exact kit_ty (r := false) (by decide +kernel)
theorem nlen {n : Nat} : (!decide (V.int (n : Int) = V.int 3)) = true ↔ n ≠ 3 := by
  by_cases h : n = 3
  · subst h; exact ⟨fun z => (by revert z; decide), fun z => absurd rfl z⟩
  · rw [decide_eq_false (fun e => h (by injection e; omega))]
    exact ⟨fun _ => h, fun _ => rfl⟩
-- slots: value 0; cells: 
abbrev s_is_count : Stmt := top 12
abbrev N_is_count : List Str := ["value"]
theorem sc_is_count : FnScope N_is_count ["value"] (defScope s_is_count) := ⟨rfl, rfl, rfl, by decide +kernel, rfl, by decide +kernel, by decide +kernel⟩
theorem d_is_count (B : Bnd K mg "is_count" s_is_count) (M : Mg2 mg) (R : RCls K mg C fI fR)  (D_is_integer : Def P w K mg base k "is_integer" sInteger ["value"] (spIntegerX C)) : Def P w K mg base (k + 1) "is_count" s_is_count ["value"] (sp_count C) := by
  refine def_of B sc_is_count (by rintro _ _ _ _ ⟨x, d, rfl, _⟩; rfl) (fun _ _ _ _ _ _ us hl => match us, hl with | [_], _ => rfl) fun f cdv A outer s H vs Q E hr h => ?_
  obtain ⟨x, d, rfl, hx, q⟩ := h
  have hu := hr.units
  refine ⟨_, pss_one (ps_ret (pe_and (pe_d D_is_integer hr (by rfl) (pa_cons (pv 0) pa_nil)) (pe_one (pe_cmpR op_ge (pv 0) pe_int (nomark _))))), ?_⟩
  refine ⟨_, rfl, x, d, rfl, hx, fun H1 s1 => ⟨isI x, rfl, ?_⟩⟩
  cases x with
  | int i => exact iteT ⟨_, rfl, i, 0, rfl, rfl, q H1 s1⟩
  | _ => exact iteF (q H1 s1)
-- slots: value 0, many 1, place 2; cells: many
abbrev s_is_part : Stmt := top 44
abbrev N_is_part : List Str := ["value", "many", "place"]
theorem sc_is_part : FnScope N_is_part ["value", "many"] (defScope s_is_part) := ⟨rfl, rfl, rfl, by decide +kernel, rfl, by decide +kernel, by decide +kernel⟩
theorem d_is_part (B : Bnd K mg "is_part" s_is_part) (M : Mg2 mg) (R : RCls K mg C fI fR) (J : RIsi K C)  (D_is_count : Def P w K mg base k "is_count" s_is_count ["value"] (sp_count C)) (D_is_number : Def P w K mg base k "is_number" s_is_number ["value"] (spNumberX C)) : Def P w K mg base (k + 1) "is_part" s_is_part ["value", "many"] (sp_is_part C) := by
  refine def_of B sc_is_part (by rintro _ _ _ _ ⟨v, m, d, rfl, _⟩; rfl) (fun _ _ _ _ _ _ us hl => match us, hl with | [_, _], _ => rfl) fun f cdv A outer s H vs Q E hr h => ?_
  obtain ⟨v, m, d, rfl, hp, q⟩ := h
  have hu := hr.units
  refine ⟨_, C8.pss_cut (ps_if (PW.pt (pw_or (pt_not (pt_val (pe_callB call_isi (by rfl) M.isi (by decide +kernel) (pa_cons (pv 0) (pa_cons (pe_bltn (v := .ty "tuple") (by rfl) M.tuple (by decide +kernel) rfl) pa_nil))))) (pw_or1 (pt_cmpR op_ne (pe_callB call_len_seq (by rfl) M.len boot_len (pa_cons (pv 0) pa_nil)) pe_int (nomark _)))))
      (pss_one (ps_ret pe_bl))
      (pss_nil))
    (pss_one (ps_ret (pe_and (pe_callB (cr_all rfl) (by rfl) M.all boot_all (pa_cons (pe_lc (own := [("place", 2)]) (g := (gName 2)) (tt := tYes) (te := (tAndV (tD _ (tCons (tVar 2) tNil)) (tOp _ (tVar 2) (tVar 1)))) rfl sc_is_part.nd (pi_tup (pe_slice (r := rSlT K) sl_tup (pv 0) po_none (po_some pe_int))) (blkOk_by (own := [("place", 2)]) (N := N_is_part) (sc := defScope s_is_part) (by decide +kernel)) (fun _ _ _ _ _ => pg_name (i := 2) sc_is_part.nd rfl (.inl rfl)) (fun _ _ _ _ _ => pts_nil) (fun _ _ _ _ _ => pe_and (pe_d D_is_count hr (by rfl) (pa_cons (pv 2) pa_nil)) (pe_one (pe_cmpR op_lt (pv 2) (pv 1) (nomark _))))) pa_nil)) (pe_one (pe_d D_is_number hr (by rfl) (pa_cons (pe_ix (r := rIxT K) ix_tup (pv 0) pe_int (fun _ _ => rfl)) pa_nil)))))), ?_⟩
  obtain ⟨ty, t1, t2⟩ := sk_kitT hp R
  refine ⟨fun σ' G => σ' = [some v, some (.int (m : Nat)), none] ∧ G = H ∧ ∃ t a b c, v = .ref t ∧ H t = some (.tup [a, b, c]) ∧ isPartV H m v = ((isPosV m a && isPosV m b) && isNum H c) ∧ Sk C H d a ∧ Sk C H d b ∧ Sk C H d c, ?_, ?_⟩
  · cases e : tupOf H v with
    | none =>
      rw [e] at t2
      have ev : isPartV H m v = false := by unfold isPartV; rw [e]
      rw [ev] at q
      exact ⟨_, rfl, v, _, ty, _, false, rfl, .ty _, t1, t2, false, rfl, iteT2 rfl (q H (Same.refl H))⟩
    | some xs =>
      rw [e] at t2
      obtain ⟨t, rfl, ht, hy⟩ := tupOf_sk hp e
      have ev : isPartV H m (.ref t) = isPart3 H m xs := by unfold isPartV; rw [e]
      refine ⟨_, rfl, .ref t, _, ty, _, true, rfl, .ty _, t1, t2, true, rfl, iteF2 rfl ⟨_, rfl, t, xs, rfl, .inr (SqT.of ht), rfl, _, rfl, ite2 (fun z => ?_) (fun z => ?_)⟩⟩
      · have e0 : isPart3 H m xs = false := by
          match xs, z with
          | [], _ => rfl
          | [_], _ => rfl
          | [_, _], _ => rfl
          | [a, b, c], z => exact absurd rfl (nlen.mp z)
          | _ :: _ :: _ :: _ :: _, _ => rfl
        rw [ev, e0] at q
        exact q H (Same.refl H)
      · obtain ⟨a, b, c, rfl⟩ : ∃ a b c, xs = [a, b, c] := by
          match xs, z with
          | [], z => exact absurd (nlen.mpr (by simp)) z
          | [_], z => exact absurd (nlen.mpr (by simp)) z
          | [_, _], z => exact absurd (nlen.mpr (by simp)) z
          | [a, b, c], z => exact ⟨a, b, c, rfl⟩
          | _ :: _ :: _ :: _ :: ys, z => exact absurd (nlen.mpr (by simp)) z
        exact ⟨rfl, rfl, t, a, b, c, rfl, ht, ev, hy a (by simp), hy b (by simp), hy c (by simp)⟩
  rintro _ _ ⟨rfl, rfl, t, x, y, c, rfl, ht, ev, ka, kb, kc⟩
  rename_i H
  rw [ev] at q
  refine ⟨_, rfl, 2, rfl, t, _, rfl, SqT.of ht, ncut _ _ _, fun T nT => ?_⟩
  rw [cut2]
  have sT := same_new (o := .tup [x, y]) nT
  refine ⟨T, rfl, ⟨_, SqT.of upd_same⟩, fun D nD => ?_⟩
  refine lc_rel (walk_tup (K := K) (a := T) (xs := [x, y])) (fun i acc Hh => acc = ([x, y].take i).map fun z => V.bl (isPosV m z)) nD (by rw [sizeLine_eq]; show 2 ≤ _; decide) (fun Hh sh => SqT.of (sh _ _ upd_same)) rfl (fun i acc A B e r => r) (fun i z acc Ha Hb hi sa hA hr hy Yc Nc yc nc => ?_) (fun acc G2 s2 hD hr => ?_)
  · obtain ⟨rfl, hz⟩ := hy
    have kz : Sk C Hb d z := by
      refine Sk.same ?_ (sT.trans sa)
      match i, hi, hz with
      | 0, _, hx => obtain rfl := Option.some.inj hx; exact ka
      | 1, _, hx => obtain rfl := Option.some.inj hx; exact kb
    refine ⟨rfl, _, rfl, z, d, rfl, kz, fun H1 s1 => ⟨isCnt z, rfl, ?_⟩⟩
    have fin : Yc (V.bl (isPosV m z)) H1 := yc _ H1 s1 (by
      rw [hr]
      match i, hi, hz with
      | 0, _, hx => obtain rfl := Option.some.inj hx; rfl
      | 1, _, hx => obtain rfl := Option.some.inj hx; rfl)
    cases z with
    | int j =>
      by_cases y : 0 ≤ j
      · refine iteT2 (decide_eq_true y) ⟨_, rfl, _, rfl, _, _, rfl, rfl, ?_⟩
        have e : isPosV m (.int j) = decide (j < (m : Nat)) := by show (decide _ && decide _) = _; rw [decide_eq_true y, Bool.true_and]
        show Yc (V.bl (decide (j < ((m : Nat) : Int)))) H1
        rw [← e]; exact fin
      · refine iteF2 (decide_eq_false y) ?_
        have e : isPosV m (.int j) = false := by show (decide _ && decide _) = _; rw [decide_eq_false y, Bool.false_and]
        rw [← e]; exact fin
    | _ => exact iteF2 rfl fin
  · have s12 := sT.trans s2
    have hD : G2 D = some (.lst (([x, y].map fun z => isPosV m z).map V.bl)) := by rw [hD, hr]; rfl
    refine ⟨D, _, rfl, SqL.of hD, ⟨_, rfl, ?_⟩⟩
    have ea : ([x, y].map fun z => isPosV m z).all id = (isPosV m x && isPosV m y) := by simp
    rw [ea]
    cases eb : (isPosV m x && isPosV m y) with
    | false => rw [eb] at q; exact iteF2 rfl (q G2 s12)
    | true =>
      rw [eb, Bool.true_and] at q
      refine iteT2 rfl ⟨_, rfl, t, _, 2, c, rfl, rfl, SqT.of (s12 _ _ ht), rfl, c, d, rfl, kc.same s12, fun H2 s3 => ?_⟩
      rw [isNum_same kc s12]
      exact q H2 (s12.trans s3)
-- slots: value 0, many 1, part 2; cells: many
abbrev s_is_line : Stmt := top 43
abbrev N_is_line : List Str := ["value", "many", "part"]
theorem sc_is_line : FnScope N_is_line ["value", "many"] (defScope s_is_line) := ⟨rfl, rfl, rfl, by decide +kernel, rfl, by decide +kernel, by decide +kernel⟩
theorem d_is_line (B : Bnd K mg "is_line" s_is_line) (M : Mg2 mg) (R : RCls K mg C fI fR)  (D_is_list : Def P w K mg base k "is_list" sList ["value"] (spListX C)) (D_is_part : Def P w K mg base k "is_part" s_is_part ["value", "many"] (sp_is_part C)) : Def P w K mg base (k + 1) "is_line" s_is_line ["value", "many"] (sp_is_line C) := by
  refine def_of B sc_is_line (by rintro _ _ _ _ ⟨v, m, rfl, _⟩; rfl) (fun _ _ _ _ _ _ us hl => match us, hl with | [_, _], _ => rfl) fun f cdv A outer s H vs Q E hr h => ?_
  obtain ⟨v, m, rfl, hp, q⟩ := h
  have hu := hr.units
  obtain ⟨t_MOST_PARTS, m_MOST_PARTS⟩ := M.MOST_PARTS
  refine ⟨_, pss_one (ps_ret (pe_and (pe_d D_is_list hr (by rfl) (pa_cons (pv 0) pa_nil)) (pe_and (pe_cmpR op_le (pe_callB call_len_seq (by rfl) M.len boot_len (pa_cons (pv 0) pa_nil)) (pe_glob (v := .int 60) (by rfl) m_MOST_PARTS ⟨_, rfl⟩) (nomark _)) (pe_one (pe_callB (cr_all rfl) (by rfl) M.all boot_all (pa_cons (pe_lc (own := [("part", 2)]) (g := (gName 2)) (tt := tYes) (te := (tD _ (tCons (tVar 2) (tCons (tVar 1) tNil)))) rfl sc_is_line.nd (pi_sq (pv 0)) (blkOk_by (own := [("part", 2)]) (N := N_is_line) (sc := defScope s_is_line) (by decide +kernel)) (fun _ _ _ _ _ => pg_name (i := 2) sc_is_line.nd rfl (.inl rfl)) (fun _ _ _ _ _ => pts_nil) (fun _ _ _ _ _ => pe_d D_is_part hr (by rfl) (pa_cons (pv 2) (pa_cons (pv 1) pa_nil)))) pa_nil)))))), ?_⟩
  rcases hp with ⟨hi, d, hk⟩ | ⟨a, us, rfl, ha, hl, hu⟩
  · have ev : isLineV H m v = false := by unfold isLineV; rw [hi]
    rw [ev] at q
    exact ⟨_, rfl, v, rfl, .inl ⟨d, hk, fun H1 s1 => ⟨(itemsOf H v).isSome, rfl, by rw [hi]; exact iteF (q H1 s1)⟩⟩⟩
  have ev : isLineV H m (.ref a) = (decide (us.length ≤ 60) && us.all (isPartV H m)) := by unfold isLineV; rw [items_lt ha]
  rw [ev] at q
  refine ⟨_, rfl, .ref a, rfl, .inr ⟨a, us, rfl, ha, fun H1 s1 => ⟨true, rfl, iteT2 rfl ?_⟩⟩⟩
  refine ⟨_, rfl, a, us, rfl, (seq_sq (ha.imp (s1 _ _) (s1 _ _))), _, _, rfl, rfl, _, rfl, ite2 (fun z => ?_) (fun z => ?_)⟩
  · have z2 := of_decide_eq_true z
    rw [decide_eq_true (show us.length ≤ 60 by omega), Bool.true_and] at q
    dsimp only [tCB, tCons, tNil]
    refine lc_sq (a := a) (xs := us) (fun i => (us[i]?).map fun u => V.bl (isPartV H m u)) (fun R r => ⟨_, rfl, r⟩) (seq_sq (ha.imp (s1 _ _) (s1 _ _))) (by rw [sizeLine_eq]; omega) (fun i y H4 hy s4 Y N yy nn => ?_) (fun D H4 s4 hD hD2 => ?_)
    · have ky := hu y (List.mem_of_getElem? hy)
      refine ⟨rfl, _, rfl, _, rfl, y, m, 2, rfl, ky.same (s1.trans s4), fun H5 s5 => yy _ _ s5 ?_⟩
      rw [isPartV_same ky (s1.trans s4)]
      show (us[i]?).map _ = _
      rw [hy]; rfl
    · rw [fm_bl us fun u => isPartV H m u] at hD2
      refine ⟨D, _, rfl, SqL.of hD2, ?_⟩
      have e : (us.map fun u => isPartV H m u).all id = us.all (isPartV H m) := by rw [List.all_map]; rfl
      rw [e]
      exact q H4 (s1.trans s4)
  · have z2 : ¬ us.length ≤ 60 := fun y => z (decide_eq_true (by omega))
    rw [decide_eq_false z2, Bool.false_and] at q
    exact q H1 s1
end
end K21

namespace Fp
/-! ### a line of a making as polynomials -/
abbrev PtQ := Nat × Nat × Rat
def stq (st : List (List Rat)) (j : Nat) : List Rat := (st[j]?).getD []
def lineF (st : List (List Rat)) (ln : List PtQ) : List Rat := ln.foldl (fun acc p => plusQ p.2.2 acc (timesQ (stq st p.1) (stq st p.2.1))) []
def lineQ (st : List (List Rat)) (ln : List PtQ) : List Rat := trimQ (lineF st ln)
def sumC (st : List (List Rat)) (ln : List PtQ) (n : Nat) : Rat := ln.foldl (fun acc p => acc + p.2.2 * prodc (stq st p.1) (co (stq st p.2.1)) n) 0
theorem lineF_snoc (st : List (List Rat)) (ln : List PtQ) (p : PtQ) : lineF st (ln ++ [p]) = plusQ p.2.2 (lineF st ln) (timesQ (stq st p.1) (stq st p.2.1)) := by unfold lineF; rw [List.foldl_append]; rfl
theorem sumC_snoc (st : List (List Rat)) (ln : List PtQ) (p : PtQ) (n : Nat) : sumC st (ln ++ [p]) n = sumC st ln n + p.2.2 * prodc (stq st p.1) (co (stq st p.2.1)) n := by unfold sumC; rw [List.foldl_append]; rfl
theorem lineF_co (st : List (List Rat)) (n : Nat) : ∀ ln, co (lineF st ln) n = sumC st ln n :=
  snoc_ind rfl fun A p ih => by rw [lineF_snoc, plusQ_co, timesQ_co, sumC_snoc, ih]
theorem lineQ_co (st : List (List Rat)) (ln : List PtQ) (n : Nat) : co (lineQ st ln) n = sumC st ln n := by unfold lineQ; rw [trimQ_co, lineF_co]
theorem lineQ_told (st : List (List Rat)) (ln : List PtQ) : Told (lineQ st ln) := trimQ_told _
/-- a part that counts: first, second, top, below -/
abbrev Pt4 := Nat × Nat × Int × Nat
def sumP (F : Nat → List Int) (ps : List Pt4) (n : Nat) : Rat := ps.foldl (fun acc p => acc + (p.2.2.1 : Rat) / ((p.2.2.2 : Nat) : Rat) * (((mulL (F p.1) (F p.2.1)).getD n 0 : Int) : Rat)) 0
theorem sumP_snoc (F : Nat → List Int) (ps : List Pt4) (p : Pt4) (n : Nat) : sumP F (ps ++ [p]) n = sumP F ps n + (p.2.2.1 : Rat) / ((p.2.2.2 : Nat) : Rat) * (((mulL (F p.1) (F p.2.1)).getD n 0 : Int) : Rat) := by unfold sumP; rw [List.foldl_append]; rfl
def even4 (L : Nat) (p : Pt4) : Part := (p.1, p.2.1, p.2.2.1 * (((L / p.2.2.2 : Nat)) : Int))
theorem even_sum {F : Nat → List Int} {L : Nat} (L0 : 0 < L) (n : Nat) : ∀ ps : List Pt4, (∀ p ∈ ps, p.2.2.2 ∣ L) → co (ratsOf (L : Int) (linL F (ps.map (even4 L)))) n = sumP F ps n :=
  snoc_ind (fun _ => by rw [co_rats]; show ((0 : Int) : Rat) / _ = 0; rw [Rat.intCast_zero, Rat.div_def, Rat.zero_mul]) fun A p ih h => by
    have h1 := ih fun q hq => h q (List.mem_append_left _ hq)
    obtain ⟨c, hc⟩ := h p (List.mem_append_right _ (List.mem_singleton.mpr rfl))
    rw [sumP_snoc, ← h1, co_rats, co_rats, List.map_append]
    show ((((linL F (A.map (even4 L) ++ [even4 L p])).getD n 0 : Int)) : Rat) / _ = _
    rw [linL_snoc, addL_at, smL_at, Rat.intCast_add, Rat.intCast_mul]
    have b0 : p.2.2.2 ≠ 0 := fun z => by rw [z, Nat.zero_mul] at hc; omega
    have c0 : c ≠ 0 := fun z => by rw [z, Nat.mul_zero] at hc; omega
    have e : L / p.2.2.2 = c := by rw [hc]; exact Nat.mul_div_cancel_left c (Nat.pos_of_ne_zero b0)
    show (_ + ((p.2.2.1 * (((L / p.2.2.2 : Nat)) : Int) : Int) : Rat) * (((mulL (F p.1) (F p.2.1)).getD n 0 : Int) : Rat)) / (((L : Nat) : Int) : Rat) = _
    have hb : ((p.2.2.2 : Nat) : Rat) ≠ 0 := by exact_mod_cast b0
    have hcq : ((c : Nat) : Rat) ≠ 0 := by exact_mod_cast c0
    have eL : (((L : Nat) : Int) : Rat) = ((p.2.2.2 : Nat) : Rat) * ((c : Nat) : Rat) := by rw [hc]; push_cast; rfl
    rw [e, Rat.intCast_mul, eL]
    have ec : (((c : Nat) : Int) : Rat) = ((c : Nat) : Rat) := rfl
    rw [ec]
    generalize ((p.2.2.2 : Nat) : Rat) = x at *
    generalize ((c : Nat) : Rat) = y at *
    simp only [Rat.div_def, Rat.inv_mul_rev]
    have hy : y * y⁻¹ = 1 := Rat.mul_inv_cancel _ hcq
    grind
theorem part_own {c : Rat} {b1 b2 : Nat} (h1 : b1 ≠ 0) (h2 : b2 ≠ 0) (xs ys : List Int) (n : Nat) :
    (c.num : Rat) / (((c.den * b1 * b2 : Nat)) : Rat) * (((mulL xs ys).getD n 0 : Int) : Rat) = c * prodc (ratsOf (b1 : Int) xs) (co (ratsOf (b2 : Int) ys)) n := by
  have g1 : (b1 : Int) ≠ 0 := by omega
  have g2 : (b2 : Int) ≠ 0 := by omega
  rw [← mulL_co g1 g2]
  have e1 : (((c.den * b1 * b2 : Nat)) : Rat) = (c.den : Rat) * ((b1 : Nat) : Rat) * ((b2 : Nat) : Rat) := by push_cast; rfl
  have e2 : (((b1 : Int) * (b2 : Int) : Int) : Rat) = ((b1 : Nat) : Rat) * ((b2 : Nat) : Rat) := by push_cast; rfl
  have e3 : (c.num : Rat) / (c.den : Rat) = c := by
    have := Rat.divInt_eq_div c.num (c.den : Int)
    rw [Rat.num_divInt_den] at this
    exact this.symm
  rw [e1, e2]
  conv => rhs; rw [← e3]
  generalize ((b1 : Nat) : Rat) = x
  generalize ((b2 : Nat) : Rat) = y
  simp only [Rat.div_def, Rat.inv_mul_rev]
  grind
/-- what is kept of a polynomial: whole tops over the least bottom -/
def Worth (p : List Rat) (ts : List Int) (bo : Nat) : Prop := 0 < bo ∧ ratsOf (bo : Int) ts = p ∧ ∀ B : Nat, (∀ x ∈ p, x.den ∣ B) → bo ∣ B
theorem Worth.len {p : List Rat} {ts : List Int} {bo : Nat} (h : Worth p ts bo) : ts.length = p.length := by rw [← h.2.1, ratsOf_len]
theorem Worth.nil {p : List Rat} {ts : List Int} {bo : Nat} (h : Worth p ts bo) : ts = [] ↔ p = [] := by
  rw [← List.length_eq_zero_iff, ← List.length_eq_zero_iff, h.len]
theorem Sc.den {D M : Nat} {x : Rat} (h : Sc (D : Int) M x) (d0 : 0 < D) : x.den ∣ D := by
  obtain ⟨z, rfl, _⟩ := h
  rw [← Rat.divInt_eq_div, Rat.den_divInt, if_neg (by omega)]
  exact Nat.div_dvd_of_dvd (Nat.gcd_dvd_left D z.natAbs)
theorem Worth.dvd {p : List Rat} {ts : List Int} {bo D M : Nat} (h : Worth p ts bo) (s : AllS (D : Int) M p) (d0 : 0 < D) : bo ∣ D := h.2.2 D fun x hx => (s x hx).den d0
theorem Worth.size {p : List Rat} {ts : List Int} {bo D M : Nat} (h : Worth p ts bo) (s : AllS (D : Int) M p) (d0 : 0 < D) : ∀ t ∈ ts, t.natAbs ≤ M := fun t ht => by
  obtain ⟨b0, hp, _⟩ := id h
  have hx : (t : Rat) / ((bo : Int) : Rat) ∈ p := by rw [← hp]; exact List.mem_map.mpr ⟨t, ht, rfl⟩
  obtain ⟨z, e, hz⟩ := s _ hx
  obtain ⟨c, hc⟩ := h.dvd s d0
  have bq : ((bo : Nat) : Rat) ≠ 0 := by exact_mod_cast (show bo ≠ 0 by omega)
  have c0 : c ≠ 0 := fun z => by rw [z, Nat.mul_zero] at hc; omega
  have cq : ((c : Nat) : Rat) ≠ 0 := by exact_mod_cast c0
  have eD : (((D : Nat) : Int) : Rat) = ((bo : Nat) : Rat) * ((c : Nat) : Rat) := by rw [hc]; push_cast; rfl
  have e2 : (t : Rat) * ((c : Nat) : Rat) = (z : Rat) := by
    rw [eD] at e
    have eb : (((bo : Nat) : Int) : Rat) = ((bo : Nat) : Rat) := rfl
    rw [eb] at e
    generalize ((bo : Nat) : Rat) = x at *
    generalize ((c : Nat) : Rat) = y at *
    simp only [Rat.div_def, Rat.inv_mul_rev] at e
    have hx : x * x⁻¹ = 1 := Rat.mul_inv_cancel _ bq
    have hy : y * y⁻¹ = 1 := Rat.mul_inv_cancel _ cq
    have h3 : (t : Rat) = (t : Rat) * x⁻¹ * x := by grind
    rw [h3, e]
    grind
  have e3 : t * (c : Int) = z := by exact_mod_cast e2
  rw [← e3, Int.natAbs_mul, Int.natAbs_natCast] at hz
  have := Nat.le_mul_of_pos_right t.natAbs (Nat.pos_of_ne_zero c0)
  omega
theorem worth_low {xs ys : List Int} {b b' g : Int} (b0 : 0 < b) (g0 : 0 < g) (b1 : 0 < b') (hb : b = b' * g) (hx : xs = ys.map (· * g)) (hm : ∀ E : Int, (∀ x ∈ xs, b ∣ x * E) → b' ∣ E) : Worth (ratsOf b xs) ys b'.natAbs := by
  have bn : ((b'.natAbs : Nat) : Int) = b' := by omega
  have bq : (b : Rat) ≠ 0 := by exact_mod_cast (show b ≠ 0 by omega)
  refine ⟨by omega, ?_, fun B h => ?_⟩
  · rw [bn, hx]
    unfold ratsOf
    rw [List.map_map]
    refine List.map_congr_left fun y _ => ?_
    show (y : Rat) / (b' : Rat) = ((y * g : Int) : Rat) / (b : Rat)
    have gq : (g : Rat) ≠ 0 := by exact_mod_cast (show g ≠ 0 by omega)
    rw [hb, Rat.intCast_mul, Rat.intCast_mul]
    have hg : (g : Rat) * (g : Rat)⁻¹ = 1 := Rat.mul_inv_cancel _ gq
    simp only [Rat.div_def, Rat.inv_mul_rev]
    grind
  · have : b' ∣ (B : Int) := hm B fun x hx => by
      have hd := h ((x : Rat) / (b : Rat)) (List.mem_map.mpr ⟨x, hx, rfl⟩)
      generalize hq : (x : Rat) / (b : Rat) = q at hd
      obtain ⟨c, hc⟩ := hd
      have e1 : (q.num : Rat) / (q.den : Rat) = q := by
        have := Rat.divInt_eq_div q.num (q.den : Int)
        rw [Rat.num_divInt_den] at this
        exact this.symm
      have dq : ((q.den : Nat) : Rat) ≠ 0 := by exact_mod_cast q.den_nz
      have e2 : (x : Rat) * ((q.den : Nat) : Rat) = (q.num : Rat) * (b : Rat) := by
        have hd : ((q.den : Nat) : Rat) * ((q.den : Nat) : Rat)⁻¹ = 1 := Rat.mul_inv_cancel _ dq
        have hb : (b : Rat) * (b : Rat)⁻¹ = 1 := Rat.mul_inv_cancel _ bq
        rw [← e1] at hq
        simp only [Rat.div_def] at hq
        have h3 : (x : Rat) = (x : Rat) * (b : Rat)⁻¹ * (b : Rat) := by grind
        rw [h3, hq]
        grind
      have e3 : x * (q.den : Int) = q.num * b := by exact_mod_cast e2
      refine ⟨q.num * c, ?_⟩
      rw [hc, Int.natCast_mul, ← Int.mul_assoc, e3]
      grind
    rw [← bn] at this
    exact Int.natCast_dvd_natCast.mp this
theorem line_low {st : List (List Rat)} {ln : List PtQ} {F : Nat → List Int} {ps : List Pt4} {L : Nat} (L0 : 0 < L) (hd : ∀ p ∈ ps, p.2.2.2 ∣ L) (hs : ∀ n, sumP F ps n = sumC st ln n) : ratsOf (L : Int) (trimI (linL F (ps.map (even4 L)))) = lineQ st ln := by
  have l0 : (L : Int) ≠ 0 := by omega
  refine told_ext (told_trim l0 _) (lineQ_told _ _) fun n => ?_
  rw [ratsOf_trim l0, trimQ_co, even_sum L0 n ps hd, hs, lineQ_co]
theorem sum_step {st : List (List Rat)} {ln : List PtQ} {F : Nat → List Int} {ps : List Pt4} {p : PtQ} {b1 b2 n : Nat} (hs : sumP F ps n = sumC st ln n) (h1 : b1 ≠ 0) (h2 : b2 ≠ 0) (e1 : ratsOf (b1 : Int) (F p.1) = stq st p.1) (e2 : ratsOf (b2 : Int) (F p.2.1) = stq st p.2.1) : sumP F (ps ++ [(p.1, p.2.1, p.2.2.num, p.2.2.den * b1 * b2)]) n = sumC st (ln ++ [p]) n := by
  rw [sumP_snoc, sumC_snoc, hs, ← e1, ← e2]
  congr 1
  exact part_own h1 h2 _ _ n
theorem sum_skip {st : List (List Rat)} {ln : List PtQ} {F : Nat → List Int} {ps : List Pt4} {p : PtQ} {n : Nat} (hs : sumP F ps n = sumC st ln n) (h : p.2.2 = 0 ∨ stq st p.1 = [] ∨ stq st p.2.1 = []) : sumP F ps n = sumC st (ln ++ [p]) n := by
  rw [sumC_snoc, hs]
  have : p.2.2 * prodc (stq st p.1) (co (stq st p.2.1)) n = 0 := by
    rcases h with h | h | h
    · rw [h, Rat.zero_mul]
    · rw [h, prodc_nil_left, Rat.mul_zero]
    · rw [h, prodc_nil_right, Rat.mul_zero]
  rw [this, Rat.add_zero]
/-! ### a making's stock -/
def stockQ (ms : List (List Rat)) (mk : List (List PtQ)) : List (List Rat) := mk.foldl (fun st ln => st ++ [lineQ st ln]) ([1] :: ms)
def linesQ (ms : List (List Rat)) (mk : List (List PtQ)) : List (List Rat) := (stockQ ms mk).drop (ms.length + 1)
theorem stockQ_snoc (ms : List (List Rat)) (mk : List (List PtQ)) (ln : List PtQ) : stockQ ms (mk ++ [ln]) = stockQ ms mk ++ [lineQ (stockQ ms mk) ln] := by unfold stockQ; rw [List.foldl_append]; rfl
theorem stockQ_nil (ms : List (List Rat)) : stockQ ms [] = [1] :: ms := rfl
theorem stockQ_len (ms : List (List Rat)) : ∀ mk : List (List PtQ), (stockQ ms mk).length = ms.length + 1 + mk.length :=
  snoc_ind rfl fun A x ih => by rw [stockQ_snoc, List.length_append, ih, List.length_append]; rfl
theorem stockQ_app (ms : List (List Rat)) (A : List (List PtQ)) : ∀ B : List (List PtQ), ∃ t, stockQ ms (A ++ B) = stockQ ms A ++ t :=
  snoc_ind ⟨[], by rw [List.append_nil, List.append_nil]⟩ fun B x ⟨t, ht⟩ => ⟨t ++ [lineQ (stockQ ms (A ++ B)) x], by rw [← List.append_assoc, stockQ_snoc, ht, List.append_assoc]⟩
theorem stockQ_take (ms : List (List Rat)) (mk : List (List PtQ)) (i : Nat) : stockQ ms (mk.take i) = (stockQ ms mk).take (ms.length + 1 + min i mk.length) := by
  obtain ⟨t, ht⟩ := stockQ_app ms (mk.take i) (mk.drop i)
  rw [List.take_append_drop] at ht
  rw [ht, List.take_append_of_le_length (by rw [stockQ_len, List.length_take]; omega)]
  exact (List.take_of_length_le (by rw [stockQ_len, List.length_take]; omega)).symm
theorem stockQ_mem {ms : List (List Rat)} {mk : List (List PtQ)} {i : Nat} {p : List Rat} (h : p ∈ stockQ ms (mk.take i)) : p ∈ stockQ ms mk := by
  rw [stockQ_take] at h; exact List.mem_of_mem_take h
theorem stockQ_at {ms : List (List Rat)} {mk : List (List PtQ)} {i : Nat} {ln : List PtQ} (h : mk[i]? = some ln) : (stockQ ms mk)[ms.length + 1 + i]? = some (lineQ (stockQ ms (mk.take i)) ln) := by
  have l := (List.getElem?_eq_some_iff.mp h).1
  have e : mk.take (i + 1) = mk.take i ++ [ln] := by
    rw [List.take_add_one, h]; rfl
  have q := stockQ_take ms mk (i + 1)
  rw [e, stockQ_snoc] at q
  have g : (stockQ ms (mk.take i) ++ [lineQ (stockQ ms (mk.take i)) ln])[ms.length + 1 + i]? = some (lineQ (stockQ ms (mk.take i)) ln) := by
    rw [List.getElem?_append_right (by rw [stockQ_len, List.length_take]; omega), stockQ_len, List.length_take, show ms.length + 1 + i - (ms.length + 1 + min i mk.length) = 0 by omega]; rfl
  rw [q, List.getElem?_take_of_lt (by omega)] at g
  exact g
theorem stockQ_told {ms : List (List Rat)} (h : ∀ p ∈ ms, Told p) : ∀ mk : List (List PtQ), ∀ p ∈ stockQ ms mk, Told p :=
  snoc_ind (fun p hp => by
    rcases List.mem_cons.mp hp with e | e
    · rw [e]; intro z hz; obtain rfl := Option.some.inj hz; exact by decide
    · exact h p e) fun A x ih p hp => by
    rw [stockQ_snoc] at hp
    rcases List.mem_append.mp hp with e | e
    · exact ih p e
    · rw [List.mem_singleton.mp e]; exact lineQ_told _ _
theorem linesQ_len (ms : List (List Rat)) (mk : List (List PtQ)) : (linesQ ms mk).length = mk.length := by unfold linesQ; rw [List.length_drop, stockQ_len]; omega
theorem linesQ_at {ms : List (List Rat)} {mk : List (List PtQ)} {i : Nat} {ln : List PtQ} (h : mk[i]? = some ln) : (linesQ ms mk)[i]? = some (lineQ (stockQ ms (mk.take i)) ln) := by
  unfold linesQ; rw [List.getElem?_drop]; exact stockQ_at h
theorem worth_one : Worth [1] [1] 1 := ⟨by decide, by
  show [((1 : Int) : Rat) / (((1 : Nat) : Int) : Rat)] = [1]
  rw [show (((1 : Nat) : Int)) = (1 : Int) from rfl, Rat.intCast_one, Rat.div_def, Rat.inv_eq_of_mul_eq_one (Rat.mul_one 1), Rat.mul_one], fun B _ => Nat.one_dvd B⟩
/-! ### makings put together -/
def movedN (p m f : Nat) : Nat := if m < p then p + f else p
def movedP (m f : Nat) (p : PtQ) : PtQ := (movedN p.1 m f, movedN p.2.1 m f, p.2.2)
def movedL (m f : Nat) (mk : List (List PtQ)) : List (List PtQ) := mk.map fun ln => ln.map (movedP m f)
theorem movedL_zero (m : Nat) (mk : List (List PtQ)) : movedL m 0 mk = mk := by
  have e : movedP m 0 = id := funext fun p => by
    unfold movedP movedN
    by_cases h1 : m < p.1 <;> by_cases h2 : m < p.2.1 <;> simp [h1, h2]
  unfold movedL
  rw [e]
  simp
theorem movedL_len (m f : Nat) (mk : List (List PtQ)) : (movedL m f mk).length = mk.length := List.length_map _
theorem lineF_moved {st st' : List (List Rat)} {m f : Nat} : ∀ ln : List PtQ, (∀ p ∈ ln, stq st' (movedN p.1 m f) = stq st p.1 ∧ stq st' (movedN p.2.1 m f) = stq st p.2.1) → lineF st' (ln.map (movedP m f)) = lineF st ln :=
  snoc_ind (fun _ => rfl) fun A p ih h => by
    obtain ⟨h1, h2⟩ := h p (List.mem_append_right _ (List.mem_singleton.mpr rfl))
    rw [List.map_append]
    show lineF st' (A.map (movedP m f) ++ [movedP m f p]) = _
    rw [lineF_snoc, lineF_snoc, ih fun q hq => h q (List.mem_append_left _ hq)]
    show plusQ p.2.2 _ (timesQ (stq st' (movedN p.1 m f)) (stq st' (movedN p.2.1 m f))) = _
    rw [h1, h2]
theorem stock_head {ms : List (List Rat)} (mk : List (List PtQ)) : stockQ ms mk = ([1] :: ms) ++ linesQ ms mk := by
  obtain ⟨t, ht⟩ := stockQ_app ms [] mk
  rw [List.nil_append, stockQ_nil] at ht
  unfold linesQ
  rw [ht]
  congr 1
  rw [List.drop_left' (by rfl)]
theorem stock_join {ms : List (List Rat)} {one : List (List PtQ)} : ∀ other : List (List PtQ), (∀ (i : Nat) (ln : List PtQ), other[i]? = some ln → ∀ p ∈ ln, p.1 < ms.length + 1 + i ∧ p.2.1 < ms.length + 1 + i) →
    stockQ ms (one ++ movedL ms.length one.length other) = stockQ ms one ++ linesQ ms other :=
  snoc_ind (fun _ => by
    show stockQ ms (one ++ []) = stockQ ms one ++ linesQ ms []
    have e : linesQ ms [] = [] := List.eq_nil_of_length_eq_zero (linesQ_len ms [])
    rw [e, List.append_nil, List.append_nil]) fun A ln ih h => by
    have ih := ih fun i l hl => h i l (by rw [List.getElem?_append_left (List.getElem?_eq_some_iff.mp hl).1]; exact hl)
    have hp := h A.length ln (by rw [List.getElem?_append_right (Nat.le_refl _), Nat.sub_self]; rfl)
    have e1 : movedL ms.length one.length (A ++ [ln]) = movedL ms.length one.length A ++ [ln.map (movedP ms.length one.length)] := by unfold movedL; rw [List.map_append]; rfl
    have e2 : linesQ ms (A ++ [ln]) = linesQ ms A ++ [lineQ (stockQ ms A) ln] := by
      unfold linesQ
      rw [stockQ_snoc, List.drop_append_of_le_length (by rw [stockQ_len]; omega)]
    rw [e1, e2, ← List.append_assoc, stockQ_snoc, ih, ← List.append_assoc]
    congr 2
    unfold lineQ
    rw [lineF_moved ln]
    have key : ∀ q, q < ms.length + 1 + A.length → stq (stockQ ms one ++ linesQ ms A) (movedN q ms.length one.length) = stq (stockQ ms A) q := fun q hq => by
      unfold stq movedN
      congr 1
      by_cases z : ms.length < q
      · rw [if_pos z, List.getElem?_append_right (by rw [stockQ_len]; omega), stockQ_len]
        unfold linesQ
        rw [List.getElem?_drop]
        congr 1; omega
      · rw [if_neg z, List.getElem?_append_left (by rw [stockQ_len]; omega), stock_head one, stock_head A, List.getElem?_append_left (by simp; omega), List.getElem?_append_left (by simp; omega)]
    exact fun p hpm => ⟨key _ (hp p hpm).1, key _ (hp p hpm).2⟩
/-- what sum_making tells -/
def joinQ (m : Nat) (one other : List (List PtQ)) (c : Rat) : List (List PtQ) := one ++ movedL m one.length other ++ [[(m + one.length, 0, 1), (m + one.length + other.length, 0, c)]]
theorem prodc_unit (xs : List Rat) (n : Nat) : prodc xs (co [1]) n = co xs n := by
  rw [prodc_one xs 1 [1] fun i => by
    unfold single
    by_cases z : i = 0
    · rw [if_pos z, z]; rfl
    · rw [if_neg z, co_out (by simp; omega)], Rat.mul_one]
theorem join_lines {ms : List (List Rat)} {one other : List (List PtQ)} {c : Rat} {p q : List Rat} (h : ∀ (i : Nat) (ln : List PtQ), other[i]? = some ln → ∀ p ∈ ln, p.1 < ms.length + 1 + i ∧ p.2.1 < ms.length + 1 + i)
    (h1 : (linesQ ms one).getLast? = some p) (h2 : (linesQ ms other).getLast? = some q) : linesQ ms (joinQ ms.length one other c) = linesQ ms one ++ linesQ ms other ++ [trimQ (plusQ c p q)] := by
  have o1 : 1 ≤ one.length := by
    rw [← linesQ_len ms one]
    cases e : linesQ ms one with
    | nil => rw [e] at h1; cases h1
    | cons x xs => simp
  have o2 : 1 ≤ other.length := by
    rw [← linesQ_len ms other]
    cases e : linesQ ms other with
    | nil => rw [e] at h2; cases h2
    | cons x xs => simp
  have hs := stock_join (one := one) other h
  have e0 : stockQ ms (joinQ ms.length one other c) = stockQ ms one ++ linesQ ms other ++ [trimQ (plusQ c p q)] := by
    unfold joinQ
    rw [stockQ_snoc, hs]
    congr 2
    refine told_ext (lineQ_told _ _) (trimQ_told _) fun n => ?_
    rw [lineQ_co, trimQ_co, plusQ_co]
    have l1 := linesQ_len ms one
    have l2 := linesQ_len ms other
    have a0 : stq (stockQ ms one ++ linesQ ms other) 0 = [1] := by
      unfold stq; rw [stock_head one]; rfl
    have a1 : stq (stockQ ms one ++ linesQ ms other) (ms.length + one.length) = p := by
      unfold stq
      rw [List.getElem?_append_left (by rw [stockQ_len]; omega), stock_head one, List.getElem?_append_right (by simp; omega)]
      rw [List.getLast?_eq_getElem?, l1] at h1
      rw [show ms.length + one.length - ([1] :: ms).length = one.length - 1 by simp; omega, h1]; rfl
    have a2 : stq (stockQ ms one ++ linesQ ms other) (ms.length + one.length + other.length) = q := by
      unfold stq
      rw [List.getElem?_append_right (by rw [stockQ_len]; omega), stockQ_len]
      rw [List.getLast?_eq_getElem?, l2] at h2
      rw [show ms.length + one.length + other.length - (ms.length + 1 + one.length) = other.length - 1 by omega, h2]; rfl
    show (0 : Rat) + 1 * prodc (stq _ (ms.length + one.length)) (co (stq _ 0)) n + c * prodc (stq _ (ms.length + one.length + other.length)) (co (stq _ 0)) n = _
    rw [a0, a1, a2, prodc_unit, prodc_unit, Rat.one_mul, Rat.zero_add]
  have e1 : linesQ ms (joinQ ms.length one other c) = (stockQ ms one ++ linesQ ms other ++ [trimQ (plusQ c p q)]).drop (ms.length + 1) := by
    show (stockQ ms _).drop _ = _
    rw [e0]
  rw [e1, stock_head one, List.append_assoc, List.append_assoc, List.drop_left' (by rfl), List.append_assoc]
end Fp

namespace K21
open PySem PySem.Spec PyProof.Rows L2 Fp
section
variable {P : Program} {w : World} {K : PySem.W.Frag} {mg : Str → Option Value} {base : Heap} {k : Nat} {C fI fR : Addr}
def WorthR (H : Hp) (v : V) (p : List Rat) : Prop := ∃ (t a : Addr) (ts : List Int) (bo : Nat), v = .ref t ∧ H t = some (.tup [.ref a, .int (bo : Nat)]) ∧ H a = some (.lst (VI ts)) ∧ Worth p ts bo
theorem WorthR.mo : Mo WorthR := fun H H' v p ⟨t, a, ts, bo, h1, h2, h3, h4⟩ e => ⟨t, a, ts, bo, h1, e _ _ h2, e _ _ h3, h4⟩
/-- the stock: sizes -/
structure StOk (st : List (List Rat)) (D M : Nat) : Prop where
  d0 : 0 < D
  dB : 6 * D * D < 2 ^ 63
  mB : M < 2 ^ 1000
  sc : ∀ p ∈ st, AllS (D : Int) M p
  ln : ∀ p ∈ st, p.length ≤ 97
  tl : ∀ p ∈ st, Told p
def PtOk (m : Nat) (p : PtQ) : Prop := p.1 < m ∧ p.2.1 < m ∧ p.2.2.den ∣ 6 ∧ p.2.2.num.natAbs < 2 ^ 100
def sp_line_worth (C : Addr) : Sp := fun vs H Q _ => ∃ (v : V) (l : Addr) (ws : List V) (ps : List PtQ) (st : List (List Rat)) (D M : Nat), vs = [v, .ref l] ∧ LineR C H v ps ∧ ps.length ≤ 60 ∧ H l = some (.lst ws) ∧ Ea WorthR H ws st ∧ st.length ≤ 300 ∧ StOk st D M ∧ (∀ p ∈ ps, PtOk st.length p) ∧ ∀ v' H', Same H H' → WorthR H' v' (lineQ st ps) → Q v' H'
theorem tops_of {H : Hp} {ws : List V} {st : List (List Rat)} (h : Ea WorthR H ws st) : ∃ (F : Nat → List Int) (b : Nat → Nat), ∀ j p, st[j]? = some p → ∃ (t a : Addr), ws[j]? = some (V.ref t) ∧ H t = some (.tup [.ref a, .int (b j : Nat)]) ∧ H a = some (.lst (VI (F j))) ∧ Worth p (F j) (b j) := by
  have q : ∀ j, ∃ fb : List Int × Nat, ∀ p, st[j]? = some p → ∃ (t a : Addr), ws[j]? = some (V.ref t) ∧ H t = some (.tup [.ref a, .int (fb.2 : Nat)]) ∧ H a = some (.lst (VI fb.1)) ∧ Worth p fb.1 fb.2 := fun j => by
    by_cases e : j < st.length
    · have e2 := List.getElem?_eq_getElem e
      obtain ⟨v, hv, t, a, ts, bo, rfl, h1, h2, h3⟩ := h.get e2
      exact ⟨(ts, bo), fun p' z => by rw [e2] at z; obtain rfl := Option.some.inj z; exact ⟨t, a, hv, h1, h2, h3⟩⟩
    · exact ⟨([], 0), fun p z => absurd (List.getElem?_eq_some_iff.mp z).1 e⟩
  exact ⟨fun j => (Classical.choose (q j)).1, fun j => (Classical.choose (q j)).2, fun j => Classical.choose_spec (q j)⟩
def Pt4R (H : Hp) (v : V) (p : Pt4) : Prop := ∃ t, v = .ref t ∧ H t = some (.tup [.int (p.1 : Nat), .int (p.2.1 : Nat), .int p.2.2.1, .int (p.2.2.2 : Nat)])
theorem Pt4R.mo : Mo Pt4R := fun H H' v p ⟨t, h1, h2⟩ e => ⟨t, h1, e _ _ h2⟩
def Pt3R (H : Hp) (v : V) (p : Part) : Prop := ∃ t, v = .ref t ∧ H t = some (.tup [.int (p.1 : Nat), .int (p.2.1 : Nat), .int p.2.2])
theorem Pt3R.mo : Mo Pt3R := fun H H' v p ⟨t, h1, h2⟩ e => ⟨t, h1, e _ _ h2⟩
def Pt4Ok (n D : Nat) (F : Nat → List Int) (p : Pt4) : Prop := p.1 < n ∧ p.2.1 < n ∧ F p.1 ≠ [] ∧ F p.2.1 ≠ [] ∧ p.2.2.1.natAbs < 2 ^ 100 ∧ 0 < p.2.2.2 ∧ p.2.2.2 ∣ 6 * D * D
theorem sgn0 {z : Int} (h : sgnI z = 0) : z = 0 := by
  unfold sgnI at h
  by_cases h1 : z < 0
  · rw [if_pos h1] at h; omega
  · rw [if_neg h1] at h
    by_cases h2 : 0 < z
    · rw [if_pos h2] at h; omega
    · omega
theorem fdivN (x y : Nat) : ((x : Nat) : Int).fdiv ((y : Nat) : Int) = ((x / y : Nat) : Int) := by
  rw [Int.fdiv_eq_ediv_of_nonneg _ (by omega), Int.natCast_ediv]
theorem vi_ne {xs : List Int} (h : (!(VI xs).isEmpty) = true) : xs ≠ [] := fun z => by rw [z] at h; cases h
theorem vi_em {xs : List Int} (h : ¬ (!(VI xs).isEmpty) = true) : xs = [] := by
  cases xs with
  | nil => rfl
  | cons x xs => exact absurd rfl h
-- slots: line 0, worths 1, bottom 2, parts 3, first 4, second 5, number 6, often 7, below 8, even 9, top 10, tops 11, _ 12; cells: bottom
abbrev s_line_worth : Stmt := top 45
abbrev N_line_worth : List Str := ["line", "worths", "bottom", "parts", "first", "second", "number", "often", "below", "even", "top", "tops", "_"]
theorem sc_line_worth : FnScope N_line_worth ["line", "worths"] (defScope s_line_worth) := ⟨rfl, rfl, rfl, by decide +kernel, rfl, by decide +kernel, by decide +kernel⟩
theorem d_line_worth (B : Bnd K mg "line_worth" s_line_worth) (M : Mg2 mg) (R : RCls K mg C fI fR) {kr : Nat} (PT : PropX P w K mg base kr C "top" (spTopR C)) (PB : PropX P w K mg base kr C "bottom" (spBotR C)) (PS : PropX P w K mg base kr C "sign" (spSgnR C)) (hk : kr + 8 ≤ k) (D_as_ratio : Def P w K mg base k "as_ratio" s_as_ratio ["number"] (spAs C)) (D_lowest : Def P w K mg base k "lowest" s_lowest ["tops", "bottom"] (sp_lowest K)) (D_sum_of_products : Def P w K mg base k "sum_of_products" s_sum_of_products ["parts", "polys"] (sp_sop K)) : Def P w K mg base (k + 1) "line_worth" s_line_worth ["line", "worths"] (sp_line_worth C) := by
  refine def_of B sc_line_worth (by rintro _ _ _ _ ⟨v, l, ws, ps, st, D, nM, rfl, _⟩; rfl) (fun _ _ _ _ _ _ us hl => match us, hl with | [_, _], _ => rfl) fun f cdv A outer s H vs Q E hr h => ?_
  obtain ⟨v, l, ws, ps, st, D, nM, rfl, hl, l60, hw, he, ls, ok, pk, q⟩ := h
  have hu := hr.units
  refine ⟨_, pss_cons (ps_asg (pe_tup (pa_cons pe_int (pa_cons (pe_lst pa_nil) pa_nil))) (pg_tup rfl (pgs_cons (pg_name (i := 2) sc_line_worth.nd rfl (.inr rfl)) (pgs_cons (pg_name (i := 3) sc_line_worth.nd rfl (.inl rfl)) pgs_nil))))
    (pss_cons (ps_for PassesOwn.never rfl (pi_sq (pv 0)) (pg_tup rfl (pgs_cons (pg_name (i := 4) sc_line_worth.nd rfl (.inl rfl)) (pgs_cons (pg_name (i := 5) sc_line_worth.nd rfl (.inl rfl)) (pgs_cons (pg_name (i := 6) sc_line_worth.nd rfl (.inl rfl)) pgs_nil))))
      (pss_cons (ps_set (i := 7) sc_line_worth.nd rfl (.inl rfl) (pe_d D_as_ratio hr (by rfl) (pa_cons (pv 6) pa_nil)))
      (pss_one (ps_if (PW.pt (pw_and (pt_cmpR op_ne (pe_propX PS (hr.mono (by omega)) R.cl (pv 7) (by rfl)) pe_int (nomark _)) (pw_and (pt_truth (pe_ix (r := rIxT K) ix_tup (pe_ix (r := rIxL K) ix_list (pv 1) (pv 4) (fun _ _ => rfl)) pe_int (fun _ _ => rfl)) (by intro _; rfl)) (pw_and1 (pt_truth (pe_ix (r := rIxT K) ix_tup (pe_ix (r := rIxL K) ix_list (pv 1) (pv 5) (fun _ _ => rfl)) pe_int (fun _ _ => rfl)) (by intro _; rfl))))))
        (pss_cons (ps_set (i := 8) sc_line_worth.nd rfl (.inl rfl) (pe_op op_mulX (pe_op op_mulX (pe_propX PB (hr.mono (by omega)) R.cl (pv 7) (by rfl)) (pe_ix (r := rIxT K) ix_tup (pe_ix (r := rIxL K) ix_list (pv 1) (pv 4) (fun _ _ => rfl)) pe_int (fun _ _ => rfl))) (pe_ix (r := rIxT K) ix_tup (pe_ix (r := rIxL K) ix_list (pv 1) (pv 5) (fun _ _ => rfl)) pe_int (fun _ _ => rfl))))
        (pss_cons (ps_set (i := 2) sc_line_worth.nd rfl (.inr rfl) (pe_callBfun cr_lcm (by rfl) M.lcm  (pa_cons (pv 2) (pa_cons (pv 8) pa_nil))))
        (pss_one (ps_expr (pe_bm PySem.F.plainAttrs_list PySem.F.slot_list_append PySem.F.type_list_append mt_append (pv 3) (pa_cons (pe_tup (pa_cons (pv 4) (pa_cons (pv 5) (pa_cons (pe_propX PT (hr.mono (by omega)) R.cl (pv 7) (by rfl)) (pa_cons (pv 8) pa_nil))))) pa_nil))))))
        (pss_nil)))))
    (pss_cons (ps_setLc (i := 9) (own := [("first", 4), ("second", 5), ("top", 10), ("below", 8)]) (g := (gTup K 4 (gCons (gName 4) (gCons (gName 5) (gCons (gName 10) (gCons (gName 8) gNil)))))) (tt := tYes) (te := (tTup (tCons (tVar 4) (tCons (tVar 5) (tCons (tOp _ (tVar 10) (tOp _ (tVar 2) (tVar 8))) tNil))))) rfl sc_line_worth.nd rfl rfl (sw_true rfl rfl rfl (by decide +kernel)) (pi_list (pv 3)) (blkOk_by (own := [("first", 4), ("second", 5), ("top", 10), ("below", 8)]) (N := N_line_worth) (sc := defScope s_line_worth) (by decide +kernel)) (fun _ _ _ _ _ => pg_tup rfl (pgs_cons (pg_name (i := 4) sc_line_worth.nd rfl (.inl rfl)) (pgs_cons (pg_name (i := 5) sc_line_worth.nd rfl (.inl rfl)) (pgs_cons (pg_name (i := 10) sc_line_worth.nd rfl (.inl rfl)) (pgs_cons (pg_name (i := 8) sc_line_worth.nd rfl (.inl rfl)) pgs_nil))))) (fun _ _ _ _ _ => pts_nil) (fun _ _ _ _ _ => pe_tup (pa_cons (pv 4) (pa_cons (pv 5) (pa_cons (pe_op op_mulX (pv 10) (pe_op op_fdivNW (pv 2) (pv 8))) pa_nil)))))
    (pss_one (ps_ret (pe_d D_lowest hr (by rfl) (pa_cons (pe_d D_sum_of_products hr (by rfl) (pa_cons (pv 9) (pa_cons (pe_lc (own := [("tops", 11), ("_", 12)]) (g := (gTup K 2 (gCons (gName 11) (gCons (gName 12) gNil)))) (tt := tYes) (te := (tVar 11)) rfl sc_line_worth.nd (pi_list (pv 1)) (blkOk_by (own := [("tops", 11), ("_", 12)]) (N := N_line_worth) (sc := defScope s_line_worth) (by decide +kernel)) (fun _ _ _ _ _ => pg_tup rfl (pgs_cons (pg_name (i := 11) sc_line_worth.nd rfl (.inl rfl)) (pgs_cons (pg_name (i := 12) sc_line_worth.nd rfl (.inl rfl)) pgs_nil))) (fun _ _ _ _ _ => pts_nil) (fun _ _ _ _ _ => pv 11)) pa_nil))) (pa_cons (pv 2) pa_nil))))))), ?_⟩
  obtain ⟨a, us, rfl, ha, hp⟩ := hl
  obtain ⟨F, b, hF⟩ := tops_of he
  have lw := he.1
  have lu := hp.1
  have d0 := ok.d0
  have dB := ok.dB
  have stj : ∀ {j p}, st[j]? = some p → stq st j = p := fun e => by unfold stq; rw [e]; rfl
  have jb : ∀ {j}, j < st.length → ∃ p, st[j]? = some p ∧ p ∈ st := fun h => ⟨_, List.getElem?_eq_getElem h, List.getElem_mem _⟩
  have B0 : 0 < 6 * D * D := Nat.mul_pos (Nat.mul_pos (by decide) d0) d0
  have D6 : 6 * D ≤ 6 * D * D := Nat.le_mul_of_pos_right _ d0
  refine ⟨Nat.zero_le _, fun c nc => ⟨by show 2 ≤ sizeLine; decide, fun t0 nt0 => ⟨t0, _, rfl, SqT.of upd_same, rfl, _, _, rfl, _, _, rfl, rfl, ?_⟩⟩⟩
  have sc := same_new (o := .lst []) nc
  have st0 := same_new (o := .tup [V.int 1, V.ref c]) nt0
  have hc0 := st0 _ _ (upd_same (H := H) (a := c) (o := .lst []))
  have s0 := same_wo nc (sc.trans st0)
  generalize upd (upd H c (.lst [])) t0 (.tup [V.int 1, V.ref c]) = G0 at *
  refine for_sq (H0 := H) (a := a) (xs := us) (fun i σ G => ∃ (o4 o5 o6 o7 o8 : Option V) (L : Nat) (zs : List V) (pts : List Pt4), σ = [some (.ref a), some (.ref l), some (.int (L : Nat)), some (.ref c), o4, o5, o6, o7, o8, none, none, none, none] ∧ Same H (wo c G) ∧ G c = some (.lst zs) ∧ Ea Pt4R (wo c G) zs pts ∧ 0 < L ∧ L ∣ 6 * D * D ∧ (∀ p ∈ pts, Pt4Ok st.length D F p ∧ p.2.2.2 ∣ L) ∧ pts.length ≤ i ∧ ∀ n, sumP F pts n = sumC st (ps.take i) n)
    (fun R r => ⟨_, rfl, r⟩) (seq_sq ha) (s0.trans wo_le) ⟨none, none, none, none, none, 1, [], [], rfl, s0, hc0, Ea.nil, by decide, Nat.one_dvd _, fun p h => (by simp at h), Nat.zero_le _, fun n => rfl⟩ (fun i σ' G ⟨_, _, _, _, _, _, _, _, _, sm, _⟩ => sm.trans wo_le) (fun i x σ G hx ⟨o4, o5, o6, o7, o8, L, zs, pts, e, sm, hG, hE, L0, LB, hok, lp, hs⟩ => ?_) (fun σ G ⟨o4, o5, o6, o7, o8, L, zs, pts, e, sm, hG, hE, L0, LB, hok, lp, hs⟩ => ?_)
  · subst e
    have lz := hE.1
    obtain ⟨p, hp1, t, nv, rfl, ht, hn, n1, n2, m1, m2⟩ := hp.2 i x hx
    obtain ⟨c1, c2, c3, c4⟩ := pk p (List.mem_of_getElem? hp1)
    have i60 : i < 60 := by have := (List.getElem?_eq_some_iff.mp hp1).1; omega
    obtain ⟨pf, f1, f2⟩ := jb c1
    obtain ⟨pg, g1, g2⟩ := jb c2
    obtain ⟨tf, af, hf1, hf2, hf3, hf4⟩ := hF _ _ f1
    obtain ⟨tg, ag, hg1, hg2, hg3, hg4⟩ := hF _ _ g1
    have sG : Same H G := sm.trans wo_le
    refine ⟨t, _, rfl, SqT.of (sG _ _ ht), rfl, _, _, rfl, _, _, rfl, _, _, rfl, rfl, ?_⟩
    refine ⟨_, rfl, nv, _, _, rfl, hn.same sG, fun m G1 s1 rm => ?_⟩
    obtain ⟨dx, rm1⟩ := id rm
    have sm1 := sm.trans (wo_mono (D := c) s1)
    have sG1 := sm1.trans wo_le
    have hG1 := s1 _ _ hG
    have hE1 := hE.same Pt4R.mo (wo_mono (D := c) s1)
    refine ⟨_, rfl, m, dx, _, rfl, rm1, m, _, _, rfl, rm, rfl, _, rfl, ite2 (fun z => ?_) (fun z => iteF2 rfl ?_)⟩
    rotate_left
    · refine ⟨_, _, _, _, _, L, zs, pts, rfl, sm1, hG1, hE1, L0, LB, hok, by omega, fun n => ?_⟩
      rw [takeS hp1]
      refine sum_skip (hs n) (.inl ?_)
      refine Rat.num_eq_zero.mp (sgn0 ?_)
      by_cases y : sgnI p.2.2.num = 0
      · exact y
      · exact absurd (by rw [decide_eq_false (fun q => y (by injection q))]; rfl) z
    refine ⟨_, rfl, _, rfl, l, ws, _, .ref tf, rfl, rfl, SqL.of (sG1 _ _ hw), at_of (j := p.1) rfl hf1, tf, _, 0, .ref af, rfl, rfl, SqT.of (sG1 _ _ hf2), rfl, _, .inl ⟨_, SqL.of (sG1 _ _ hf3), rfl⟩, ite2 (fun z2 => ?_) (fun z2 => iteF2 rfl ?_)⟩
    rotate_left
    · refine ⟨_, _, _, _, _, L, zs, pts, rfl, sm1, hG1, hE1, L0, LB, hok, by omega, fun n => ?_⟩
      rw [takeS hp1]
      exact sum_skip (hs n) (.inr (.inl (by rw [stj f1]; exact hf4.nil.mp (vi_em z2))))
    refine ⟨_, rfl, _, rfl, l, ws, _, .ref tg, rfl, rfl, SqL.of (sG1 _ _ hw), at_of (j := p.2.1) rfl hg1, tg, _, 0, .ref ag, rfl, rfl, SqT.of (sG1 _ _ hg2), rfl, _, .inl ⟨_, SqL.of (sG1 _ _ hg3), rfl⟩, ite2 (fun z3 => ?_) (fun z3 => ?_)⟩
    rotate_left
    · refine ⟨_, _, _, _, _, L, zs, pts, rfl, sm1, hG1, hE1, L0, LB, hok, by omega, fun n => ?_⟩
      rw [takeS hp1]
      exact sum_skip (hs n) (.inr (.inr (by rw [stj g1]; exact hg4.nil.mp (vi_em z3))))
    have bf := hf4.dvd (ok.sc _ f2) d0
    have bg := hg4.dvd (ok.sc _ g2) d0
    have hbel := Nat.mul_dvd_mul (Nat.mul_dvd_mul c3 bf) bg
    have bf0 := hf4.1
    have bg0 := hg4.1
    have dn0 := p.2.2.den_pos
    have belP : 0 < p.2.2.den * b p.1 * b p.2.1 := Nat.mul_pos (Nat.mul_pos dn0 bf0) bg0
    have belB := Nat.le_of_dvd B0 hbel
    have k1 : p.2.2.den * b p.1 ≤ 6 * D := Nat.mul_le_mul (Nat.le_of_dvd (by decide) c3) (Nat.le_of_dvd d0 bf)
    have k2 : b p.1 ≤ D := Nat.le_of_dvd d0 bf
    have k3 : b p.2.1 ≤ D := Nat.le_of_dvd d0 bg
    have k4 : p.2.2.den ≤ 6 := Nat.le_of_dvd (by decide) c3
    refine ⟨_, rfl, m, dx, _, rfl, rm1, m, _, _, rfl, rm, _, rfl, _, rfl, l, ws, _, .ref tf, rfl, rfl, SqL.of (sG1 _ _ hw), at_of (j := p.1) rfl hf1, tf, _, 1, .int (b p.1 : Nat), rfl, rfl, SqT.of (sG1 _ _ hf2), rfl, _, _, rfl, rfl, mulx_ok (a := 63) (b := 63) (by rw [Int.natAbs_natCast]; omega) (by rw [Int.natAbs_natCast]; omega) (by decide), _, rfl, _, rfl, l, ws, _, .ref tg, rfl, rfl, SqL.of (sG1 _ _ hw), at_of (j := p.2.1) rfl hg1, tg, _, 1, .int (b p.2.1 : Nat), rfl, rfl, SqT.of (sG1 _ _ hg2), rfl, _, _, rfl, rfl, mulx_ok (a := 63) (b := 63) (by rw [← Int.natCast_mul, Int.natAbs_natCast]; omega) (by rw [Int.natAbs_natCast]; omega) (by decide), ?_⟩
    dsimp only
    rw [← Int.natCast_mul, ← Int.natCast_mul]
    have LL := Nat.le_of_dvd B0 LB
    obtain ⟨w1, w2, w3, w4⟩ := lcm_step LB hbel L0 belP
    refine ⟨_, rfl, _, rfl, (L : Int), ((p.2.2.den * b p.1 * b p.2.1 : Nat) : Int), rfl, by rw [Int.natAbs_natCast]; omega, by rw [Int.natAbs_natCast]; omega, ?_⟩
    refine ⟨_, rfl, Or.inl ⟨rfl, _, SqL.of hG1⟩, _, rfl, _, rfl, _, rfl, m, dx, _, rfl, rm1, m, _, _, rfl, rm, _, rfl, by show 4 ≤ sizeLine; decide, fun T nT => ?_⟩
    have sT := same_new (o := .tup [V.int (p.1 : Nat), V.int (p.2.1 : Nat), V.int p.2.2.num, V.int ((p.2.2.den * b p.1 * b p.2.1 : Nat) : Int)]) nT
    have nTc : T ≠ c := fun z => by rw [z, hG1] at nT; cases nT
    refine ⟨c, zs, _, rfl, rfl, sT _ _ hG1, by rw [lz, sizeLine_eq]; omega, ?_⟩
    refine ⟨_, _, _, _, _, Nat.lcm L (p.2.2.den * b p.1 * b p.2.1), zs ++ [.ref T], pts ++ [(p.1, p.2.1, p.2.2.num, p.2.2.den * b p.1 * b p.2.1)], rfl, by rw [wo_upd]; exact sm1.trans (wo_mono (D := c) sT), upd_same, ?_, w2, w1, fun r hr => ?_, by rw [List.length_append, List.length_singleton]; omega, fun n => ?_⟩
    · rw [wo_upd]
      exact (hE1.same Pt4R.mo (wo_mono (D := c) sT)).snoc ⟨T, rfl, by rw [wo_ne nTc]; exact upd_same⟩
    · rcases List.mem_append.mp hr with h | h
      · exact ⟨(hok r h).1, Nat.dvd_trans (hok r h).2 w3⟩
      · rw [List.mem_singleton.mp h]
        exact ⟨⟨c1, c2, vi_ne z2, vi_ne z3, c4, belP, hbel⟩, w4⟩
    · rw [takeS hp1]
      exact sum_step (hs n) (by omega) (by omega) (by rw [hf4.2.1, stj f1]) (by rw [hg4.2.1, stj g1])
  subst e
  rw [lu, List.take_length] at hs
  have lz := hE.1
  have sG : Same H G := sm.trans wo_le
  have hE := hE.same Pt4R.mo (wo_le (D := c))
  have LL := Nat.le_of_dvd B0 LB
  refine ⟨_, rfl, c, rfl, ⟨zs, SqL.of hG⟩, fun E1 nE => ?_⟩
  refine lc_rel (walk_list (K := K) (a := c) (xs := zs)) (fun i acc Hh => Ea Pt3R Hh acc ((pts.take i).map (even4 L))) nE (by rw [lz, sizeLine_eq]; omega) (fun Hh sh => SqL.of (sh _ _ hG)) Ea.nil (fun i acc A B e r => r.same Pt3R.mo e) (fun i x acc Ha Hb hi sa hA hr hy Yc Nc yc nc => ?_) (fun acc G2 s2 hD hr => ?_)
  · obtain ⟨rfl, hx⟩ := hy
    obtain ⟨p, hp1, t, rfl, ht⟩ := hE.2 i x hx
    obtain ⟨⟨c1, c2, c3, c4, c5, c6, c7⟩, pL⟩ := hok p (List.mem_of_getElem? hp1)
    have pB := Nat.le_of_dvd L0 pL
    have qB : L / p.2.2.2 ≤ L := Nat.div_le_self _ _
    refine ⟨t, _, rfl, SqT.of (sa _ _ ht), rfl, _, _, rfl, _, _, rfl, _, _, rfl, _, _, rfl, rfl, rfl, ?_⟩
    refine ⟨_, rfl, _, rfl, _, rfl, _, rfl, _, rfl, (L : Int), ((p.2.2.2 : Nat) : Int), rfl, rfl, ⟨by omega, ?_⟩, _, _, rfl, rfl, mulx_ok (a := 100) (b := 63) c5 (by rw [fdivN, Int.natAbs_natCast]; omega) (by decide), by show 3 ≤ sizeLine; decide, fun T nT => ?_⟩
    · rw [Int.natAbs_natCast]
      exact Nat.lt_of_lt_of_le ((Nat.log2_lt (by omega)).mpr (show p.2.2.2 < 2 ^ 63 by omega)) (by decide)
    · dsimp only
      rw [fdivN]
      have sT := same_new (o := .tup [V.int (p.1 : Nat), V.int (p.2.1 : Nat), V.int (p.2.2.1 * ((L / p.2.2.2 : Nat) : Int))]) nT
      have nTE : T ≠ E1 := fun z => by rw [z, hA] at nT; cases nT
      refine yc _ _ sT ?_
      rw [takeS hp1, List.map_append]
      exact (hr.same Pt3R.mo (wo_mono (D := E1) sT)).snoc ⟨T, rfl, by rw [wo_ne nTE]; exact upd_same⟩
  rw [lz, List.take_length] at hr
  have sG2 := sG.trans s2
  have lacc := hr.1
  rw [List.length_map] at lacc
  refine ⟨_, rfl, _, rfl, l, rfl, ⟨ws, SqL.of (sG2 _ _ hw)⟩, fun E2 nE2 => ?_⟩
  refine lc_rel (walk_list (K := K) (a := l) (xs := ws)) (fun i acc Hh => acc.length = i ∧ ∀ j, j < i → ∃ lj : Addr, acc[j]? = some (V.ref lj) ∧ Hh lj = some (.lst (VI (F j)))) nE2 (by rw [lw, sizeLine_eq]; omega) (fun Hh sh => SqL.of (sh _ _ (sG2 _ _ hw))) ⟨rfl, fun j h => absurd h (Nat.not_lt_zero _)⟩ (fun i acc A B e r => ⟨r.1, fun j h => let ⟨lj, h1, h2⟩ := r.2 j h; ⟨lj, h1, e _ _ h2⟩⟩) (fun i x acc Ha Hb hi sa hA hr2 hy Yc Nc yc nc => ?_) (fun acc2 G3 s3 hD2 hr2 => ?_)
  · obtain ⟨rfl, hx⟩ := hy
    obtain ⟨p, hp1, hp2⟩ := jb (j := i) (by omega)
    obtain ⟨t, aj, h1, h2, h3, h4⟩ := hF i p hp1
    rw [hx] at h1
    obtain rfl := Option.some.inj h1
    have sH := sG2.trans sa
    have naE : aj ≠ E2 := fun z => by rw [← z, sG2 _ _ h3] at nE2; cases nE2
    refine ⟨t, _, rfl, SqT.of (sH _ _ h2), rfl, _, _, rfl, _, _, rfl, rfl, rfl, _, rfl, yc _ _ (Same.refl _) ⟨by rw [List.length_append, hr2.1]; rfl, fun j hj => ?_⟩⟩
    have la := hr2.1
    by_cases z : j < i
    · obtain ⟨lj, g1, g2⟩ := hr2.2 j z
      exact ⟨lj, by rw [List.getElem?_append_left (by omega)]; exact g1, g2⟩
    · obtain rfl : j = i := by omega
      exact ⟨aj, by rw [List.getElem?_append_right (by omega), la, Nat.sub_self]; rfl, by rw [wo_ne naE]; exact sH _ _ h3⟩
  have s13 := sG2.trans s3
  have hE1 := s3 _ _ hD
  have hr := (hr.same Pt3R.mo (wo_le (D := E1))).same Pt3R.mo s3
  have la2 := hr2.1
  have tB : ∀ {j}, j < st.length → ∀ x ∈ F j, x.natAbs < 2 ^ 1000 := fun h x hx => by
    obtain ⟨p, hp1, hp2⟩ := jb h
    obtain ⟨t, aj, h1, h2, h3, h4⟩ := hF _ p hp1
    exact Nat.lt_of_le_of_lt (h4.size (ok.sc _ hp2) d0 x hx) ok.mB
  have tL : ∀ {j}, j < st.length → (F j).length ≤ 97 := fun h => by
    obtain ⟨p, hp1, hp2⟩ := jb h
    obtain ⟨t, aj, h1, h2, h3, h4⟩ := hF _ p hp1
    rw [h4.len]; exact ok.ln _ hp2
  have lmap : (pts.map (even4 L)).length = pts.length := List.length_map _
  have evb : ∀ p ∈ pts.map (even4 L), p.1 < st.length ∧ p.2.1 < st.length ∧ F p.1 ≠ [] ∧ F p.2.1 ≠ [] ∧ p.2.2.natAbs < 2 ^ 163 := fun p hp => by
    obtain ⟨r, hr, rfl⟩ := List.mem_map.mp hp
    obtain ⟨⟨c1, c2, c3, c4, c5, c6, c7⟩, pL⟩ := hok r hr
    refine ⟨c1, c2, c3, c4, ?_⟩
    show (r.2.2.1 * ((L / r.2.2.2 : Nat) : Int)).natAbs < 2 ^ 163
    rw [Int.natAbs_mul, Int.natAbs_natCast]
    have qB : L / r.2.2.2 ≤ L := Nat.div_le_self _ _
    rw [show (163 : Nat) = 100 + 63 from rfl, Nat.pow_add]
    exact Nat.mul_lt_mul'' c5 (show L / r.2.2.2 < 2 ^ 63 by omega)
  refine ⟨E1, E2, acc, acc2, pts.map (even4 L), F, 1000, rfl, hE1, hD2, ⟨hr.1, fun i v hv => ?_⟩, fun j hj => ?_, by rw [lmap]; omega, by omega, by decide, fun p hp => ?_, fun c' H' s' nc' hc' => ?_⟩
  · obtain ⟨p, h1, t, h2, h3⟩ := hr.2 i v hv
    exact ⟨p, t, h1, h2, h3⟩
  · obtain ⟨lj, h1, h2⟩ := hr2.2 j (by omega)
    exact ⟨lj, h1, wo_le _ _ h2⟩
  · obtain ⟨c1, c2, c3, c4, c5⟩ := evb p hp
    exact ⟨⟨by omega, c3, Nat.le_trans (tL c1) (by decide), tB c1⟩, ⟨by omega, c4, Nat.le_trans (tL c2) (by decide), tB c2⟩, Nat.lt_trans c5 (Nat.pow_lt_pow_right (by decide) (by decide))⟩
  · have ll := linL_len (P := F) (L := 97) (pts.map (even4 L)) fun p hp => by
      obtain ⟨c1, c2, c3, c4, c5⟩ := evb p hp
      exact ⟨c3, c4, tL c1, tL c2⟩
    have lb := linL_BN (P := F) (L := 97) (W := 2163) (pts.map (even4 L)) fun p hp => by
      obtain ⟨c1, c2, c3, c4, c5⟩ := evb p hp
      exact ⟨tL c1, 1000, 1000, 163, fun x hx => Nat.le_of_lt (tB c1 x hx), fun x hx => Nat.le_of_lt (tB c2 x hx), Nat.le_of_lt c5, by decide⟩
    have tl := trimI_len (linL F (pts.map (even4 L)))
    refine ⟨_, rfl, c', trimI (linL F (pts.map (even4 L))), (L : Int), rfl, hc', by omega, by omega, ?_, fun x hx => ?_, fun t l' H2 g ys b' s2 nt ht hl2 g0 b0 hb hx hm => ?_⟩
    · show (L : Int).natAbs < 2 ^ 4000
      rw [Int.natAbs_natCast]
      exact Nat.lt_of_lt_of_le (show L < 2 ^ 63 by omega) (Nat.pow_le_pow_right (by decide) (by decide))
    · show x.natAbs < 2 ^ 4000
      refine Nat.lt_of_le_of_lt (lb x (trimI_mem hx)) ?_
      have h1 : (pts.map (even4 L)).length * (97 * 2 ^ 2163) ≤ 60 * (97 * 2 ^ 2163) := Nat.mul_le_mul_right _ (by rw [lmap]; omega)
      refine Nat.lt_of_le_of_lt h1 ?_
      rw [← Nat.mul_assoc]
      exact Nat.lt_of_lt_of_le (Nat.mul_lt_mul_of_pos_right (show 60 * 97 < 2 ^ 13 by decide) (Nat.two_pow_pos 2163)) (by rw [← Nat.pow_add]; exact Nat.pow_le_pow_right (by decide) (by decide))
    · have bn : ((b'.natAbs : Nat) : Int) = b' := by omega
      refine q _ H2 ((s13.trans s').trans s2) ⟨t, l', ys, b'.natAbs, rfl, by rw [bn]; exact ht, hl2, ?_⟩
      have := worth_low (by omega) g0 b0 hb hx hm
      rwa [line_low L0 (fun p hp => (hok p hp).2) hs] at this
end
end K21

namespace K21
open PySem PySem.Spec PyProof.Rows L2 Fp
section
variable {P : Program} {w : World} {K : PySem.W.Frag} {mg : Str → Option Value} {base : Heap} {k : Nat} {C fI fR : Addr}
/-- a list of lists of numbers -/
def ListQ (C : Addr) (H : Hp) (v : V) (p : List Rat) : Prop := ∃ a us, v = .ref a ∧ H a = some (.lst us) ∧ QL C H us p
/-- a list of numbers, new where H0 stood -/
def ListN (C : Addr) (H0 : Hp) (H : Hp) (v : V) (p : List Rat) : Prop := ∃ a us, v = .ref a ∧ H0 a = none ∧ H a = some (.lst us) ∧ QL C H us p
theorem ListN.mo {H0 : Hp} : Mo (ListN C H0) := fun H H' v p ⟨a, us, h1, h0, h2, h3⟩ e => ⟨a, us, h1, h0, e _ _ h2, RatL.same h3 e⟩
theorem ListN.q {H0 H : Hp} {v : V} {p : List Rat} (h : ListN C H0 H v p) : ListQ C H v p := let ⟨a, us, h1, _, h2, h3⟩ := h; ⟨a, us, h1, h2, h3⟩
theorem ListQ.mo : Mo (ListQ C) := fun H H' v p ⟨a, us, h1, h2, h3⟩ e => ⟨a, us, h1, e _ _ h2, RatL.same h3 e⟩

def PartO (C : Addr) (H : Hp) (v : V) (p : PartQ) : Prop := ∃ t r, v = .ref t ∧ H t = some (.tup [.int (p.1 : Nat), .int (p.2.1 : Nat), .ref r]) ∧ RQ C H r p.2.2 ∧ okS p.2.2.num ∧ okS (p.2.2.den : Int) ∧ p.1 < 10 ^ 6 ∧ p.2.1 < 10 ^ 6
theorem PartO.mo : Mo (PartO C) := fun H H' v p ⟨t, r, h1, h2, h3, h4⟩ e => ⟨t, r, h1, e _ _ h2, h3.same e, h4⟩
theorem PartO.part {H : Hp} {v : V} {p : PartQ} (h : PartO C H v p) : PartR C H v p := let ⟨t, r, h1, h2, h3, h4⟩ := h; ⟨t, .ref r, h1, h2, .inr ⟨r, rfl, h3⟩, h4⟩
theorem Ea.imp {α : Type} {R R' : Hp → V → α → Prop} {H : Hp} {us : List V} {xs : List α} (h : Ea R H us xs) (f : ∀ v x, R H v x → R' H v x) : Ea R' H us xs := ⟨h.1, fun i v hv => let ⟨x, h1, h2⟩ := h.2 i v hv; ⟨x, h1, f v x h2⟩⟩
def LineO (C : Addr) (H : Hp) (v : V) (ln : List PartQ) : Prop := ∃ a us, v = .ref a ∧ H a = some (.lst us) ∧ Ea (PartO C) H us ln
theorem LineO.mo : Mo (LineO C) := fun H H' v p ⟨a, us, h1, h2, h3⟩ e => ⟨a, us, h1, e _ _ h2, h3.same PartO.mo e⟩
theorem LineO.line {H : Hp} {v : V} {ln : List PartQ} (h : LineO C H v ln) : LineR C H v ln := let ⟨a, us, h1, h2, h3⟩ := h; ⟨a, us, h1, .inl h2, h3.imp fun _ _ => PartO.part⟩
structure MkOk (ms : List (List Rat)) (mk : List (List PtQ)) (D E M : Nat) : Prop where
  st : ∀ i, i < mk.length → StOk (stockQ ms (mk.take i)) D M
  fin : ∀ p ∈ stockQ ms mk, AllS (E : Int) M p ∧ p.length ≤ 97
  e0 : 0 < E
  e63 : E < 2 ^ 63
  l1 : 1 ≤ mk.length
  l2 : mk.length ≤ 200
  lm : ms.length ≤ 4
  m49 : ∀ p ∈ ms, p.length ≤ 49
  ok : ∀ (i : Nat) (ln : List PtQ), mk[i]? = some ln → ln.length ≤ 60 ∧ ∀ p ∈ ln, PtOk (ms.length + 1 + i) p
/-- no making: no list, an empty one, or a line that is none after lines that are -/
def BadM (C : Addr) (H : Hp) (v : V) (nm : Nat) (mk : List (List PartQ)) : Prop := (itemsOf H v = none ∧ ∃ d, Sk C H d v) ∨ ∃ a us, v = .ref a ∧ (H a = some (.lst us) ∨ H a = some (.tup us)) ∧ (us = [] ∨ (us.length ≤ 200 ∧ Ea (LineR C) H (us.take mk.length) mk ∧ ∃ u, us[mk.length]? = some u ∧ AnyL C H u ∧ isLineV H (nm + 1 + mk.length) u = false))
theorem okN {j : Nat} (h : j < 10 ^ 6) : okS ((j : Nat) : Int) := by
  show ((j : Nat) : Int).natAbs < 10 ^ 50
  rw [Int.natAbs_natCast]; omega
theorem isPartV_of {H : Hp} {v : V} {p : PartQ} {m : Nat} (h : PartR C H v p) (h1 : p.1 < m) (h2 : p.2.1 < m) : Sk C H 1 v ∧ isPartV H m v = true := by
  obtain ⟨t, nv, rfl, ht, hn, n1, n2, m1, m2⟩ := h
  obtain ⟨sk, isn⟩ := numq_sk hn n1 n2
  refine ⟨Sk.tup ht (by simp) fun x hx => ?_, ?_⟩
  · simp at hx
    rcases hx with rfl | rfl | rfl
    · exact Sk.int (okN m1)
    · exact Sk.int (okN m2)
    · exact sk
  · unfold isPartV tupOf
    simp only [ht]
    show ((isPosV m (.int (p.1 : Nat)) && isPosV m (.int (p.2.1 : Nat))) && isNum H nv) = true
    rw [isn, Bool.and_true]
    unfold isPosV
    simp [h1, h2]
theorem isLineV_of {H : Hp} {v : V} {ps : List PartQ} {m : Nat} (h : LineR C H v ps) (l60 : ps.length ≤ 60) (hp : ∀ p ∈ ps, p.1 < m ∧ p.2.1 < m) : AnyL C H v ∧ isLineV H m v = true := by
  obtain ⟨a, us, rfl, ha, he⟩ := h
  have lu := he.1
  have key : ∀ u ∈ us, Sk C H 1 u ∧ isPartV H m u = true := fun u hu => by
    obtain ⟨i, hi⟩ := List.getElem?_of_mem hu
    obtain ⟨p, hx, hr⟩ := he.2 i u hi
    obtain ⟨c1, c2⟩ := hp p (List.mem_of_getElem? hx)
    exact isPartV_of hr c1 c2
  refine ⟨.inr ⟨a, us, rfl, ha, by omega, fun u hu => (key u hu).1.more (by decide)⟩, ?_⟩
  unfold isLineV
  rw [items_lt ha]
  show (decide (us.length ≤ 60) && us.all (isPartV H m)) = true
  rw [decide_eq_true (by omega), Bool.true_and]
  exact List.all_eq_true.mpr fun u hu => (key u hu).2
/-- a line that comes out too long -/
def LongL (C : Addr) (H : Hp) (x : V) (ms : List (List Rat)) (mk : List (List PtQ)) : Prop := ∃ ln, LineR C H x ln ∧ ln.length ≤ 60 ∧ (∀ p ∈ ln, PtOk (ms.length + 1 + mk.length) p) ∧ 97 < (lineQ (stockQ ms mk) ln).length
def LongM (C : Addr) (H : Hp) (v : V) (ms : List (List Rat)) (mk : List (List PtQ)) : Prop := ∃ a us, v = .ref a ∧ (H a = some (.lst us) ∨ H a = some (.tup us)) ∧ us.length ≤ 200 ∧ Ea (LineR C) H (us.take mk.length) mk ∧ ∃ u, us[mk.length]? = some u ∧ LongL C H u ms mk
def Meets (C : Addr) (H : Hp) (us : List V) (ms : List (List Rat)) (mk : List (List PartQ)) (Bad : Prop) : Prop := ∀ i x, us[i]? = some x → i ≤ mk.length → (∃ ln, mk[i]? = some ln ∧ LineR C H x ln) ∨ (i = mk.length ∧ AnyL C H x ∧ isLineV H (ms.length + 1 + i) x = false ∧ Bad) ∨ (i = mk.length ∧ LongL C H x ms mk ∧ Bad)
def sp_worths_of (C : Addr) : Sp := fun vs H Q _ => ∃ (l : Addr) (v : V) (gs : List V) (ms : List (List Rat)) (mk : List (List PtQ)) (D E M : Nat), vs = [.ref l, v] ∧ H l = some (.lst gs) ∧ Ea (ListQ C) H gs ms ∧ ((MakR C H v mk ∧ MkOk ms mk D E M ∧ ∀ a H' ws, Same H H' → H a = none → H' a = some (.lst ws) → Ea WorthR H' ws (linesQ ms mk) → Q (.ref a) H') ∨ ((BadM C H v ms.length mk ∨ LongM C H v ms mk) ∧ MkOk ms (mk ++ [[]]) D E M ∧ ∀ H', Same H H' → Q .non H'))
def MakersQ (C : Addr) (H : Hp) (x : V) (ms : List (List Rat)) : Prop := Sk C H 2 x ∧ isMakersV H x = true ∧ toldsP H x = ms.map (·.map nd)
theorem MakersQ.same {H H' : Hp} {x : V} {ms : List (List Rat)} (h : MakersQ C H x ms) (e : Same H H') : MakersQ C H' x ms := ⟨h.1.same e, by rw [isMakersV_same h.1 e]; exact h.2.1, by rw [toldsP_same h.1 e]; exact h.2.2⟩
theorem Ea.drop {α : Type} {R : Hp → V → α → Prop} {H : Hp} {us : List V} {xs : List α} (h : Ea R H us xs) (n : Nat) : Ea R H (us.drop n) (xs.drop n) := ⟨by rw [List.length_drop, List.length_drop, h.1], fun i v hv => by
  rw [List.getElem?_drop] at hv
  obtain ⟨x, h1, h2⟩ := h.2 _ v hv
  exact ⟨x, by rw [List.getElem?_drop]; exact h1, h2⟩⟩
theorem StOk.sub {st st' : List (List Rat)} {D M : Nat} (h : StOk st D M) (s : ∀ p ∈ st', p ∈ st) : StOk st' D M := ⟨h.d0, h.dB, h.mB, fun p hp => h.sc p (s p hp), fun p hp => h.ln p (s p hp), fun p hp => h.tl p (s p hp)⟩
theorem StOk.D63 {st : List (List Rat)} {D M : Nat} (h : StOk st D M) : D < 2 ^ 63 := by
  have h1 := h.d0
  have h2 := h.dB
  have : 6 * D ≤ 6 * D * D := Nat.le_mul_of_pos_right _ h1
  omega
theorem stok_bits {st : List (List Rat)} {D M : Nat} (h : StOk st D M) {p : List Rat} (hp : p ∈ st) : AllB 1000 p := by
  have d6 := h.D63
  exact (h.sc p hp).bits (by have := h.d0; omega) (show (D : Int).natAbs < 2 ^ 1000 by rw [Int.natAbs_natCast]; exact Nat.lt_trans d6 (Nat.pow_lt_pow_right (by decide) (by decide))) h.mB
-- slots: known 0, value 1, worths 2, line 3, worth 4, one 5; cells: 
abbrev s_worths_of : Stmt := top 42
abbrev N_worths_of : List Str := ["known", "value", "worths", "line", "worth", "one"]
theorem sc_worths_of : FnScope N_worths_of ["known", "value"] (defScope s_worths_of) := ⟨rfl, rfl, rfl, by decide +kernel, rfl, by decide +kernel, by decide +kernel⟩
theorem d_worths_of (B : Bnd K mg "worths_of" s_worths_of) (M : Mg2 mg) (R : RCls K mg C fI fR)  (D_is_list : Def P w K mg base k "is_list" sList ["value"] (spListX C)) (D_over_one_bottom : Def P w K mg base k "over_one_bottom" s_over_one_bottom ["numbers"] (sp_over_one C)) (D_is_line : Def P w K mg base k "is_line" s_is_line ["value", "many"] (sp_is_line C)) (D_line_worth : Def P w K mg base k "line_worth" s_line_worth ["line", "worths"] (sp_line_worth C)) : Def P w K mg base (k + 1) "worths_of" s_worths_of ["known", "value"] (sp_worths_of C) := by
  refine def_of B sc_worths_of (by rintro _ _ _ _ ⟨l, v, gs, ms, mk, D, Ee, nM, rfl, _⟩; rfl) (fun _ _ _ _ _ _ us hl => match us, hl with | [_, _], _ => rfl) fun f cdv A outer s H vs Q E hr h => ?_
  obtain ⟨l, v, gs, ms, mk, D, Ee, nM, rfl, hl, hg, hc⟩ := h
  have hu := hr.units
  obtain ⟨t_MOST_DEGREE_makings, m_MOST_DEGREE_makings⟩ := M.MOST_DEGREE_makings
  obtain ⟨t_MOST_LINES, m_MOST_LINES⟩ := M.MOST_LINES
  refine ⟨_, C8.pss_cut (ps_if (PW.pt (pw_or (pt_not (pt_val (pe_d D_is_list hr (by rfl) (pa_cons (pv 1) pa_nil)))) (pw_or (pt_cmpR op_lt (pe_callB call_len_seq (by rfl) M.len boot_len (pa_cons (pv 1) pa_nil)) pe_int (nomark _)) (pw_or1 (pt_cmpR op_gt (pe_callB call_len_seq (by rfl) M.len boot_len (pa_cons (pv 1) pa_nil)) (pe_glob (v := .int 200) (by rfl) m_MOST_LINES ⟨_, rfl⟩) (nomark _))))))
      (pss_one (ps_ret pe_non))
      (pss_nil))
    (pss_cons (ps_set (i := 2) sc_worths_of.nd rfl (.inl rfl) (pe_lst (pa_cons (pe_tup (pa_cons (pe_lst (pa_cons pe_int pa_nil)) (pa_cons pe_int pa_nil))) (StX.pa_star (pe_lc (own := [("one", 5)]) (g := (gName 5)) (tt := tYes) (te := (tD _ (tCons (tVar 5) tNil))) rfl sc_worths_of.nd (pi_list (pv 0)) (blkOk_by (own := [("one", 5)]) (N := N_worths_of) (sc := defScope s_worths_of) (by decide +kernel)) (fun _ _ _ _ _ => pg_name (i := 5) sc_worths_of.nd rfl (.inl rfl)) (fun _ _ _ _ _ => pts_nil) (fun _ _ _ _ _ => pe_d D_over_one_bottom hr (by rfl) (pa_cons (pv 5) pa_nil))) pa_nil))))
    (pss_cons (ps_for PassesOwn.never rfl (pi_sq (pv 1)) (pg_name (i := 3) sc_worths_of.nd rfl (.inl rfl))
      (C8.pss_cut (ps_if (pt_not (pt_val (pe_d D_is_line hr (by rfl) (pa_cons (pv 3) (pa_cons (pe_callB call_len_seq (by rfl) M.len boot_len (pa_cons (pv 2) pa_nil)) pa_nil)))))
        (pss_one (ps_ret pe_non))
        (pss_nil))
      (pss_cons (ps_set (i := 4) sc_worths_of.nd rfl (.inl rfl) (pe_d D_line_worth hr (by rfl) (pa_cons (pv 3) (pa_cons (pv 2) pa_nil))))
      (C8.pss_cut (ps_if (pt_cmpR op_gt (pe_op op_sub (pe_callB call_len_seq (by rfl) M.len boot_len (pa_cons (pe_ix (r := rIxT K) ix_tup (pv 4) pe_int (fun _ _ => rfl)) pa_nil)) pe_int) (pe_glob (v := .int 96) (by rfl) m_MOST_DEGREE_makings ⟨_, rfl⟩) (nomark _))
        (pss_one (ps_ret pe_non))
        (pss_nil))
      (pss_one (ps_expr (pe_bm PySem.F.plainAttrs_list PySem.F.slot_list_append PySem.F.type_list_append mt_append (pv 2) (pa_cons (pv 4) pa_nil))))))))
    (pss_one (ps_ret (pe_slice (r := rSlL K) sl_list (pv 2) (po_some (pe_op op_add (pe_callB call_len_seq (by rfl) M.len boot_len (pa_cons (pv 0) pa_nil)) pe_int)) po_none))))), ?_⟩
  have lg := hg.1
  have pk : (itemsOf H v = none ∧ (∃ d, Sk C H d v) ∧ ∀ H', Same H H' → Q .non H') ∨ ∃ a us, v = .ref a ∧ (H a = some (.lst us) ∨ H a = some (.tup us)) ∧ ((us = [] ∧ ∀ H', Same H H' → Q .non H') ∨ ∃ mk', us.length ≤ 200 ∧ 1 ≤ us.length ∧ MkOk ms mk' D Ee nM ∧ (∀ (i : Nat), i ≤ mk.length → mk'.take i = mk.take i) ∧ (∀ (i : Nat) (ln : List PtQ), mk[i]? = some ln → mk'[i]? = some ln) ∧ (∀ i, i ≤ mk.length → i < us.length → i < mk'.length) ∧ Meets C H us ms mk (∀ H', Same H H' → Q .non H') ∧ (us.length ≤ mk.length → us.length = mk.length ∧ ∀ a H' ws, Same H H' → H a = none → H' a = some (.lst ws) → Ea WorthR H' ws (linesQ ms mk) → Q (.ref a) H')) := by
    rcases hc with ⟨hv, ok, q⟩ | ⟨hb, ok, q⟩
    · obtain ⟨a, us, rfl, ha, he⟩ := hv
      have lu := he.1
      have l1 := ok.l1
      have l2 := ok.l2
      refine .inr ⟨a, us, rfl, ha, .inr ⟨mk, by omega, by omega, ok, fun _ _ => rfl, fun _ _ h => h, fun i _ h => by omega, fun i x hx _ => .inl (he.2 i x hx), fun _ => ⟨lu, q⟩⟩⟩
    · rcases hb with (⟨h1, h2⟩ | ⟨a, us, rfl, ha, rfl | ⟨l2, he, u, hu, au, fu⟩⟩) | ⟨a, us, rfl, ha, l2, he, u, hu, au⟩
      · exact .inl ⟨h1, h2, q⟩
      · exact .inr ⟨a, _, rfl, ha, .inl ⟨rfl, q⟩⟩
      · have il := (List.getElem?_eq_some_iff.mp hu).1
        refine .inr ⟨a, us, rfl, ha, .inr ⟨mk ++ [[]], l2, by omega, ok, fun i hi => List.take_append_of_le_length hi, fun i ln h => by rw [List.getElem?_append_left (List.getElem?_eq_some_iff.mp h).1]; exact h, fun i h _ => by rw [List.length_append]; simp; omega, fun i x hx hi => ?_, fun h => absurd h (by omega)⟩⟩
        by_cases z : i = mk.length
        · subst z
          rw [hu] at hx
          obtain rfl := Option.some.inj hx
          exact .inr (.inl ⟨rfl, au, fu, q⟩)
        · exact .inl (he.2 i x (by rw [List.getElem?_take, if_pos (by omega)]; exact hx))
      · have il := (List.getElem?_eq_some_iff.mp hu).1
        refine .inr ⟨a, us, rfl, ha, .inr ⟨mk ++ [[]], l2, by omega, ok, fun i hi => List.take_append_of_le_length hi, fun i ln h => by rw [List.getElem?_append_left (List.getElem?_eq_some_iff.mp h).1]; exact h, fun i h _ => by rw [List.length_append]; simp; omega, fun i x hx hi => ?_, fun h => absurd h (by omega)⟩⟩
        by_cases z : i = mk.length
        · subst z
          rw [hu] at hx
          obtain rfl := Option.some.inj hx
          exact .inr (.inr ⟨rfl, au, q⟩)
        · exact .inl (he.2 i x (by rw [List.getElem?_take, if_pos (by omega)]; exact hx))
  clear hc
  refine ⟨fun σ' G => ∃ a us mk', v = .ref a ∧ (H a = some (.lst us) ∨ H a = some (.tup us)) ∧ us.length ≤ 200 ∧ 1 ≤ us.length ∧ MkOk ms mk' D Ee nM ∧ (∀ (i : Nat), i ≤ mk.length → mk'.take i = mk.take i) ∧ (∀ (i : Nat) (ln : List PtQ), mk[i]? = some ln → mk'[i]? = some ln) ∧ (∀ i, i ≤ mk.length → i < us.length → i < mk'.length) ∧ Meets C H us ms mk (∀ H', Same H H' → Q .non H') ∧ (us.length ≤ mk.length → us.length = mk.length ∧ ∀ a H' ws, Same H H' → H a = none → H' a = some (.lst ws) → Ea WorthR H' ws (linesQ ms mk) → Q (.ref a) H') ∧ σ' = [some (.ref l), some (.ref a), none, none, none, none] ∧ Same H G, ?_, ?_⟩
  · rcases pk with ⟨hi, ⟨d, hk⟩, q⟩ | ⟨a, us, rfl, ha, ⟨rfl, q⟩ | ⟨mk', l2, l1, hh⟩⟩
    · exact ⟨_, rfl, v, rfl, .inl ⟨d, hk, fun H1 s1 => ⟨_, rfl, by rw [hi]; exact iteT2 rfl (q H1 s1)⟩⟩⟩
    · refine ⟨_, rfl, .ref a, rfl, .inr ⟨a, _, rfl, ha, fun H1 s1 => ⟨true, rfl, iteF2 rfl ?_⟩⟩⟩
      exact ⟨_, rfl, a, _, rfl, seq_sq (ha.imp (s1 _ _) (s1 _ _)), _, _, rfl, rfl, _, rfl, iteT2 rfl (q H1 s1)⟩
    · refine ⟨_, rfl, .ref a, rfl, .inr ⟨a, us, rfl, ha, fun H1 s1 => ⟨true, rfl, iteF2 rfl ?_⟩⟩⟩
      refine ⟨_, rfl, a, us, rfl, seq_sq (ha.imp (s1 _ _) (s1 _ _)), _, _, rfl, rfl, _, rfl, iteF2 (decide_eq_false (by omega)) ⟨_, rfl, a, us, rfl, seq_sq (ha.imp (s1 _ _) (s1 _ _)), _, _, rfl, rfl, _, rfl, iteF2 (decide_eq_false (by omega)) ?_⟩⟩
      exact ⟨a, us, mk', rfl, ha, l2, l1, hh.1, hh.2.1, hh.2.2.1, hh.2.2.2.1, hh.2.2.2.2.1, hh.2.2.2.2.2, rfl, s1⟩
  rintro _ G0 ⟨a, us, mk', rfl, ha, l2, l1, ok, tk, at', hlen, hM, hF, rfl, s0⟩
  clear pk
  have lm := ok.lm
  have ok1 := ok.l1
  have tk0 : mk'.take 0 = mk.take 0 := rfl
  have st0 := ok.st 0 (by omega)
  rw [tk0] at st0
  have d63 := st0.D63
  refine ⟨by show 1 ≤ sizeLine; decide, fun c1 n1 => ⟨by show 2 ≤ sizeLine; decide, fun t1 nt1 => ?_⟩⟩
  have sc := same_new (o := .lst [V.int 1]) n1
  have st := same_new (o := .tup [V.ref c1, V.int 1]) nt1
  have hc1 := st _ _ (upd_same (H := G0) (a := c1) (o := .lst [V.int 1]))
  have ht1 : (upd (upd G0 c1 (.lst [V.int 1])) t1 (.tup [V.ref c1, V.int 1])) t1 = some (.tup [V.ref c1, V.int 1]) := upd_same
  have sG := (s0.trans sc).trans st
  generalize upd (upd G0 c1 (.lst [V.int 1])) t1 (.tup [V.ref c1, V.int 1]) = G1 at *
  refine ⟨_, rfl, l, rfl, ⟨gs, SqL.of (sG _ _ hl)⟩, fun D1 nD => ?_⟩
  refine lc_rel (walk_list (K := K) (a := l) (xs := gs)) (fun i acc Hh => Ea WorthR Hh acc (ms.take i)) nD (by rw [lg, sizeLine_eq]; omega) (fun Hh sh => SqL.of (sh _ _ (sG _ _ hl))) Ea.nil (fun i acc A B s r => r.same WorthR.mo s) (fun i x acc Ha Hb hi sa hA hr hy Yc Nc yc nc => ?_) (fun acc G2 s2 hD hr => ?_)
  · obtain ⟨rfl, hx⟩ := hy
    obtain ⟨p, hp, b, ws, rfl, hb, hq⟩ := hg.2 i x hx
    have pm : p ∈ stockQ ms (mk.take 0) := List.mem_cons_of_mem _ (List.mem_of_getElem? hp)
    have sH := sG.trans sa
    refine ⟨rfl, _, rfl, b, ws, p, 1000, 63, D, rfl, sH _ _ hb, RatL.same hq sH, ok.m49 p (List.mem_of_getElem? hp), stok_bits st0 pm, by decide, st0.d0, d63, by decide, fun y hy => (st0.sc p pm y hy).den st0.d0, fun t a' H' bo ts s' na ht ha' b0 lb rts bn mn => yc (.ref t) H' s' ?_⟩
    have hA' := s' _ _ hA
    have bn : ((bo.natAbs : Nat) : Int) = bo := by omega
    rw [takeS hp]
    refine (hr.same WorthR.mo (wo_mono (D := D1) s')).snoc ⟨t, a', ts, bo.natAbs, rfl, ?_, ?_, by omega, by rw [bn]; exact rts, mn⟩
    · rw [bn, wo_ne (fun z => by rw [z, hA'] at ht; cases ht)]; exact ht
    · rw [wo_ne (fun z => by rw [z, hA] at na; cases na)]; exact ha'
  rw [lg, List.take_length] at hr
  have hr := hr.same WorthR.mo (wo_le (D := D1))
  have la := hr.1
  refine ⟨D1, _, rfl, .inr (SqL.of hD), by rw [sizeLine_eq]; simp; omega, fun W nW => ?_⟩
  rw [List.append_nil]
  have sW := same_new (o := .lst (V.ref t1 :: acc)) nW
  have s12 := sG.trans s2
  have nWH : H W = none := s12.free nW
  have hW1 : Ea WorthR (wo W (upd G2 W (.lst (V.ref t1 :: acc)))) (V.ref t1 :: acc) ([1] :: ms) := by
    have e1 : WorthR (wo W (upd G2 W (.lst (V.ref t1 :: acc)))) (.ref t1) [1] := WorthR.mo _ _ _ _ ⟨t1, c1, [1], 1, rfl, s2 _ _ ht1, s2 _ _ hc1, worth_one⟩ (same_wo nW sW)
    exact (Ea.one e1).app (hr.same WorthR.mo (same_wo nW sW))
  refine for_sq (H0 := H) (a := a) (xs := us) (fun i σ G => ∃ (o3 o4 : Option V) (zs : List V), σ = [some (.ref l), some (.ref a), some (.ref W), o3, o4, none] ∧ Same H (wo W G) ∧ G W = some (.lst zs) ∧ i ≤ mk.length ∧ Ea WorthR (wo W G) zs (stockQ ms (mk.take i)))
    (fun R r => ⟨_, rfl, r⟩) (seq_sq ha) (s12.trans sW) ⟨none, none, _, rfl, same_wo nWH (s12.trans sW), upd_same, Nat.zero_le _, hW1⟩ (fun i σ' G ⟨_, _, _, _, sm, _⟩ => sm.trans wo_le) (fun i x σ G hx ⟨o3, o4, zs, e, sm, hG, iM, hE⟩ => ?_) (fun σ G ⟨o3, o4, zs, e, sm, hG, iM, hE⟩ => ?_)
  · subst e
    have lz := hE.1
    rw [stockQ_len, List.length_take, show min i mk.length = i by omega] at lz
    have sG : Same H G := sm.trans wo_le
    refine ⟨fun σ' G' => σ' = [some (.ref l), some (.ref a), some (.ref W), some x, o4, none] ∧ Same G G' ∧ ∃ ln, LineR C H x ln ∧ ln.length ≤ 60 ∧ (∀ p ∈ ln, PtOk (ms.length + 1 + i) p) ∧ (mk[i]? = some ln ∨ (97 < (lineQ (stockQ ms (mk.take i)) ln).length ∧ ∀ H', Same H H' → Q .non H')), ?_, ?_⟩
    · rcases hM i x hx iM with ⟨ln, hl1, hl2⟩ | ⟨e1, au, fu, q⟩ | ⟨e1, ⟨ln, hl2, k60, kp, lg97⟩, q⟩
      · obtain ⟨k60, kp⟩ := ok.ok i ln (at' i ln hl1)
        obtain ⟨au, fu⟩ := isLineV_of (m := zs.length) (SeqR.mo PartR.mo _ _ _ _ hl2 sG) k60 fun p hp => by rw [lz]; exact ⟨(kp p hp).1, (kp p hp).2.1⟩
        exact ⟨_, rfl, _, rfl, W, zs, rfl, .inl (SqL.of hG), x, zs.length, rfl, au, fun H1 s1 => ⟨_, rfl, by rw [fu]; exact iteF2 rfl ⟨rfl, s1, ln, hl2, k60, kp, .inl hl1⟩⟩⟩
      · obtain ⟨au2, fu2⟩ := au.same sG
        have fu3 : isLineV G zs.length x = false := by rw [fu2, lz]; exact fu
        exact ⟨_, rfl, _, rfl, W, zs, rfl, .inl (SqL.of hG), x, zs.length, rfl, au2, fun H1 s1 => ⟨_, rfl, by rw [fu3]; exact iteT2 rfl (q H1 (sG.trans s1))⟩⟩
      · obtain ⟨au, fu⟩ := isLineV_of (m := zs.length) (SeqR.mo PartR.mo _ _ _ _ hl2 sG) k60 fun p hp => by rw [lz, e1]; exact ⟨(kp p hp).1, (kp p hp).2.1⟩
        exact ⟨_, rfl, _, rfl, W, zs, rfl, .inl (SqL.of hG), x, zs.length, rfl, au, fun H1 s1 => ⟨_, rfl, by rw [fu]; exact iteF2 rfl ⟨rfl, s1, ln, hl2, k60, by rw [e1]; exact kp, .inr ⟨by rw [e1, List.take_length]; exact lg97, q⟩⟩⟩⟩
    rintro _ Ga ⟨rfl, sa, ln, hl2, k60, kp, hcase⟩
    have ik : i < mk'.length := by
      have a1 := tk i iM
      have a2 := (List.getElem?_eq_some_iff.mp hx).1
      exact hlen i iM a2
    have sma := sm.trans (wo_mono (D := W) sa)
    have hGa := sa _ _ hG
    have hEa := hE.same WorthR.mo (wo_mono (D := W) sa)
    have lst : (stockQ ms (mk.take i)).length = zs.length := hE.1.symm
    have okI := ok.st i ik
    rw [tk i iM] at okI
    refine ⟨_, rfl, _, rfl, x, W, zs, ln, stockQ ms (mk.take i), D, nM, rfl, SeqR.mo PartR.mo _ _ _ _ hl2 (sG.trans sa), k60, hGa, hEa.same WorthR.mo wo_le, by omega, okI, fun p hp => by rw [lst, lz]; exact kp p hp, fun v' G3 s3 wr => ?_⟩
    obtain ⟨t, b, ts, bo, rfl, ht, hb, hw⟩ := wr
    have lt := hw.len
    have hG3 := s3 _ _ hGa
    refine ⟨fun σ' G' => σ' = [some (.ref l), some (.ref a), some (.ref W), some x, some (.ref t), none] ∧ G' = G3 ∧ mk[i]? = some ln, ?_, ?_⟩
    · rcases hcase with hl1 | ⟨lg97, q⟩
      · have pm : lineQ (stockQ ms (mk.take i)) ln ∈ stockQ ms mk' := by
          have := List.mem_of_getElem? (stockQ_at (ms := ms) (at' i ln hl1))
          rwa [tk i iM] at this
        have l97 := (ok.fin _ pm).2
        refine ⟨_, rfl, t, _, 0, .ref b, rfl, rfl, SqT.of ht, rfl, b, _, rfl, .inl (SqL.of hb), _, _, rfl, rfl, _, _, rfl, rfl, _, rfl, iteF2 (decide_eq_false (by rw [vi_len]; omega)) ⟨rfl, rfl, hl1⟩⟩
      · refine ⟨_, rfl, t, _, 0, .ref b, rfl, rfl, SqT.of ht, rfl, b, _, rfl, .inl (SqL.of hb), _, _, rfl, rfl, _, _, rfl, rfl, _, rfl, iteT2 (decide_eq_true (by rw [vi_len]; omega)) (q _ ((sG.trans sa).trans s3))⟩
    rintro _ _ ⟨rfl, rfl, hl1⟩
    have ii := (List.getElem?_eq_some_iff.mp hl1).1
    have nz : zs ≠ [] := fun z => by rw [z] at lz; simp at lz; omega
    have bW : b ≠ W := fun z => by
      rw [z, hG3] at hb
      obtain ⟨y, zr, rfl⟩ := List.exists_cons_of_ne_nil nz
      obtain ⟨_, _, ty, _, _, _, rfl, _⟩ := hE.2 0 y rfl
      cases ts with
      | nil => injection (Option.some.inj hb) with h1; cases h1
      | cons y ts => injection (Option.some.inj hb) with h1; injection h1 with h2; cases h2
    refine ⟨_, rfl, Or.inl ⟨rfl, _, SqL.of hG3⟩, _, rfl, W, zs, _, rfl, rfl, hG3, by rw [lz, sizeLine_eq]; omega, ?_⟩
    refine ⟨_, _, _, rfl, by rw [wo_upd]; exact sma.trans (wo_mono (D := W) s3), upd_same, ii, ?_⟩
    rw [wo_upd, show mk.take (i + 1) = mk.take i ++ [ln] from takeS hl1, stockQ_snoc]
    exact (hEa.same WorthR.mo (wo_mono (D := W) s3)).snoc ⟨t, b, ts, bo, rfl, by rw [wo_ne (fun z => by rw [z, hG3] at ht; cases ht)]; exact ht, by rw [wo_ne bW]; exact hb, hw⟩
  subst e
  obtain ⟨lu, q⟩ := hF iM
  rw [lu, List.take_length] at hE
  have sG : Same H G := sm.trans wo_le
  refine ⟨_, rfl, _, rfl, l, gs, rfl, .inl (SqL.of (sG _ _ hl)), _, _, rfl, rfl, ((gs.length + 1 : Nat) : Int), by rw [Int.natCast_add]; rfl, W, zs, rfl, SqL.of hG, fun c nc => ?_⟩
  rw [cut_from]
  have sc := same_new (o := .lst (zs.drop (gs.length + 1))) nc
  refine q c _ _ (sG.trans sc) (sG.free nc) upd_same ?_
  unfold linesQ
  rw [← lg]
  exact ((hE.same WorthR.mo wo_le).same WorthR.mo sc).drop _
theorem tls_ea {H H' : Hp} {a : Addr} {gs : List V} {ms : List (List Rat)} (h : Tls C H (wo a H') gs (ms.map (·.map nd))) : Ea (ListQ C) H' gs ms := by
  refine ⟨by rw [h.len, List.length_map], fun i v hv => ?_⟩
  obtain ⟨ps, g, us, h1, rfl, h3, h4, h5⟩ := h.at_ i v hv
  rw [List.getElem?_map] at h1
  cases e : ms[i]? with
  | none => rw [e] at h1; cases h1
  | some p =>
    rw [e] at h1
    obtain rfl := Option.some.inj h1
    exact ⟨p, rfl, g, us, rfl, wo_le _ _ h4, RatL.same h5 wo_le⟩
theorem BadM.same {H H' : Hp} {v : V} {nm : Nat} {mk : List (List PartQ)} (h : BadM C H v nm mk) (e : Same H H') : BadM C H' v nm mk := by
  rcases h with ⟨h1, d, h2⟩ | ⟨a, us, rfl, ha, h3⟩
  · exact .inl ⟨by rw [itemsOf_same h2 e]; exact h1, d, h2.same e⟩
  · refine .inr ⟨a, us, rfl, ha.imp (e _ _) (e _ _), h3.imp id fun ⟨l, he, u, hu, au, fu⟩ => ?_⟩
    obtain ⟨a2, f2⟩ := au.same e
    exact ⟨l, he.same (SeqR.mo PartR.mo) e, u, hu, a2, by rw [f2]; exact fu⟩
theorem LongM.same {H H' : Hp} {v : V} {ms : List (List Rat)} {mk : List (List PtQ)} (h : LongM C H v ms mk) (e : Same H H') : LongM C H' v ms mk :=
  let ⟨a, us, h1, h2, h3, h4, u, h5, ln, h6, h7⟩ := h
  ⟨a, us, h1, h2.imp (e _ _) (e _ _), h3, h4.same (SeqR.mo PartR.mo) e, u, h5, ln, SeqR.mo PartR.mo _ _ _ _ h6 e, h7⟩
def sp_told_worth (C : Addr) : Sp := fun vs H Q _ => ∃ (v : V) (p : List Rat) (D M : Nat), vs = [v] ∧ WorthR H v p ∧ AllS (D : Int) M p ∧ 0 < D ∧ D < 2 ^ 63 ∧ M < 2 ^ 1000 ∧ p.length ≤ 97 ∧ ∀ a H' us, Same H H' → H a = none → H' a = some (.lst us) → QL C H' us p → Q (.ref a) H'
-- slots: worth 0, tops 1, bottom 2, top 3; cells: bottom
abbrev s_told_worth : Stmt := top 46
abbrev N_told_worth : List Str := ["worth", "tops", "bottom", "top"]
theorem sc_told_worth : FnScope N_told_worth ["worth"] (defScope s_told_worth) := ⟨rfl, rfl, rfl, by decide +kernel, rfl, by decide +kernel, by decide +kernel⟩
theorem d_told_worth (B : Bnd K mg "told_worth" s_told_worth) (M : Mg2 mg) {kr : Nat} (DQ : RDefQ P w K mg base kr C) (hk : kr + 8 ≤ k)  : Def P w K mg base (k + 1) "told_worth" s_told_worth ["worth"] (sp_told_worth C) := by
  refine def_of B sc_told_worth (by rintro _ _ _ _ ⟨v, p, D, nM, rfl, _⟩; rfl) (fun _ _ _ _ _ _ us hl => match us, hl with | [_], _ => rfl) fun f cdv A outer s H vs Q E hr h => ?_
  obtain ⟨v, p, D, nM, rfl, hw, hs, d0, dB, mB, lp, q⟩ := h
  have hu := hr.units
  refine ⟨_, pss_cons (ps_asg (pv 0) (pg_tup rfl (pgs_cons (pg_name (i := 1) sc_told_worth.nd rfl (.inl rfl)) (pgs_cons (pg_name (i := 2) sc_told_worth.nd rfl (.inr rfl)) pgs_nil))))
    (pss_one (ps_ret (pe_lc (own := [("top", 3)]) (g := (gName 3)) (tt := tYes) (te := (tRatQ C (tCons (tVar 3) (tCons (tVar 2) tNil)))) rfl sc_told_worth.nd (pi_list (pv 1)) (blkOk_by (own := [("top", 3)]) (N := N_told_worth) (sc := defScope s_told_worth) (by decide +kernel)) (fun _ _ _ _ _ => pg_name (i := 3) sc_told_worth.nd rfl (.inl rfl)) (fun _ _ _ _ _ => pts_nil) (fun _ _ _ _ _ => pe_ratQ DQ (hr.mono (by omega)) (by rfl) (pa_cons (pv 3) (pa_cons (pv 2) pa_nil)))))), ?_⟩
  obtain ⟨t, a, ts, bo, rfl, ht, ha, hW⟩ := hw
  have lt := hW.len
  have bD := Nat.le_of_dvd d0 (hW.dvd hs d0)
  have b0 := hW.1
  have lb3 : LbI 8990 (bo : Int) := by
    show (bo : Int).natAbs < 2 ^ 8990
    rw [Int.natAbs_natCast]
    exact Nat.lt_of_le_of_lt bD (Nat.lt_trans dB (Nat.pow_lt_pow_right (by decide) (by decide)))
  refine ⟨_, rfl, t, _, rfl, SqT.of ht, rfl, _, _, rfl, _, _, rfl, rfl, ?_⟩
  refine ⟨_, rfl, a, rfl, ⟨_, SqL.of ha⟩, fun D1 nD => ?_⟩
  refine lc_rel (walk_list (K := K) (a := a) (xs := VI ts)) (fun i acc Hh => QL C Hh acc ((ratsOf (bo : Int) ts).take i)) nD (by rw [vi_len, lt, sizeLine_eq]; omega) (fun Hh sh => SqL.of (sh _ _ ha)) QL.nil (fun i acc A B s r => RatL.same r s) (fun i v acc Ha Hb hi sa hA hr hy Yc Nc yc nc => ?_) (fun acc H4 s4 hD hr => ?_)
  · obtain ⟨rfl, hv⟩ := hy
    obtain ⟨z, hz, rfl⟩ := vi_at hv
    refine ⟨rfl, _, rfl, _, rfl, z, (bo : Int), rfl, by omega, lb3, fun c H4 nc s4 rc => yc _ H4 s4 ?_⟩
    have hx : (ratsOf (bo : Int) ts)[i]? = some ((z : Rat) / ((bo : Int) : Rat)) := by unfold ratsOf; rw [List.getElem?_map, hz]; rfl
    rw [takeS hx]
    rw [Rat.divInt_eq_div] at rc
    exact QL.snoc (RatL.same hr (wo_mono s4)) (Rat2.wo rc (s4 _ _ hA))
  · rw [vi_len, List.take_of_length_le (by rw [ratsOf_len]; exact Nat.le_refl _), hW.2.1] at hr
    exact q D1 H4 acc s4 nD hD (RatL.same hr (wo_le (D := D1)))
end
end K21

namespace K21
open PySem PySem.Spec PyProof.Rows L2 Fp
section
variable {P : Program} {w : World} {K : PySem.W.Frag} {mg : Str → Option Value} {base : Heap} {k : Nat} {C fI fR : Addr}
def lastQ (ms : List (List Rat)) (mk : List (List PtQ)) : List Rat := ((linesQ ms mk).getLast?).getD []
theorem fit_bits {ms : List (List Rat)} {mk : List (List PtQ)} {D E M : Nat} (h : MkOk ms mk D E M) : ∀ p ∈ linesQ ms mk, AllS (E : Int) M p ∧ p.length ≤ 97 := fun p hp => h.fin p (List.mem_of_mem_drop hp)
def sp_asked (C : Addr) : Sp := fun vs H Q _ => ∃ (x y : V) (ms : List (List Rat)) (f : List Rat), vs = [x, y] ∧ MakersQ C H x ms ∧ Sk C H 1 y ∧ isPolyV H y = true ∧ toldP H y = f.map nd ∧ f.length ≤ 25 ∧ ∀ t H' l g gs us, Same H H' → H' t = some (.tup [.ref l, .ref g]) → H' l = some (.lst gs) → Ea (ListQ C) H' gs ms → H' g = some (.lst us) → QL C H' us f → Q (.ref t) H'
def sp_is_making_of (C : Addr) : Sp := fun vs H Q _ => ∃ (x y v : V) (ms : List (List Rat)) (f : List Rat) (mk : List (List PtQ)) (D E M : Nat), vs = [x, y, v] ∧ MakersQ C H x ms ∧ Sk C H 1 y ∧ isPolyV H y = true ∧ toldP H y = f.map nd ∧ f.length ≤ 25 ∧ ((MakR C H v mk ∧ MkOk ms mk D E M ∧ M < 2 ^ 1000 ∧ Ret H Q (.bl (decide (lastQ ms mk = f)))) ∨ ((BadM C H v ms.length mk ∨ LongM C H v ms mk) ∧ MkOk ms (mk ++ [[]]) D E M ∧ Ret H Q (.bl false)))
theorem at_last {xs : List V} {v : V} (h : xs[xs.length - 1]? = some v) (l : 0 < xs.length) : atI xs (-1) = some v := by
  unfold atI ixN
  rw [if_neg (by omega), if_pos (by omega)]
  rw [← h]
  show xs[(-1 + (xs.length : Int)).toNat]? = _
  congr 1; omega
theorem last_at {ms : List (List Rat)} {mk : List (List PtQ)} (l1 : 1 ≤ mk.length) : (linesQ ms mk)[(linesQ ms mk).length - 1]? = some (lastQ ms mk) := by
  have ll := linesQ_len ms mk
  unfold lastQ
  rw [List.getLast?_eq_getElem?]
  cases e : (linesQ ms mk)[(linesQ ms mk).length - 1]? with
  | none => have := List.getElem?_eq_none_iff.mp e; omega
  | some p => rfl
-- slots: makers 0, poly 1, known 2, first 3; cells: 
abbrev s_asked : Stmt := top 50
abbrev N_asked : List Str := ["makers", "poly", "known", "first"]
theorem sc_asked : FnScope N_asked ["makers", "poly"] (defScope s_asked) := ⟨rfl, rfl, rfl, by decide +kernel, rfl, by decide +kernel, by decide +kernel⟩
theorem d_asked (B : Bnd K mg "asked" s_asked) (M : Mg2 mg) (R : RCls K mg C fI fR)  (D_told : Def P w K mg base k "told" s_told ["poly"] (sp_told C)) (D_told_makers : Def P w K mg base k "told_makers" s_told_makers ["makers"] (sp_told_makers C)) : Def P w K mg base (k + 1) "asked" s_asked ["makers", "poly"] (sp_asked C) := by
  refine def_of B sc_asked (by rintro _ _ _ _ ⟨x, y, ms, fq, rfl, _⟩; rfl) (fun _ _ _ _ _ _ us hl => match us, hl with | [_, _], _ => rfl) fun f cdv A outer s H vs Q E hr h => ?_
  obtain ⟨x, y, ms, fq, rfl, hx, hy, hp, ht, l25, q⟩ := h
  have hu := hr.units
  obtain ⟨t_MOST_LEFT, m_MOST_LEFT⟩ := M.MOST_LEFT
  refine ⟨_, pss_cons (ps_set (i := 2) sc_asked.nd rfl (.inl rfl) (pe_d D_told_makers hr (by rfl) (pa_cons (pv 0) pa_nil)))
    (pss_cons (ps_set (i := 3) sc_asked.nd rfl (.inl rfl) (pe_d D_told hr (by rfl) (pa_cons (pv 1) pa_nil)))
    (pss_cons (ps_if (pt_cmpR op_gt (pe_op op_sub (pe_callB call_len_seq (by rfl) M.len boot_len (pa_cons (pv 3) pa_nil)) pe_int) (pe_glob (v := .int 24) (by rfl) m_MOST_LEFT ⟨_, rfl⟩) (nomark _)) pss_never pss_nil)
    (pss_one (ps_ret (pe_tup (pa_cons (pv 2) (pa_cons (pv 3) pa_nil))))))), ?_⟩
  refine ⟨_, rfl, x, 2, rfl, hx.1, hx.2.1, fun l H1 gs s1 n1 hl tl => ?_⟩
  rw [hx.2.2] at tl
  refine ⟨_, rfl, y, 1, rfl, hy.same s1, by rw [isPolyV_same hy s1]; exact hp, fun g H2 us s2 n2 hg rg => ?_⟩
  rw [toldP_same hy s1, ht] at rg
  have lu := QL.len rg
  refine ⟨_, rfl, g, us, rfl, .inl (SqL.of hg), _, _, rfl, rfl, _, _, rfl, rfl, _, rfl, iteF2 (decide_eq_false (by omega)) ?_⟩
  refine ⟨_, rfl, _, rfl, by show 2 ≤ sizeLine; decide, fun t nt => ?_⟩
  have st := same_new (o := .tup [.ref l, .ref g]) nt
  exact q t _ l g gs us ((s1.trans s2).trans st) upd_same (st _ _ (s2 _ _ hl)) ((tls_ea tl).same ListQ.mo (s2.trans st)) (st _ _ hg) (RatL.same rg st)
-- slots: makers 0, poly 1, value 2, known 3, first 4, worths 5; cells: 
abbrev s_is_making_of : Stmt := top 49
abbrev N_is_making_of : List Str := ["makers", "poly", "value", "known", "first", "worths"]
theorem sc_is_making_of : FnScope N_is_making_of ["makers", "poly", "value"] (defScope s_is_making_of) := ⟨rfl, rfl, rfl, by decide +kernel, rfl, by decide +kernel, by decide +kernel⟩
theorem d_is_making_of (B : Bnd K mg "is_making_of" s_is_making_of) (M : Mg2 mg) (R : RCls K mg C fI fR) {kr : Nat} (EXB : EqXB P w K mg base kr C) (hk : kr + 8 ≤ k) (D_worths_of : Def P w K mg base k "worths_of" s_worths_of ["known", "value"] (sp_worths_of C)) (D_told_worth : Def P w K mg base k "told_worth" s_told_worth ["worth"] (sp_told_worth C)) (D_asked : Def P w K mg base k "asked" s_asked ["makers", "poly"] (sp_asked C)) : Def P w K mg base (k + 1) "is_making_of" s_is_making_of ["makers", "poly", "value"] (sp_is_making_of C) := by
  refine def_of B sc_is_making_of (by rintro _ _ _ _ ⟨x, y, v, ms, fq, mk, D, Ee, nM, rfl, _⟩; rfl) (fun _ _ _ _ _ _ us hl => match us, hl with | [_, _, _], _ => rfl) fun f cdv A outer s H vs Q E hr h => ?_
  obtain ⟨x, y, v, ms, fq, mk, D, Ee, nM, rfl, hx, hy, hp, ht, l25, hc⟩ := h
  have hu := hr.units
  refine ⟨_, pss_cons (ps_asg (pe_d D_asked hr (by rfl) (pa_cons (pv 0) (pa_cons (pv 1) pa_nil))) (pg_tup rfl (pgs_cons (pg_name (i := 3) sc_is_making_of.nd rfl (.inl rfl)) (pgs_cons (pg_name (i := 4) sc_is_making_of.nd rfl (.inl rfl)) pgs_nil))))
    (pss_cons (ps_set (i := 5) sc_is_making_of.nd rfl (.inl rfl) (pe_d D_worths_of hr (by rfl) (pa_cons (pv 3) (pa_cons (pv 2) pa_nil))))
    (pss_one (ps_ret (pe_and (pe_cmpR op_notN (pv 5) pe_non (nomark _)) (pe_one (pe_cmpR (op_eq1B EXB (hr.mono (by omega))) (pe_d D_told_worth hr (by rfl) (pa_cons (pe_ix (r := rIxL K) ix_list (pv 5) (pe_un un_neg pe_int) (fun _ _ => rfl)) pa_nil)) (pv 4) (nomark _))))))), ?_⟩
  refine ⟨_, rfl, _, rfl, x, y, ms, fq, rfl, hx, hy, hp, ht, l25, fun t H1 l g gs us s1 h1 hl he hg hu => ?_⟩
  refine ⟨t, _, rfl, SqT.of h1, rfl, _, _, rfl, _, _, rfl, rfl, ?_⟩
  refine ⟨_, rfl, _, rfl, l, v, gs, ms, mk, D, Ee, nM, rfl, hl, he, ?_⟩
  rcases hc with ⟨hv, ok, m1, q⟩ | ⟨hb, ok, q⟩
  · refine .inl ⟨SeqR.mo (SeqR.mo PartR.mo) _ _ _ _ hv s1, ok, fun a H2 ws s2 n2 ha hw => ?_⟩
    have l1 := ok.l1
    have lw := hw.1
    have ll := linesQ_len ms mk
    obtain ⟨u, hu2, hur⟩ := hw.get (last_at (ms := ms) l1)
    have pm := List.mem_of_getElem? (last_at (ms := ms) l1)
    obtain ⟨f1, f2⟩ := fit_bits ok _ pm
    refine ⟨_, rfl, rfl, true, rfl, iteT ?_⟩
    refine ⟨_, rfl, 1, rfl, a, ws, -1, u, rfl, rfl, SqL.of ha, at_last (by rw [lw]; exact hu2) (by omega), u, _, Ee, nM, rfl, hur, f1, ok.e0, ok.e63, m1, f2, fun b H3 ps s3 n3 hb hpq => ⟨_, rfl, .inr ⟨_, ql_eqB hb (s3 _ _ (s2 _ _ hg)) hpq (RatL.same hu (s2.trans s3)), fun H4 s4 => q H4 ?_⟩⟩⟩
    exact ((s1.trans s2).trans s3).trans s4
  · refine .inr ⟨hb.imp (fun h => h.same s1) fun h => h.same s1, ok, fun H2 s2 => ⟨_, rfl, rfl, false, rfl, iteF (q H2 (s1.trans s2))⟩⟩
end
end K21

namespace Fp
open PySem PySem.Spec PyProof.Rows L2
/-! ### mixed numbers -/
theorem NumQ.int_eq {C : Addr} {H : Hp} {i : Int} {x : Rat} (h : NumQ C H (.int i) x) : x = (i : Rat) := by
  rcases h with ⟨h1, h2⟩ | ⟨a, h1, _⟩
  · injection h1 with h1
    refine Rat.ext (by rw [h1]; rfl) ?_
    have : (x.den : Int) = 1 := h2
    show x.den = 1
    omega
  · cases h1
def rNumA (C : Addr) : R2 := fun x y H Q => ∃ (p q : Rat) (n m : Nat), NumQ C H x p ∧ NumQ C H y q ∧ Bits n p ∧ Bits m q ∧ n + m ≤ 8900 ∧ ∀ v H', Same H H' → NumQ C H' v (p + q) → Q v H'
def rNumM (C : Addr) : R2 := fun x y H Q => ∃ (p q : Rat) (n m : Nat), NumQ C H x p ∧ NumQ C H y q ∧ Bits n p ∧ Bits m q ∧ n + m ≤ 8900 ∧ ∀ v H', Same H H' → NumQ C H' v (p * q) → Q v H'
theorem NumQ.own_eq {C : Addr} {H : Hp} {a : Addr} {x : Rat} (h : NumQ C H (.ref a) x) : RQ C H a x := by
  rcases h with ⟨h1, _⟩ | ⟨b, h1, h2⟩
  · cases h1
  · injection h1 with h1; subst h1; exact h2
theorem NumQ.cases {C : Addr} {H : Hp} {v : V} {x : Rat} (h : NumQ C H v x) : (∃ i : Int, v = .int i ∧ x = (i : Rat)) ∨ ∃ a, v = .ref a ∧ RQ C H a x := by
  rcases id h with ⟨h1, _⟩ | ⟨b, h1, h2⟩
  · subst h1; exact .inl ⟨_, rfl, h.int_eq⟩
  · exact .inr ⟨b, h1, h2⟩
theorem op_numA {X : Cx} {C : Addr} {n : Nat} (A : BinX X.prog X.w X.K X.mg X.base n C .Add (spAddQ C)) (R : RevX X.prog X.w X.K X.mg X.base n C .Add (spAddQ C)) (hr : Room n X.A) : OpR X (binaryOp .Add) (rNumA C) := by
  intro pins s σ H x y v u Q I rx ry h
  obtain ⟨p, q, n1, m1, hx, hy, bx, by_, nm, k⟩ := h
  refine op_numAdd A R hr pins s σ H x y v u Q I rx ry ?_
  rcases hx.cases with ⟨i, rfl, e1⟩ | ⟨a, rfl, r1⟩
  · rcases hy.cases with ⟨j, rfl, e2⟩ | ⟨b, rfl, r2⟩
    · refine .inl ⟨i, j, rfl, rfl, k _ _ (Same.refl _) ?_⟩
      rw [e1, e2, ← Rat.intCast_add]; exact NumQ.int
    · obtain ⟨dy, h2⟩ := id r2
      exact .inr (.inr ⟨i, b, dy, _, rfl, rfl, h2, b, _, q, p, m1, n1, rfl, r2, hx, by_, bx, by omega, fun r H' s' rr => ⟨⟨r, rfl⟩, k _ _ s' (by rw [Rat.add_comm]; exact rr.nq)⟩⟩)
  · obtain ⟨dx, h1⟩ := id r1
    exact .inr (.inl ⟨a, dx, _, rfl, h1, hy.own, a, _, p, q, n1, m1, rfl, r1, hy, bx, by_, nm, fun r H' s' rr => ⟨⟨r, rfl⟩, k _ _ s' rr.nq⟩⟩)
theorem op_numM {X : Cx} {C : Addr} {n : Nat} (A : BinX X.prog X.w X.K X.mg X.base n C .Mult (spMulQ C)) (R : RevX X.prog X.w X.K X.mg X.base n C .Mult (spMulQ C)) (hr : Room n X.A) : OpR X (binaryOp .Mult) (rNumM C) := by
  intro pins s σ H x y v u Q I rx ry h
  obtain ⟨p, q, n1, m1, hx, hy, bx, by_, nm, k⟩ := h
  refine op_numMul A R hr pins s σ H x y v u Q I rx ry ?_
  rcases hx.cases with ⟨i, rfl, e1⟩ | ⟨a, rfl, r1⟩
  · rcases hy.cases with ⟨j, rfl, e2⟩ | ⟨b, rfl, r2⟩
    · subst e1
      subst e2
      refine .inl ⟨i, j, rfl, rfl, LbI.cm (n := n1) (m := m1) bx.1 by_.1 (by omega), k _ _ (Same.refl _) ?_⟩
      rw [← Rat.intCast_mul]; exact NumQ.int
    · obtain ⟨dy, h2⟩ := id r2
      exact .inr (.inr ⟨i, b, dy, _, rfl, rfl, h2, b, _, q, p, m1, n1, rfl, r2, hx, by_, bx, by omega, fun r H' s' rr => ⟨⟨r, rfl⟩, k _ _ s' (by rw [Rat.mul_comm]; exact rr.nq)⟩⟩)
  · obtain ⟨dx, h1⟩ := id r1
    exact .inr (.inl ⟨a, dx, _, rfl, h1, hy.own, a, _, p, q, n1, m1, rfl, r1, hy, bx, by_, nm, fun r H' s' rr => ⟨⟨r, rfl⟩, k _ _ s' rr.nq⟩⟩)
/-- a list of mixed numbers -/
def ML (C : Addr) (H : Hp) (us : List V) (xs : List Rat) : Prop := us.length = xs.length ∧ ∀ (i : Nat) (v : V), us[i]? = some v → ∃ x, xs[i]? = some x ∧ NumQ C H v x
theorem ML.same {C : Addr} {H H' : Hp} {us : List V} {xs : List Rat} (h : ML C H us xs) (e : Same H H') : ML C H' us xs := ⟨h.1, fun i v hv => let ⟨x, h1, h2⟩ := h.2 i v hv; ⟨x, h1, h2.same e⟩⟩
theorem ML.nil {C : Addr} {H : Hp} : ML C H [] [] := ⟨rfl, fun i v h => by cases h⟩
theorem ML.app {C : Addr} {H : Hp} {us ws : List V} {xs ys : List Rat} (h : ML C H us xs) (g : ML C H ws ys) : ML C H (us ++ ws) (xs ++ ys) := by
  have l := h.1
  refine ⟨by rw [List.length_append, List.length_append, h.1, g.1], fun i v hv => ?_⟩
  by_cases z : i < us.length
  · rw [List.getElem?_append_left z] at hv
    rw [List.getElem?_append_left (by omega)]; exact h.2 i v hv
  · rw [List.getElem?_append_right (by omega)] at hv
    rw [List.getElem?_append_right (by omega), ← l]; exact g.2 _ v hv
theorem ML.one {C : Addr} {H : Hp} {v : V} {x : Rat} (h : NumQ C H v x) : ML C H [v] [x] := ⟨rfl, fun i u hu => by
  match i, hu with
  | 0, hu => obtain rfl := Option.some.inj hu; exact ⟨x, rfl, h⟩⟩
theorem ML.snoc {C : Addr} {H : Hp} {us : List V} {xs : List Rat} {v : V} {x : Rat} (h : ML C H us xs) (n : NumQ C H v x) : ML C H (us ++ [v]) (xs ++ [x]) := h.app (ML.one n)
theorem ML.ints {C : Addr} {H : Hp} (zs : List Int) : ML C H (zs.map V.int) (zs.map fun z : Int => (z : Rat)) := ⟨by simp, fun i v hv => by
  rw [List.getElem?_map] at hv ⊢
  cases e : zs[i]? with
  | none => rw [e] at hv; cases hv
  | some z => rw [e] at hv; obtain rfl := Option.some.inj hv; exact ⟨_, rfl, NumQ.int⟩⟩
theorem ML.zeros {C : Addr} {H : Hp} (n : Nat) : ML C H (List.replicate n (.int 0)) (List.replicate n 0) := ⟨by simp, fun i v hv => by
  rw [List.getElem?_replicate] at hv ⊢
  split at hv
  · rename_i h
    obtain rfl := Option.some.inj hv
    exact ⟨0, by rw [if_pos h], by have := NumQ.int (C := C) (H := H) (i := 0); rwa [Rat.intCast_zero] at this⟩
  · cases hv⟩
theorem ML.of_ql {C : Addr} {H : Hp} {us : List V} {xs : List Rat} (h : QL C H us xs) : ML C H us xs := ⟨QL.len h, fun i v hv => let ⟨x, a, h1, h2, h3⟩ := QL.at h hv; ⟨x, h1, by rw [h2]; exact h3.nq⟩⟩
theorem ML.set {C : Addr} {H : Hp} {us : List V} {xs : List Rat} {i : Nat} {v : V} {x : Rat} (h : ML C H us xs) (n : NumQ C H v x) : ML C H (us.set i v) (xs.set i x) := by
  refine ⟨by rw [List.length_set, List.length_set]; exact h.1, fun j u hu => ?_⟩
  rw [List.getElem?_set] at hu ⊢
  have l := h.1
  split at hu
  · rename_i e
    split at hu
    · obtain rfl := Option.some.inj hu
      exact ⟨x, by rw [if_pos e, if_pos (by omega)], n⟩
    · cases hu
  · rename_i e
    obtain ⟨y, h1, h2⟩ := h.2 j u hu
    exact ⟨y, by rw [if_neg e]; exact h1, h2⟩
theorem NumQ.wo {C D : Addr} {H : Hp} {v : V} {x : Rat} {acc : List V} (h : NumQ C H v x) (hD : H D = some (.lst acc)) : NumQ C (wo D H) v x := by
  rcases h with h | ⟨a, e, r⟩
  · exact .inl h
  · exact .inr ⟨a, e, Rat2.wo r hD⟩
theorem ML.wo {C D : Addr} {H : Hp} {us acc : List V} {xs : List Rat} (h : ML C H us xs) (hD : H D = some (.lst acc)) : ML C (Fp.wo D H) us xs := ⟨h.1, fun i v hv => let ⟨x, h1, h2⟩ := h.2 i v hv; ⟨x, h1, h2.wo hD⟩⟩
/-- the item at i of a list that is filled up with noughts -/
theorem ML.pad {C : Addr} {H : Hp} {us : List V} {xs : List Rat} (h : ML C H us xs) {k i : Nat} (l : i < us.length + k) : ∃ v, (us ++ List.replicate k (.int 0))[i]? = some v ∧ NumQ C H v (co xs i) := by
  have := h.app (ML.zeros (C := C) (H := H) k)
  obtain ⟨w, e⟩ : ∃ w, (us ++ List.replicate k (V.int 0))[i]? = some w := ⟨_, List.getElem?_eq_getElem (by rw [List.length_append, List.length_replicate]; exact l)⟩
  obtain ⟨x, h1, h2⟩ := this.2 i _ e
  refine ⟨_, e, ?_⟩
  have ex : x = co xs i := by
    unfold co
    rw [List.getD_eq_getElem?_getD]
    by_cases z : i < xs.length
    · rw [List.getElem?_append_left z] at h1; rw [h1]; rfl
    · rw [List.getElem?_append_right (by omega), List.getElem?_replicate] at h1
      split at h1
      · rw [List.getElem?_eq_none (by omega)]; exact (Option.some.inj h1).symm
      · cases h1
  rw [← ex]; exact h2
end Fp

namespace K21
open PySem PySem.Spec PyProof.Rows L2 Fp
section
variable {P : Program} {w : World} {K : PySem.W.Frag} {mg : Str → Option Value} {base : Heap} {k : Nat} {C fI fR : Addr}
def Fit (D : Int) (M : Nat) : Prop := D ≠ 0 ∧ LbI 4000 D ∧ M < 2 ^ 4000
theorem Fit.all {D : Int} {M : Nat} {xs : List Rat} (h : Fit D M) (g : AllS D M xs) : AllB 4000 xs := g.bits h.1 h.2.1 h.2.2
theorem Fit.one {D : Int} {M : Nat} {x : Rat} (h : Fit D M) (g : Sc D M x) : Bits 4000 x := g.bits h.1 h.2.1 h.2.2
theorem Fit.le {D : Int} {M N : Nat} (h : Fit D N) (l : M ≤ N) : Fit D M := ⟨h.1, h.2.1, Nat.lt_of_le_of_lt l h.2.2⟩
theorem repR (z : Addr) : ∀ k, (List.replicate k [V.ref z]).flatten = List.replicate k (V.ref z)
  | 0 => rfl
  | k + 1 => by rw [List.replicate_succ, List.flatten_cons, repR z k]; rfl
theorem ixn {n j : Nat} {z : Int} (e : z = (j : Int)) (h : j < n) : ixN n z = some j := by
  unfold ixN
  rw [if_pos (by omega), if_pos (by omega), e]; simp
theorem ml_rep {H : Hp} {z : Addr} (r : RQ C H z 0) (n : Nat) : ML C H (List.replicate n (.ref z)) (List.replicate n 0) := ⟨by simp, fun i v hv => by
  have li := (List.getElem?_eq_some_iff.mp hv).1
  rw [List.length_replicate] at li
  rw [(List.mem_replicate.mp (List.mem_of_getElem? hv)).2]
  exact ⟨0, by rw [List.getElem?_replicate, if_pos li], r.nq⟩⟩
theorem ml_padR {H : Hp} {us : List V} {xs : List Rat} {z : Addr} (h : ML C H us xs) (r : RQ C H z 0) {k i : Nat} (l : i < us.length + k) : ∃ v, (us ++ List.replicate k (.ref z))[i]? = some v ∧ NumQ C H v (co xs i) := by
  have g := h.app (ml_rep r k)
  have lg : (us ++ List.replicate k (V.ref z)).length = us.length + k := by rw [List.length_append, List.length_replicate]
  obtain ⟨v, hv⟩ : ∃ v, (us ++ List.replicate k (V.ref z))[i]? = some v := ⟨_, List.getElem?_eq_getElem (by omega)⟩
  obtain ⟨x, hx, nx⟩ := g.2 i v hv
  refine ⟨v, hv, ?_⟩
  have e : co (xs ++ List.replicate k 0) i = x := co_at hx
  rw [co_append] at e
  have l0 := h.1
  by_cases z : i < xs.length
  · rw [if_pos z] at e; rw [e]; exact nx
  · rw [if_neg z] at e
    rw [co_out (by omega)]
    have : x = 0 := by
      rw [← e]; unfold co
      rw [List.getD_eq_getElem?_getD, List.getElem?_replicate]
      split <;> rfl
    rw [this] at nx; exact nx
/-- the numbers of the slot i's list, filled up with noughts -/
theorem gv_padR {σ : L2.St} {H : Hp} {a : Addr} {us : List V} {i m : Nat} (hv : σ[i]? = some (some (.ref a))) (hm : σ[3]? = some (some (.int (m : Int)))) (ha : H a = some (.lst us)) (h1 : us.length ≤ m) (h2 : m ≤ 800) :
    Gv (tOp rCat (tVar i) (tOp rRep (tLst (tCons (tRat C (tCons (tC (.int 0)) tNil)) tNil)) (tOp (rI0 fun i j => V.int (i - j)) (tVar 3) (tCB (rLenS K) (tCons (tVar i) tNil))))) σ H fun v H' => ∃ c z, v = .ref c ∧ H c = none ∧ H' c = some (.lst (us ++ List.replicate (m - us.length) (.ref z))) ∧ RQ C H' z 0 := fun Q q => by
  refine ⟨_, hv, 0, rfl, fun z H1 nz sz rz => ⟨by show 1 ≤ sizeLine; decide, fun c nc => ?_⟩⟩
  have sc := same_new (o := .lst [V.ref z]) nc
  refine ⟨_, hm, _, hv, a, us, rfl, .inl (SqL.of (sc _ _ (sz _ _ ha))), _, _, rfl, rfl, ?_⟩
  refine ⟨c, _, [V.ref z], rfl, rfl, upd_same, by omega, by omega, by rw [sizeLine_eq]; simp only [List.length_cons, List.length_nil]; omega, fun d nd => ?_⟩
  rw [repR, show ((m : Int) - ((us.length : Nat) : Int)).toNat = m - us.length by omega]
  have sd := same_new (o := .lst (List.replicate (m - us.length) (V.ref z))) nd
  refine ⟨a, d, _, _, rfl, rfl, sd _ _ (sc _ _ (sz _ _ ha)), upd_same, by rw [List.length_replicate, sizeLine_eq]; omega, fun g ng => ?_⟩
  have sg := same_new (o := .lst (us ++ List.replicate (m - us.length) (V.ref z))) ng
  have rz : RQ C H1 z 0 := rz
  exact q _ _ (((sz.trans sc).trans sd).trans sg) ⟨g, z, rfl, ((sz.trans sc).trans sd).free ng, upd_same, rz.same ((sc.trans sd).trans sg)⟩
theorem num_one {C : Addr} {H : Hp} : NumQ C H (.int 1) 1 := by have := NumQ.int (C := C) (H := H) (i := 1); rwa [Rat.intCast_one] at this
theorem bits_one : Bits 1 (1 : Rat) := ⟨by show (1 : Int).natAbs < 2 ^ 1; decide, by show (1 : Int).natAbs < 2 ^ 1; decide⟩
theorem sgn_zero {x : Rat} : sgnI x.num = 0 ↔ x = 0 := by
  rw [← Rat.num_eq_zero]
  unfold sgnI
  split
  · constructor <;> intro h <;> omega
  · split <;> constructor <;> intro h <;> omega
/-! ### the law's own reckoning -/
def sp_law_poly (K : PySem.W.Frag) (C : Addr) : Sp := fun vs H Q _ => ∃ (a : Addr) (us : List V) (xs : List Rat), vs = [.ref a] ∧ Sq K H a us ∧ ML C H us xs ∧ AllB 4200 xs ∧ xs.length ≤ 200 ∧ ∀ c H' zs, Same H H' → H c = none → H' c = some (.lst zs) → QL C H' zs (trimQ xs) → Q (.ref c) H'
def sp_law_sum (K : PySem.W.Frag) (C : Addr) : Sp := fun vs H Q _ => ∃ (a b : Addr) (us ws : List V) (xs ys : List Rat) (x : V) (c : Rat), vs = [.ref a, .ref b, x] ∧ NumQ C H x c ∧ Bits 100 c ∧ H a = some (.lst us) ∧ H b = some (.lst ws) ∧ ML C H us xs ∧ ML C H ws ys ∧ AllB 4000 xs ∧ AllB 4000 ys ∧ AllB 4200 (plusQ c xs ys) ∧ xs.length ≤ 200 ∧ ys.length ≤ 200 ∧
  ∀ d H' zs, Same H H' → H d = none → H' d = some (.lst zs) → QL C H' zs (trimQ (plusQ c xs ys)) → Q (.ref d) H'
def sp_law_product (K : PySem.W.Frag) (C : Addr) : Sp := fun vs H Q _ => ∃ (a b : Addr) (us ws : List V) (xs ys : List Rat) (D E : Int) (M N : Nat), vs = [.ref a, .ref b] ∧ H a = some (.lst us) ∧ H b = some (.lst ws) ∧ ML C H us xs ∧ ML C H ws ys ∧ AllS D M xs ∧ AllS E N ys ∧ Fit D M ∧ Fit E N ∧ Fit (D * E) (xs.length * (M * N)) ∧ xs.length ≤ 100 ∧ ys.length ≤ 100 ∧
  ∀ c H' zs, Same H H' → H c = none → H' c = some (.lst zs) → QL C H' zs (trimQ (timesQ xs ys)) → Q (.ref c) H'
-- slots: _law_numbers 0, _law_found 1, _law_number 2; cells: 
abbrev s_law_poly : Stmt := top 55
abbrev N_law_poly : List Str := ["_law_numbers", "_law_found", "_law_number"]
theorem sc_law_poly : FnScope N_law_poly ["_law_numbers"] (defScope s_law_poly) := ⟨rfl, rfl, rfl, by decide +kernel, rfl, by decide +kernel, by decide +kernel⟩
theorem d_law_poly (B : Bnd K mg "_law_poly" s_law_poly) (M : Mg2 mg) (R : RCls K mg C fI fR) {kr : Nat} (RD : RDef P w K mg base kr C) (AD : BinX P w K mg base kr C .Add (spAddQ C)) (PS : PropX P w K mg base kr C "sign" (spSgnR C)) (hk : kr + 8 ≤ k)  : Def P w K mg base (k + 1) "_law_poly" s_law_poly ["_law_numbers"] (sp_law_poly K C) := by
  refine def_of B sc_law_poly (by rintro _ _ _ _ ⟨a, us, xs, rfl, _⟩; rfl) (fun _ _ _ _ _ _ us hl => match us, hl with | [_], _ => rfl) fun f cdv A outer s H vs Q E hr h => ?_
  obtain ⟨a, us, xs, rfl, ha, hM, bx, lx, q⟩ := h
  have hu := hr.units
  refine ⟨_, pss_cons (ps_setLc (i := 1) (own := [("_law_number", 2)]) (g := (gName 2)) (tt := tYes) (te := (tOp (rOwn C (spAddQ C)) (tRat C (tCons (tC (.int 0)) tNil)) (tVar 2))) rfl sc_law_poly.nd rfl rfl (sw_true rfl rfl rfl (by decide +kernel)) (pi_sq (pv 0)) (blkOk_by (own := [("_law_number", 2)]) (N := N_law_poly) (sc := defScope s_law_poly) (by decide +kernel)) (fun _ _ _ _ _ => pg_name (i := 2) sc_law_poly.nd rfl (.inl rfl)) (fun _ _ _ _ _ => pts_nil) (fun _ _ _ _ _ => pe_op (op_ownX AD (hr.mono (by omega))) (pe_rat RD (hr.mono (by omega)) (by rfl) (pa_cons pe_int pa_nil)) (pv 2)))
    (pss_cons (ps_while PassesOwn.never (PW.pt (pw_and (pt_cmpR (op_neNil hu) (pv 1) (pe_lst pa_nil) (nomark _)) (pw_and1 (pt_cmpR op_eq (pe_propX PS (hr.mono (by omega)) R.cl (pe_ix (r := rIxL K) ix_list (pv 1) (pe_un un_neg pe_int) (fun _ _ => rfl)) (by rfl)) pe_int (nomark _)))))
      (pss_one (ps_expr (pe_bm0 PySem.F.plainAttrs_list PySem.F.slot_list_pop PySem.F.type_list_pop mt_pop (pv 1)))))
    (pss_one (ps_ret (pv 1)))), ?_⟩
  have l0 := hM.1
  dsimp only [tSeq, tAsg]
  refine lc_relS (fun i acc Hh => QL C Hh acc (xs.take i)) (fun R r => ⟨_, rfl, r⟩) ha (by rw [sizeLine_eq]; omega) QL.nil (fun i acc A B s r => RatL.same r s) (fun D i y acc Ha hD hy sa hA r Yc Nc yc nc => ?_) (fun D acc H' nD sH hA r => ?_)
  · obtain ⟨x, hx, nx⟩ := hM.2 i y hy
    refine ⟨rfl, 0, rfl, fun m0 H4 n0 s4 r0 => ⟨_, rfl, ?_⟩⟩
    have r0 : RQ C H4 m0 0 := r0
    obtain ⟨dx, hm0⟩ := id r0
    have nv := nx.same (sa.trans s4)
    refine ⟨m0, dx, _, rfl, hm0, nv.own, m0, y, 0, x, 1, 4200, rfl, r0, nv, ⟨Nat.two_pow_pos _, by show (1 : Int).natAbs < 2 ^ 1; decide⟩, bx x (List.mem_of_getElem? hx), by decide, fun m H5 s5 rm => ⟨⟨m, rfl⟩, yc (.ref m) H5 (s4.trans s5) ?_⟩⟩
    rw [Rat.zero_add] at rm
    rw [takeS hx]
    exact QL.snoc (RatL.same r (wo_mono (s4.trans s5))) (Rat2.wo rm ((s4.trans s5) _ _ hA))
  rw [show us.length = xs.length from l0, List.take_length] at r
  have la : acc.length ≤ 200 := by rw [QL.len r]; omega
  refine ⟨fun mm σ G => ∃ (us : List V) (ps : List Rat), σ = [some (.ref a), some (.ref D), none] ∧ mm = us.length ∧ Same H (wo D G) ∧ G D = some (.lst us) ∧ QL C (wo D G) us ps ∧ trimQ ps = trimQ xs ∧ us.length ≤ 200,
    ⟨_, acc, _, rfl, rfl, same_wo nD sH, hA, r, rfl, la⟩, ?_⟩
  rintro mm σ G ⟨us, ps, rfl, rfl, sm, hD, hR, tp, lu⟩
  refine ⟨_, rfl, Nat.zero_le _, fun c nc => ?_⟩
  have sc := same_new (o := .lst []) nc
  have hD2 := sc _ _ hD
  have sm2 := sm.trans (wo_mono (D := D) sc)
  have hR2 := RatL.same hR (wo_mono (D := D) sc)
  have hc2 : (upd G c (.lst [])) c = some (.lst []) := upd_same
  generalize upd G c (.lst []) = G2 at hD2 sm2 hR2 hc2 sc
  have fin : ps = trimQ ps → (tRet (tVar 1)) { nx := fun _ H1 => Q .non H1, rt := Q } [some (.ref a), some (.ref D), none] G2 := fun e => by
    refine ⟨_, rfl, q D G2 us (sm2.trans wo_le) nD hD2 ?_⟩
    rw [← tp, ← e]
    exact RatL.same hR2 wo_le
  refine ⟨D, c, us, rfl, rfl, hD2, hc2, _, rfl, ?_⟩
  by_cases hu2 : us = []
  · subst hu2
    have p0 : ps = [] := List.length_eq_zero_iff.mp (QL.len hR).symm
    subst p0
    exact iteF2 rfl (fin rfl)
  obtain ⟨A, v, rfl⟩ := snoc_of hu2
  have lps : ps ≠ [] := fun z => by have := QL.len hR; rw [z, List.length_append] at this; simp at this
  obtain ⟨B2, pq, rfl⟩ := snoc_of lps
  have lAB : A.length = B2.length := by have := QL.len hR; simpa using this
  refine iteT2 (by simp) ?_
  obtain ⟨pq2, b, h1, rfl, r1⟩ := QL.at hR2 (i := A.length) (v := v) (by rw [List.getElem?_append_right (Nat.le_refl _), Nat.sub_self]; rfl)
  have epq : pq2 = pq := by
    rw [lAB, List.getElem?_append_right (Nat.le_refl _), Nat.sub_self] at h1
    exact (Option.some.inj h1).symm
  subst epq
  have r2 := RQ.same r1 wo_le
  obtain ⟨dx, r3⟩ := id r2
  refine ⟨_, rfl, 1, rfl, D, _, -1, _, rfl, rfl, SqL.of hD2, atI_last _ _, b, dx, _, rfl, r3, b, pq2.num, pq2.den, rfl, r2, rfl, _, rfl, ite2 (fun z3 => ?_) (fun z3 => ?_)⟩
  · have p0 : pq2 = 0 := by
      have := of_decide_eq_true z3
      injection this with this
      exact sgn_zero.mp this
    refine ⟨fun σ' G3 => ∃ (us : List V) (ps : List Rat), σ' = [some (.ref a), some (.ref D), none] ∧ us.length = A.length ∧ Same H (wo D G3) ∧ G3 D = some (.lst us) ∧ QL C (wo D G3) us ps ∧ trimQ ps = trimQ xs ∧ us.length ≤ 200, fun σ' G3 ⟨us, ps, h1, h2, h3, h4, h5, h6, h7⟩ => ⟨us.length, by rw [h2, List.length_append]; simp, us, ps, h1, rfl, h3, h4, h5, h6, h7⟩, ?_⟩
    refine ⟨_, rfl, Or.inl ⟨rfl, _, SqL.of hD2⟩, D, _, _, rfl, rfl, hD2, by rw [List.length_append, List.length_singleton, Nat.add_sub_cancel, List.getElem?_append_right (Nat.le_refl _), Nat.sub_self]; rfl, A, B2, rfl, rfl, ?_, ?_, ?_, by rw [← tp, trimQ_zero p0], by rw [List.length_append] at lu; simp at lu; omega⟩
    · rw [wo_upd]; exact sm2
    · rw [upd_same, List.dropLast_concat]
    · rw [wo_upd]
      have := QL.take hR2 A.length
      rw [List.take_left, lAB, List.take_left] at this
      exact this
  · have p0 : pq2 ≠ 0 := fun e => z3 (decide_eq_true (by rw [sgn_zero.mpr e]))
    exact fin (trimQ_nz p0).symm
-- slots: _law_one 0, _law_two_here 1, _law_share 2, _law_wide 3, _law_near 4, _law_far 5, _law_at 6; cells: _law_far _law_near _law_share
abbrev s_law_sum : Stmt := top 56
abbrev N_law_sum : List Str := ["_law_one", "_law_two_here", "_law_share", "_law_wide", "_law_near", "_law_far", "_law_at"]
theorem sc_law_sum : FnScope N_law_sum ["_law_one", "_law_two_here", "_law_share"] (defScope s_law_sum) := ⟨rfl, rfl, rfl, by decide +kernel, rfl, by decide +kernel, by decide +kernel⟩
theorem d_law_sum (B : Bnd K mg "_law_sum" s_law_sum) (M : Mg2 mg) (R : RCls K mg C fI fR) {kr : Nat} (RD : RDef P w K mg base kr C) (AD : BinX P w K mg base kr C .Add (spAddQ C)) (RA : RevX P w K mg base kr C .Add (spAddQ C)) (MU : BinX P w K mg base kr C .Mult (spMulQ C)) (RM : RevX P w K mg base kr C .Mult (spMulQ C)) (hk : kr + 8 ≤ k) (D_law_poly : Def P w K mg base k "_law_poly" s_law_poly ["_law_numbers"] (sp_law_poly K C)) : Def P w K mg base (k + 1) "_law_sum" s_law_sum ["_law_one", "_law_two_here", "_law_share"] (sp_law_sum K C) := by
  refine def_of B sc_law_sum (by rintro _ _ _ _ ⟨a, b, us, ws, xs, ys, x, c, rfl, _⟩; rfl) (fun _ _ _ _ _ _ us hl => match us, hl with | [_, _, _], _ => rfl) fun f cdv A outer s H vs Q E hr h => ?_
  obtain ⟨a, b, us, ws, xs, ys, x, c, rfl, hx, bq, ha, hb, R1, R2, b1, b2, b3, l1, l2, q⟩ := h
  have hu := hr.units
  refine ⟨_, pss_cons (ps_set (i := 3) sc_law_sum.nd rfl (.inl rfl) (pe_callB (call_max2 rfl) (by rfl) M.max (by decide +kernel) (pa_cons (pe_callB call_len_seq (by rfl) M.len boot_len (pa_cons (pv 0) pa_nil)) (pa_cons (pe_callB call_len_seq (by rfl) M.len boot_len (pa_cons (pv 1) pa_nil)) pa_nil))))
    (pss_cons (ps_asg (pe_tup (pa_cons (pe_op op_cat (pv 0) (pe_op op_rep (pe_lst (pa_cons (pe_rat RD (hr.mono (by omega)) (by rfl) (pa_cons pe_int pa_nil)) pa_nil)) (pe_op op_sub (pv 3) (pe_callB call_len_seq (by rfl) M.len boot_len (pa_cons (pv 0) pa_nil))))) (pa_cons (pe_op op_cat (pv 1) (pe_op op_rep (pe_lst (pa_cons (pe_rat RD (hr.mono (by omega)) (by rfl) (pa_cons pe_int pa_nil)) pa_nil)) (pe_op op_sub (pv 3) (pe_callB call_len_seq (by rfl) M.len boot_len (pa_cons (pv 1) pa_nil))))) pa_nil))) (pg_tup rfl (pgs_cons (pg_name (i := 4) sc_law_sum.nd rfl (.inr rfl)) (pgs_cons (pg_name (i := 5) sc_law_sum.nd rfl (.inr rfl)) pgs_nil))))
    (pss_one (ps_ret (pe_d D_law_poly hr (by rfl) (pa_cons (pe_lc (own := [("_law_at", 6)]) (g := (gName 6)) (tt := tYes) (te := (tOp (rNumA C) (tOp (rIxL K) (tVar 4) (tVar 6)) (tOp (rNumM C) (tOp (rIxL K) (tVar 5) (tVar 6)) (tVar 2)))) rfl sc_law_sum.nd (pi_range1 (by rfl) M.range (pa_cons (pv 3) pa_nil)) (blkOk_by (own := [("_law_at", 6)]) (N := N_law_sum) (sc := defScope s_law_sum) (by decide +kernel)) (fun _ _ _ _ _ => pg_name (i := 6) sc_law_sum.nd rfl (.inl rfl)) (fun _ _ _ _ _ => pts_nil) (fun _ _ _ _ _ => pe_op (op_numA AD RA (hr.mono (by omega))) (pe_ix (r := rIxL K) ix_list (pv 4) (pv 6) (fun _ _ => rfl)) (pe_op (op_numM MU RM (hr.mono (by omega))) (pe_ix (r := rIxL K) ix_list (pv 5) (pv 6) (fun _ _ => rfl)) (pv 2)))) pa_nil))))), ?_⟩
  have e1 := R1.1
  have e2 := R2.1
  refine ⟨_, rfl, a, us, rfl, .inl (SqL.of ha), _, rfl, b, ws, rfl, .inl (SqL.of hb), _, _, rfl, ?_⟩
  have em : (if ((ws.length : Nat) : Int) > ((us.length : Nat) : Int) then ((ws.length : Nat) : Int) else ((us.length : Nat) : Int)) = ((max xs.length ys.length : Nat) : Int) := by split <;> omega
  rw [em]
  refine gv_padR (K := K) (C := C) (i := 0) (m := max xs.length ys.length) rfl rfl ha (by omega) (by omega) _ fun _ H1 sm1 ⟨a1, y1, ea1, na1, ha1, ry1⟩ => ?_
  subst ea1
  refine gv_padR (K := K) (C := C) (i := 1) (m := max xs.length ys.length) rfl rfl (sm1 _ _ hb) (by omega) (by omega) _ fun _ H2 sm2 ⟨a2, y2, ea2, na2, ha2, ry2⟩ => ?_
  subst ea2
  refine ⟨by show 2 ≤ sizeLine; decide, fun T nT => ?_⟩
  have sT := same_new (o := .tup [V.ref a1, V.ref a2]) nT
  have g1 := sT _ _ (sm2 _ _ ha1)
  have g2 := sT _ _ ha2
  have ry1 := ry1.same (sm2.trans sT)
  have ry2 := ry2.same sT
  have sA := (sm1.trans sm2).trans sT
  have hT : (upd H2 T (.tup [V.ref a1, V.ref a2])) T = some (.tup [V.ref a1, V.ref a2]) := upd_same
  generalize upd H2 T (.tup [V.ref a1, V.ref a2]) = H3 at *
  refine ⟨T, _, rfl, SqT.of hT, rfl, _, _, rfl, _, _, rfl, rfl, ?_⟩
  refine ⟨_, rfl, _, rfl, by omega, by omega, fun D nD => ?_⟩
  refine lc_rel (walk_range (lo := 0) (n := ((max xs.length ys.length : Nat) : Int).toNat)) (fun i acc Hh => ML C Hh acc ((plusQ c xs ys).take i)) nD (by rw [sizeLine_eq]; omega) (fun _ _ => trivial) ML.nil (fun i acc A B s r => r.same s) (fun i v acc Ha Hb hi sa hA hr hy Yc Nc yc nc => ?_) (fun acc H4 s4 hD hr => ?_)
  · obtain ⟨rfl, rfl⟩ := hy
    obtain ⟨w1, i1, n1⟩ := ml_padR ((R1.same sA).same sa) (ry1.same sa) (k := max xs.length ys.length - us.length) (i := i) (by omega)
    obtain ⟨w2, i2, n2⟩ := ml_padR ((R2.same sA).same sa) (ry2.same sa) (k := max xs.length ys.length - ws.length) (i := i) (by omega)
    have c1 := co_allB (i := i) b1 (by decide)
    have c2 := co_allB (i := i) b2 (by decide)
    refine ⟨rfl, _, rfl, _, rfl, a1, _, _, w1, rfl, rfl, SqL.of (sa _ _ g1), at_of (j := i) (by omega) i1, _, rfl, _, rfl, a2, _, _, w2, rfl, rfl, SqL.of (sa _ _ g2), at_of (j := i) (by omega) i2, _, rfl, co ys i, c, 4000, 100, n2, (hx.same sA).same sa, c2, bq, by decide, fun u H5 s5 nu => ?_⟩
    rw [Rat.mul_comm] at nu
    refine ⟨co xs i, c * co ys i, 4000, 4100, n1.same s5, nu, c1, bq.mul c2, by decide, fun z H6 s6 nz => yc z H6 (s5.trans s6) ?_⟩
    rw [takeS (show (plusQ c xs ys)[i]? = some (co xs i + c * co ys i) by unfold plusQ; rw [List.getElem?_map, List.getElem?_range (by omega)]; rfl)]
    have hD6 := (s5.trans s6) _ _ hA
    exact ML.snoc (hr.same (wo_mono (s5.trans s6))) (nz.wo hD6)
  · rw [List.take_of_length_le (by rw [plusQ_len]; omega)] at hr
    refine ⟨D, acc, _, rfl, .inl (SqL.of hD), hr.same wo_le, b3, by rw [plusQ_len]; omega, fun e H5 zs s5 ne he hq => q e H5 zs ((sA.trans s4).trans s5) ((sA.trans s4).free ne) he hq⟩
-- slots: _law_one 0, _law_two_here 1, _law_found 2, _law_near 3, _law_left 4, _law_far 5, _law_right_here 6; cells: 
abbrev s_law_product : Stmt := top 57
abbrev N_law_product : List Str := ["_law_one", "_law_two_here", "_law_found", "_law_near", "_law_left", "_law_far", "_law_right_here"]
theorem sc_law_product : FnScope N_law_product ["_law_one", "_law_two_here"] (defScope s_law_product) := ⟨rfl, rfl, rfl, by decide +kernel, rfl, by decide +kernel, by decide +kernel⟩
theorem d_law_product (B : Bnd K mg "_law_product" s_law_product) (M : Mg2 mg) (R : RCls K mg C fI fR) {kr : Nat} (RD : RDef P w K mg base kr C) (AD : BinX P w K mg base kr C .Add (spAddQ C)) (RA : RevX P w K mg base kr C .Add (spAddQ C)) (MU : BinX P w K mg base kr C .Mult (spMulQ C)) (RM : RevX P w K mg base kr C .Mult (spMulQ C)) (hk : kr + 8 ≤ k) (D_law_poly : Def P w K mg base k "_law_poly" s_law_poly ["_law_numbers"] (sp_law_poly K C)) : Def P w K mg base (k + 1) "_law_product" s_law_product ["_law_one", "_law_two_here"] (sp_law_product K C) := by
  refine def_of B sc_law_product (by rintro _ _ _ _ ⟨a, b, us, ws, xs, ys, d0, e0, nM, nN, rfl, _⟩; rfl) (fun _ _ _ _ _ _ us hl => match us, hl with | [_, _], _ => rfl) fun f cdv A outer s H vs Q E hr h => ?_
  obtain ⟨a, b, us, ws, xs, ys, d0, e0, nM, nN, rfl, ha, hb, R1, R2, s1, s2, f1, f2, f3, l1, l2, q⟩ := h
  have hu := hr.units
  refine ⟨_, pss_cons (ps_set (i := 2) sc_law_product.nd rfl (.inl rfl) (pe_op op_rep (pe_lst (pa_cons (pe_rat RD (hr.mono (by omega)) (by rfl) (pa_cons pe_int pa_nil)) pa_nil)) (pe_callB (call_max2 rfl) (by rfl) M.max (by decide +kernel) (pa_cons pe_int (pa_cons (pe_op op_sub (pe_op op_add (pe_callB call_len_seq (by rfl) M.len boot_len (pa_cons (pv 0) pa_nil)) (pe_callB call_len_seq (by rfl) M.len boot_len (pa_cons (pv 1) pa_nil))) pe_int) pa_nil)))))
    (pss_cons (ps_for PassesOwn.never rfl (pi_enumS (by rfl) M.enum (pa_cons (pv 0) pa_nil)) (pg_tup rfl (pgs_cons (pg_name (i := 3) sc_law_product.nd rfl (.inl rfl)) (pgs_cons (pg_name (i := 4) sc_law_product.nd rfl (.inl rfl)) pgs_nil)))
      (pss_one (ps_for PassesOwn.never rfl (pi_enumS (by rfl) M.enum (pa_cons (pv 1) pa_nil)) (pg_tup rfl (pgs_cons (pg_name (i := 5) sc_law_product.nd rfl (.inl rfl)) (pgs_cons (pg_name (i := 6) sc_law_product.nd rfl (.inl rfl)) pgs_nil)))
        (pss_one (ps_asg (pe_op (op_numA AD RA (hr.mono (by omega))) (pe_ix (r := rIxL K) ix_list (pv 2) (pe_op op_add (pv 3) (pv 5)) (fun _ _ => rfl)) (pe_op (op_numM MU RM (hr.mono (by omega))) (pv 4) (pv 6))) (pg_sub (pv 2) (pe_op op_add (pv 3) (pv 5)) set_list))))))
    (pss_one (ps_ret (pe_d D_law_poly hr (by rfl) (pa_cons (pv 2) pa_nil))))), ?_⟩
  have e1 := R1.1
  have e2 := R2.1
  refine ⟨0, rfl, fun z Hz nz sz rz => ⟨by show 1 ≤ sizeLine; decide, fun c0 nc0 => ?_⟩⟩
  have rz : RQ C Hz z 0 := rz
  have sc1 := same_new (o := .lst [V.ref z]) nc0
  have sc := sz.trans sc1
  refine ⟨_, rfl, a, us, rfl, .inl (SqL.of (sc _ _ ha)), _, rfl, b, ws, rfl, .inl (SqL.of (sc _ _ hb)), _, _, rfl, rfl, _, 1, rfl, rfl, _, _, rfl, ?_⟩
  have em : (if ((us.length : Nat) : Int) + ((ws.length : Nat) : Int) - 1 > 0 then ((us.length : Nat) : Int) + ((ws.length : Nat) : Int) - 1 else 0) = ((xs.length + ys.length - 1 : Nat) : Int) := by split <;> omega
  rw [em]
  refine ⟨c0, _, [V.ref z], rfl, rfl, upd_same, by omega, by omega, by rw [sizeLine_eq]; simp only [List.length_cons, List.length_nil]; omega, fun F nF0 => ?_⟩
  generalize hL : xs.length + ys.length - 1 = L
  rw [repR, Int.toNat_natCast]
  have nF : H F = none := sc.free nF0
  have sF1 := same_new (o := .lst (List.replicate L (V.ref z))) nF0
  have sF := sc.trans sF1
  have rzF : RQ C (wo F (upd (upd Hz c0 (.lst [V.ref z])) F (.lst (List.replicate L (V.ref z))))) z 0 := rz.same (sc1.trans (same_wo nF0 sF1))
  have hF : (upd (upd Hz c0 (.lst [V.ref z])) F (.lst (List.replicate L (V.ref z)))) F = some (.lst (List.replicate L (V.ref z))) := upd_same
  generalize upd (upd Hz c0 (.lst [V.ref z])) F (.lst (List.replicate L (V.ref z))) = H0 at *
  have m0 : ML C (wo F H0) (List.replicate L (V.ref z)) ((List.range L).map (prodQ xs ys 0)) := by
    have e : (List.range L).map (prodQ xs ys 0) = List.replicate L (0 : Rat) := List.ext_getElem (by simp) fun n a b => by
      rw [List.getElem_replicate, List.getElem_map]; rfl
    rw [e]; exact ml_rep rzF L
  have old : ∀ {G : Hp}, Same H (wo F G) → Same H G := fun s => s.trans wo_le
  obtain ⟨κ1, k1⟩ := sqk_of (K := K) (.inl (SqL.of ha))
  obtain ⟨κ2, k2⟩ := sqk_of (K := K) (.inl (SqL.of hb))
  have a1 := f1.all s1
  have a2 := f2.all s2
  refine ⟨_, rfl, a, us, κ1, rfl, k1.same sF, ?_⟩
  refine for_it (walk_enumS (K := K) (a := a) (xs := us) (κ := κ1) rfl) (fun i σ G => ∃ (o3 o4 o5 o6 : Option V) (zs : List V), σ = [some (.ref a), some (.ref b), some (.ref F), o3, o4, o5, o6] ∧ Same H (wo F G) ∧ G F = some (.lst zs) ∧ ML C (wo F G) zs ((List.range L).map (prodQ xs ys i)))
    ⟨none, none, none, none, _, rfl, same_wo nF sF, hF, m0⟩ (fun i σ G _ ⟨_, _, _, _, _, _, sm, _⟩ => k1.same (old sm)) (fun i v σ G G2 hi ⟨o3, o4, o5, o6, zs, e, sm, hG, hZ⟩ hy => ?_) (fun σ G ⟨o3, o4, o5, o6, zs, e, sm, hG, hZ⟩ => ?_)
  · subst e
    obtain ⟨T, v1, v2, rfl, nT, rfl, hx1, hx2⟩ := hy
    obtain ⟨x, hx, nx⟩ := R1.2 i v2 hx2
    obtain rfl := Option.some.inj hx1
    have sT := same_new (o := .tup [V.int (i : Nat), v2]) nT
    have s3 := sm.trans (wo_mono (D := F) sT)
    have hG3 := sT _ _ hG
    have hZ := hZ.same (wo_mono (D := F) sT)
    have hT : (upd G T (.tup [V.int (i : Nat), v2])) T = some (.tup [V.int (i : Nat), v2]) := upd_same
    generalize upd G T (.tup [V.int (i : Nat), v2]) = G3 at *
    have hi1 : i < xs.length := by omega
    have ex : co xs i = x := co_at hx
    refine ⟨T, _, rfl, SqT.of hT, rfl, _, _, rfl, _, _, rfl, rfl, ?_⟩
    refine ⟨_, rfl, b, ws, κ2, rfl, k2.same (old s3), ?_⟩
    refine for_it (walk_enumS (K := K) (a := b) (xs := ws) (κ := κ2) rfl) (fun j σ G => ∃ (o5 o6 : Option V) (zs : List V), σ = [some (.ref a), some (.ref b), some (.ref F), some (.int (i : Nat)), some v2, o5, o6] ∧ Same H (wo F G) ∧ G F = some (.lst zs) ∧ ML C (wo F G) zs ((List.range L).map (partQ xs ys i j)))
      ⟨_, _, zs, rfl, s3, hG3, ?_⟩ (fun j σ G _ ⟨_, _, _, _, sm, _⟩ => k2.same (old sm)) (fun j v σ G G2 hj ⟨o5, o6, zs, e, sm, hG, hZ⟩ hy => ?_) (fun σ G ⟨o5, o6, zs, e, sm, hG, hZ⟩ => ?_)
    · rw [funext (partQ_zero xs ys i)]; exact hZ
    · subst e
      obtain ⟨T2, v3, v4, rfl, nT2, rfl, hy1, hy2⟩ := hy
      obtain ⟨y, hy, ny⟩ := R2.2 j v4 hy2
      obtain rfl := Option.some.inj hy1
      have sT := same_new (o := .tup [V.int (j : Nat), v4]) nT2
      have s4 := sm.trans (wo_mono (D := F) sT)
      have hG4 := sT _ _ hG
      have hZ := hZ.same (wo_mono (D := F) sT)
      have hT2 : (upd G T2 (.tup [V.int (j : Nat), v4])) T2 = some (.tup [V.int (j : Nat), v4]) := upd_same
      generalize upd G T2 (.tup [V.int (j : Nat), v4]) = G4 at *
      have hj1 : j < ys.length := by omega
      have hij : i + j < L := by omega
      have ey : co ys j = y := co_at hy
      have bx := a1 x (List.mem_of_getElem? hx)
      have by_ := a2 y (List.mem_of_getElem? hy)
      obtain ⟨u, hu⟩ : ∃ u, zs[i + j]? = some u := ⟨_, List.getElem?_eq_getElem (by have := hZ.1; rw [List.length_map, List.length_range] at this; omega)⟩
      obtain ⟨z, hz, nz⟩ := hZ.2 _ _ hu
      have ez : z = partQ xs ys i j (i + j) := by
        rw [List.getElem?_map, List.getElem?_range hij] at hz
        exact (Option.some.inj hz).symm
      have le1 : (i + 1) * (nM * nN) ≤ xs.length * (nM * nN) := Nat.mul_le_mul_right _ hi1
      have le2 : nM * nN ≤ xs.length * (nM * nN) := Nat.le_mul_of_pos_left _ (by omega)
      have bz : Bits 4000 z := by rw [ez]; exact f3.one ((partQ_sc s1 s2 i j _).mono le1)
      have bxy : Bits 4000 (x * y) := f3.one (((s1 x (List.mem_of_getElem? hx)).mul (s2 y (List.mem_of_getElem? hy))).mono le2)
      refine ⟨T2, _, rfl, SqT.of hT2, rfl, _, _, rfl, _, _, rfl, rfl, ?_⟩
      refine ⟨_, rfl, _, rfl, _, rfl, _, _, rfl, rfl, F, zs, _, u, rfl, rfl, SqL.of hG4, at_of (j := i + j) (by omega) hu, _, rfl, _, rfl, x, y, 4000, 4000, nx.same (old s4), ny.same (old s4), bx, by_, by decide, fun v5 G5 s5 n5 => ?_⟩
      refine ⟨z, x * y, 4000, 4000, (nz.same wo_le).same s5, n5, bz, bxy, by decide, fun v6 G6 s6 n6 => ?_⟩
      have hG6 := (s5.trans s6) _ _ hG4
      refine ⟨_, rfl, _, rfl, _, rfl, _, _, rfl, rfl, F, _, _, i + j, rfl, rfl, hG6, ixn (by omega) (by have := (List.getElem?_eq_some_iff.mp hu).1; exact this), ?_⟩
      refine ⟨_, _, _, rfl, ?_, upd_same, ?_⟩
      · rw [wo_upd]; exact s4.trans (wo_mono (s5.trans s6))
      · rw [wo_upd]
        have := partQ_step (xs := xs) (ys := ys) hij
        rw [ex, ey] at this
        rw [← this, ← ez]
        exact (hZ.same (wo_mono (s5.trans s6))).set (n6.wo hG6)
    · subst e
      refine ⟨_, _, _, _, zs, rfl, sm, hG, ?_⟩
      rw [e2, funext (partQ_all xs ys i)] at hZ
      exact hZ
  · subst e
    have s5 := old sm
    rw [e1, ← hL] at hZ
    have key : AllB 4200 (timesQ xs ys) := fun w hw => ⟨Nat.lt_trans ((f3.all (timesQ_sc s1 s2)) w hw).1 (Nat.pow_lt_pow_right (by decide) (by decide)), Nat.lt_trans ((f3.all (timesQ_sc s1 s2)) w hw).2 (Nat.pow_lt_pow_right (by decide) (by decide))⟩
    refine ⟨_, rfl, F, zs, timesQ xs ys, rfl, .inl (SqL.of hG), hZ.same wo_le, key, by unfold timesQ; rw [List.length_map, List.length_range]; omega, fun e H5 zs s6 ne he hq => q e H5 zs (s5.trans s6) (s5.free ne) he hq⟩
end
end K21

namespace K21
open PySem PySem.Spec PyProof.Rows L2 Fp
section
variable {P : Program} {w : World} {K : PySem.W.Frag} {mg : Str → Option Value} {base : Heap} {k : Nat} {C fI fR : Addr}
theorem pot_ne {H : Hp} {p b : Addr} (h : PotOk H p) (n : H b = none) : b ≠ p := fun z => by
  obtain ⟨u, v, e, _⟩ := h
  rw [z, e] at n; cases n
theorem wos_keep {S : List Addr} {H H' : Hp} {p : Addr} (pS : p ∈ S) (k : Keep p H H') : Same (wos S H) (wos S H') := fun b o e => by
  obtain ⟨h1, h2⟩ := wos_some.mp e
  exact wos_some.mpr ⟨h1, k b o (fun z => h1 (z ▸ pS)) h2⟩
theorem Kn.keep {S : List Addr} {H H' : Hp} {p : Addr} (h : Kn S H) (k : Keep p H H') (hp : PotOk H' p) : Kn S H' := fun s hs z => by
  by_cases e : s = p
  · obtain ⟨u, v, g, _⟩ := hp
    rw [e, g] at z; cases z
  · cases q : H s with
    | none => exact h s hs q
    | some o => rw [k _ _ e q] at z; cases z
/-! ### what an expression makes, the pot beside -/
def GvK (p : Addr) (t : TE) (σ : L2.St) (H : Hp) (φ : V → Hp → Prop) : Prop := ∀ Q : VK, (∀ v H', Keep p H H' → PotOk H' p → φ v H' → Q v H') → t σ H Q
def HiK (p : Addr) (lo hi : Int) (t : TE) (σ : L2.St) (H : Hp) : Prop := ∀ Q : VK, (∀ z H', Keep p H H' → PotOk H' p → lo ≤ z → z ≤ hi → Q (.int z) H') → t σ H Q
section
variable {p : Addr} {t t1 t2 : TE} {ts : TA} {σ : L2.St} {H : Hp} {S : List Addr} {d n m : Nat} {φ : V → Hp → Prop}
theorem gk_of (hp : PotOk H p) (h : Gv t σ H φ) : GvK p t σ H φ := fun Q q => h Q fun v H' s f => q v H' (Keep.of s) (hp.same s) f
theorem LsV.keep {v : V} {H' : Hp} (pS : p ∈ S) (h : LsV C S d n v H) (k : Keep p H H') : LsV C S d n v H' := let ⟨a, ys, e1, e2, e3, e4, e5⟩ := h; ⟨a, ys, e1, e2, k _ _ (fun z => e2 (z ▸ pS)) e3, e4, fun y hy => (e5 y hy).same (wos_keep pS k)⟩
theorem gk_cat (pS : p ∈ S) (kn : Kn S H) (hn : n + m ≤ 1000) (h1 : GvK p t1 σ H fun v H' => LsV C S d n v H') (h2 : ∀ H1, Keep p H H1 → PotOk H1 p → GvK p t2 σ H1 fun v H' => LsV C S d m v H') : GvK p (tOp rCat t1 t2) σ H fun v H' => LsV C S d (n + m) v H' := fun Q q =>
  h1 _ fun v H1 k1 p1 f1 => h2 H1 k1 p1 _ fun u H2 k2 p2 f2 => by
    obtain ⟨a, ys, rfl, e2, e3, e4, e5⟩ := LsV.keep pS f1 k2
    obtain ⟨b, zs, rfl, g2, g3, g4, g5⟩ := f2
    refine ⟨a, b, ys, zs, rfl, rfl, e3, g3, by rw [sizeLine_eq]; omega, fun c nc => ?_⟩
    have np : c ∉ S := (Kn.keep kn (k1.trans k2) p2).new nc
    exact q _ _ ((k1.trans k2).trans (Keep.of (same_new nc))) (p2.same (same_new nc)) ⟨c, ys ++ zs, rfl, np, upd_same, by rw [List.length_append]; omega, fun y hy => by
      rcases List.mem_append.mp hy with z | z
      · exact (e5 y z).same (wos_same (same_new nc))
      · exact (g5 y z).same (wos_same (same_new nc))⟩
theorem gk_rep {lo hi : Int} (pS : p ∈ S) (kn : Kn S H) (h1 : GvK p t1 σ H fun v H' => LsV C S d 1 v H') (h2 : ∀ H1, Keep p H H1 → PotOk H1 p → HiK p lo hi t2 σ H1) (hl : -1000 ≤ lo) (hh : hi ≤ n) (hn : n ≤ 60) : GvK p (tOp rRep t1 t2) σ H fun v H' => LsV C S d n v H' := fun Q q =>
  h1 _ fun v H1 k1 p1 f1 => h2 H1 k1 p1 _ fun z H2 k2 p2 z0 z1 => by
    obtain ⟨a, ys, rfl, e2, e3, e4, e5⟩ := LsV.keep pS f1 k2
    have zn : z.toNat ≤ n := by omega
    refine ⟨a, z, ys, rfl, rfl, e3, by omega, by omega, ?_, fun c nc => ?_⟩
    · rw [sizeLine_eq]
      have := Nat.mul_le_mul e4 zn
      omega
    have np : c ∉ S := (Kn.keep kn (k1.trans k2) p2).new nc
    refine q _ _ ((k1.trans k2).trans (Keep.of (same_new nc))) (p2.same (same_new nc)) ⟨c, _, rfl, np, upd_same, ?_, fun y hy => ?_⟩
    · rw [List.length_flatten, List.map_replicate, List.sum_replicate_nat]
      have := Nat.mul_le_mul zn e4
      omega
    · obtain ⟨l, hl, hy2⟩ := List.mem_flatten.mp hy
      rw [(List.mem_replicate.mp hl).2] at hy2
      exact (e5 y hy2).same (wos_same (same_new nc))
theorem gk_var {i : Nat} {a : Addr} {ys : List V} (hp : PotOk H p) (hv : σ[i]? = some (some (.ref a))) (na : a ∉ S) (ha : H a = some (.lst ys)) (ln : ys.length ≤ n) (hy : ∀ y ∈ ys, Sk C (wos S H) d y) : GvK p (tVar i) σ H fun v H' => LsV C S d n v H' :=
  fun Q q => ⟨_, hv, q _ _ (Keep.of (Same.refl _)) hp ⟨a, ys, rfl, na, ha, ln, hy⟩⟩
theorem hk_draw {mo : Int} (hv : σ[0]? = some (some (.ref p))) (hp : PotOk H p) (h1 : 1 ≤ mo) (h2 : mo ≤ 1000000) : HiK p 0 (mo - 1) (tD spDraw (tCons (tVar 0) (tCons (tC (.int mo)) tNil))) σ H := fun Q q =>
  ⟨_, hv, p, mo, rfl, hp, h1, h2, fun z H' z0 z1 hp' k => q z H' k hp' z0 (by omega)⟩
theorem hk_c {z : Int} (hp : PotOk H p) : HiK p z z (tC (.int z)) σ H := fun Q q => q z H (Keep.of (Same.refl _)) hp (Int.le_refl _) (Int.le_refl _)
theorem hk_var {i : Nat} {z : Int} (hp : PotOk H p) (hv : σ[i]? = some (some (.int z))) : HiK p z z (tVar i) σ H := fun Q q => ⟨_, hv, q z H (Keep.of (Same.refl _)) hp (Int.le_refl _) (Int.le_refl _)⟩
theorem hk_sub {a b c e : Int} (h1 : HiK p a b t1 σ H) (h2 : ∀ H1, Keep p H H1 → PotOk H1 p → HiK p c e t2 σ H1) : HiK p (a - e) (b - c) (tOp (rI0 fun i j => V.int (i - j)) t1 t2) σ H := fun Q q =>
  h1 _ fun z H1 k1 p1 z0 z1 => h2 H1 k1 p1 _ fun y H2 k2 p2 y0 y1 => ⟨z, y, rfl, rfl, q _ _ (k1.trans k2) p2 (by omega) (by omega)⟩
theorem hk_add {a b c e : Int} (h1 : HiK p a b t1 σ H) (h2 : ∀ H1, Keep p H H1 → PotOk H1 p → HiK p c e t2 σ H1) : HiK p (a + c) (b + e) (tOp (rI0 fun i j => V.int (i + j)) t1 t2) σ H := fun Q q =>
  h1 _ fun z H1 k1 p1 z0 z1 => h2 H1 k1 p1 _ fun y H2 k2 p2 y0 y1 => ⟨z, y, rfl, rfl, q _ _ (k1.trans k2) p2 (by omega) (by omega)⟩
/-- a pick out of a display -/
theorem gk_pick {ψ : V → Hp → Prop} (hv : σ[0]? = some (some (.ref p))) (hp : PotOk H p) (pS : p ∈ S) (kn : Kn S H) (hn : 1 ≤ n) (hn2 : n ≤ 1000) (hm : ∀ v A B, Same A B → ψ v A → ψ v B) (hk : ∀ v A B, Keep p A B → ψ v A → ψ v B)
    (h : GvA ts σ H fun vs H' => vs.length = n ∧ ∀ v ∈ vs, ψ v H') : GvK p (tD spPick (tCons (tVar 0) (tCons (tLst ts) tNil))) σ H ψ := fun Q q =>
  ⟨_, hv, h _ fun vs H1 s1 f1 => ⟨by rw [f1.1, sizeLine_eq]; omega, fun a na => by
    have na2 : a ≠ p := pot_ne (hp.same s1) na
    have s2 := s1.trans (same_new (o := .lst vs) na)
    exact ⟨p, a, vs, rfl, hp.same s2, upd_same, na2, by rw [f1.1]; exact hn, by rw [f1.1]; exact hn2, fun x H' hx hp' k' => q x H' ((Keep.of s2).trans k') hp' (hk _ _ _ k' (hm _ _ _ (same_new na) (f1.2 x hx)))⟩⟩⟩
theorem gva_cons {ψ : V → Hp → Prop} (hm : ∀ v A B, Same A B → ψ v A → ψ v B) (h1 : Gv t σ H ψ) (h2 : ∀ H1, Same H H1 → GvA ts σ H1 fun vs H' => vs.length = n ∧ ∀ v ∈ vs, ψ v H') : GvA (tCons t ts) σ H fun vs H' => vs.length = n + 1 ∧ ∀ v ∈ vs, ψ v H' := fun Q q =>
  h1 _ fun v H1 s1 f1 => h2 H1 s1 _ fun vs H2 s2 f2 => q (v :: vs) H2 (s1.trans s2) ⟨by rw [List.length_cons, f2.1], fun x hx => by
    rcases List.mem_cons.mp hx with z | z
    · rw [z]; exact hm _ _ _ s2 f1
    · exact f2.2 x z⟩
theorem gva_nil {ψ : V → Hp → Prop} : GvA tNil σ H fun vs H' => vs.length = 0 ∧ ∀ v ∈ vs, ψ v H' := fun Q q => q [] H (Same.refl _) ⟨rfl, fun v h => by cases h⟩
theorem ret_gk {D : Ends} (h : GvK p t σ H φ) (k : ∀ v H', Keep p H H' → PotOk H' p → φ v H' → D.rt v H') : tRet t D σ H := h _ fun v H' k1 p1 f => k v H' k1 p1 f
end
end
end K21

namespace K21
open Fp
/-- a polynomial with a head at the place d, of ints up to nB -/
structure Mono (d nB : Nat) (xs : List Rat) : Prop where
  len : xs.length = d + 1
  hd : co xs d ≠ 0
  sz : AllS 1 nB xs
theorem told_lastc {ys : List Rat} (t : Told ys) {n : Nat} (l : ys.length = n + 1) : co ys n ≠ 0 := by
  have e : ys.getLast? = some (co ys n) := by
    rw [List.getLast?_eq_getElem?, l, Nat.add_sub_cancel]
    unfold co
    rw [List.getD_eq_getElem?_getD, List.getElem?_eq_getElem (by omega)]; rfl
  exact t _ e
theorem trim_len {xs : List Rat} {d : Nat} (h1 : co xs d ≠ 0) (h2 : ∀ n, d < n → co xs n = 0) : (trimQ xs).length = d + 1 := by
  have t := trimQ_told xs
  rcases Nat.lt_trichotomy (trimQ xs).length (d + 1) with l | l | l
  · exact absurd (by rw [← trimQ_co]; exact co_out (by omega)) h1
  · exact l
  · obtain ⟨n, hn⟩ : ∃ n, (trimQ xs).length = n + 1 := ⟨(trimQ xs).length - 1, by omega⟩
    exact absurd (by rw [trimQ_co]; exact h2 n (by omega)) (told_lastc t hn)
theorem allS_trim {D : Int} {M : Nat} {xs : List Rat} (h : AllS D M xs) : AllS D M (trimQ xs) := AllS.of_co fun i => by rw [trimQ_co]; exact h.co i
theorem Mono.mono {d B B' : Nat} {xs : List Rat} (h : Mono d B xs) (l : B ≤ B') : Mono d B' xs := ⟨h.len, h.hd, fun x hx => (h.sz x hx).mono l⟩
theorem Mono.told {d B : Nat} {xs : List Rat} (h : Mono d B xs) : Told xs := fun z e => by
  have l := h.len
  rw [List.getLast?_eq_getElem?, l, Nat.add_sub_cancel] at e
  rw [← co_at e]; exact h.hd
theorem sc_int1 {c : Int} {B nB : Nat} {x : Rat} (hc : c.natAbs ≤ B) (h : Sc 1 nB x) : Sc 1 (B * nB) ((c : Rat) * x) := by
  have := (Sc.int hc).mul h
  rwa [Int.mul_one] at this
theorem Mono.near {d B B' : Nat} {f ys : List Rat} {c : Int} (h : Mono d B f) (g : AllS 1 B' ys) (hc : c.natAbs ≤ 3) (l : ∀ n, d ≤ n → (c : Rat) * co ys n = 0) : Mono d (B + 3 * B') (trimQ (plusQ c f ys)) := by
  have e : ∀ n, d ≤ n → co (plusQ (c : Rat) f ys) n = co f n := fun n hn => by rw [plusQ_co, l n hn, Rat.add_zero]
  refine ⟨trim_len (d := d) (by rw [e d (Nat.le_refl _)]; exact h.hd) fun n hn => by rw [e n (by omega)]; exact co_out (by rw [h.len]; omega), by rw [trimQ_co, e d (Nat.le_refl _)]; exact h.hd, allS_trim (plusQ_sc h.sz fun n => sc_int1 hc (g.co n))⟩
theorem Mono.far {d B B' : Nat} {f ys : List Rat} {c : Int} (h : Mono d B ys) (g : AllS 1 B' f) (hc : c.natAbs ≤ 3) (c0 : c ≠ 0) (l : f.length ≤ d) : Mono d (B' + 3 * B) (trimQ (plusQ c f ys)) := by
  have c1 : (c : Rat) ≠ 0 := fun z => c0 (Rat.intCast_eq_zero_iff.mp z)
  have e : ∀ n, d ≤ n → co (plusQ (c : Rat) f ys) n = c * co ys n := fun n hn => by rw [plusQ_co, co_out (xs := f) (by omega), Rat.zero_add]
  have nz : (c : Rat) * co ys d ≠ 0 := fun z => (Rat.mul_eq_zero.mp z).elim c1 h.hd
  refine ⟨trim_len (d := d) (by rw [e d (Nat.le_refl _)]; exact nz) fun n hn => by rw [e n (by omega), co_out (by rw [h.len]; omega), Rat.mul_zero], by rw [trimQ_co, e d (Nat.le_refl _)]; exact nz, allS_trim (plusQ_sc g fun n => sc_int1 hc (h.sz.co n))⟩
theorem Mono.square {d B : Nat} {f : List Rat} (h : Mono d B f) : Mono (2 * d) ((d + 1) * (B * B)) (trimQ (timesQ f f)) := by
  have e : co (timesQ f f) (d + d) = co f d * co f d := by
    rw [timesQ_co]; exact prodc_top h.len fun i hi => co_out (by rw [h.len]; omega)
  have nz : co (timesQ f f) (2 * d) ≠ 0 := by
    rw [show 2 * d = d + d by omega, e]
    exact fun z => (Rat.mul_eq_zero.mp z).elim h.hd h.hd
  have len : (timesQ f f).length = f.length + f.length - 1 := by unfold timesQ; rw [List.length_map, List.length_range]
  refine ⟨trim_len nz fun n hn => co_out (by rw [len, h.len]; omega), by rw [trimQ_co]; exact nz, allS_trim ?_⟩
  have := timesQ_sc h.sz h.sz
  rwa [Int.mul_one, h.len] at this
/-- 0, some ints, 1 -/
theorem Mono.ints {ns : List Int} (h : ∀ x ∈ ns, -2 ≤ x ∧ x ≤ 2) : Mono (ns.length + 1) 2 (trimQ (intQ ([0] ++ ns ++ [1]))) := by
  have at1 : co (intQ ([0] ++ ns ++ [1])) (ns.length + 1) = 1 := by
    refine co_at ?_
    unfold intQ
    rw [List.getElem?_map, List.getElem?_append_right (by rw [List.length_append]; simp; omega), List.length_append]
    simp
    have e : ns.length + 1 - (1 + ns.length) = 0 := by omega
    rw [e]; exact ⟨1, rfl, rfl⟩
  have len : (intQ ([0] ++ ns ++ [1])).length = ns.length + 2 := by unfold intQ; simp
  refine ⟨trim_len (by rw [at1]; decide) fun n hn => co_out (by rw [len]; omega), by rw [trimQ_co, at1]; decide, allS_trim fun x hx => ?_⟩
  unfold intQ at hx
  obtain ⟨z, hz, rfl⟩ := List.mem_map.mp hx
  refine Sc.int ?_
  rcases List.mem_append.mp hz with hz | hz
  · rcases List.mem_append.mp hz with hz | hz
    · rw [List.mem_singleton.mp hz]; decide
    · have := h z hz; omega
  · rw [List.mem_singleton.mp hz]; decide
end K21

namespace K21
open PySem PySem.Spec PyProof.Rows L2 Fp
section
variable {P : Program} {w : World} {K : PySem.W.Frag} {mg : Str → Option Value} {base : Heap} {k : Nat} {C fI fR : Addr}
def sp_law_two (K : PySem.W.Frag) (C : Addr) : Sp := fun vs H Q _ => ∃ p : Addr, vs = [.ref p] ∧ PotOk H p ∧ ∀ t H' a b us ws f g lo hi, PotOk H' p → Keep p H H' → H' t = some (.tup [.ref a, .ref b]) → H' a = some (.lst us) → H' b = some (.lst ws) → QL C (wos [p] H') us f → QL C (wos [p] H') ws g → t ≠ p → a ≠ p → b ≠ p → Mono lo 2 f → Mono hi 2 g → 2 ≤ lo → lo < hi → lo ≤ 3 → hi ≤ 7 → 2 * lo ≠ hi → Q (.ref t) H'
def sp_law_makers (K : PySem.W.Frag) (C : Addr) : Sp := fun vs H Q _ => ∃ (p a b : Addr) (us ws : List V) (f g : List Rat) (lo hi : Nat), vs = [.ref p, .ref a, .ref b] ∧ PotOk H p ∧ a ≠ p ∧ b ≠ p ∧ H a = some (.lst us) ∧ H b = some (.lst ws) ∧ QL C (wos [p] H) us f ∧ QL C (wos [p] H) ws g ∧ Mono lo 2 f ∧ Mono hi 2 g ∧ 2 ≤ lo ∧ lo < hi ∧ lo ≤ 3 ∧ hi ≤ 7 ∧ 2 * lo ≠ hi ∧ ∀ l H' gs ps, PotOk H' p → Keep p H H' → H l = none → H' l = some (.lst gs) → Ea (ListQ C) (wos [l, p] H') gs ps → 2 ≤ ps.length → (∀ q ∈ ps, ∃ d, 1 ≤ d ∧ d ≤ 7 ∧ Mono d 1000 q) → Q (.ref l) H'
/-- a list of own numbers does without the pot -/
theorem rq_wos {H : Hp} {p a : Addr} {x : Rat} (hp : PotOk H p) (h : RQ C H a x) : RQ C (wos [p] H) a x := by
  obtain ⟨dx, h⟩ := h
  refine ⟨dx, ?_⟩
  rw [wos_ne]
  · exact h
  intro z
  obtain ⟨u, v, e, _⟩ := hp
  rw [List.mem_singleton.mp z, e] at h; cases h
theorem _root_.Fp.RatL.same_wos {H : Hp} {p : Addr} {us : List V} {xs : List Rat} (h : QL C H us xs) (hp : PotOk H p) : QL C (wos [p] H) us xs :=
  QL.mk (QL.len h) fun i v x hv hx => by
    obtain ⟨y, a, h1, h2, h3⟩ := QL.at h hv
    rw [h1] at hx
    obtain rfl := Option.some.inj hx
    exact ⟨a, h2, rq_wos hp h3⟩
def TwoOk (lo hi : Nat) : Prop := 2 ≤ lo ∧ lo < hi ∧ lo ≤ 3 ∧ hi ≤ 7 ∧ 2 * lo ≠ hi
/-- 0, drawn ints, 1 -/
theorem gk_ints {K : PySem.W.Frag} {p : Addr} {H : Hp} {l2 h2 : V} {o3 o4 : Option V} {i d : Nat} (hv : [some (.ref p), some l2, some h2, o3, o4, none][i]? = some (some (.int (d : Nat)))) (hp : PotOk H p) (h1 : 2 ≤ d) (h8 : d ≤ 8) :
    GvK p (tOp rCat (tOp rCat (tLst (tCons (tC (.int 0)) tNil)) (tLc (iRng2 (tCons (tC (.int 1)) (tCons (tVar i) tNil))) (gName 5) tYes (tOp (rI0 fun i j => V.int (i - j)) (tD spDraw (tCons (tVar 0) (tCons (tC (.int 5)) tNil))) (tC (.int 2))) (List.map (fun x => x.2) [(Str.ofString "_law_place", 5)]))) (tLst (tCons (tC (.int 1)) tNil)))
      [some (.ref p), some l2, some h2, o3, o4, none] H fun v H' => ∃ c ns, v = .ref c ∧ H c = none ∧ H' c = some (.lst (VI ([0] ++ ns ++ [1]))) ∧ ns.length + 1 = d ∧ ∀ x ∈ ns, -2 ≤ x ∧ x ≤ 2 := fun Q q => by
  refine ⟨by show 1 ≤ sizeLine; decide, fun c nc => ?_⟩
  have sc := same_new (o := .lst [V.int 0]) nc
  have ncp : c ≠ p := pot_ne hp nc
  have hp1 := hp.same sc
  refine ⟨_, hv, 1, (d : Int), rfl, by omega, fun D hD => ?_⟩
  have neD : D ≠ p := pot_ne hp1 hD
  have hc1 : (upd H c (.lst [V.int 0])) c = some (.lst [V.int 0]) := upd_same
  have cD : c ≠ D := fun z => by rw [← z, hc1] at hD; cases hD
  generalize upd H c (.lst [V.int 0]) = H1 at *
  refine lc_it (walk_range (lo := 1) (n := ((d : Int) - 1).toNat)) (fun i G => ∃ ws, G D = some (.lst (VI ws)) ∧ ws.length = i ∧ (∀ x ∈ ws, -2 ≤ x ∧ x ≤ 2) ∧ PotOk G p ∧ Keep p H1 G) ⟨[], upd_same, rfl, fun x hx => by (cases hx), hp1.same (same_new hD), Keep.of (same_new hD)⟩ (fun _ _ _ _ => True.intro) (fun i x G G' hi pv y => ?_) (fun G pv => ?_)
  · obtain ⟨ws, hw, lw, wb, pG, kG⟩ := pv
    obtain ⟨rfl, rfl⟩ := y
    refine ⟨rfl, _, rfl, p, 5, rfl, pG, by omega, by omega, fun z H2 z0 z1 hp2 k2 => ⟨z, 2, rfl, rfl, VI ws, k2 _ _ neD hw, by rw [vi_len]; exact small (by omega), ws ++ [z - 2], ?_, by rw [List.length_append, lw]; rfl, fun y hy => ?_, ?_, fun b o nb hb => ?_⟩⟩
    · rw [upd_same]; unfold VI; rw [List.map_append]; rfl
    · rcases List.mem_append.mp hy with h | h
      · exact wb y h
      · rw [List.mem_singleton.mp h]; omega
    · obtain ⟨u, v, e, x⟩ := hp2
      exact ⟨u, v, by rw [upd_ne neD.symm]; exact e, x⟩
    · rw [upd_ne (ne_of_none hb hD)]
      exact k2 _ _ nb (kG _ _ nb hb)
  · obtain ⟨ws, hw, lw, wb, pG, kG⟩ := pv
    have hc2 := kG _ _ ncp hc1
    refine ⟨c, D, _, _, rfl, rfl, hc2, hw, by rw [vi_len, sizeLine_eq]; simp; omega, fun e ne => ?_⟩
    have se := same_new (o := .lst ([V.int 0] ++ VI ws)) ne
    refine ⟨by show 1 ≤ sizeLine; decide, fun g ng => ?_⟩
    have sg := same_new (o := .lst [V.int 1]) ng
    refine ⟨e, g, _, _, rfl, rfl, sg _ _ upd_same, upd_same, by rw [List.length_append, vi_len, sizeLine_eq]; simp; omega, fun f nf => ?_⟩
    have sf := same_new (o := .lst ([V.int 0] ++ VI ws ++ [V.int 1])) nf
    have kk : Keep p H G := (Keep.of sc).trans kG
    have s3 := (se.trans sg).trans sf
    have nfp : f ≠ p := pot_ne ((pG.same se).same sg) nf
    refine q _ _ (kk.trans (Keep.of s3)) (pG.same s3) ⟨f, ws, rfl, ?_, ?_, by omega, wb⟩
    · cases z : H f with
      | none => rfl
      | some o => rw [sg _ _ (se _ _ (kk _ _ nfp z))] at nf; cases nf
    · rw [upd_same]; unfold VI; rw [List.map_append, List.map_append]; rfl
theorem ints_b {zs : List Int} (h : ∀ z ∈ zs, z.natAbs ≤ 2) : AllB 4200 (intQ zs) := fun x hx => by
  unfold intQ at hx
  obtain ⟨z, hz, rfl⟩ := List.mem_map.mp hx
  have b := h z hz
  exact ⟨Nat.lt_of_le_of_lt (show (z : Rat).num.natAbs ≤ 2 from b) (show 2 < 2 ^ 4200 from Nat.lt_of_lt_of_le (show 2 < 2 ^ 2 by decide) (Nat.pow_le_pow_right (by decide) (by decide))), by show (1 : Int).natAbs < 2 ^ 4200; exact Nat.lt_of_lt_of_le (show 1 < 2 ^ 1 by decide) (Nat.pow_le_pow_right (by decide) (by decide))⟩
-- slots: _law_pot_here 0, _law_low 1, _law_high 2, _law_first 3, _law_second 4, _law_place 5; cells: _law_pot_here
abbrev s_law_two : Stmt := top 58
abbrev N_law_two : List Str := ["_law_pot_here", "_law_low", "_law_high", "_law_first", "_law_second", "_law_place"]
theorem sc_law_two : FnScope N_law_two ["_law_pot_here"] (defScope s_law_two) := ⟨rfl, rfl, rfl, by decide +kernel, rfl, by decide +kernel, by decide +kernel⟩
theorem d_law_two (B : Bnd K mg "_law_two" s_law_two) (M : Mg2 mg)  (D_law_draw : Def P w K mg base k "_law_draw" sDraw ["_law_pot_here", "_law_size"] spDraw) (D_law_pick : Def P w K mg base k "_law_pick" sPick ["_law_pot_here", "_law_some"] spPick) (D_law_poly : Def P w K mg base k "_law_poly" s_law_poly ["_law_numbers"] (sp_law_poly K C)) : Def P w K mg base (k + 1) "_law_two" s_law_two ["_law_pot_here"] (sp_law_two K C) := by
  refine def_of B sc_law_two (by rintro _ _ _ _ ⟨p, rfl, _⟩; rfl) (fun _ _ _ _ _ _ us hl => match us, hl with | [_], _ => rfl) fun f cdv A outer s H vs Q E hr h => ?_
  obtain ⟨p, rfl, hp, q⟩ := h
  have hu := hr.units
  refine ⟨_, pss_cons (ps_asg (pe_d D_law_pick hr (by rfl) (pa_cons (pv 0) (pa_cons (pe_lst (pa_cons (pe_tup (pa_cons pe_int (pa_cons pe_int pa_nil))) (pa_cons (pe_tup (pa_cons pe_int (pa_cons pe_int pa_nil))) (pa_cons (pe_tup (pa_cons pe_int (pa_cons pe_int pa_nil))) (pa_cons (pe_tup (pa_cons pe_int (pa_cons pe_int pa_nil))) (pa_cons (pe_tup (pa_cons pe_int (pa_cons pe_int pa_nil))) (pa_cons (pe_tup (pa_cons pe_int (pa_cons pe_int pa_nil))) pa_nil))))))) pa_nil))) (pg_tup rfl (pgs_cons (pg_name (i := 1) sc_law_two.nd rfl (.inl rfl)) (pgs_cons (pg_name (i := 2) sc_law_two.nd rfl (.inl rfl)) pgs_nil))))
    (pss_cons (ps_set (i := 3) sc_law_two.nd rfl (.inl rfl) (pe_d D_law_poly hr (by rfl) (pa_cons (pe_op op_cat (pe_op op_cat (pe_lst (pa_cons pe_int pa_nil)) (pe_lc (own := [("_law_place", 5)]) (g := (gName 5)) (tt := tYes) (te := (tOp _ (tD _ (tCons (tVar 0) (tCons (tC (.int 5)) tNil))) (tC (.int 2)))) rfl sc_law_two.nd (pi_range2 (by rfl) M.range (pa_cons pe_int (pa_cons (pv 1) pa_nil))) (blkOk_by (own := [("_law_place", 5)]) (N := N_law_two) (sc := defScope s_law_two) (by decide +kernel)) (fun _ _ _ _ _ => pg_name (i := 5) sc_law_two.nd rfl (.inl rfl)) (fun _ _ _ _ _ => pts_nil) (fun _ _ _ _ _ => pe_op op_sub (pe_d D_law_draw hr (by rfl) (pa_cons (pv 0) (pa_cons pe_int pa_nil))) pe_int))) (pe_lst (pa_cons pe_int pa_nil))) pa_nil)))
    (pss_cons (ps_set (i := 4) sc_law_two.nd rfl (.inl rfl) (pe_d D_law_poly hr (by rfl) (pa_cons (pe_op op_cat (pe_op op_cat (pe_lst (pa_cons pe_int pa_nil)) (pe_lc (own := [("_law_place", 5)]) (g := (gName 5)) (tt := tYes) (te := (tOp _ (tD _ (tCons (tVar 0) (tCons (tC (.int 5)) tNil))) (tC (.int 2)))) rfl sc_law_two.nd (pi_range2 (by rfl) M.range (pa_cons pe_int (pa_cons (pv 2) pa_nil))) (blkOk_by (own := [("_law_place", 5)]) (N := N_law_two) (sc := defScope s_law_two) (by decide +kernel)) (fun _ _ _ _ _ => pg_name (i := 5) sc_law_two.nd rfl (.inl rfl)) (fun _ _ _ _ _ => pts_nil) (fun _ _ _ _ _ => pe_op op_sub (pe_d D_law_draw hr (by rfl) (pa_cons (pv 0) (pa_cons pe_int pa_nil))) pe_int))) (pe_lst (pa_cons pe_int pa_nil))) pa_nil)))
    (pss_one (ps_ret (pe_tup (pa_cons (pv 3) (pa_cons (pv 4) pa_nil))))))), ?_⟩
  have kn : Kn [p] H := fun s hs z => by
    obtain ⟨u, v, g, _⟩ := hp
    rw [List.mem_singleton.mp hs, g] at z; cases z
  refine gk_pick (p := p) (S := [p]) (ψ := fun v G => ∃ t lo hi, v = .ref t ∧ t ≠ p ∧ G t = some (.tup [.int (lo : Nat), .int (hi : Nat)]) ∧ TwoOk lo hi) (n := 6) rfl hp (by simp) kn (by omega) (by omega) (fun v A B s ⟨t, lo, hi, h1, h2, h3, h4⟩ => ⟨t, lo, hi, h1, h2, s _ _ h3, h4⟩) (fun v A B k ⟨t, lo, hi, h1, h2, h3, h4⟩ => ⟨t, lo, hi, h1, h2, k _ _ h2 h3, h4⟩) ?_ _ ?_
  · have hm : ∀ v A B, Same A B → (∃ t lo hi, v = V.ref t ∧ t ≠ p ∧ A t = some (.tup [.int (lo : Nat), .int (hi : Nat)]) ∧ TwoOk lo hi) → (∃ t lo hi, v = V.ref t ∧ t ≠ p ∧ B t = some (.tup [.int (lo : Nat), .int (hi : Nat)]) ∧ TwoOk lo hi) := fun v A B s ⟨t, lo, hi, h1, h2, h3, h4⟩ => ⟨t, lo, hi, h1, h2, s _ _ h3, h4⟩
    have one : ∀ (lo hi : Nat) (G : Hp) (σ : L2.St), PotOk G p → TwoOk lo hi → Gv (tTup (tCons (tC (.int (lo : Nat))) (tCons (tC (.int (hi : Nat))) tNil))) σ G fun v H' => ∃ t lo hi, v = .ref t ∧ t ≠ p ∧ H' t = some (.tup [.int (lo : Nat), .int (hi : Nat)]) ∧ TwoOk lo hi := fun lo hi G σ pG h Q q => ⟨by show 2 ≤ sizeLine; decide, fun c nc => q _ _ (same_new nc) ⟨c, lo, hi, rfl, pot_ne pG nc, upd_same, h⟩⟩
    refine gva_cons hm (one 2 3 _ _ hp (by unfold TwoOk; omega)) fun H1 s1 => ?_
    refine gva_cons hm (one 2 3 _ _ (hp.same s1) (by unfold TwoOk; omega)) fun H2 s2 => ?_
    refine gva_cons hm (one 2 5 _ _ ((hp.same s1).same s2) (by unfold TwoOk; omega)) fun H3 s3 => ?_
    refine gva_cons hm (one 3 4 _ _ (((hp.same s1).same s2).same s3) (by unfold TwoOk; omega)) fun H4 s4 => ?_
    refine gva_cons hm (one 2 7 _ _ ((((hp.same s1).same s2).same s3).same s4) (by unfold TwoOk; omega)) fun H5 s5 => ?_
    refine gva_cons hm (one 3 5 _ _ (((((hp.same s1).same s2).same s3).same s4).same s5) (by unfold TwoOk; omega)) fun H6 s6 => ?_
    exact gva_nil
  rintro v H1 k1 hp1 ⟨t, lo, hi, rfl, tp, ht, l2, lh, l3, h7, n2⟩
  refine ⟨t, _, rfl, SqT.of ht, rfl, _, _, rfl, _, _, rfl, rfl, ?_⟩
  dsimp only
  show tSeq (tAsg _ _) _ _ [some (.ref p), some (.int (lo : Nat)), some (.int (hi : Nat)), none, none, none] H1
  refine gk_ints (K := K) (i := 1) rfl hp1 l2 (by omega) _ ?_
  rintro _ H2 k2 hp2 ⟨c, ns, rfl, nc, hc, ln, wb⟩
  have b2 : ∀ ns : List Int, (∀ x ∈ ns, -2 ≤ x ∧ x ≤ 2) → ∀ z ∈ [0] ++ ns ++ [1], z.natAbs ≤ 2 := fun ns h z hz => by
    rcases List.mem_append.mp hz with hz | hz
    · rcases List.mem_append.mp hz with hz | hz
      · rw [List.mem_singleton.mp hz]; decide
      · have := h z hz; omega
    · rw [List.mem_singleton.mp hz]; decide
  refine ⟨c, _, _, rfl, .inl (SqL.of hc), ML.ints _, ints_b (b2 _ wb), by simp; omega, fun a H3 us s3 na ha hu => ?_⟩
  have nap : a ≠ p := pot_ne hp2 na
  dsimp only [gName]
  show tSeq (tAsg _ _) _ _ [some (.ref p), some (.int (lo : Nat)), some (.int (hi : Nat)), some (.ref a), none, none] H3
  refine gk_ints (K := K) (i := 2) rfl (hp2.same s3) (by omega) (by omega) _ ?_
  rintro _ H4 k4 hp4 ⟨d, ms, rfl, nd, hd, lm, wd⟩
  refine ⟨d, _, _, rfl, .inl (SqL.of hd), ML.ints _, ints_b (b2 _ wd), by simp; omega, fun b H5 ws s5 nb hb hw => ?_⟩
  have nbp : b ≠ p := pot_ne hp4 nb
  refine ⟨_, rfl, _, rfl, by show 2 ≤ sizeLine; decide, fun e ne => ?_⟩
  have se := same_new (o := .tup [V.ref a, V.ref b]) ne
  have nep : e ≠ p := pot_ne (hp4.same s5) ne
  have m1 := Mono.ints wb
  have m2 := Mono.ints wd
  rw [ln] at m1
  rw [lm] at m2
  have hw1 : ∀ {G : Hp} {us : List V} {xs : List Rat}, PotOk G p → QL C G us xs → QL C (wos [p] G) us xs := fun pG h => h.same_wos pG
  refine q e _ a b us ws _ _ lo hi ((hp4.same s5).same se) (((k1.trans k2).trans (Keep.of s3)).trans (k4.trans ((Keep.of s5).trans (Keep.of se)))) upd_same (se _ _ (s5 _ _ (k4 _ _ nap ha))) (se _ _ hb) ?_ ?_ nep nap nbp m1 m2 l2 lh l3 h7 n2
  · exact RatL.same (hw1 (hp2.same s3) hu) (wos_keep (by simp) (k4.trans ((Keep.of s5).trans (Keep.of se))))
  · exact RatL.same (hw1 (hp4.same s5) hw) (wos_same se)
end
end K21

namespace K21
open PySem PySem.Spec PyProof.Rows L2 Fp
section
variable {P : Program} {w : World} {K : PySem.W.Frag} {mg : Str → Option Value} {base : Heap} {k : Nat} {C fI fR : Addr}
/-- a polynomial of own numbers, the pot apart -/
def PolyAt (C p : Addr) (f : List Rat) (v : V) (H : Hp) : Prop := ∃ a us, v = .ref a ∧ a ≠ p ∧ H a = some (.lst us) ∧ QL C (wos [p] H) us f
theorem PolyAt.keep {p : Addr} {f : List Rat} {v : V} {H H' : Hp} (h : PolyAt C p f v H) (k : Keep p H H') : PolyAt C p f v H' := let ⟨a, us, h1, h2, h3, h4⟩ := h; ⟨a, us, h1, h2, k _ _ h2 h3, RatL.same h4 (wos_keep (by simp) k)⟩
def NewIn (H : Hp) (v : V) : Prop := ∃ a, v = .ref a ∧ H a = none
/-- beside a list F that is to be changed -/
theorem PolyAt.list {p F : Addr} {f : List Rat} {v : V} {H : Hp} {us : List V} (h : PolyAt C p f v H) (hF : H F = some (.lst us)) (n : v ≠ .ref F) : ListQ C (wos [F, p] H) v f := by
  obtain ⟨a, ws, rfl, h2, h3, h4⟩ := h
  have aF : a ≠ F := fun z => n (by rw [z])
  refine ⟨a, ws, rfl, by rw [wos_ne (by simp [aF, h2])]; exact h3, QL.mk (QL.len h4) fun i v x hv hx => ?_⟩
  obtain ⟨y, b, e1, e2, dx, e3⟩ := QL.at h4 hv
  rw [e1] at hx
  obtain rfl := Option.some.inj hx
  obtain ⟨g1, g2⟩ := wos_some.mp e3
  refine ⟨b, e2, dx, wos_some.mpr ⟨fun z => ?_, g2⟩⟩
  simp only [List.mem_cons, List.not_mem_nil, or_false] at z
  rcases z with z | z
  · rw [z, hF] at g2; cases g2
  · exact g1 (by simp [z])
theorem Ea.rev {α : Type} {R : Hp → V → α → Prop} {H : Hp} {us : List V} {xs : List α} (h : Ea R H us xs) : Ea R H us.reverse xs.reverse := by
  have l := h.1
  refine ⟨by rw [List.length_reverse, List.length_reverse, l], fun i v hv => ?_⟩
  have li : i < us.length := by have := (List.getElem?_eq_some_iff.mp hv).1; rwa [List.length_reverse] at this
  rw [List.getElem?_reverse li] at hv
  obtain ⟨x, h1, h2⟩ := h.2 _ v hv
  exact ⟨x, by rw [List.getElem?_reverse (by omega), ← l]; exact h1, h2⟩
/-- an int of a kind -/
def CoK (p : Addr) (R : Int → Prop) (t : TE) (σ : L2.St) (H : Hp) : Prop := ∀ Q : VK, (∀ z H', Keep p H H' → PotOk H' p → R z → Q (.int z) H') → t σ H Q
section
variable {p : Addr} {σ : L2.St} {H : Hp} {t1 t2 t3 : TE} {f g : List Rat} {R : Int → Prop}
theorem ck_draw {m : Int} (hv : σ[0]? = some (some (.ref p))) (hp : PotOk H p) (h1 : 1 ≤ m) (h2 : m ≤ 1000) : CoK p (fun z => 0 ≤ z ∧ z < m) (tD spDraw (tCons (tVar 0) (tCons (tC (.int m)) tNil))) σ H := fun Q q => ⟨_, hv, p, m, rfl, hp, h1, by omega, fun d H' d0 d1 hp' k' => q d H' k' hp' ⟨d0, d1⟩⟩
theorem ck_sub {m c : Int} (hv : σ[0]? = some (some (.ref p))) (hp : PotOk H p) (h1 : 1 ≤ m) (h2 : m ≤ 1000) : CoK p (fun z => -c ≤ z ∧ z < m - c) (tOp (rI0 fun i j => V.int (i - j)) (tD spDraw (tCons (tVar 0) (tCons (tC (.int m)) tNil))) (tC (.int c))) σ H := fun Q q => ⟨_, hv, p, m, rfl, hp, h1, by omega, fun d H' d0 d1 hp' k' => ⟨d, c, rfl, rfl, q _ H' k' hp' ⟨by omega, by omega⟩⟩⟩
theorem ck_pick {ts : TA} {n : Nat} (hv : σ[0]? = some (some (.ref p))) (hp : PotOk H p) (kn : Kn [p] H) (hn : 1 ≤ n) (hn2 : n ≤ 1000) (h : GvA ts σ H fun vs H' => vs.length = n ∧ ∀ v ∈ vs, ∃ z : Int, v = .int z ∧ R z) : CoK p R (tD spPick (tCons (tVar 0) (tCons (tLst ts) tNil))) σ H := fun Q q =>
  gk_pick (ψ := fun v _ => ∃ z : Int, v = .int z ∧ R z) (S := [p]) hv hp (by simp) kn hn hn2 (fun v A B _ h => h) (fun v A B _ h => h) h _ fun v H' k' hp' ⟨z, e, r⟩ => e ▸ q z H' k' hp' r
theorem gpa_var {i : Nat} {v : V} (hv : σ[i]? = some (some v)) (hp : PotOk H p) (h : PolyAt C p f v H) : GvK p (tVar i) σ H (PolyAt C p f) := fun Q q => ⟨v, hv, q v H (Keep.refl _ _) hp h⟩
theorem gpa_one (h : CoK p R t1 σ H) : GvK p (tLst (tCons (tRat C (tCons t1 tNil)) tNil)) σ H fun v H' => ∃ z, R z ∧ PolyAt C p [(z : Rat)] v H' := fun Q q =>
  h _ fun z H1 k1 hp1 r => ⟨z, rfl, fun m H2 nm sm rm => ⟨by show 1 ≤ sizeLine; decide, fun c nc => by
    have sc := same_new (o := .lst [V.ref m]) nc
    have hp2 := hp1.same sm
    have hp3 := hp2.same sc
    have rm : RQ C H2 m (z : Rat) := rm
    refine q _ _ (k1.trans ((Keep.of sm).trans (Keep.of sc))) hp3 ⟨z, r, c, [.ref m], rfl, pot_ne hp2 nc, upd_same, ?_⟩
    exact RatL.same ((QL.nil.snoc rm).same_wos hp2) (wos_same sc)⟩⟩
theorem sz_bits {nB m : Nat} (h : AllS 1 nB f) (l : nB ≤ 3000) (hm : 100 ≤ m) : AllB m f := h.bits (by decide) (show (1 : Int).natAbs < 2 ^ m from Nat.lt_of_lt_of_le (show 1 < 2 ^ 100 by decide) (Nat.pow_le_pow_right (by decide) hm)) (Nat.lt_of_lt_of_le (show nB < 2 ^ 100 from Nat.lt_of_le_of_lt l (by decide)) (Nat.pow_le_pow_right (by decide) hm))
theorem bits_small {z : Int} (h : z.natAbs ≤ 3) : Bits 100 (z : Rat) := ⟨Nat.lt_of_le_of_lt (show (z : Rat).num.natAbs ≤ 3 from h) (by decide), by show (1 : Int).natAbs < 2 ^ 100; decide⟩
theorem gpa_sum {φ1 : List Rat → Prop} {φ2 : List Rat → Prop} (h1 : GvK p t1 σ H fun v H' => ∃ f, φ1 f ∧ PolyAt C p f v H') (h2 : ∀ H1, Keep p H H1 → PotOk H1 p → GvK p t2 σ H1 fun v H' => ∃ f, φ2 f ∧ PolyAt C p f v H') (h3 : ∀ H1, Keep p H H1 → PotOk H1 p → CoK p R t3 σ H1)
    (b1 : ∀ f, φ1 f → AllS 1 200 f ∧ f.length ≤ 100) (b2 : ∀ f, φ2 f → AllS 1 200 f ∧ f.length ≤ 100) (b3 : ∀ z, R z → z.natAbs ≤ 3) :
    GvK p (tD (sp_law_sum K C) (tCons t1 (tCons t2 (tCons t3 tNil)))) σ H fun v H' => ∃ f g z, φ1 f ∧ φ2 g ∧ R z ∧ NewIn H v ∧ PolyAt C p (trimQ (plusQ ((z : Int) : Rat) f g)) v H' := fun Q q =>
  h1 _ fun v H1 k1 p1 ⟨f, e1, f1⟩ => h2 H1 k1 p1 _ fun u H2 k2 p2 ⟨g, e2, f2⟩ => h3 H2 (k1.trans k2) p2 _ fun z H3 k3 p3 r => by
    obtain ⟨a, us, rfl, na, ha, hu⟩ := f1.keep (k2.trans k3)
    obtain ⟨b, ws, rfl, nb, hb, hw⟩ := f2.keep k3
    obtain ⟨s1, l1⟩ := b1 f e1
    obtain ⟨s2, l2⟩ := b2 g e2
    have bz := b3 z r
    refine ⟨a, b, us, ws, f, g, .int z, (z : Rat), rfl, NumQ.int, bits_small bz, ha, hb, ML.of_ql (RatL.same hu wos_le), ML.of_ql (RatL.same hw wos_le), sz_bits s1 (by decide) (by decide), sz_bits s2 (by decide) (by decide), sz_bits (nB := 800) (plusQ_sc (M := 200) (N := 600) s1 fun n => (sc_int1 bz (s2.co n))) (by decide) (by decide), by omega, by omega, fun d H' zs sd nd hd hq => ?_⟩
    have k123 := k1.trans (k2.trans k3)
    have nH : H d = none := by
      cases z : H d with
      | none => rfl
      | some o => rw [k123 _ _ (pot_ne p3 nd) z] at nd; cases nd
    exact q _ _ (k123.trans (Keep.of sd)) (p3.same sd) ⟨f, g, z, e1, e2, r, ⟨d, rfl, nH⟩, d, zs, rfl, pot_ne p3 nd, hd, hq.same_wos (p3.same sd)⟩
theorem gpa_square {φ : List Rat → Prop} {i : Nat} {v : V} (hv : σ[i]? = some (some v)) (hp : PotOk H p) (h : PolyAt C p f v H) (s1 : AllS 1 10 f) (l1 : f.length ≤ 10) :
    GvK p (tD (sp_law_product K C) (tCons (tVar i) (tCons (tVar i) tNil))) σ H (PolyAt C p (trimQ (timesQ f f))) := fun Q q => by
  obtain ⟨a, us, rfl, na, ha, hu⟩ := h
  have m1 := ML.of_ql (RatL.same hu wos_le)
  have ft : ∀ n, n ≤ 1000 → Fit 1 n := fun n hn => ⟨by decide, Nat.lt_of_lt_of_le (show (1 : Int).natAbs < 2 ^ 10 by decide) (Nat.pow_le_pow_right (by decide) (by decide)), Nat.lt_of_lt_of_le (show n < 2 ^ 10 by omega) (Nat.pow_le_pow_right (by decide) (by decide))⟩
  refine ⟨_, hv, _, hv, a, a, us, us, f, f, 1, 1, 10, 10, rfl, ha, ha, m1, m1, s1, s1, ft _ (by decide), ft _ (by decide), ?_, by omega, by omega, fun d H' zs sd nd hd hq => ?_⟩
  · rw [Int.mul_one]; exact ft _ (by omega)
  · exact q _ _ (Keep.of sd) (hp.same sd) ⟨d, zs, rfl, pot_ne hp nd, hd, hq.same_wos (hp.same sd)⟩
end
structure Fnd (C p F : Addr) (H G : Hp) (us : List V) (ps : List (List Rat)) : Prop where
  pot : PotOk G p
  kp : Keep p H G
  hF : G F = some (.lst us)
  ea : Ea (ListQ C) (wos [F, p] G) us ps
theorem Fnd.keep {p F : Addr} {H G G' : Hp} {us : List V} {ps : List (List Rat)} (h : Fnd C p F H G us ps) (n : F ≠ p) (k : Keep p G G') (pp : PotOk G' p) : Fnd C p F H G' us ps := ⟨pp, h.kp.trans k, k _ _ n h.hF, h.ea.same ListQ.mo (wos_keep (by simp) k)⟩
theorem Fnd.app {p F a : Addr} {H G : Hp} {us : List V} {ps : List (List Rat)} {f : List Rat} (h : Fnd C p F H G us ps) (n : F ≠ p) (nF : H F = none) (g : PolyAt C p f (.ref a) G) (na : a ≠ F) : Fnd C p F H (upd G F (.lst (us ++ [.ref a]))) (us ++ [.ref a]) (ps ++ [f]) := by
  refine ⟨?_, fun b o nb e => by rw [upd_ne (ne_of_none e nF)]; exact h.kp b o nb e, upd_same, ?_⟩
  · obtain ⟨u, v, e, r⟩ := h.pot
    exact ⟨u, v, by rw [upd_ne n.symm]; exact e, r⟩
  · rw [wos_upd (by simp)]
    exact h.ea.snoc (g.list h.hF fun z => na (by injection z))
def MkP (q : List Rat) : Prop := ∃ d, 1 ≤ d ∧ d ≤ 7 ∧ Mono d 1000 q
-- slots: _law_pot_here 0, _law_first 1, _law_second 2, _law_found 3, _law_other 4; cells: 
abbrev s_law_makers : Stmt := top 59
abbrev N_law_makers : List Str := ["_law_pot_here", "_law_first", "_law_second", "_law_found", "_law_other"]
theorem sc_law_makers : FnScope N_law_makers ["_law_pot_here", "_law_first", "_law_second"] (defScope s_law_makers) := ⟨rfl, rfl, rfl, by decide +kernel, rfl, by decide +kernel, by decide +kernel⟩
theorem d_law_makers (B : Bnd K mg "_law_makers" s_law_makers) (M : Mg2 mg) (R : RCls K mg C fI fR) {kr : Nat} (RD : RDef P w K mg base kr C) (hk : kr + 8 ≤ k) (D_law_draw : Def P w K mg base k "_law_draw" sDraw ["_law_pot_here", "_law_size"] spDraw) (D_law_pick : Def P w K mg base k "_law_pick" sPick ["_law_pot_here", "_law_some"] spPick) (D_law_sum : Def P w K mg base k "_law_sum" s_law_sum ["_law_one", "_law_two_here", "_law_share"] (sp_law_sum K C)) (D_law_product : Def P w K mg base k "_law_product" s_law_product ["_law_one", "_law_two_here"] (sp_law_product K C)) : Def P w K mg base (k + 1) "_law_makers" s_law_makers ["_law_pot_here", "_law_first", "_law_second"] (sp_law_makers K C) := by
  refine def_of B sc_law_makers (by rintro _ _ _ _ ⟨p, a, b, us, ws, fq, gq, lo, hi, rfl, _⟩; rfl) (fun _ _ _ _ _ _ us hl => match us, hl with | [_, _, _], _ => rfl) fun f cdv A outer s H vs Q E hr h => ?_
  obtain ⟨p, a, b, us, ws, fq, gq, lo, hi, rfl, hp, nap, nbp, ha, hb, hf, hg, m1, m2, l1, l2, l3, l4, l5, q⟩ := h
  have hu := hr.units
  refine ⟨_, pss_cons (ps_set (i := 3) sc_law_makers.nd rfl (.inl rfl) (pe_lst (pa_cons (pe_d D_law_sum hr (by rfl) (pa_cons (pe_lst (pa_cons (pe_rat RD (hr.mono (by omega)) (by rfl) (pa_cons (pe_op op_sub (pe_d D_law_draw hr (by rfl) (pa_cons (pv 0) (pa_cons pe_int pa_nil))) pe_int) pa_nil)) pa_nil)) (pa_cons (pv 1) (pa_cons (pe_d D_law_pick hr (by rfl) (pa_cons (pv 0) (pa_cons (pe_lst (pa_cons pe_int (pa_cons pe_int (pa_cons (pe_un un_neg pe_int) pa_nil)))) pa_nil))) pa_nil)))) pa_nil)))
    (pss_cons (ps_set (i := 4) sc_law_makers.nd rfl (.inl rfl) (pe_d D_law_sum hr (by rfl) (pa_cons (pv 2) (pa_cons (pv 1) (pa_cons (pe_op op_sub (pe_d D_law_draw hr (by rfl) (pa_cons (pv 0) (pa_cons pe_int pa_nil))) pe_int) pa_nil)))))
    (C8.pss_cut (ps_if (pt_cmpR op_lt (pe_op op_mulX pe_int (pe_op op_sub (pe_callB call_len_seq (by rfl) M.len boot_len (pa_cons (pv 1) pa_nil)) pe_int)) (pe_op op_sub (pe_callB call_len_seq (by rfl) M.len boot_len (pa_cons (pv 2) pa_nil)) pe_int) (nomark _))
      (pss_one (ps_set (i := 4) sc_law_makers.nd rfl (.inl rfl) (pe_d D_law_sum hr (by rfl) (pa_cons (pv 4) (pa_cons (pe_d D_law_product hr (by rfl) (pa_cons (pv 1) (pa_cons (pv 1) pa_nil))) (pa_cons (pe_op op_sub (pe_d D_law_draw hr (by rfl) (pa_cons (pv 0) (pa_cons pe_int pa_nil))) pe_int) pa_nil))))))
      (pss_nil))
    (pss_cons (ps_expr (pe_bm PySem.F.plainAttrs_list PySem.F.slot_list_append PySem.F.type_list_append mt_append (pv 3) (pa_cons (pe_d D_law_sum hr (by rfl) (pa_cons (pe_lst (pa_cons (pe_rat RD (hr.mono (by omega)) (by rfl) (pa_cons (pe_d D_law_draw hr (by rfl) (pa_cons (pv 0) (pa_cons pe_int pa_nil))) pa_nil)) pa_nil)) (pa_cons (pv 4) (pa_cons (pe_d D_law_pick hr (by rfl) (pa_cons (pv 0) (pa_cons (pe_lst (pa_cons pe_int (pa_cons (pe_un un_neg pe_int) (pa_cons pe_int pa_nil)))) pa_nil))) pa_nil)))) pa_nil)))
    (C8.pss_cut (ps_if (pt_cmpR op_eq (pe_d D_law_draw hr (by rfl) (pa_cons (pv 0) (pa_cons pe_int pa_nil))) pe_int (nomark _))
      (pss_one (ps_expr (pe_bm PySem.F.plainAttrs_list PySem.F.slot_list_append PySem.F.type_list_append mt_append (pv 3) (pa_cons (pe_d D_law_sum hr (by rfl) (pa_cons (pe_d D_law_product hr (by rfl) (pa_cons (pv 1) (pa_cons (pv 1) pa_nil))) (pa_cons (pv 2) (pa_cons (pe_op op_sub (pe_d D_law_draw hr (by rfl) (pa_cons (pv 0) (pa_cons pe_int pa_nil))) pe_int) pa_nil)))) pa_nil))))
      (pss_nil))
    (C8.pss_cut (ps_if (pt_cmpR op_eq (pe_d D_law_draw hr (by rfl) (pa_cons (pv 0) (pa_cons pe_int pa_nil))) pe_int (nomark _))
      (pss_one (ps_set (i := 3) sc_law_makers.nd rfl (.inl rfl) (pe_revL (pv 3))))
      (pss_nil))
    (pss_one (ps_ret (pv 3)))))))), ?_⟩
  have kn : ∀ G, PotOk G p → Kn [p] G := fun G pG s hs z => by
    obtain ⟨u, v, g, _⟩ := pG
    rw [List.mem_singleton.mp hs, g] at z; cases z
  have fA : PolyAt C p fq (.ref a) H := ⟨a, us, rfl, nap, ha, hf⟩
  have fB : PolyAt C p gq (.ref b) H := ⟨b, ws, rfl, nbp, hb, hg⟩
  have bs : ∀ {d B : Nat} {f : List Rat}, Mono d B f → B ≤ 200 → d ≤ 90 → AllS 1 200 f ∧ f.length ≤ 100 := fun m lB ld => ⟨(m.mono lB).sz, by rw [m.len]; omega⟩
  have hone : ∀ z : Int, z.natAbs ≤ 3 → AllS 1 200 [(z : Rat)] ∧ [(z : Rat)].length ≤ 100 := fun z hz => ⟨fun x hx => by rw [List.mem_singleton.mp hx]; exact Sc.int (by omega), by simp⟩
  refine gpa_sum (R := fun z => z ≠ 0 ∧ z.natAbs ≤ 3) (φ1 := fun f => ∃ z : Int, z.natAbs ≤ 3 ∧ f = [(z : Rat)]) (φ2 := fun g => fq = g) (fun Q q => gpa_one (ck_sub (m := 5) (c := 2) rfl hp (by omega) (by omega)) Q fun v H' k p' ⟨z, r, h⟩ => q v H' k p' ⟨_, ⟨z, by omega, rfl⟩, h⟩)
    (fun H1 k1 p1 Q q => gpa_var rfl p1 (fA.keep k1) Q fun v H' k p' h => q v H' k p' ⟨_, rfl, h⟩) (fun H1 k1 p1 => ck_pick (n := 3) rfl p1 (kn _ p1) (by omega) (by omega) ?_) (fun f ⟨z, hz, e⟩ => by rw [e]; exact hone z hz) (fun g e => by rw [← e]; exact bs m1 (by omega) (by omega)) (fun z h => h.2) _ ?_
  · refine gva_cons (fun v A B _ h => h) (fun Q q => q _ _ (Same.refl _) ⟨1, rfl, by decide, by decide⟩) fun H2 s2 => ?_
    refine gva_cons (fun v A B _ h => h) (fun Q q => q _ _ (Same.refl _) ⟨2, rfl, by decide, by decide⟩) fun H3 s3 => ?_
    refine gva_cons (fun v A B _ h => h) (fun Q q => ⟨1, rfl, q _ _ (Same.refl _) ⟨-1, rfl, by decide, by decide⟩⟩) fun H4 s4 => ?_
    exact gva_nil
  rintro v1 H1 k1 hp1 ⟨f1, g1, z1, ⟨y1, hy1, rfl⟩, rfl, ⟨z10, z1b⟩, _, fV⟩
  refine ⟨by show 1 ≤ sizeLine; decide, fun F nF => ?_⟩
  have sF := same_new (o := .lst [v1]) nF
  have nFp : F ≠ p := pot_ne hp1 nF
  have nFH : H F = none := by
    cases z : H F with
    | none => rfl
    | some o => rw [k1 _ _ nFp z] at nF; cases nF
  have mk1 : MkP (trimQ (plusQ z1 [(y1 : Rat)] fq)) := ⟨lo, by omega, by omega, (m1.far (hone y1 hy1).1 z1b z10 (by simp; omega)).mono (by omega)⟩
  have fV2 : PolyAt C p (trimQ (plusQ z1 [(y1 : Rat)] fq)) v1 (upd H1 F (.lst [v1])) := fV.keep (Keep.of sF)
  have v1F : v1 ≠ .ref F := fun z => by
    obtain ⟨a1, us1, e, _, h3, _⟩ := fV
    rw [z] at e
    injection e with e
    rw [← e] at h3
    rw [h3] at nF; cases nF
  have hF1 : (upd H1 F (.lst [v1])) F = some (.lst [v1]) := upd_same
  have e1 := (Ea.one (fV2.list hF1 v1F) : Ea (ListQ C) _ [v1] [_])
  have hp1 := hp1.same sF
  have k1 := k1.trans (Keep.of sF)
  clear fV fV2 sF nF
  generalize upd H1 F (.lst [v1]) = G1 at *
  dsimp only [gName]
  show tSeq (tAsg _ _) _ _ [some (.ref p), some (.ref a), some (.ref b), some (.ref F), none] G1
  refine gpa_sum (R := fun z => -1 ≤ z ∧ z < 3 - 1) (φ1 := fun f => gq = f) (φ2 := fun g => fq = g) (fun Q q => gpa_var rfl hp1 (fB.keep k1) Q fun v H' k p' h => q v H' k p' ⟨_, rfl, h⟩)
    (fun H2 k2 p2 Q q => gpa_var rfl p2 (fA.keep (k1.trans k2)) Q fun v H' k p' h => q v H' k p' ⟨_, rfl, h⟩) (fun H2 k2 p2 => ck_sub (m := 3) (c := 1) rfl p2 (by omega) (by omega)) (fun f e => by rw [← e]; exact bs m2 (by omega) (by omega)) (fun g e => by rw [← e]; exact bs m1 (by omega) (by omega)) (fun z h => by omega) _ ?_
  rintro v2 G2 k2 hp2 ⟨f2, g2, z2, rfl, rfl, z2b, _, fV⟩
  have mo : Mono hi 8 (trimQ (plusQ z2 gq fq)) := m2.near m1.sz (by omega) fun n hn => by rw [co_out (by rw [m1.len]; omega), Rat.mul_zero]
  generalize trimQ (plusQ z2 gq fq) = o2 at fV mo
  have k2 := k1.trans k2
  have hF2 := (show Keep p G1 G2 by assumption) _ _ nFp hF1
  have e2 := e1.same ListQ.mo (wos_keep (S := [F, p]) (by simp) (show Keep p G1 G2 by assumption))
  dsimp only [gName]
  show C8.tCut _ _ _ [some (.ref p), some (.ref a), some (.ref b), some (.ref F), some v2] G2
  refine ⟨fun σ' G => ∃ (v : V) (o : List Rat), σ' = [some (.ref p), some (.ref a), some (.ref b), some (.ref F), some v] ∧ Keep p G2 G ∧ PotOk G p ∧ PolyAt C p o v G ∧ Mono hi 100 o, ?_, ?_⟩
  · have lu : us.length = lo + 1 := by rw [QL.len hf, m1.len]
    have lw : ws.length = hi + 1 := by rw [QL.len hg, m2.len]
    refine ⟨_, rfl, a, us, rfl, .inl (SqL.of (k2 _ _ nap ha)), _, _, rfl, rfl, 2, _, rfl, rfl, mulx_ok (a := 2) (b := 20) (by decide) (by rw [lu]; exact Nat.lt_of_le_of_lt (show (((lo + 1 : Nat) : Int) - 1).natAbs ≤ 3 by omega) (by decide)) (by decide), _, rfl, b, ws, rfl, .inl (SqL.of (k2 _ _ nbp hb)), _, _, rfl, rfl, _, _, rfl, rfl, _, rfl, ite2 (fun z => ?_) (fun z => ⟨v2, o2, rfl, Keep.refl _ _, hp2, fV, mo.mono (by decide)⟩)⟩
    have z3 : 2 * lo < hi := by have := of_decide_eq_true z; rw [lu, lw] at this; omega
    refine gpa_sum (R := fun z => -1 ≤ z ∧ z < 3 - 1) (φ1 := fun f => o2 = f) (φ2 := fun g => trimQ (timesQ fq fq) = g) (fun Q q => gpa_var rfl hp2 fV Q fun v H' k p' h => q v H' k p' ⟨_, rfl, h⟩)
      (fun H3 k3 p3 Q q => gpa_square (φ := fun _ => True) rfl p3 (fA.keep (k2.trans k3)) (fun x hx => (m1.sz x hx).mono (by decide)) (by rw [m1.len]; omega) Q fun v H' k p' h => q v H' k p' ⟨_, rfl, h⟩) (fun H3 k3 p3 => ck_sub (m := 3) (c := 1) rfl p3 (by omega) (by omega)) (fun f e => by rw [← e]; exact bs mo (by omega) (by omega)) (fun g e => by rw [← e]; exact bs m1.square (by have : (lo + 1) * (2 * 2) ≤ (3 + 1) * (2 * 2) := Nat.mul_le_mul_right _ (by omega); omega) (by omega)) (fun z h => by omega) _ ?_
    rintro v3 G3 k3 hp3 ⟨f2, g2, z2, rfl, rfl, z2b, _, fV3⟩
    have lq : (lo + 1) * (2 * 2) ≤ 16 := Nat.mul_le_mul_right (2 * 2) (show lo + 1 ≤ 4 by omega)
    exact ⟨v3, _, rfl, k3, hp3, fV3, (mo.near (m1.square.mono lq).sz (by omega) fun n hn => by rw [co_out (by rw [m1.square.len]; omega), Rat.mul_zero]).mono (by decide)⟩
  clear fV mo
  rintro σ' G ⟨v, o, rfl, k3, hp3, fV, mo⟩
  have hF3 := k3 _ _ nFp hF2
  have e3 := e2.same ListQ.mo (wos_keep (S := [F, p]) (by simp) k3)
  have k3 := k2.trans k3
  refine ⟨_, rfl, Or.inl ⟨rfl, _, SqL.of hF3⟩, ?_⟩
  refine gpa_sum (R := fun z => z ≠ 0 ∧ z.natAbs ≤ 3) (φ1 := fun f => ∃ z : Int, z.natAbs ≤ 3 ∧ f = [(z : Rat)]) (φ2 := fun g => o = g) (fun Q q => gpa_one (ck_draw (m := 3) rfl hp3 (by omega) (by omega)) Q fun v H' k p' ⟨z, r, h⟩ => q v H' k p' ⟨_, ⟨z, by omega, rfl⟩, h⟩)
    (fun H1 k1 p1 Q q => gpa_var rfl p1 (fV.keep k1) Q fun v H' k p' h => q v H' k p' ⟨_, rfl, h⟩) (fun H1 k1 p1 => ck_pick (n := 3) rfl p1 (kn _ p1) (by omega) (by omega) ?_) (fun f ⟨z, hz, e⟩ => by rw [e]; exact hone z hz) (fun g e => by rw [← e]; exact bs mo (by omega) (by omega)) (fun z h => h.2) _ ?_
  · refine gva_cons (fun v A B _ h => h) (fun Q q => q _ _ (Same.refl _) ⟨1, rfl, by decide, by decide⟩) fun H2 s2 => ?_
    refine gva_cons (fun v A B _ h => h) (fun Q q => ⟨2, rfl, q _ _ (Same.refl _) ⟨-2, rfl, by decide, by decide⟩⟩) fun H3 s3 => ?_
    refine gva_cons (fun v A B _ h => h) (fun Q q => q _ _ (Same.refl _) ⟨3, rfl, by decide, by decide⟩) fun H4 s4 => ?_
    exact gva_nil
  rintro v4 G4 k4 hp4 ⟨f4, g4, z4, ⟨y4, hy4, rfl⟩, rfl, ⟨z40, z4b⟩, ⟨a4, rfl, n4⟩, f4⟩
  have mk2 : MkP (trimQ (plusQ z4 [(y4 : Rat)] o)) := ⟨hi, by omega, by omega, (mo.far (hone y4 hy4).1 z4b z40 (by simp; omega)).mono (by decide)⟩
  have hF4 := k4 _ _ nFp hF3
  have e4 := e3.same ListQ.mo (wos_keep (S := [F, p]) (by simp) k4)
  have k4 := k3.trans k4
  have st4 : Fnd C p F H G4 [v1] [_] := ⟨hp4, k4, hF4, e4⟩
  have a4F : a4 ≠ F := fun z => by rw [z, hF3] at n4; cases n4
  have st5 := st4.app nFp nFH f4 a4F
  refine ⟨F, [v1], .ref a4, rfl, rfl, hF4, by rw [sizeLine_eq]; simp, ?_⟩
  clear st4 e4 hF4 k4 hp4 e3 hF3 e2 hF2 e1 hF1 f4 mo fV k3 hp3
  generalize upd G4 F (.lst ([v1] ++ [V.ref a4])) = G5 at *
  dsimp only
  show C8.tCut _ _ _ [some (.ref p), some (.ref a), some (.ref b), some (.ref F), some v] G5
  refine ⟨fun σ' G => ∃ us ps, σ' = [some (.ref p), some (.ref a), some (.ref b), some (.ref F), some v] ∧ Fnd C p F H G us ps ∧ 2 ≤ ps.length ∧ ps.length ≤ 3 ∧ ∀ q ∈ ps, MkP q, ?_, ?_⟩
  · refine ⟨_, rfl, p, 3, rfl, st5.pot, by omega, by omega, fun d G6 d0 d1 hp6 k6 => ⟨rfl, _, rfl, ite2 (fun z => ?_) (fun z => ?_)⟩⟩
    · have st6 := st5.keep nFp k6 hp6
      refine ⟨_, rfl, Or.inl ⟨rfl, _, SqL.of st6.hF⟩, ?_⟩
      refine gpa_sum (R := fun z => -1 ≤ z ∧ z < 3 - 1) (φ1 := fun f => trimQ (timesQ fq fq) = f) (φ2 := fun g => gq = g) (fun Q q => gpa_square (φ := fun _ => True) rfl hp6 (fA.keep st6.kp) (fun x hx => (m1.sz x hx).mono (by decide)) (by rw [m1.len]; omega) Q fun v H' k p' h => q v H' k p' ⟨_, rfl, h⟩)
        (fun H3 k3 p3 Q q => gpa_var rfl p3 (fB.keep (st6.kp.trans k3)) Q fun v H' k p' h => q v H' k p' ⟨_, rfl, h⟩) (fun H3 k3 p3 => ck_sub (m := 3) (c := 1) rfl p3 (by omega) (by omega)) (fun f e => by rw [← e]; exact bs m1.square (by have : (lo + 1) * (2 * 2) ≤ (3 + 1) * (2 * 2) := Nat.mul_le_mul_right _ (by omega); omega) (by omega)) (fun g e => by rw [← e]; exact bs m2 (by omega) (by omega)) (fun z h => by omega) _ ?_
      rintro v7 G7 k7 hp7 ⟨f2, g2, z7, rfl, rfl, z7b, ⟨a7, rfl, n7⟩, f7⟩
      have st7 := st6.keep nFp k7 hp7
      have a7F : a7 ≠ F := fun z => by rw [z, st6.hF] at n7; cases n7
      have st8 := st7.app nFp nFH f7 a7F
      refine ⟨F, _, .ref a7, rfl, rfl, st7.hF, by rw [sizeLine_eq]; simp, _, _, rfl, st8, by simp, by simp, fun w hw => ?_⟩
      rcases List.mem_append.mp hw with hw | hw
      · rcases List.mem_append.mp hw with hw | hw
        · rw [List.mem_singleton.mp hw]; exact mk1
        · rw [List.mem_singleton.mp hw]; exact mk2
      rw [List.mem_singleton.mp hw]
      have lq : (lo + 1) * (2 * 2) ≤ 16 := Nat.mul_le_mul_right (2 * 2) (show lo + 1 ≤ 4 by omega)
      have ms := m1.square.mono lq
      rcases Nat.lt_or_ge hi (2 * lo) with c | c
      · exact ⟨2 * lo, by omega, by omega, (ms.near m2.sz (by omega) fun n hn => by rw [co_out (by rw [m2.len]; omega), Rat.mul_zero]).mono (by decide)⟩
      · by_cases z0 : z7 = 0
        · subst z0
          exact ⟨2 * lo, by omega, by omega, (ms.near (c := 0) m2.sz (by decide) fun n hn => by rw [Rat.intCast_zero, Rat.zero_mul]).mono (by decide)⟩
        · exact ⟨hi, by omega, by omega, (m2.far (c := z7) ms.sz (by omega) z0 (by rw [ms.len]; omega)).mono (by decide)⟩
    · refine ⟨_, _, rfl, st5.keep nFp k6 hp6, by simp, by simp, fun w hw => ?_⟩
      rcases List.mem_append.mp hw with hw | hw
      · rw [List.mem_singleton.mp hw]; exact mk1
      · rw [List.mem_singleton.mp hw]; exact mk2
  rintro σ' G8 ⟨us8, ps8, rfl, st8, l82, l83, mk8⟩
  have lu8 := st8.ea.1
  refine ⟨fun σ' G => ∃ l gs ps o, σ' = [some (.ref p), some (.ref a), some (.ref b), some (.ref l), o] ∧ PotOk G p ∧ Keep p H G ∧ H l = none ∧ G l = some (.lst gs) ∧ Ea (ListQ C) (wos [l, p] G) gs ps ∧ 2 ≤ ps.length ∧ ∀ q ∈ ps, MkP q, ?_, ?_⟩
  · refine ⟨_, rfl, p, 2, rfl, st8.pot, by omega, by omega, fun d G9 d0 d1 hp9 k9 => ⟨rfl, _, rfl, ite2 (fun z => ?_) (fun z => ?_)⟩⟩
    · have st9 := st8.keep nFp k9 hp9
      refine ⟨_, rfl, F, us8, rfl, SqL.of st9.hF, fun c nc => ?_⟩
      have sc := same_new (o := .lst us8.reverse) nc
      have ncp : c ≠ p := pot_ne hp9 nc
      refine ⟨c, us8.reverse, ps8.reverse, _, rfl, hp9.same sc, st9.kp.trans (Keep.of sc), ?_, upd_same, ?_, by rw [List.length_reverse]; exact l82, fun q hq => mk8 q (List.mem_reverse.mp hq)⟩
      · cases z : H c with
        | none => rfl
        | some o => rw [st9.kp _ _ ncp z] at nc; cases nc
      · refine (Ea.rev st9.ea).same ListQ.mo fun b o e => ?_
        obtain ⟨g1, g2⟩ := wos_some.mp e
        exact wos_some.mpr ⟨by simp only [List.mem_cons, List.not_mem_nil, or_false, not_or] at g1 ⊢; exact ⟨ne_of_none g2 nc, g1.2⟩, sc _ _ g2⟩
    · have st9 := st8.keep nFp k9 hp9
      exact ⟨F, us8, ps8, _, rfl, hp9, st9.kp, nFH, st9.hF, st9.ea, l82, mk8⟩
  · rintro σ' G9 ⟨l, gs, ps, o, rfl, hp9, k9, nl, hl, hE, l9, mk9⟩
    exact ⟨_, rfl, q l G9 gs ps hp9 k9 nl hl hE l9 mk9⟩
end
end K21

namespace K21
open PySem PySem.Spec PyProof.Rows L2 Fp
section
variable {P : Program} {w : World} {K : PySem.W.Frag} {mg : Str → Option Value} {base : Heap} {k : Nat} {C fI fR : Addr}
def sp_law_is_line (C : Addr) : Sp := fun vs H Q _ => ∃ (v : V) (m : Nat), vs = [v, .int (m : Nat)] ∧ AnyL C H v ∧ Ret H Q (.bl (isLineV H m v))
theorem lv_false {H : Hp} {m : Nat} {a : Addr} {us : List V} (ha : H a = some (.lst us) ∨ H a = some (.tup us)) {x : V} (hx : x ∈ us) (h : isPartV H m x = false) : isLineV H m (.ref a) = false := by
  unfold isLineV
  rw [items_lt ha]
  show (decide (us.length ≤ 60) && us.all (isPartV H m)) = false
  have : us.all (isPartV H m) = false := List.all_eq_false.mpr ⟨x, hx, by rw [h]; decide⟩
  rw [this, Bool.and_false]
theorem ty_seq {H : Hp} {a : Addr} {us : List V} (ha : H a = some (.lst us) ∨ H a = some (.tup us)) : ∃ t, TyX K H (.ref a) t ∧ PySem.W.kitAny K t [.type "list", .type "tuple"] = some true := by
  rcases ha with ha | ha
  · exact ⟨_, .base (.lst ha), kit_lt.1⟩
  · exact ⟨_, .base (.tup ha), kit_lt.2⟩
theorem kitAny2 {t c1 c2 : Value} {b1 b2 : Bool} (h1 : PySem.W.kitOne K t c1 = some b1) (h2 : PySem.W.kitOne K t c2 = some b2) : PySem.W.kitAny K t [c1, c2] = some (b1 || b2) := by
  unfold PySem.W.kitAny
  rw [h1]
  cases b1 with
  | true => rfl
  | false =>
    show PySem.W.kitAny K t [c2] = _
    unfold PySem.W.kitAny
    rw [h2]
    cases b2 <;> rfl
theorem sk_kitIC {H : Hp} {d : Nat} {x : V} (h : Sk C H d x) (R : RCls K mg C fI fR) (I : RIsi K C) : ∃ ty, TyX K H x ty ∧ PySem.W.kitAny K ty [.type "int", .ref C] = some ((isI x || isB x) || isOwn H x) := by
  obtain ⟨t, h, _⟩ := h
  cases h with
  | int h => exact ⟨_, .base (.int _), kitAny2 (kit_ty (r := true) (by decide +kernel)) I.i⟩
  | bl b => exact ⟨_, .base (.bl _), kitAny2 (kit_ty (r := true) (by decide +kernel)) I.b⟩
  | non => exact ⟨_, .base .non, kitAny2 (kit_ty (r := false) (by decide +kernel)) I.n⟩
  | str x h => exact ⟨_, .base (.str _), kitAny2 (kit_ty (r := false) (by decide +kernel)) I.s⟩
  | @own d a p q r h1 h2 =>
    obtain ⟨dx, r⟩ := r
    have e : isOwn H (.ref a) = true := by unfold isOwn; simp only [r]
    rw [e]
    exact ⟨_, .base (.ins r R.cl R.isA R.isN R.isT R.isM), kitAny2 R.kI I.c⟩
  | @lst d a xs ts h1 h0 h2 h3 =>
    have e : isOwn H (.ref a) = false := by unfold isOwn; simp only [h1]
    rw [e]
    exact ⟨_, .base (.lst h1), kitAny2 (kit_ty (r := false) (by decide +kernel)) I.l⟩
  | @tup d a xs ts h1 h0 h2 h3 =>
    have e : isOwn H (.ref a) = false := by unfold isOwn; simp only [h1]
    rw [e]
    exact ⟨_, .base (.tup h1), kitAny2 (kit_ty (r := false) (by decide +kernel)) I.t⟩
  | @dct d a ds h1 h0 h2 =>
    have e : isOwn H (.ref a) = false := by unfold isOwn; simp only [h1]
    rw [e]
    exact ⟨_, .base (.dK h1), kitAny2 (kit_ty (r := false) (by decide +kernel)) I.d⟩
  | @dcl d a b k ns h1 h2 =>
    have e : isOwn H (.ref a) = false := by unfold isOwn; simp only [h1]
    rw [e]
    exact ⟨_, .base (.dK h1), kitAny2 (kit_ty (r := false) (by decide +kernel)) I.d⟩
-- slots: _law_line 0, _law_known 1, _law_one 2, _law_spot 3; cells: 
abbrev s_law_is_line : Stmt := top 60
abbrev N_law_is_line : List Str := ["_law_line", "_law_known", "_law_one", "_law_spot"]
theorem sc_law_is_line : FnScope N_law_is_line ["_law_line", "_law_known"] (defScope s_law_is_line) := ⟨rfl, rfl, rfl, by decide +kernel, rfl, by decide +kernel, by decide +kernel⟩
theorem d_law_is_line (B : Bnd K mg "_law_is_line" s_law_is_line) (M : Mg2 mg) (R : RCls K mg C fI fR) (J : RIsi K C)   : Def P w K mg base (k + 1) "_law_is_line" s_law_is_line ["_law_line", "_law_known"] (sp_law_is_line C) := by
  refine def_of B sc_law_is_line (by rintro _ _ _ _ ⟨v, m, rfl, _⟩; rfl) (fun _ _ _ _ _ _ us hl => match us, hl with | [_, _], _ => rfl) fun f cdv A outer s H vs Q E hr h => ?_
  obtain ⟨v, m, rfl, hp, q⟩ := h
  have hu := hr.units
  refine ⟨_, C8.pss_cut (ps_if (PW.pt (pw_or (pt_not (pt_val (pe_callB call_isiT (by rfl) M.isi (by decide +kernel) (pa_cons (pv 0) (pa_cons (pe_tup (pa_cons (pe_bltn (v := .ty "list") (by rfl) M.list (by decide +kernel) rfl) (pa_cons (pe_bltn (v := .ty "tuple") (by rfl) M.tuple (by decide +kernel) rfl) pa_nil))) pa_nil))))) (pw_or1 (pt_cmpR op_gt (pe_callB call_len_seq (by rfl) M.len boot_len (pa_cons (pv 0) pa_nil)) pe_int (nomark _)))))
      (pss_one (ps_ret pe_bl))
      (pss_nil))
    (pss_cons (ps_for PassesOwn.never rfl (pi_sq (pv 0)) (pg_name (i := 2) sc_law_is_line.nd rfl (.inl rfl))
      (C8.pss_cut (ps_if (PW.pt (pw_or (pt_not (pt_val (pe_callB call_isi (by rfl) M.isi (by decide +kernel) (pa_cons (pv 2) (pa_cons (pe_bltn (v := .ty "tuple") (by rfl) M.tuple (by decide +kernel) rfl) pa_nil))))) (pw_or (pt_cmpR op_ne (pe_callB call_len_seq (by rfl) M.len boot_len (pa_cons (pv 2) pa_nil)) pe_int (nomark _)) (pw_or (pt_not (pt_val (pe_callB call_isiT (by rfl) M.isi (by decide +kernel) (pa_cons (pe_ix (r := rIxT K) ix_tup (pv 2) pe_int (fun _ _ => rfl)) (pa_cons (pe_tup (pa_cons (pe_bltn (v := .ty "int") (by rfl) M.int (by decide +kernel) rfl) (pa_cons (pe_glob (v := .ref C) (by rfl) R.mgC rfl) pa_nil))) pa_nil))))) (pw_or1 (pt_val (pe_callB call_isi (by rfl) M.isi (by decide +kernel) (pa_cons (pe_ix (r := rIxT K) ix_tup (pv 2) pe_int (fun _ _ => rfl)) (pa_cons (pe_bltn (v := .ty "bool") (by rfl) M.bool (by decide +kernel) rfl) pa_nil)))))))))
        (pss_one (ps_ret pe_bl))
        (pss_nil))
      (pss_one (ps_for PassesOwn.never rfl (pi_tup (pe_slice (r := rSlT K) sl_tup (pv 2) po_none (po_some pe_int))) (pg_name (i := 3) sc_law_is_line.nd rfl (.inl rfl))
        (pss_one (ps_if (PW.pt (pw_or (pt_not (pt_val (pe_callB call_isi (by rfl) M.isi (by decide +kernel) (pa_cons (pv 3) (pa_cons (pe_bltn (v := .ty "int") (by rfl) M.int (by decide +kernel) rfl) pa_nil))))) (pw_or (pt_val (pe_callB call_isi (by rfl) M.isi (by decide +kernel) (pa_cons (pv 3) (pa_cons (pe_bltn (v := .ty "bool") (by rfl) M.bool (by decide +kernel) rfl) pa_nil)))) (pw_or1 (pt_not (pt_chain op_le op_lt pe_int (pv 3) (pv 1)))))))
          (pss_one (ps_ret pe_bl))
          (pss_nil)))))))
    (pss_one (ps_ret pe_bl))), ?_⟩
  rcases hp with ⟨hi, d, hk⟩ | ⟨a, us, rfl, ha, hl, hu⟩
  · have ev : isLineV H m v = false := by unfold isLineV; rw [hi]
    rw [ev] at q
    refine ⟨fun _ _ => False, ?_, fun _ _ h => h.elim⟩
    refine ⟨_, rfl, (by show 2 ≤ sizeLine; decide), fun p np => ?_⟩
    have sp := same_new (o := .tup [V.ty "list", V.ty "tuple"]) np
    obtain ⟨ty, t1, _, _, t4⟩ := (hk.same sp).kit R
    rw [itemsOf_same hk sp, hi] at t4
    exact ⟨v, p, _, ty, _, _, rfl, upd_same, .cons (.ty _) (.cons (.ty _) .nil), t1, t4, false, rfl, iteT2 rfl (q _ sp)⟩
  refine ⟨fun σ' G => σ' = [some (.ref a), some (.int (m : Nat)), none, none] ∧ Same H G ∧ us.length ≤ 60, ?_, ?_⟩
  · refine ⟨_, rfl, (by show 2 ≤ sizeLine; decide), fun p np => ?_⟩
    have sp := same_new (o := .tup [V.ty "list", V.ty "tuple"]) np
    obtain ⟨ty, t1, t4⟩ := ty_seq (K := K) (ha.imp (sp _ _) (sp _ _))
    refine ⟨.ref a, p, _, ty, _, _, rfl, upd_same, .cons (.ty _) (.cons (.ty _) .nil), t1, t4, true, rfl, iteF2 rfl ⟨_, rfl, a, us, rfl, seq_sq (ha.imp (sp _ _) (sp _ _)), _, _, rfl, rfl, _, rfl, ite2 (fun z => ?_) (fun z => ?_)⟩⟩
    · have z2 := of_decide_eq_true z
      have ev : isLineV H m (.ref a) = false := by
        unfold isLineV
        rw [items_lt ha]
        show (decide (us.length ≤ 60) && us.all (isPartV H m)) = false
        rw [decide_eq_false (by omega), Bool.false_and]
      rw [ev] at q
      exact q _ sp
    · have z2 : us.length ≤ 60 := by
        by_cases y : us.length ≤ 60
        · exact y
        · exact absurd (decide_eq_true (by omega)) z
      exact ⟨rfl, sp, z2⟩
  rintro _ G0 ⟨rfl, s0, l60⟩
  refine for_sq (H0 := H) (a := a) (xs := us) (fun i σ G => ∃ o o3 : Option V, σ = [some (.ref a), some (.int (m : Nat)), o, o3] ∧ Same H G ∧ ∀ u ∈ us.take i, isPartV H m u = true) (fun R r => ⟨_, rfl, r⟩) (seq_sq ha) s0 ⟨none, none, rfl, s0, fun u hu => absurd hu (by simp)⟩ (fun i σ' G ⟨_, _, _, sm, _⟩ => sm) (fun i x σ G hx ⟨o, o3, e, sm, hp⟩ => ?_) (fun σ G ⟨o, o3, e, sm, hp⟩ => ?_)
  · subst e
    have mx := List.mem_of_getElem? hx
    have kx := hu x mx
    have bad : isPartV H m x = false → ∀ H', Same H H' → Q (.bl false) H' := fun h => by
      have := lv_false ha mx h
      rw [this] at q
      exact q
    obtain ⟨ty, t1, t2⟩ := sk_kitT (kx.same sm) R
    rw [tupOf_same kx sm] at t2
    refine ⟨fun σ' G' => σ' = [some (.ref a), some (.int (m : Nat)), some x, o3] ∧ Same H G' ∧ ∃ t y1 y2 y3, x = .ref t ∧ H t = some (.tup [y1, y2, y3]) ∧ isPartV H m x = ((isPosV m y1 && isPosV m y2) && isNum H y3) ∧ isNum H y3 = true ∧ Sk C H 2 y1 ∧ Sk C H 2 y2, ?_, ?_⟩
    · cases e : tupOf H x with
      | none =>
        rw [e] at t2
        have ev : isPartV H m x = false := by unfold isPartV; rw [e]
        exact ⟨_, rfl, x, _, ty, _, false, rfl, .ty _, t1, t2, false, rfl, iteT2 rfl (bad ev G sm)⟩
      | some xs =>
        rw [e] at t2
        obtain ⟨t, rfl, ht, hy⟩ := tupOf_sk kx e
        have ev : isPartV H m (.ref t) = isPart3 H m xs := by unfold isPartV; rw [e]
        refine ⟨_, rfl, .ref t, _, ty, _, true, rfl, .ty _, t1, t2, true, rfl, iteF2 rfl ⟨_, rfl, t, xs, rfl, .inr (SqT.of (sm _ _ ht)), rfl, _, rfl, ite2 (fun z => ?_) (fun z => ?_)⟩⟩
        · have e0 : isPart3 H m xs = false := by
            match xs, z with
            | [], _ => rfl
            | [_], _ => rfl
            | [_, _], _ => rfl
            | [a, b, c], z => exact absurd rfl (nlen.mp z)
            | _ :: _ :: _ :: _ :: _, _ => rfl
          exact bad (by rw [ev, e0]) G sm
        · obtain ⟨y1, y2, y3, rfl⟩ : ∃ a b c, xs = [a, b, c] := by
            match xs, z with
            | [], z => exact absurd (nlen.mpr (by simp)) z
            | [_], z => exact absurd (nlen.mpr (by simp)) z
            | [_, _], z => exact absurd (nlen.mpr (by simp)) z
            | [a, b, c], z => exact ⟨a, b, c, rfl⟩
            | _ :: _ :: _ :: _ :: ys, z => exact absurd (nlen.mpr (by simp)) z
          refine ⟨_, rfl, t, _, 2, y3, rfl, rfl, SqT.of (sm _ _ ht), rfl, (by show 2 ≤ sizeLine; decide), fun T nT => ?_⟩
          have sT := same_new (o := .tup [V.ty "int", V.ref C]) nT
          have k3 := (hy y3 (by simp)).same (sm.trans sT)
          obtain ⟨ty3, t5, t6⟩ := sk_kitIC k3 R J
          obtain ⟨ty4, t7, _, t8, _⟩ := k3.kit R
          have eo : isOwn (upd G T (.tup [V.ty "int", V.ref C])) y3 = isOwn H y3 := isOwn_same (hy y3 (by simp)) (sm.trans sT)
          rw [eo] at t6
          refine ⟨y3, T, _, ty3, _, _, rfl, upd_same, .cons (.ty _) (.cons (.own C) .nil), t5, t6, _, rfl, ?_⟩
          have hn : isNum H y3 = (((isI y3 || isB y3) || isOwn H y3) && !isB y3) := by
            unfold isNum
            cases e1 : isOwn H y3 with
            | true =>
              have : isB y3 = false := by cases y3 <;> simp_all [isB, isOwn]
              rw [this]; simp
            | false => cases y3 <;> simp_all [isI, isB]
          cases e1 : ((isI y3 || isB y3) || isOwn H y3) with
          | false =>
            rw [e1, Bool.false_and] at hn
            exact iteT2 rfl (bad (by rw [ev]; show (_ && isNum H y3) = false; rw [hn, Bool.and_false]) _ (sm.trans sT))
          | true =>
            rw [e1, Bool.true_and] at hn
            refine iteF2 rfl ⟨_, rfl, t, _, 2, y3, rfl, rfl, SqT.of (sT _ _ (sm _ _ ht)), rfl, y3, _, ty4, _, isB y3, rfl, .ty _, t7, t8, isB y3, rfl, ?_⟩
            cases e2 : isB y3 with
            | true => exact iteT2 rfl (bad (by rw [ev]; show (_ && isNum H y3) = false; rw [hn, e2]; exact Bool.and_false _) _ (sm.trans sT))
            | false => exact iteF2 rfl ⟨rfl, sm.trans sT, t, y1, y2, y3, rfl, ht, ev, by rw [hn, e2]; rfl, hy y1 (by simp), hy y2 (by simp)⟩
    rintro _ G1 ⟨rfl, s1, t, y1, y2, y3, rfl, ht, ev, e3, k1, k2⟩
    rw [e3, Bool.and_true] at ev
    refine ⟨_, rfl, 2, rfl, t, _, rfl, SqT.of (s1 _ _ ht), ncut _ _ _, fun T nT => ?_⟩
    rw [cut2]
    have sT := same_new (o := .tup [y1, y2]) nT
    have s2 := s1.trans sT
    have hT : (upd G1 T (.tup [y1, y2])) T = some (.tup [y1, y2]) := upd_same
    generalize upd G1 T (.tup [y1, y2]) = G2 at *
    refine ⟨T, rfl, ⟨_, SqT.of hT⟩, for_tup (xs := [y1, y2]) (fun i σ G => ∃ o3 : Option V, σ = [some (.ref a), some (.int (m : Nat)), some (.ref t), o3] ∧ Same H G ∧ Same G2 G ∧ ∀ u ∈ [y1, y2].take i, isPosV m u = true) ⟨_, rfl, s2, Same.refl _, fun u hu => absurd hu (by simp)⟩ (fun i σ' G _ ⟨_, _, _, sg, _⟩ => SqT.of (sg _ _ hT)) (fun i y σ' G hy ⟨o3, e, sH, sg, hq⟩ => ?_) (fun σ' G ⟨o3, e, sH, sg, hq⟩ => ?_)⟩
    · subst e
      have my : y = y1 ∨ y = y2 := by have := List.mem_of_getElem? hy; simpa using this
      have ky : Sk C G 2 y := by
        rcases my with h | h
        · rw [h]; exact k1.same sH
        · rw [h]; exact k2.same sH
      have bad2 : isPosV m y = false → ∀ H', Same H H' → Q (.bl false) H' := fun h => bad (by
        rw [ev]
        rcases my with e | e <;> rw [e] at h <;> rw [h]
        · rfl
        · exact Bool.and_false _)
      have good : isPosV m y = true → ∃ o3 : Option V, [some (V.ref a), some (.int (m : Nat)), some (.ref t), some y] = [some (.ref a), some (.int (m : Nat)), some (.ref t), o3] ∧ Same H G ∧ Same G2 G ∧ ∀ u ∈ [y1, y2].take (i + 1), isPosV m u = true := fun h => ⟨_, rfl, sH, sg, fun u hu => by
        rw [takeS hy] at hu
        rcases List.mem_append.mp hu with g | g
        · exact hq u g
        · rw [List.mem_singleton.mp g]; exact h⟩
      obtain ⟨ty3, t4, t5, t6, _⟩ := ky.kit R
      refine ⟨_, rfl, y, _, ty3, _, isI y || isB y, rfl, .ty _, t4, t5, (isI y || isB y), rfl, ?_⟩
      cases e : (isI y || isB y) with
      | false => exact iteT2 rfl (bad2 (by cases y <;> simp_all [isI, isB, isPosV]) G sH)
      | true =>
        refine iteF2 rfl ⟨_, rfl, y, _, ty3, _, isB y, rfl, .ty _, t4, t6, isB y, rfl, ?_⟩
        cases y with
        | int z =>
          refine iteF2 rfl ⟨_, rfl, _, _, rfl, rfl, _, rfl, ?_⟩
          by_cases y0 : 0 ≤ z
          · refine iteT2 (decide_eq_true y0) ⟨_, rfl, _, _, rfl, rfl, _, rfl, ?_⟩
            have e : isPosV m (.int z) = decide (z < (m : Nat)) := by show (decide _ && decide _) = _; rw [decide_eq_true y0, Bool.true_and]
            by_cases y1 : z < (m : Nat)
            · rw [decide_eq_true y1] at e
              exact iteF2 (by rw [decide_eq_true y1]; rfl) (good e)
            · rw [decide_eq_false y1] at e
              exact iteT2 (by rw [decide_eq_false y1]; rfl) (bad2 e G sH)
          · have e : isPosV m (.int z) = false := by show (decide _ && decide _) = _; rw [decide_eq_false y0, Bool.false_and]
            exact iteF2 (decide_eq_false y0) ⟨_, rfl, iteT2 rfl (bad2 e G sH)⟩
        | bl b => exact iteT2 rfl (bad2 rfl G sH)
        | _ => cases e
    · subst e
      have p1 := hq y1 (by simp)
      have p2 := hq y2 (by simp)
      refine ⟨_, _, rfl, sH, fun u hu => ?_⟩
      rw [takeS hx] at hu
      rcases List.mem_append.mp hu with h | h
      · exact hp u h
      · rw [List.mem_singleton.mp h, ev, p1, p2]; rfl
  · subst e
    rw [List.take_length] at hp
    have ev : isLineV H m (.ref a) = true := by
      unfold isLineV
      rw [items_lt ha]
      show (decide (us.length ≤ 60) && us.all (isPartV H m)) = true
      rw [decide_eq_true l60, Bool.true_and]
      exact List.all_eq_true.mpr hp
    rw [ev] at q
    exact q G sm
end
end K21

namespace Fp
theorem stq_mem {st : List (List Rat)} {j : Nat} (h : j < st.length) : stq st j ∈ st := by
  unfold stq; rw [List.getElem?_eq_getElem h]; exact List.getElem_mem _
theorem sc_six {c : Rat} (h : c.den ∣ 6) (n : c.num.natAbs < 2 ^ 40) : Sc 6 (2 ^ 43) c := by
  obtain ⟨e, he⟩ := h
  have d0 := c.den_pos
  have e0 : e ≠ 0 := fun z => by rw [z, Nat.mul_zero] at he; omega
  have e6 : e ≤ 6 := Nat.le_of_dvd (by decide) ⟨c.den, by rw [Nat.mul_comm]; exact he⟩
  refine ⟨c.num * e, ?_, ?_⟩
  · have e1 : (c.num : Rat) / (c.den : Rat) = c := by
      have := Rat.divInt_eq_div c.num (c.den : Int)
      rw [Rat.num_divInt_den] at this
      exact this.symm
    have dq : ((c.den : Nat) : Rat) ≠ 0 := by exact_mod_cast c.den_nz
    have eq0 : ((e : Nat) : Rat) ≠ 0 := by exact_mod_cast e0
    have e6q : ((6 : Int) : Rat) = ((c.den : Nat) : Rat) * ((e : Nat) : Rat) := by
      have : ((6 : Nat) : Rat) = ((c.den * e : Nat) : Rat) := by rw [← he]
      push_cast at this
      exact this
    conv => lhs; rw [← e1]
    rw [e6q, Rat.intCast_mul]
    have he : ((e : Nat) : Rat) * ((e : Nat) : Rat)⁻¹ = 1 := Rat.mul_inv_cancel _ eq0
    show (c.num : Rat) / _ = (c.num : Rat) * ((e : Nat) : Rat) / _
    simp only [Rat.div_def, Rat.inv_mul_rev]
    grind
  · rw [Int.natAbs_mul, Int.natAbs_natCast]
    have := Nat.mul_le_mul (Nat.le_of_lt n) e6
    omega
theorem lineF_sc {st : List (List Rat)} {D M : Nat} (hs : ∀ p ∈ st, AllS (D : Int) M p ∧ p.length ≤ 97) : ∀ ln : List PtQ, (∀ p ∈ ln, p.1 < st.length ∧ p.2.1 < st.length ∧ p.2.2.den ∣ 6 ∧ p.2.2.num.natAbs < 2 ^ 40) →
    AllS (6 * ((D : Int) * (D : Int))) (ln.length * (2 ^ 43 * (97 * (M * M)))) (lineF st ln) ∧ (lineF st ln).length ≤ 193 :=
  snoc_ind (fun _ => ⟨fun x h => (by cases h), Nat.zero_le _⟩) fun A p ih h => by
    obtain ⟨h1, h2⟩ := ih fun q hq => h q (List.mem_append_left _ hq)
    obtain ⟨a1, a2, a3, a4⟩ := h p (List.mem_append_right _ (List.mem_singleton.mpr rfl))
    obtain ⟨s1, l1⟩ := hs _ (stq_mem a1)
    obtain ⟨s2, l2⟩ := hs _ (stq_mem a2)
    rw [lineF_snoc]
    constructor
    · rw [List.length_append, List.length_singleton, Nat.add_mul, Nat.one_mul]
      refine plusQ_sc h1 fun n => ?_
      refine ((sc_six a3 a4).mul ((timesQ_sc s1 s2).co n)).mono ?_
      exact Nat.mul_le_mul_left _ (Nat.mul_le_mul_right _ l1)
    · rw [plusQ_len, timesQ_len]; omega
end Fp

namespace Fp
/-- what product_making tells -/
def joinP (m : Nat) (one other : List (List PtQ)) : List (List PtQ) := one ++ movedL m one.length other ++ [[(m + one.length, m + one.length + other.length, 1)]]
theorem joinP_len {m : Nat} {one other : List (List PtQ)} : (joinP m one other).length = one.length + other.length + 1 := by
  unfold joinP; rw [List.length_append, List.length_append, movedL_len]; rfl
theorem prod_lines {ms : List (List Rat)} {one other : List (List PtQ)} {p q : List Rat} (h : ∀ (i : Nat) (ln : List PtQ), other[i]? = some ln → ∀ p ∈ ln, p.1 < ms.length + 1 + i ∧ p.2.1 < ms.length + 1 + i)
    (h1 : (linesQ ms one).getLast? = some p) (h2 : (linesQ ms other).getLast? = some q) : linesQ ms (joinP ms.length one other) = linesQ ms one ++ linesQ ms other ++ [trimQ (timesQ p q)] := by
  have o1 : 1 ≤ one.length := by
    rw [← linesQ_len ms one]
    cases e : linesQ ms one with
    | nil => rw [e] at h1; cases h1
    | cons x xs => simp
  have o2 : 1 ≤ other.length := by
    rw [← linesQ_len ms other]
    cases e : linesQ ms other with
    | nil => rw [e] at h2; cases h2
    | cons x xs => simp
  have hs := stock_join (one := one) other h
  have e0 : stockQ ms (joinP ms.length one other) = stockQ ms one ++ linesQ ms other ++ [trimQ (timesQ p q)] := by
    unfold joinP
    rw [stockQ_snoc, hs]
    congr 2
    refine told_ext (lineQ_told _ _) (trimQ_told _) fun n => ?_
    rw [lineQ_co, trimQ_co, timesQ_co]
    have l1 := linesQ_len ms one
    have l2 := linesQ_len ms other
    have a1 : stq (stockQ ms one ++ linesQ ms other) (ms.length + one.length) = p := by
      unfold stq
      rw [List.getElem?_append_left (by rw [stockQ_len]; omega), stock_head one, List.getElem?_append_right (by simp; omega)]
      rw [List.getLast?_eq_getElem?, l1] at h1
      rw [show ms.length + one.length - ([1] :: ms).length = one.length - 1 by simp; omega, h1]; rfl
    have a2 : stq (stockQ ms one ++ linesQ ms other) (ms.length + one.length + other.length) = q := by
      unfold stq
      rw [List.getElem?_append_right (by rw [stockQ_len]; omega), stockQ_len]
      rw [List.getLast?_eq_getElem?, l2] at h2
      rw [show ms.length + one.length + other.length - (ms.length + 1 + one.length) = other.length - 1 by omega, h2]; rfl
    show (0 : Rat) + 1 * prodc (stq _ (ms.length + one.length)) (co (stq _ (ms.length + one.length + other.length))) n = _
    rw [a1, a2, Rat.one_mul, Rat.zero_add]
  have e1 : linesQ ms (joinP ms.length one other) = (stockQ ms one ++ linesQ ms other ++ [trimQ (timesQ p q)]).drop (ms.length + 1) := by
    show (stockQ ms _).drop _ = _
    rw [e0]
  rw [e1, stock_head one, List.append_assoc, List.append_assoc, List.drop_left' (by rfl), List.append_assoc]
end Fp

namespace Fp
/-! ### products: by coefficients alone, linear, associative -/
theorem prodc_left {xs ys : List Rat} (e : ∀ i, co xs i = co ys i) (g : Nat → Rat) (n : Nat) : prodc xs g n = prodc ys g n := by
  rw [prodc_range, prodc_range]; exact sumN_congr fun i _ => by rw [e i]
theorem prodc_lin {xs ys zs : List Rat} {c : Rat} (e : ∀ i, co zs i = co xs i + c * co ys i) (g : Nat → Rat) (n : Nat) : prodc zs g n = prodc xs g n + c * prodc ys g n := by
  rw [prodc_range, prodc_range, prodc_range, ← sumN_mul, ← sumN_add]
  exact sumN_congr fun i _ => by rw [e i]; grind
theorem prodc_shift (ws : List Rat) (g : Nat → Rat) (n : Nat) : prodc (0 :: ws) g n = if n = 0 then 0 else prodc ws g (n - 1) := by
  rw [prodc_cons]; split <;> grind
theorem co_shift (ws : List Rat) (n : Nat) : co (0 :: ws) n = if n = 0 then 0 else co ws (n - 1) := by
  cases n with
  | zero => rfl
  | succ n => rw [if_neg (by omega)]; rfl
theorem prod_split {x : Rat} {xs ys zs ws : List Rat} (e : ∀ i, co zs i = prodc (x :: xs) (co ys) i) (f : ∀ i, co ws i = prodc xs (co ys) i) (i : Nat) : co zs i = co (0 :: ws) i + x * co ys i := by
  rw [e, prodc_cons, co_shift]
  split
  · grind
  · rw [f]; grind
theorem prodc_assoc : ∀ (xs ys zs : List Rat), (∀ i, co zs i = prodc xs (co ys) i) → ∀ (g : Nat → Rat) (n : Nat), prodc zs g n = prodc xs (fun i => prodc ys g i) n
  | [], ys, zs, e, g, n => by
    rw [prodc_left (ys := []) (fun i => by rw [e i]; rfl)]; rfl
  | x :: xs, ys, zs, e, g, n => by
    have f := timesQ_co xs ys
    rw [prodc_lin (prod_split e f), prodc_shift, prodc_cons]
    split
    · grind
    · rw [prodc_assoc xs ys _ f g (n - 1)]; grind
/-! ### one put into a product -/
theorem jo_mul (Y : List Rat) : ∀ (xs ys zs : List Rat), (∀ i, co zs i = prodc xs (co ys) i) → ∀ n, co (jl Y (osing zs)) n = prodc (jl Y (osing xs)) (co (jl Y (osing ys))) n
  | [], ys, zs, e, n => by
    rw [jo_congr Y (ys := []) (fun i => by rw [e i]; rfl)]; rfl
  | x :: xs, ys, zs, e, n => by
    have f := timesQ_co xs ys
    have ih := jo_mul Y xs ys (timesQ xs ys) f
    rw [jo_lin Y x (max (0 :: timesQ xs ys).length (max ys.length zs.length)) (0 :: timesQ xs ys) ys zs (by omega) (by omega) (by omega) (prod_split e f) n]
    have h1 : ∀ i, co (jl Y (osing (0 :: timesQ xs ys))) i = prodc Y (fun i => prodc (jl Y (osing xs)) (co (jl Y (osing ys))) i) i := fun i => by
      rw [jo_head]
      show prodc Y (co (jl Y (osing (timesQ xs ys)))) i + single 0 0 i = _
      rw [prodc_congr ih]
      unfold single; split <;> grind
    have h2 : ∀ i, co (jl Y (osing (x :: xs))) i = co (timesQ Y (jl Y (osing xs))) i + x * co [1] i := fun i => by
      rw [jo_head, timesQ_co]
      show prodc Y (co (jl Y (osing xs))) i + single 0 x i = _
      congr 1
      unfold single
      cases i with
      | zero => show x = x * 1; grind
      | succ i => rw [if_neg (by omega), co_out (by simp)]; grind
    have h3 : ∀ g : Nat → Rat, prodc [1] g n = g n := fun g => by
      rw [prodc_cons]
      show 1 * g n + (if n = 0 then 0 else 0) = g n
      split <;> grind
    rw [prodc_lin h2, h3, h1, prodc_assoc Y (jl Y (osing xs)) _ (timesQ_co _ _)]
/-! ### what is derived of a product -/
theorem der_cons (x : Rat) (xs : List Rat) (n : Nat) : co (derQ (x :: xs)) n = co xs n + 1 * co (0 :: derQ xs) n := by
  rw [derQ_co, co_shift, co_cons_succ]
  by_cases h : n = 0
  · subst h; rw [if_pos rfl, show (((0 + 1 : Nat) : Int) : Rat) = 1 from by decide]; grind
  · rw [if_neg h, derQ_co, show n - 1 + 1 = n by omega]
    have : (((n + 1 : Nat) : Int) : Rat) = ((n : Int) : Rat) + 1 := by
      rw [Int.natCast_add, Rat.intCast_add]; rfl
    rw [this]; grind
theorem der_mul : ∀ (xs ys zs : List Rat), (∀ i, co zs i = prodc xs (co ys) i) → ∀ n, co (derQ zs) n = prodc (derQ xs) (co ys) n + prodc xs (co (derQ ys)) n
  | [], ys, zs, e, n => by
    rw [derQ_co, e]
    show (0 : Rat) * _ = 0 + 0
    grind
  | x :: xs, ys, zs, e, n => by
    have f := timesQ_co xs ys
    have ih := der_mul xs ys (timesQ xs ys) f
    have hz := prod_split e f (n + 1)
    rw [derQ_co, hz, prodc_lin (der_cons x xs), prodc_shift, prodc_cons, derQ_co ys, co_cons_succ, f]
    by_cases h : n = 0
    · subst h; rw [if_pos rfl, if_pos rfl, show (((0 + 1 : Nat) : Int) : Rat) = 1 from by decide]; grind
    · rw [if_neg h, if_neg h]
      have i1 := ih (n - 1)
      rw [derQ_co, f, show n - 1 + 1 = n by omega] at i1
      have : (((n + 1 : Nat) : Int) : Rat) = ((n : Int) : Rat) + 1 := by
        rw [Int.natCast_add, Rat.intCast_add]; rfl
      rw [this]; grind
theorem der_lin {xs ys zs : List Rat} {c : Rat} (e : ∀ i, co zs i = co xs i + c * co ys i) (n : Nat) : co (derQ zs) n = co (derQ xs) n + c * co (derQ ys) n := by
  rw [derQ_co, derQ_co, derQ_co, e]; grind
theorem der_congr {xs ys : List Rat} (e : ∀ i, co xs i = co ys i) (n : Nat) : co (derQ xs) n = co (derQ ys) n := by rw [derQ_co, derQ_co, e]
end Fp

namespace Fp
/-! ### a making of what was put in -/
abbrev putQ (Y p : List Rat) : List Rat := jl Y (osing p)
theorem stq_map (Y : List Rat) (st : List (List Rat)) (j : Nat) : stq (st.map (putQ Y)) j = putQ Y (stq st j) := by
  unfold stq
  rw [List.getElem?_map]
  cases st[j]? with
  | none => rfl
  | some p => rfl
theorem line_put (Y : List Rat) (st : List (List Rat)) : ∀ ln : List PtQ, ∀ n, sumC (st.map (putQ Y)) ln n = co (putQ Y (lineF st ln)) n :=
  snoc_ind (fun n => rfl) fun A p ih n => by
    have f := plusQ_co p.2.2 (lineF st A) (timesQ (stq st p.1) (stq st p.2.1))
    have l := jo_lin Y p.2.2 (max (lineF st A).length (max (timesQ (stq st p.1) (stq st p.2.1)).length (plusQ p.2.2 (lineF st A) (timesQ (stq st p.1) (stq st p.2.1))).length)) (lineF st A) (timesQ (stq st p.1) (stq st p.2.1)) _ (by omega) (by omega) (by omega) f n
    rw [sumC_snoc, lineF_snoc, ih, stq_map, stq_map]
    show _ = co (jl Y (osing _)) n
    rw [l, jo_mul Y _ _ _ (timesQ_co (stq st p.1) (stq st p.2.1))]
theorem lineQ_put (Y : List Rat) (st : List (List Rat)) (ln : List PtQ) : lineQ (st.map (putQ Y)) ln = putQ Y (lineQ st ln) :=
  told_ext (lineQ_told _ _) (jl_told _ _) fun n => by
    rw [lineQ_co, line_put]
    exact (jo_trim Y _ n).symm
theorem put_one (Y : List Rat) : putQ Y [1] = [1] := jl_one (show Told [1] from fun z hz => by obtain rfl := Option.some.inj hz; decide)
theorem stock_put (Y : List Rat) (ms : List (List Rat)) : ∀ mk : List (List PtQ), stockQ (ms.map (putQ Y)) mk = (stockQ ms mk).map (putQ Y) :=
  snoc_ind (by rw [stockQ_nil, stockQ_nil, List.map_cons, put_one]) fun A x ih => by
    rw [stockQ_snoc, stockQ_snoc, ih, List.map_append, lineQ_put]; rfl
theorem lines_put (Y : List Rat) (ms : List (List Rat)) (mk : List (List PtQ)) : linesQ (ms.map (putQ Y)) mk = (linesQ ms mk).map (putQ Y) := by
  unfold linesQ
  rw [stock_put, List.length_map, List.map_drop]
/-! ### a making of makings, line by line -/
theorem take_line {st : List (List Rat)} {ln : List PtQ} {j : Nat} {p : PtQ} (h : ln[j]? = some p) : lineQ st (ln.take (j + 1)) = trimQ (plusQ p.2.2 (lineQ st (ln.take j)) (trimQ (timesQ (stq st p.1) (stq st p.2.1)))) := by
  have e : ln.take (j + 1) = ln.take j ++ [p] := by rw [List.take_add_one, h]; rfl
  refine told_ext (lineQ_told _ _) (trimQ_told _) fun n => ?_
  rw [e, lineQ_co, sumC_snoc, trimQ_co, plusQ_co, trimQ_co, timesQ_co, lineQ_co]
/-! ### sizes -/
theorem sc_eight {c : Rat} (h : c.den ∣ 6) (n : c.num.natAbs ≤ 3) : Sc 6 18 c := by
  obtain ⟨e, he⟩ := h
  have e0 : e ≠ 0 := fun z => by rw [z, Nat.mul_zero] at he; omega
  have e6 : e ≤ 6 := Nat.le_of_dvd (by decide) ⟨c.den, by rw [Nat.mul_comm]; exact he⟩
  refine ⟨c.num * e, ?_, ?_⟩
  · have e1 : (c.num : Rat) / (c.den : Rat) = c := by
      have := Rat.divInt_eq_div c.num (c.den : Int)
      rw [Rat.num_divInt_den] at this
      exact this.symm
    have dq : ((c.den : Nat) : Rat) ≠ 0 := by exact_mod_cast c.den_nz
    have eq0 : ((e : Nat) : Rat) ≠ 0 := by exact_mod_cast e0
    have e6q : ((6 : Int) : Rat) = ((c.den : Nat) : Rat) * ((e : Nat) : Rat) := by
      have : ((6 : Nat) : Rat) = ((c.den * e : Nat) : Rat) := by rw [← he]
      push_cast at this
      exact this
    conv => lhs; rw [← e1]
    rw [e6q, Rat.intCast_mul]
    have he : ((e : Nat) : Rat) * ((e : Nat) : Rat)⁻¹ = 1 := Rat.mul_inv_cancel _ eq0
    show (c.num : Rat) / _ = (c.num : Rat) * ((e : Nat) : Rat) / _
    simp only [Rat.div_def, Rat.inv_mul_rev]
    grind
  · rw [Int.natAbs_mul, Int.natAbs_natCast]
    have := Nat.mul_le_mul n e6
    omega
def SizQ (st : List (List Rat)) (D M L : Nat) : Prop := ∀ p ∈ st, AllS (D : Int) M p ∧ p.length ≤ L
def PtsOk (n : Nat) (ln : List PtQ) : Prop := ln.length ≤ 3 ∧ ∀ p ∈ ln, p.1 < n ∧ p.2.1 < n ∧ p.2.2.den ∣ 6 ∧ p.2.2.num.natAbs ≤ 3
theorem PtsOk.take {n : Nat} {ln : List PtQ} (h : PtsOk n ln) (j : Nat) : PtsOk n (ln.take j) := ⟨by rw [List.length_take]; have := h.1; omega, fun p hp => h.2 p (List.mem_of_mem_take hp)⟩
theorem lineF_szA {st : List (List Rat)} {D M L : Nat} (hs : SizQ st D M L) : ∀ ln : List PtQ, (∀ p ∈ ln, p.1 < st.length ∧ p.2.1 < st.length ∧ p.2.2.den ∣ 6 ∧ p.2.2.num.natAbs ≤ 3) →
    AllS (6 * ((D : Int) * (D : Int))) (ln.length * (18 * (L * (M * M)))) (lineF st ln) ∧ (lineF st ln).length ≤ 2 * L - 1 :=
  snoc_ind (fun _ => ⟨fun x h => (by cases h), Nat.zero_le _⟩) fun A p ih h => by
    obtain ⟨h1, h2⟩ := ih fun q hq => h q (List.mem_append_left _ hq)
    obtain ⟨a1, a2, a3, a4⟩ := h p (List.mem_append_right _ (List.mem_singleton.mpr rfl))
    obtain ⟨s1, l1⟩ := hs _ (stq_mem a1)
    obtain ⟨s2, l2⟩ := hs _ (stq_mem a2)
    rw [lineF_snoc]
    constructor
    · rw [List.length_append, List.length_singleton, Nat.add_mul, Nat.one_mul]
      refine plusQ_sc h1 fun n => ?_
      refine ((sc_eight a3 a4).mul ((timesQ_sc s1 s2).co n)).mono ?_
      exact Nat.mul_le_mul_left _ (Nat.mul_le_mul_right _ l1)
    · rw [plusQ_len, timesQ_len]; omega
theorem lineF_sz {st : List (List Rat)} {D M L : Nat} (hs : SizQ st D M L) {ln : List PtQ} (h : PtsOk st.length ln) : AllS ((6 * (D * D) : Nat) : Int) (54 * (L * (M * M))) (lineF st ln) ∧ (lineF st ln).length ≤ 2 * L - 1 := by
  obtain ⟨h1, h2⟩ := lineF_szA hs ln h.2
  refine ⟨fun x hx => ?_, h2⟩
  have := (h1 x hx).mono (N := 54 * (L * (M * M))) (by
    have h3 := Nat.mul_le_mul_right (18 * (L * (M * M))) h.1
    rw [← Nat.mul_assoc 3 18] at h3
    exact h3)
  rwa [show ((6 * (D * D) : Nat) : Int) = 6 * ((D : Int) * (D : Int)) by push_cast; rfl]
theorem trim_szs {D : Int} {M L : Nat} {xs : List Rat} (h : AllS D M xs ∧ xs.length ≤ L) : AllS D M (trimQ xs) ∧ (trimQ xs).length ≤ L := ⟨fun x hx => h.1 x (trimQ_mem hx), Nat.le_trans (trimQ_len _) h.2⟩
theorem SizQ.up {st : List (List Rat)} {D M L : Nat} (h : SizQ st D M L) (d0 : 0 < D) (dM : D ≤ M) (l0 : 0 < L) : SizQ st (6 * (D * D)) (54 * (L * (M * M))) (2 * L - 1) := fun p hp => by
  obtain ⟨h1, h2⟩ := h p hp
  refine ⟨fun x hx => ?_, by omega⟩
  have := (h1 x hx).up ((6 * D : Nat) : Int) (by omega)
  have e1 : (D : Int) * ((6 * D : Nat) : Int) = ((6 * (D * D) : Nat) : Int) := by
    rw [← Int.natCast_mul]; congr 1; rw [Nat.mul_left_comm]
  rw [e1, Int.natAbs_natCast] at this
  refine this.mono ?_
  have a1 : M * (6 * D) ≤ M * (6 * M) := Nat.mul_le_mul_left _ (Nat.mul_le_mul_left _ dM)
  have a2 : M * (6 * M) = 6 * (M * M) := Nat.mul_left_comm ..
  have a3 : M * M ≤ L * (M * M) := Nat.le_mul_of_pos_left _ l0
  omega
theorem SizQ.line {st : List (List Rat)} {D M L : Nat} (h : SizQ st D M L) (d0 : 0 < D) (dM : D ≤ M) (l0 : 0 < L) {ln : List PtQ} (g : PtsOk st.length ln) : SizQ (st ++ [lineQ st ln]) (6 * (D * D)) (54 * (L * (M * M))) (2 * L - 1) := fun p hp => by
  rcases List.mem_append.mp hp with e | e
  · exact h.up d0 dM l0 p e
  · rw [List.mem_singleton.mp e]
    exact trim_szs (lineF_sz h g)
/-! ### slopes -/
def slopeF (st sl : List (List Rat)) (ln : List PtQ) : List Rat := ln.foldl (fun acc p => plusQ p.2.2 acc (plusQ 1 (timesQ (stq sl p.1) (stq st p.2.1)) (timesQ (stq st p.1) (stq sl p.2.1)))) []
theorem slopeF_snoc (st sl : List (List Rat)) (ln : List PtQ) (p : PtQ) : slopeF st sl (ln ++ [p]) = plusQ p.2.2 (slopeF st sl ln) (plusQ 1 (timesQ (stq sl p.1) (stq st p.2.1)) (timesQ (stq st p.1) (stq sl p.2.1))) := by unfold slopeF; rw [List.foldl_append]; rfl
def stepS (s : List (List Rat) × List (List Rat)) (ln : List PtQ) : List (List Rat) × List (List Rat) := (s.1 ++ [lineF s.1 ln], s.2 ++ [slopeF s.1 s.2 ln])
def slopeS (ms : List (List Rat)) (mk : List (List PtQ)) : List (List Rat) × List (List Rat) := mk.foldl stepS ([1] :: ms, [] :: ms.map derQ)
theorem slopeS_snoc (ms : List (List Rat)) (mk : List (List PtQ)) (ln : List PtQ) : slopeS ms (mk ++ [ln]) = stepS (slopeS ms mk) ln := by unfold slopeS; rw [List.foldl_append]; rfl
theorem stq_out {st : List (List Rat)} {j : Nat} (h : st.length ≤ j) : stq st j = [] := by unfold stq; rw [List.getElem?_eq_none h]; rfl
theorem stq_app {st : List (List Rat)} {x : List Rat} {j : Nat} : stq (st ++ [x]) j = if j < st.length then stq st j else if j = st.length then x else [] := by
  by_cases h : j < st.length
  · rw [if_pos h]; unfold stq; rw [List.getElem?_append_left h]
  · rw [if_neg h]
    by_cases h2 : j = st.length
    · rw [if_pos h2, h2]; unfold stq; rw [List.getElem?_append_right (Nat.le_refl _), Nat.sub_self]; rfl
    · rw [if_neg h2, stq_out (by rw [List.length_append, List.length_singleton]; omega)]
theorem slopeS_len (ms : List (List Rat)) : ∀ mk : List (List PtQ), (slopeS ms mk).1.length = ms.length + 1 + mk.length ∧ (slopeS ms mk).2.length = ms.length + 1 + mk.length :=
  snoc_ind ⟨rfl, by show ([] :: ms.map derQ).length = _; simp⟩ fun A x ih => by
    rw [slopeS_snoc]
    unfold stepS
    refine ⟨?_, ?_⟩
    · show ((slopeS ms A).1 ++ _).length = _
      rw [List.length_append, List.length_append, ih.1]; rfl
    · show ((slopeS ms A).2 ++ _).length = _
      rw [List.length_append, List.length_append, ih.2]; rfl
theorem line_congr {st st' : List (List Rat)} (h : ∀ j n, co (stq st' j) n = co (stq st j) n) (n : Nat) : ∀ ln : List PtQ, sumC st' ln n = sumC st ln n :=
  snoc_ind rfl fun A p ih => by rw [sumC_snoc, sumC_snoc, ih, prodc_left (h p.1), prodc_congr (h p.2.1)]
theorem slope_line {st st' sl : List (List Rat)} (h : ∀ j n, co (stq st' j) n = co (stq st j) n) (g : ∀ j n, co (stq sl j) n = co (derQ (stq st j)) n) : ∀ ln : List PtQ, ∀ n, co (slopeF st' sl ln) n = co (derQ (lineF st ln)) n :=
  snoc_ind (fun n => by rw [derQ_co]; show (0 : Rat) = 0 * _; grind) fun A p ih n => by
    rw [slopeF_snoc, lineF_snoc, plusQ_co, ih, plusQ_co, timesQ_co, timesQ_co, der_lin (plusQ_co _ _ _), der_mul _ _ _ (timesQ_co _ _), prodc_left (g p.1), prodc_congr (h p.2.1), prodc_left (h p.1), prodc_congr (g p.2.1)]
    grind
theorem slopeS_ok (ms : List (List Rat)) : ∀ mk : List (List PtQ), (∀ j n, co (stq (slopeS ms mk).1 j) n = co (stq (stockQ ms mk) j) n) ∧ (∀ j n, co (stq (slopeS ms mk).2 j) n = co (derQ (stq (stockQ ms mk) j)) n) :=
  snoc_ind (by
    refine ⟨fun j n => rfl, fun j n => ?_⟩
    rw [stockQ_nil]
    show co (stq ([] :: ms.map derQ) j) n = co (derQ (stq ([1] :: ms) j)) n
    cases j with
    | zero =>
      rw [derQ_co]
      show (0 : Rat) = co [1] (n + 1) * _
      rw [co_out (by simp)]; grind
    | succ j =>
      show co (((ms.map derQ)[j]?).getD []) n = co (derQ ((ms[j]?).getD [])) n
      rw [List.getElem?_map]
      cases ms[j]? with
      | none => rw [derQ_co]; show (0 : Rat) = 0 * _; grind
      | some p => rfl) fun A x ih => by
    have l1 := (slopeS_len ms A).1
    have l2 := (slopeS_len ms A).2
    have l3 := stockQ_len ms A
    rw [slopeS_snoc, stockQ_snoc]
    unfold stepS
    refine ⟨fun j n => ?_, fun j n => ?_⟩
    · show co (stq ((slopeS ms A).1 ++ [_]) j) n = _
      rw [stq_app, stq_app, l1, l3]
      split
      · exact ih.1 j n
      · split
        · rw [lineF_co, lineQ_co, line_congr ih.1]
        · rfl
    · show co (stq ((slopeS ms A).2 ++ [_]) j) n = _
      rw [stq_app, stq_app, l2, l3]
      split
      · exact ih.2 j n
      · split
        · rw [slope_line ih.1 ih.2, derQ_co, derQ_co]
          congr 1
          unfold lineQ
          rw [trimQ_co]
        · rw [derQ_co]; show (0 : Rat) = 0 * _; grind
/-- sizes of slopes -/
theorem slopeF_sz {st sl : List (List Rat)} {D M L : Nat} (hs : SizQ st D M L) (hl : SizQ sl D M L) (e : sl.length = st.length) : ∀ ln : List PtQ, (∀ p ∈ ln, p.1 < st.length ∧ p.2.1 < st.length ∧ p.2.2.den ∣ 6 ∧ p.2.2.num.natAbs ≤ 3) →
    AllS (6 * ((D : Int) * (D : Int))) (ln.length * (18 * (L * (M * M) + L * (M * M)))) (slopeF st sl ln) ∧ (slopeF st sl ln).length ≤ 2 * L - 1 :=
  snoc_ind (fun _ => ⟨fun x h => (by cases h), Nat.zero_le _⟩) fun A p ih h => by
    obtain ⟨h1, h2⟩ := ih fun q hq => h q (List.mem_append_left _ hq)
    obtain ⟨a1, a2, a3, a4⟩ := h p (List.mem_append_right _ (List.mem_singleton.mpr rfl))
    obtain ⟨s1, l1⟩ := hs _ (stq_mem a1)
    obtain ⟨s2, l2⟩ := hs _ (stq_mem a2)
    obtain ⟨s3, l3⟩ := hl _ (stq_mem (st := sl) (j := p.1) (by rw [e]; exact a1))
    obtain ⟨s4, l4⟩ := hl _ (stq_mem (st := sl) (j := p.2.1) (by rw [e]; exact a2))
    rw [slopeF_snoc]
    constructor
    · rw [List.length_append, List.length_singleton, Nat.add_mul, Nat.one_mul]
      refine plusQ_sc h1 fun n => ?_
      have q1 : AllS ((D : Int) * (D : Int)) (L * (M * M)) (timesQ (stq sl p.1) (stq st p.2.1)) := fun x hx => (timesQ_sc s3 s2 x hx).mono (Nat.mul_le_mul_right _ l3)
      have q2 : AllS ((D : Int) * (D : Int)) (L * (M * M)) (timesQ (stq st p.1) (stq sl p.2.1)) := fun x hx => (timesQ_sc s1 s4 x hx).mono (Nat.mul_le_mul_right _ l1)
      have q3 := plusQ_sc (c := 1) q1 (fun n => by rw [Rat.one_mul]; exact q2.co n)
      exact (sc_eight a3 a4).mul (q3.co n)
    · rw [plusQ_len, plusQ_len, timesQ_len, timesQ_len]; omega
theorem SizQ.up2 {st : List (List Rat)} {D M L : Nat} (h : SizQ st D M L) (d0 : 0 < D) (dM : D ≤ M) (l0 : 0 < L) : SizQ st (6 * (D * D)) (108 * (L * (M * M))) (2 * L - 1) := fun p hp =>
  ⟨fun x hx => ((h.up d0 dM l0 p hp).1 x hx).mono (Nat.mul_le_mul_right _ (by decide)), (h.up d0 dM l0 p hp).2⟩
theorem cast6 (D : Nat) : ((6 * (D * D) : Nat) : Int) = 6 * ((D : Int) * (D : Int)) := by push_cast; rfl
theorem slope_szs {st sl : List (List Rat)} {D M L : Nat} (hs : SizQ st D M L) (hl : SizQ sl D M L) (e : sl.length = st.length) {ln : List PtQ} (p : PtsOk st.length ln) : AllS ((6 * (D * D) : Nat) : Int) (108 * (L * (M * M))) (slopeF st sl ln) ∧ (slopeF st sl ln).length ≤ 2 * L - 1 := by
  obtain ⟨h1, h2⟩ := slopeF_sz hs hl e ln p.2
  refine ⟨fun x hx => ?_, h2⟩
  rw [cast6]
  refine (h1 x hx).mono ?_
  have h3 := Nat.mul_le_mul_right (18 * (L * (M * M) + L * (M * M))) p.1
  omega
theorem stepS_sz {s : List (List Rat) × List (List Rat)} {D M L : Nat} (h : SizQ s.1 D M L) (g : SizQ s.2 D M L) (e : s.2.length = s.1.length) (d0 : 0 < D) (dM : D ≤ M) (l0 : 0 < L) {ln : List PtQ} (p : PtsOk s.1.length ln) :
    SizQ (stepS s ln).1 (6 * (D * D)) (108 * (L * (M * M))) (2 * L - 1) ∧ SizQ (stepS s ln).2 (6 * (D * D)) (108 * (L * (M * M))) (2 * L - 1) := by
  refine ⟨fun q hq => ?_, fun q hq => ?_⟩
  · rcases List.mem_append.mp hq with z | z
    · exact h.up2 d0 dM l0 q z
    · rw [List.mem_singleton.mp z]
      obtain ⟨a, b⟩ := lineF_sz h p
      exact ⟨fun x hx => (a x hx).mono (Nat.mul_le_mul_right _ (by decide)), b⟩
  · rcases List.mem_append.mp hq with z | z
    · exact g.up2 d0 dM l0 q z
    · rw [List.mem_singleton.mp z]
      exact slope_szs h g e p
/-- sizes, level by level -/
def szS (D M L : Nat) : Nat → Nat × Nat × Nat
  | 0 => (D, M, L)
  | i + 1 => (6 * ((szS D M L i).1 * (szS D M L i).1), 108 * ((szS D M L i).2.2 * ((szS D M L i).2.1 * (szS D M L i).2.1)), 2 * (szS D M L i).2.2 - 1)
theorem szS_ok {D M L : Nat} (d0 : 0 < D) (dM : D ≤ M) (l0 : 0 < L) : ∀ i, 0 < (szS D M L i).1 ∧ (szS D M L i).1 ≤ (szS D M L i).2.1 ∧ 0 < (szS D M L i).2.2
  | 0 => ⟨d0, dM, l0⟩
  | i + 1 => by
    obtain ⟨a, b, c⟩ := szS_ok d0 dM l0 i
    refine ⟨Nat.mul_pos (by decide) (Nat.mul_pos a a), ?_, by show 0 < 2 * _ - 1; omega⟩
    show 6 * _ ≤ 108 * _
    have h1 := Nat.mul_le_mul b b
    have h2 := Nat.le_mul_of_pos_left ((szS D M L i).2.1 * (szS D M L i).2.1) c
    omega
theorem slopeS_sz {ms : List (List Rat)} {mk : List (List PtQ)} {D M L : Nat} (d0 : 0 < D) (dM : D ≤ M) (l0 : 0 < L) (h : SizQ ([1] :: ms) D M L) (g : SizQ ([] :: ms.map derQ) D M L) (ok : ∀ (i : Nat) (ln : List PtQ), mk[i]? = some ln → PtsOk (ms.length + 1 + i) ln) :
    ∀ i, i ≤ mk.length → SizQ (slopeS ms (mk.take i)).1 (szS D M L i).1 (szS D M L i).2.1 (szS D M L i).2.2 ∧ SizQ (slopeS ms (mk.take i)).2 (szS D M L i).1 (szS D M L i).2.1 (szS D M L i).2.2
  | 0, _ => ⟨h, g⟩
  | i + 1, hi => by
    obtain ⟨a, b⟩ := slopeS_sz d0 dM l0 h g ok i (by omega)
    obtain ⟨x, y, z⟩ := szS_ok (D := D) (M := M) (L := L) d0 dM l0 i
    have hx := List.getElem?_eq_getElem (show i < mk.length by omega)
    have e : mk.take (i + 1) = mk.take i ++ [mk[i]] := by rw [List.take_add_one, hx]; rfl
    have sl := slopeS_len ms (mk.take i)
    rw [e, slopeS_snoc]
    refine stepS_sz a b (by rw [sl.1, sl.2]) x y z ?_
    rw [sl.1, List.length_take, show min i mk.length = i by omega]
    exact ok i _ hx
/-- and of a stock -/
theorem stock_sz {ms : List (List Rat)} {mk : List (List PtQ)} {D M L : Nat} (d0 : 0 < D) (dM : D ≤ M) (l0 : 0 < L) (h : SizQ ([1] :: ms) D M L) (ok : ∀ (i : Nat) (ln : List PtQ), mk[i]? = some ln → PtsOk (ms.length + 1 + i) ln) :
    ∀ i, i ≤ mk.length → SizQ (stockQ ms (mk.take i)) (szS D M L i).1 (szS D M L i).2.1 (szS D M L i).2.2
  | 0, _ => h
  | i + 1, hi => by
    have a := stock_sz d0 dM l0 h ok i (by omega)
    obtain ⟨x, y, z⟩ := szS_ok (D := D) (M := M) (L := L) d0 dM l0 i
    have hx := List.getElem?_eq_getElem (show i < mk.length by omega)
    have e : mk.take (i + 1) = mk.take i ++ [mk[i]] := by rw [List.take_add_one, hx]; rfl
    rw [e, stockQ_snoc]
    have := a.line x y z (ln := mk[i]) (by rw [stockQ_len, List.length_take, show min i mk.length = i by omega]; exact ok i _ hx)
    exact fun p hp => ⟨fun w hw => ((this p hp).1 w hw).mono (Nat.mul_le_mul_right _ (by decide)), (this p hp).2⟩
/-- pairs -/
def pairsS (s : List (List Rat) × List (List Rat)) : List (List Rat × List Rat) := s.1.zip s.2
theorem pairS_at {s : List (List Rat) × List (List Rat)} {j : Nat} (h : j < s.1.length) (g : j < s.2.length) : (pairsS s)[j]? = some (stq s.1 j, stq s.2 j) := by
  unfold pairsS stq
  rw [List.getElem?_zip_eq_some (z := (s.1[j], s.2[j])) |>.mpr ⟨List.getElem?_eq_getElem h, List.getElem?_eq_getElem g⟩, List.getElem?_eq_getElem h, List.getElem?_eq_getElem g]; rfl
theorem pairS_step {s : List (List Rat) × List (List Rat)} {ln : List PtQ} (e : s.1.length = s.2.length) : pairsS (stepS s ln) = pairsS s ++ [(lineF s.1 ln, slopeF s.1 s.2 ln)] := by
  unfold pairsS stepS
  rw [List.zip_append e]; rfl
theorem pairS_zero (ms : List (List Rat)) : pairsS ([1] :: ms, [] :: ms.map derQ) = ([1], []) :: ms.map fun p => (p, derQ p) := by
  unfold pairsS
  rw [List.zip_cons_cons]
  congr 1
  induction ms with
  | nil => rfl
  | cons p r ih => rw [List.map_cons, List.map_cons, List.zip_cons_cons, ih]
/-- what is derived of ints -/
def dI (zs : List Int) : List Int := (List.range (zs.length - 1)).map fun j : Nat => (1 + (j : Int)) * zs.getD (j + 1) 0
theorem dI_der (zs : List Int) : intQ (dI zs) = derQ (intQ zs) := by
  refine List.ext_getElem? fun j => ?_
  unfold dI derQ intQ
  rw [List.getElem?_map, List.getElem?_map, List.getElem?_drop, List.getElem?_map, List.length_map]
  by_cases h : j < zs.length - 1
  · rw [List.getElem?_range h, List.getElem?_range (show 1 + j < zs.length by omega)]
    show some (((1 + (j : Int)) * zs.getD (j + 1) 0 : Int) : Rat) = some (co (zs.map fun z : Int => (z : Rat)) (1 + j) * (((1 + j : Nat) : Int) : Rat))
    congr 1
    have e : co (zs.map fun z : Int => (z : Rat)) (1 + j) = ((zs.getD (j + 1) 0 : Int) : Rat) := by
      rw [Nat.add_comm 1 j]
      refine co_at ?_
      rw [List.getElem?_map, List.getD_eq_getElem?_getD, List.getElem?_eq_getElem (show j + 1 < zs.length by omega)]; rfl
    rw [e, Rat.intCast_mul, Rat.mul_comm]
    congr 1
  · rw [List.getElem?_eq_none (by simp; omega), List.getElem?_eq_none (by simp; omega)]; rfl
theorem der_sc {M n : Nat} {xs : List Rat} (h : AllS 1 M xs) (l : xs.length ≤ n + 1) : AllS 1 (M * n) (derQ xs) := fun z hz => by
  obtain ⟨i, hi, rfl⟩ := derQ_mem hz
  have := (h.co i).mul (Sc.int (z := (i : Int)) (M := n) (by omega))
  rwa [Int.mul_one] at this
end Fp

namespace Fp
theorem stq_memW {st : List (List Rat)} {j : Nat} (h : j < st.length) : stq st j ∈ st := by
  unfold stq; rw [List.getElem?_eq_getElem h]; exact List.getElem_mem _
theorem sc_sixW {c : Rat} (h : c.den ∣ 6) (n : c.num.natAbs < 2 ^ 100) : Sc 6 (2 ^ 103) c := by
  obtain ⟨e, he⟩ := h
  have d0 := c.den_pos
  have e0 : e ≠ 0 := fun z => by rw [z, Nat.mul_zero] at he; omega
  have e6 : e ≤ 6 := Nat.le_of_dvd (by decide) ⟨c.den, by rw [Nat.mul_comm]; exact he⟩
  refine ⟨c.num * e, ?_, ?_⟩
  · have e1 : (c.num : Rat) / (c.den : Rat) = c := by
      have := Rat.divInt_eq_div c.num (c.den : Int)
      rw [Rat.num_divInt_den] at this
      exact this.symm
    have dq : ((c.den : Nat) : Rat) ≠ 0 := by exact_mod_cast c.den_nz
    have eq0 : ((e : Nat) : Rat) ≠ 0 := by exact_mod_cast e0
    have e6q : ((6 : Int) : Rat) = ((c.den : Nat) : Rat) * ((e : Nat) : Rat) := by
      have : ((6 : Nat) : Rat) = ((c.den * e : Nat) : Rat) := by rw [← he]
      push_cast at this
      exact this
    conv => lhs; rw [← e1]
    rw [e6q, Rat.intCast_mul]
    have he : ((e : Nat) : Rat) * ((e : Nat) : Rat)⁻¹ = 1 := Rat.mul_inv_cancel _ eq0
    show (c.num : Rat) / _ = (c.num : Rat) * ((e : Nat) : Rat) / _
    simp only [Rat.div_def, Rat.inv_mul_rev]
    grind
  · rw [Int.natAbs_mul, Int.natAbs_natCast]
    have := Nat.mul_le_mul (Nat.le_of_lt n) e6
    omega
theorem lineF_scW {st : List (List Rat)} {D M : Nat} (hs : ∀ p ∈ st, AllS (D : Int) M p ∧ p.length ≤ 97) : ∀ ln : List PtQ, (∀ p ∈ ln, p.1 < st.length ∧ p.2.1 < st.length ∧ p.2.2.den ∣ 6 ∧ p.2.2.num.natAbs < 2 ^ 100) →
    AllS (6 * ((D : Int) * (D : Int))) (ln.length * (2 ^ 103 * (97 * (M * M)))) (lineF st ln) ∧ (lineF st ln).length ≤ 193 :=
  snoc_ind (fun _ => ⟨fun x h => (by cases h), Nat.zero_le _⟩) fun A p ih h => by
    obtain ⟨h1, h2⟩ := ih fun q hq => h q (List.mem_append_left _ hq)
    obtain ⟨a1, a2, a3, a4⟩ := h p (List.mem_append_right _ (List.mem_singleton.mpr rfl))
    obtain ⟨s1, l1⟩ := hs _ (stq_memW a1)
    obtain ⟨s2, l2⟩ := hs _ (stq_memW a2)
    rw [lineF_snoc]
    constructor
    · rw [List.length_append, List.length_singleton, Nat.add_mul, Nat.one_mul]
      refine plusQ_sc h1 fun n => ?_
      refine ((sc_sixW a3 a4).mul ((timesQ_sc s1 s2).co n)).mono ?_
      exact Nat.mul_le_mul_left _ (Nat.mul_le_mul_right _ l1)
    · rw [plusQ_len, timesQ_len]; omega
end Fp

namespace Fp
/-! ### sizes of lines of up to 60 parts with numbers below 2^100 -/
abbrev FX : Nat := 60 * 2 ^ 103
def PtsOkX (n : Nat) (ln : List PtQ) : Prop := ln.length ≤ 60 ∧ ∀ p ∈ ln, p.1 < n ∧ p.2.1 < n ∧ p.2.2.den ∣ 6 ∧ p.2.2.num.natAbs < 2 ^ 100
theorem lineF_szAX {st : List (List Rat)} {D M L : Nat} (hs : SizQ st D M L) : ∀ ln : List PtQ, (∀ p ∈ ln, p.1 < st.length ∧ p.2.1 < st.length ∧ p.2.2.den ∣ 6 ∧ p.2.2.num.natAbs < 2 ^ 100) →
    AllS (6 * ((D : Int) * (D : Int))) (ln.length * (2 ^ 103 * (L * (M * M)))) (lineF st ln) ∧ (lineF st ln).length ≤ 2 * L - 1 :=
  snoc_ind (fun _ => ⟨fun x h => (by cases h), Nat.zero_le _⟩) fun A p ih h => by
    obtain ⟨h1, h2⟩ := ih fun q hq => h q (List.mem_append_left _ hq)
    obtain ⟨a1, a2, a3, a4⟩ := h p (List.mem_append_right _ (List.mem_singleton.mpr rfl))
    obtain ⟨s1, l1⟩ := hs _ (stq_memW a1)
    obtain ⟨s2, l2⟩ := hs _ (stq_memW a2)
    rw [lineF_snoc]
    constructor
    · rw [List.length_append, List.length_singleton, Nat.add_mul, Nat.one_mul]
      refine plusQ_sc h1 fun n => ?_
      refine ((sc_sixW a3 a4).mul ((timesQ_sc s1 s2).co n)).mono ?_
      exact Nat.mul_le_mul_left _ (Nat.mul_le_mul_right _ l1)
    · rw [plusQ_len, timesQ_len]; omega
theorem lineF_szX {st : List (List Rat)} {D M L : Nat} (hs : SizQ st D M L) {ln : List PtQ} (h : PtsOkX st.length ln) : AllS ((6 * (D * D) : Nat) : Int) (FX * (L * (M * M))) (lineF st ln) ∧ (lineF st ln).length ≤ 2 * L - 1 := by
  obtain ⟨h1, h2⟩ := lineF_szAX hs ln h.2
  refine ⟨fun x hx => ?_, h2⟩
  have := (h1 x hx).mono (N := FX * (L * (M * M))) (by
    have h3 := Nat.mul_le_mul_right (2 ^ 103 * (L * (M * M))) h.1
    rw [← Nat.mul_assoc 60 (2 ^ 103)] at h3
    exact h3)
  rwa [show ((6 * (D * D) : Nat) : Int) = 6 * ((D : Int) * (D : Int)) by push_cast; rfl]
theorem SizQ.upX {st : List (List Rat)} {D M L : Nat} (h : SizQ st D M L) (d0 : 0 < D) (dM : D ≤ M) (l0 : 0 < L) : SizQ st (6 * (D * D)) (FX * (L * (M * M))) (2 * L - 1) := fun p hp => by
  obtain ⟨h1, h2⟩ := SizQ.up h d0 dM l0 p hp
  exact ⟨fun x hx => (h1 x hx).mono (Nat.mul_le_mul_right _ (by decide)), h2⟩
theorem SizQ.lineX {st : List (List Rat)} {D M L : Nat} (h : SizQ st D M L) (d0 : 0 < D) (dM : D ≤ M) (l0 : 0 < L) {ln : List PtQ} (g : PtsOkX st.length ln) : SizQ (st ++ [lineQ st ln]) (6 * (D * D)) (FX * (L * (M * M))) (2 * L - 1) := fun p hp => by
  rcases List.mem_append.mp hp with e | e
  · exact h.upX d0 dM l0 p e
  · rw [List.mem_singleton.mp e]
    exact trim_szs (lineF_szX h g)
def szX (D M L : Nat) : Nat → Nat × Nat × Nat
  | 0 => (D, M, L)
  | i + 1 => (6 * ((szX D M L i).1 * (szX D M L i).1), FX * ((szX D M L i).2.2 * ((szX D M L i).2.1 * (szX D M L i).2.1)), 2 * (szX D M L i).2.2 - 1)
theorem szX_ok {D M L : Nat} (d0 : 0 < D) (dM : D ≤ M) (l0 : 0 < L) : ∀ i, 0 < (szX D M L i).1 ∧ (szX D M L i).1 ≤ (szX D M L i).2.1 ∧ 0 < (szX D M L i).2.2
  | 0 => ⟨d0, dM, l0⟩
  | i + 1 => by
    obtain ⟨a, b, c⟩ := szX_ok d0 dM l0 i
    refine ⟨Nat.mul_pos (by decide) (Nat.mul_pos a a), ?_, by show 0 < 2 * _ - 1; omega⟩
    show 6 * _ ≤ FX * _
    have h1 := Nat.mul_le_mul b b
    have h2 := Nat.le_mul_of_pos_left ((szX D M L i).2.1 * (szX D M L i).2.1) c
    exact Nat.mul_le_mul (by decide) (Nat.le_trans h1 h2)
theorem stock_szX {ms : List (List Rat)} {mk : List (List PtQ)} {D M L : Nat} (d0 : 0 < D) (dM : D ≤ M) (l0 : 0 < L) (h : SizQ ([1] :: ms) D M L) (ok : ∀ (i : Nat) (ln : List PtQ), mk[i]? = some ln → PtsOkX (ms.length + 1 + i) ln) :
    ∀ i, i ≤ mk.length → SizQ (stockQ ms (mk.take i)) (szX D M L i).1 (szX D M L i).2.1 (szX D M L i).2.2
  | 0, _ => h
  | i + 1, hi => by
    have a := stock_szX d0 dM l0 h ok i (by omega)
    obtain ⟨x, y, z⟩ := szX_ok (D := D) (M := M) (L := L) d0 dM l0 i
    have hx := List.getElem?_eq_getElem (show i < mk.length by omega)
    have e : mk.take (i + 1) = mk.take i ++ [mk[i]] := by rw [List.take_add_one, hx]; rfl
    rw [e, stockQ_snoc]
    exact a.lineX x y z (ln := mk[i]) (by rw [stockQ_len, List.length_take, show min i mk.length = i by omega]; exact ok i _ hx)
theorem SizQ.upsX {st : List (List Rat)} {D M L : Nat} (d0 : 0 < D) (dM : D ≤ M) (l0 : 0 < L) {i : Nat} (h : SizQ st (szX D M L i).1 (szX D M L i).2.1 (szX D M L i).2.2) : ∀ k, SizQ st (szX D M L (i + k)).1 (szX D M L (i + k)).2.1 (szX D M L (i + k)).2.2
  | 0 => h
  | k + 1 => by
    obtain ⟨x, y, z⟩ := szX_ok (D := D) (M := M) (L := L) d0 dM l0 (i + k)
    exact (SizQ.upsX d0 dM l0 h k).upX x y z
theorem SizQ.toX {st : List (List Rat)} {D M L : Nat} (d0 : 0 < D) (dM : D ≤ M) (l0 : 0 < L) {i n : Nat} (h : SizQ st (szX D M L i).1 (szX D M L i).2.1 (szX D M L i).2.2) (l : i ≤ n) : SizQ st (szX D M L n).1 (szX D M L n).2.1 (szX D M L n).2.2 := by
  obtain ⟨k, rfl⟩ := Nat.exists_eq_add_of_le l
  exact SizQ.upsX d0 dM l0 h k
end Fp

namespace Fp
/-! ### a line reckoned part by part -/
theorem allS_trim' {D : Int} {M : Nat} {xs : List Rat} (h : AllS D M xs) : AllS D M (trimQ xs) := AllS.of_co fun i => by rw [trimQ_co]; exact h.co i
theorem PtsOkX.take {n : Nat} {ln : List PtQ} (h : PtsOkX n ln) (j : Nat) : PtsOkX n (ln.take j) := ⟨by rw [List.length_take]; have := h.1; omega, fun p hp => h.2 p (List.mem_of_mem_take hp)⟩
theorem trimQ_len_le (xs : List Rat) {n : Nat} (h : xs.length ≤ n) : (trimQ xs).length ≤ n := by
  rcases Nat.lt_or_ge n (trimQ xs).length with l | l
  · obtain ⟨m, hm⟩ : ∃ m, (trimQ xs).length = m + 1 := ⟨(trimQ xs).length - 1, by omega⟩
    exfalso
    have e : (trimQ xs).getLast? = some (co (trimQ xs) m) := by
      rw [List.getLast?_eq_getElem?, hm, Nat.add_sub_cancel]
      unfold co
      rw [List.getD_eq_getElem?_getD, List.getElem?_eq_getElem (by omega)]; rfl
    refine trimQ_told xs _ e ?_
    rw [trimQ_co]
    exact co_out (by omega)
  · exact l
theorem part_szX {st : List (List Rat)} {D M : Nat} (hs : SizQ st D M 97) {ln : List PtQ} (h : PtsOkX st.length ln) {j : Nat} {p : PtQ} (hp : ln[j]? = some p) :
    AllS ((6 * (D * D) : Nat) : Int) (FX * (97 * (M * M))) (plusQ p.2.2 (lineQ st (ln.take j)) (trimQ (timesQ (stq st p.1) (stq st p.2.1)))) ∧ AllS ((6 * (D * D) : Nat) : Int) (FX * (97 * (M * M))) (lineQ st (ln.take j)) ∧ (lineQ st (ln.take j)).length ≤ 193 ∧
    AllS ((D : Int) * (D : Int)) (97 * (M * M)) (trimQ (timesQ (stq st p.1) (stq st p.2.1))) ∧ (trimQ (timesQ (stq st p.1) (stq st p.2.1))).length ≤ 193 ∧ (AllS (D : Int) M (stq st p.1) ∧ (stq st p.1).length ≤ 97) ∧ AllS (D : Int) M (stq st p.2.1) ∧ (stq st p.2.1).length ≤ 97 := by
  have g1 := lineF_szX hs (h.take (j + 1))
  have g0 := lineF_szX hs (h.take j)
  obtain ⟨a1, a2, _, _⟩ := h.2 p (List.mem_of_getElem? hp)
  obtain ⟨s1, l1⟩ := hs _ (stq_memW a1)
  obtain ⟨s2, l2⟩ := hs _ (stq_memW a2)
  have e : ln.take (j + 1) = ln.take j ++ [p] := by rw [List.take_add_one, hp]; rfl
  refine ⟨AllS.of_co fun i => ?_, allS_trim' g0.1, trimQ_len_le _ g0.2, allS_trim' fun x hx => ((timesQ_sc s1 s2) x hx).mono (Nat.mul_le_mul_right _ l1), trimQ_len_le _ (by rw [timesQ_len]; omega), ⟨s1, l1⟩, s2, l2⟩
  have := g1.1.co i
  rw [e, lineF_snoc, plusQ_co, timesQ_co] at this
  rw [plusQ_co, trimQ_co, timesQ_co]
  unfold lineQ
  rw [trimQ_co]
  exact this
theorem bits_big {D M n : Nat} (d0 : 0 < D) (dB : 6 * D * D < 2 ^ 63) (mB : M < 2 ^ 1000) (hn : 4000 ≤ n) {xs : List Rat} (h : AllS ((6 * (D * D) : Nat) : Int) (FX * (97 * (M * M))) xs) : AllB n xs := by
  have q0 : 0 < D * D := Nat.mul_pos d0 d0
  have m2 : M * M < 2 ^ 2000 := by
    have := Nat.mul_lt_mul'' mB mB
    rwa [← Nat.pow_add] at this
  refine h.bits (by omega) ?_ ?_
  · show ((6 * (D * D) : Nat) : Int).natAbs < 2 ^ n
    rw [Int.natAbs_natCast]
    exact Nat.lt_trans (by rw [← Nat.mul_assoc]; exact dB) (Nat.pow_lt_pow_right (by decide) (by omega))
  · have : FX * (97 * (M * M)) < 2 ^ 117 * 2 ^ 2000 := by
      rw [← Nat.mul_assoc]
      exact Nat.mul_lt_mul_of_le_of_lt (by decide) m2 (by decide)
    rw [← Nat.pow_add] at this
    exact Nat.lt_trans this (Nat.pow_lt_pow_right (by decide) (by omega))
end Fp

namespace K21
open PySem PySem.Spec PyProof.Rows L2 Fp
section
variable {P : Program} {w : World} {K : PySem.W.Frag} {mg : Str → Option Value} {base : Heap} {k : Nat} {C fI fR : Addr}
def sp_law_comes (C : Addr) : Sp := fun vs H Q _ => ∃ (l : Addr) (v : V) (gs : List V) (ms : List (List Rat)) (mk : List (List PtQ)) (D E M : Nat), vs = [.ref l, v] ∧ H l = some (.lst gs) ∧ Ea (ListQ C) H gs ms ∧ (∀ q ∈ ms, Told q) ∧
  ((MakR C H v mk ∧ MkOk ms mk D E M ∧ ∀ a H' us, Same H H' → H a = none → H' a = some (.lst us) → QL C H' us (lastQ ms mk) → Q (.ref a) H') ∨ (BadM C H v ms.length mk ∧ MkOk ms (mk ++ [[]]) D E M ∧ ∀ H', Same H H' → Q .non H'))
-- slots: _law_makers_here 0, _law_making 1, _law_known 2, _law_line 3, _law_found 4, _law_spot 5, _law_other 6, _law_number 7, _law_maker 8; cells: 
abbrev s_law_comes : Stmt := top 61
abbrev N_law_comes : List Str := ["_law_makers_here", "_law_making", "_law_known", "_law_line", "_law_found", "_law_spot", "_law_other", "_law_number", "_law_maker"]
theorem sc_law_comes : FnScope N_law_comes ["_law_makers_here", "_law_making"] (defScope s_law_comes) := ⟨rfl, rfl, rfl, by decide +kernel, rfl, by decide +kernel, by decide +kernel⟩
theorem d_law_comes (B : Bnd K mg "_law_comes" s_law_comes) (M : Mg2 mg) (R : RCls K mg C fI fR) (J : RIsi K C)  (D_law_poly : Def P w K mg base k "_law_poly" s_law_poly ["_law_numbers"] (sp_law_poly K C)) (D_law_sum : Def P w K mg base k "_law_sum" s_law_sum ["_law_one", "_law_two_here", "_law_share"] (sp_law_sum K C)) (D_law_product : Def P w K mg base k "_law_product" s_law_product ["_law_one", "_law_two_here"] (sp_law_product K C)) (D_law_is_line : Def P w K mg base k "_law_is_line" s_law_is_line ["_law_line", "_law_known"] (sp_law_is_line C)) : Def P w K mg base (k + 1) "_law_comes" s_law_comes ["_law_makers_here", "_law_making"] (sp_law_comes C) := by
  refine def_of B sc_law_comes (by rintro _ _ _ _ ⟨l, v, gs, ms, mk, D, Ee, nM, rfl, _⟩; rfl) (fun _ _ _ _ _ _ us hl => match us, hl with | [_, _], _ => rfl) fun f cdv A outer s H vs Q E hr h => ?_
  obtain ⟨l, v, gs, ms, mk, D, Ee, nM, rfl, hl, hg, htd, hc⟩ := h
  have hu := hr.units
  refine ⟨_, C8.pss_cut (ps_if (PW.pt (pw_or (pt_not (pt_val (pe_callB call_isiT (by rfl) M.isi (by decide +kernel) (pa_cons (pv 1) (pa_cons (pe_tup (pa_cons (pe_bltn (v := .ty "list") (by rfl) M.list (by decide +kernel) rfl) (pa_cons (pe_bltn (v := .ty "tuple") (by rfl) M.tuple (by decide +kernel) rfl) pa_nil))) pa_nil))))) (pw_or1 (pt_not (pt_chain op_le op_le pe_int (pe_callB call_len_seq (by rfl) M.len boot_len (pa_cons (pv 1) pa_nil)) pe_int)))))
      (pss_one (ps_ret pe_non))
      (pss_nil))
    (pss_cons (ps_set (i := 2) sc_law_comes.nd rfl (.inl rfl) (pe_op op_cat (pe_lst (pa_cons (pe_d D_law_poly hr (by rfl) (pa_cons (pe_lst (pa_cons pe_int pa_nil)) pa_nil)) pa_nil)) (pe_lc (own := [("_law_maker", 8)]) (g := (gName 8)) (tt := tYes) (te := (tD _ (tCons (tVar 8) tNil))) rfl sc_law_comes.nd (pi_sq (pv 0)) (blkOk_by (own := [("_law_maker", 8)]) (N := N_law_comes) (sc := defScope s_law_comes) (by decide +kernel)) (fun _ _ _ _ _ => pg_name (i := 8) sc_law_comes.nd rfl (.inl rfl)) (fun _ _ _ _ _ => pts_nil) (fun _ _ _ _ _ => pe_d D_law_poly hr (by rfl) (pa_cons (pv 8) pa_nil)))))
    (pss_cons (ps_for PassesOwn.never rfl (pi_sq (pv 1)) (pg_name (i := 3) sc_law_comes.nd rfl (.inl rfl))
      (C8.pss_cut (ps_if (pt_not (pt_val (pe_d D_law_is_line hr (by rfl) (pa_cons (pv 3) (pa_cons (pe_callB call_len_seq (by rfl) M.len boot_len (pa_cons (pv 2) pa_nil)) pa_nil)))))
        (pss_one (ps_ret pe_non))
        (pss_nil))
      (pss_cons (ps_set (i := 4) sc_law_comes.nd rfl (.inl rfl) (pe_lst pa_nil))
      (pss_cons (ps_for PassesOwn.never rfl (pi_sq (pv 3)) (pg_tup rfl (pgs_cons (pg_name (i := 5) sc_law_comes.nd rfl (.inl rfl)) (pgs_cons (pg_name (i := 6) sc_law_comes.nd rfl (.inl rfl)) (pgs_cons (pg_name (i := 7) sc_law_comes.nd rfl (.inl rfl)) pgs_nil))))
        (pss_one (ps_set (i := 4) sc_law_comes.nd rfl (.inl rfl) (pe_d D_law_sum hr (by rfl) (pa_cons (pv 4) (pa_cons (pe_d D_law_product hr (by rfl) (pa_cons (pe_ix (r := rIxL K) ix_list (pv 2) (pv 5) (fun _ _ => rfl)) (pa_cons (pe_ix (r := rIxL K) ix_list (pv 2) (pv 6) (fun _ _ => rfl)) pa_nil))) (pa_cons (pv 7) pa_nil)))))))
      (C8.pss_cut (ps_if (pt_cmpR op_gt (pe_callB call_len_seq (by rfl) M.len boot_len (pa_cons (pv 4) pa_nil)) pe_int (nomark _))
        (pss_one (ps_ret pe_non))
        (pss_nil))
      (pss_one (ps_expr (pe_bm PySem.F.plainAttrs_list PySem.F.slot_list_append PySem.F.type_list_append mt_append (pv 2) (pa_cons (pv 4) pa_nil)))))))))
    (pss_one (ps_ret (pe_ix (r := rIxL K) ix_list (pv 2) (pe_un un_neg pe_int) (fun _ _ => rfl)))))), ?_⟩
  have lg := hg.1
  have pk : (itemsOf H v = none ∧ (∃ d, Sk C H d v) ∧ ∀ H', Same H H' → Q .non H') ∨ ∃ a us, v = .ref a ∧ (H a = some (.lst us) ∨ H a = some (.tup us)) ∧ ((us = [] ∧ ∀ H', Same H H' → Q .non H') ∨ ∃ mk', us.length ≤ 200 ∧ 1 ≤ us.length ∧ MkOk ms mk' D Ee nM ∧ (∀ (i : Nat), i ≤ mk.length → mk'.take i = mk.take i) ∧ (∀ (i : Nat) (ln : List PtQ), mk[i]? = some ln → mk'[i]? = some ln) ∧ (∀ i, i ≤ mk.length → i < us.length → i < mk'.length) ∧ Meets C H us ms mk (∀ H', Same H H' → Q .non H') ∧ (us.length ≤ mk.length → us.length = mk.length ∧ ∀ a H' us, Same H H' → H a = none → H' a = some (.lst us) → QL C H' us (lastQ ms mk) → Q (.ref a) H')) := by
    rcases hc with ⟨hv, ok, q⟩ | ⟨hb, ok, q⟩
    · obtain ⟨a, us, rfl, ha, he⟩ := hv
      have lu := he.1
      have l1 := ok.l1
      have l2 := ok.l2
      refine .inr ⟨a, us, rfl, ha, .inr ⟨mk, by omega, by omega, ok, fun _ _ => rfl, fun _ _ h => h, fun i _ h => by omega, fun i x hx _ => .inl (he.2 i x hx), fun _ => ⟨lu, q⟩⟩⟩
    · rcases hb with ⟨h1, h2⟩ | ⟨a, us, rfl, ha, rfl | ⟨l2, he, u, hu, au, fu⟩⟩
      · exact .inl ⟨h1, h2, q⟩
      · exact .inr ⟨a, _, rfl, ha, .inl ⟨rfl, q⟩⟩
      · have il := (List.getElem?_eq_some_iff.mp hu).1
        refine .inr ⟨a, us, rfl, ha, .inr ⟨mk ++ [[]], l2, by omega, ok, fun i hi => List.take_append_of_le_length hi, fun i ln h => by rw [List.getElem?_append_left (List.getElem?_eq_some_iff.mp h).1]; exact h, fun i h _ => by rw [List.length_append]; simp; omega, fun i x hx hi => ?_, fun h => absurd h (by omega)⟩⟩
        by_cases z : i = mk.length
        · subst z
          rw [hu] at hx
          obtain rfl := Option.some.inj hx
          exact .inr (.inl ⟨rfl, au, fu, q⟩)
        · exact .inl (he.2 i x (by rw [List.getElem?_take, if_pos (by omega)]; exact hx))
  clear hc
  refine ⟨fun σ' G => ∃ a us mk', v = .ref a ∧ (H a = some (.lst us) ∨ H a = some (.tup us)) ∧ us.length ≤ 200 ∧ 1 ≤ us.length ∧ MkOk ms mk' D Ee nM ∧ (∀ (i : Nat), i ≤ mk.length → mk'.take i = mk.take i) ∧ (∀ (i : Nat) (ln : List PtQ), mk[i]? = some ln → mk'[i]? = some ln) ∧ (∀ i, i ≤ mk.length → i < us.length → i < mk'.length) ∧ Meets C H us ms mk (∀ H', Same H H' → Q .non H') ∧ (us.length ≤ mk.length → us.length = mk.length ∧ ∀ a H' us, Same H H' → H a = none → H' a = some (.lst us) → QL C H' us (lastQ ms mk) → Q (.ref a) H') ∧ σ' = [some (.ref l), some (.ref a), none, none, none, none, none, none, none] ∧ Same H G, ?_, ?_⟩
  · rcases pk with ⟨hi, ⟨d, hk⟩, q⟩ | ⟨a, us, rfl, ha, hh⟩
    · refine ⟨_, rfl, (by show 2 ≤ sizeLine; decide), fun p np => ?_⟩
      have sp := same_new (o := .tup [V.ty "list", V.ty "tuple"]) np
      obtain ⟨ty, t1, _, _, t4⟩ := (hk.same sp).kit R
      rw [itemsOf_same hk sp, hi] at t4
      exact ⟨v, p, _, ty, _, _, rfl, upd_same, .cons (.ty _) (.cons (.ty _) .nil), t1, t4, false, rfl, iteT2 rfl (q _ sp)⟩
    · refine ⟨_, rfl, (by show 2 ≤ sizeLine; decide), fun p np => ?_⟩
      have sp := same_new (o := .tup [V.ty "list", V.ty "tuple"]) np
      obtain ⟨ty, t1, t4⟩ := ty_seq (K := K) (ha.imp (sp _ _) (sp _ _))
      refine ⟨.ref a, p, _, ty, _, _, rfl, upd_same, .cons (.ty _) (.cons (.ty _) .nil), t1, t4, true, rfl, iteF2 rfl ⟨_, rfl, a, us, rfl, seq_sq (ha.imp (sp _ _) (sp _ _)), _, _, rfl, rfl, _, rfl, ?_⟩⟩
      rcases hh with ⟨rfl, q⟩ | ⟨mk', l2, l1, hh⟩
      · exact iteF2 rfl ⟨_, rfl, iteT2 rfl (q _ sp)⟩
      · exact iteT2 (decide_eq_true (by omega)) ⟨_, _, rfl, rfl, _, rfl, iteF2 (by rw [decide_eq_true (show ((us.length : Nat) : Int) ≤ 200 by omega)]; rfl) ⟨a, us, mk', rfl, ha, l2, l1, hh.1, hh.2.1, hh.2.2.1, hh.2.2.2.1, hh.2.2.2.2.1, hh.2.2.2.2.2, rfl, sp⟩⟩
  rintro _ G0 ⟨a, us, mk', rfl, ha, l2, l1, ok, tk, at', hlen, hM, hF, rfl, s0⟩
  clear pk
  have lm := ok.lm
  have ok1 := ok.l1
  have tk0 : mk'.take 0 = mk.take 0 := rfl
  have st0 := ok.st 0 (by omega)
  rw [tk0] at st0
  have b42 : ∀ p ∈ ms, AllB 4200 p ∧ p.length ≤ 97 := fun p hp => by
    have pm : p ∈ stockQ ms (mk.take 0) := List.mem_cons_of_mem _ hp
    exact ⟨fun x hx => ⟨Nat.lt_trans (stok_bits st0 pm x hx).1 (Nat.pow_lt_pow_right (by decide) (by decide)), Nat.lt_trans (stok_bits st0 pm x hx).2 (Nat.pow_lt_pow_right (by decide) (by decide))⟩, st0.ln p pm⟩
  have t1 : trimQ [(1 : Rat)] = [1] := by decide +kernel
  refine ⟨by show 1 ≤ sizeLine; decide, fun c1 n1 => ?_⟩
  have sc := same_new (o := .lst [V.int 1]) n1
  refine ⟨c1, [.int 1], [1], rfl, .inl (SqL.of upd_same), ML.one num_one, fun x hx => by rw [List.mem_singleton.mp hx]; exact ⟨Nat.lt_of_lt_of_le bits_one.1 (Nat.pow_le_pow_right (by decide) (by decide)), Nat.lt_of_lt_of_le bits_one.2 (Nat.pow_le_pow_right (by decide) (by decide))⟩, by simp, fun g H1 zs s1 ng hg1 hq1 => ?_⟩
  rw [t1] at hq1
  refine ⟨by show 1 ≤ sizeLine; decide, fun b nb => ?_⟩
  have sb := same_new (o := .lst [V.ref g]) nb
  have sG := ((s0.trans sc).trans s1).trans sb
  have lq1 : ListN C H (upd H1 b (.lst [V.ref g])) (.ref g) [1] := ⟨g, zs, rfl, (s0.trans sc).free ng, sb _ _ hg1, RatL.same hq1 sb⟩
  have hb1 : (upd H1 b (.lst [V.ref g])) b = some (.lst [V.ref g]) := upd_same
  generalize upd H1 b (.lst [V.ref g]) = G1 at *
  clear sb nb hg1 hq1 ng s1 sc n1
  refine lc_relS (fun i acc Hh => Ea (ListN C H) Hh acc (ms.take i)) (fun R r => ⟨_, rfl, r⟩) (.inl (SqL.of (sG _ _ hl))) (by rw [lg, sizeLine_eq]; omega) Ea.nil (fun i acc A B s r => r.same ListN.mo s) (fun D1 i y acc Ha hD hy sa hA hr Yc Nc yc nc => ?_) (fun D1 acc G2 nD s2 hD hr => ?_)
  · obtain ⟨p, hp, e, ws, rfl, he, hq⟩ := hg.2 i y hy
    have pm := List.mem_of_getElem? hp
    have sH := sG.trans sa
    refine ⟨rfl, _, rfl, e, ws, p, rfl, .inl (SqL.of (sH _ _ he)), ML.of_ql (RatL.same hq sH), (b42 p pm).1, by have := (b42 p pm).2; omega, fun c H' zs s' nc' hc hq' => yc (.ref c) H' s' ?_⟩
    have eT : trimQ p = p := told_ext (trimQ_told _) (htd p pm) fun n => trimQ_co p n
    rw [eT] at hq'
    have hA' := s' _ _ hA
    rw [takeS hp]
    refine (hr.same ListN.mo (wo_mono (D := D1) s')).snoc ⟨c, zs, rfl, sH.free nc', ?_, ?_⟩
    · rw [wo_ne (fun z => by rw [z, hA] at nc'; cases nc')]; exact hc
    · exact RatL.wo hq' hA'
  rw [lg, List.take_length] at hr
  have hr := hr.same ListN.mo (wo_le (D := D1))
  have la := hr.1
  refine ⟨b, D1, _, _, rfl, rfl, s2 _ _ hb1, hD, by rw [sizeLine_eq]; simp; omega, fun W nW => ?_⟩
  have sW := same_new (o := .lst (V.ref g :: acc)) nW
  have s12 := sG.trans s2
  have nWH : H W = none := s12.free nW
  have hW1 : Ea (ListN C H) (wo W (upd G2 W (.lst (V.ref g :: acc)))) (V.ref g :: acc) ([1] :: ms) :=
    (Ea.one (ListN.mo _ _ _ _ (ListN.mo _ _ _ _ lq1 s2) (same_wo nW sW))).app (hr.same ListN.mo (same_wo nW sW))
  have hGW : (upd G2 W (.lst (V.ref g :: acc))) W = some (.lst (V.ref g :: acc)) := upd_same
  have sHW : Same H (upd G2 W (.lst (V.ref g :: acc))) := s12.trans sW
  have sHwo : Same H (wo W (upd G2 W (.lst (V.ref g :: acc)))) := same_wo nWH sHW
  dsimp only [gName, List.singleton_append, List.cons_append, List.nil_append]
  generalize upd G2 W (.lst (V.ref g :: acc)) = G3 at *
  show tSeq (tFor _ _ _) _ _ [some (.ref l), some (.ref a), some (.ref W), none, none, none, none, none, none] G3
  refine for_sq (H0 := H) (a := a) (xs := us) (fun i σ G => ∃ (o3 o4 o5 o6 o7 : Option V) (zs : List V), σ = [some (.ref l), some (.ref a), some (.ref W), o3, o4, o5, o6, o7, none] ∧ Same H (wo W G) ∧ G W = some (.lst zs) ∧ i ≤ mk.length ∧ Ea (ListN C H) (wo W G) zs (stockQ ms (mk.take i)))
    (fun R r => ⟨_, rfl, r⟩) (seq_sq ha) sHW ⟨none, none, none, none, none, _, rfl, sHwo, hGW, Nat.zero_le _, hW1⟩ (fun i σ' G ⟨_, _, _, _, _, _, _, sm, _⟩ => sm.trans wo_le) (fun i x σ G hx ⟨o3, o4, o5, o6, o7, zs, e, sm, hG, iM, hE⟩ => ?_) (fun σ G ⟨o3, o4, o5, o6, o7, zs, e, sm, hG, iM, hE⟩ => ?_)
  · subst e
    have lz := hE.1
    rw [stockQ_len, List.length_take, show min i mk.length = i by omega] at lz
    have sG : Same H G := sm.trans wo_le
    refine ⟨fun σ' G' => σ' = [some (.ref l), some (.ref a), some (.ref W), some x, o4, o5, o6, o7, none] ∧ Same G G' ∧ ∃ ln, LineR C H x ln ∧ ln.length ≤ 60 ∧ (∀ p ∈ ln, PtOk (ms.length + 1 + i) p) ∧ (mk[i]? = some ln ∨ (97 < (lineQ (stockQ ms (mk.take i)) ln).length ∧ ∀ H', Same H H' → Q .non H')), ?_, ?_⟩
    · rcases hM i x hx iM with ⟨ln, hl1, hl2⟩ | ⟨e1, au, fu, q⟩ | ⟨e1, ⟨ln, hl2, k60, kp, lg97⟩, q⟩
      · obtain ⟨k60, kp⟩ := ok.ok i ln (at' i ln hl1)
        obtain ⟨au, fu⟩ := isLineV_of (m := zs.length) (SeqR.mo PartR.mo _ _ _ _ hl2 sG) k60 fun p hp => by rw [lz]; exact ⟨(kp p hp).1, (kp p hp).2.1⟩
        exact ⟨_, rfl, _, rfl, W, zs, rfl, .inl (SqL.of hG), x, zs.length, rfl, au, fun H1 s1 => ⟨_, rfl, by rw [fu]; exact iteF2 rfl ⟨rfl, s1, ln, hl2, k60, kp, .inl hl1⟩⟩⟩
      · obtain ⟨au2, fu2⟩ := au.same sG
        have fu3 : isLineV G zs.length x = false := by rw [fu2, lz]; exact fu
        exact ⟨_, rfl, _, rfl, W, zs, rfl, .inl (SqL.of hG), x, zs.length, rfl, au2, fun H1 s1 => ⟨_, rfl, by rw [fu3]; exact iteT2 rfl (q H1 (sG.trans s1))⟩⟩
      · obtain ⟨au, fu⟩ := isLineV_of (m := zs.length) (SeqR.mo PartR.mo _ _ _ _ hl2 sG) k60 fun p hp => by rw [lz, e1]; exact ⟨(kp p hp).1, (kp p hp).2.1⟩
        exact ⟨_, rfl, _, rfl, W, zs, rfl, .inl (SqL.of hG), x, zs.length, rfl, au, fun H1 s1 => ⟨_, rfl, by rw [fu]; exact iteF2 rfl ⟨rfl, s1, ln, hl2, k60, by rw [e1]; exact kp, .inr ⟨by rw [e1, List.take_length]; exact lg97, q⟩⟩⟩⟩
    rintro _ Ga ⟨rfl, sa, ln, hl2, k60, kp, hcase⟩
    have ik : i < mk'.length := by
      have a1 := tk i iM
      have a2 := (List.getElem?_eq_some_iff.mp hx).1
      exact hlen i iM a2
    have sma := sm.trans (wo_mono (D := W) sa)
    have hGa := sa _ _ hG
    have hEa := hE.same ListN.mo (wo_mono (D := W) sa)
    have lst : (stockQ ms (mk.take i)).length = zs.length := hE.1.symm
    have okI := ok.st i ik
    rw [tk i iM] at okI
    obtain ⟨b0, ts, rfl, hb0, hts⟩ := hl2
    refine ⟨Nat.zero_le _, fun F nF => ?_⟩
    have sF := same_new (o := .lst []) nF
    dsimp only [gName]
    show tSeq (tFor _ _ _) _ _ [some (.ref l), some (.ref a), some (.ref W), some (.ref b0), some (.ref F), o5, o6, o7, none] (upd Ga F (.lst []))
    have hF0 : (upd Ga F (.lst [])) F = some (.lst []) := upd_same
    generalize upd Ga F (.lst []) = Gb at *
    have sHGa := sG.trans sa
    have szS : SizQ (stockQ ms (mk.take i)) D nM 97 := fun p hp => ⟨okI.sc p hp, okI.ln p hp⟩
    have pX : PtsOkX (stockQ ms (mk.take i)).length ln := ⟨k60, fun p hp => by rw [lst, lz]; exact kp p hp⟩
    have getP : ∀ j, j < zs.length → ∃ (v : Addr) (ws : List V), zs[j]? = some (.ref v) ∧ Ga v = some (.lst ws) ∧ QL C Ga ws (stq (stockQ ms (mk.take i)) j) := fun j hj => by
      obtain ⟨f, h1, b, ws, e, _, h2, h3⟩ := hEa.2 j _ (List.getElem?_eq_getElem hj)
      have eq : stq (stockQ ms (mk.take i)) j = f := by unfold stq; rw [h1]; rfl
      rw [eq]
      exact ⟨b, ws, by rw [List.getElem?_eq_getElem hj, e], wo_le _ _ h2, RatL.same h3 wo_le⟩
    refine for_sq (H0 := H) (a := b0) (xs := ts) (fun j σ G => ∃ (o5 o6 o7 : Option V) (F : Addr) (fs : List V), σ = [some (.ref l), some (.ref a), some (.ref W), some (.ref b0), some (.ref F), o5, o6, o7, none] ∧ Same Ga G ∧ Ga F = none ∧ G F = some (.lst fs) ∧ QL C G fs (lineQ (stockQ ms (mk.take i)) (ln.take j)))
      (fun R r => ⟨_, rfl, r⟩) (seq_sq hb0) (sHGa.trans sF) ⟨o5, o6, o7, F, [], rfl, sF, nF, hF0, QL.nil⟩ (fun j σ' G ⟨_, _, _, _, _, _, s, _⟩ => sHGa.trans s) (fun j y σ G hy ⟨o5, o6, o7, F, fs, e, s, nF, hF, hQ⟩ => ?_) (fun σ G ⟨o5, o6, o7, F, fs, e, s, nF, hF, hQ⟩ => ?_)
    · subst e
      obtain ⟨p, hp, t, nv, rfl, ht, hn, n1, n2, m1, m2⟩ := hts.2 j y hy
      have pm := List.mem_of_getElem? hp
      obtain ⟨c1, c2, c3, c4⟩ := kp p pm
      obtain ⟨z1, z2, z3, z4, z5, ⟨z6, z7⟩, z8, z9⟩ := part_szX szS pX hp
      obtain ⟨A1, us1, g1, g2, g3⟩ := getP p.1 (by rw [lz]; exact c1)
      obtain ⟨A2, us2, g4, g5, g6⟩ := getP p.2.1 (by rw [lz]; exact c2)
      have b60 : ∀ (j : Nat), j < zs.length → j < 2 ^ 62 := fun j h => by
        have := Nat.le_trans (Nat.le_of_lt h) (show zs.length ≤ 1000 by omega)
        exact Nat.lt_of_le_of_lt this (by decide)
      refine ⟨t, _, rfl, SqT.of (sHGa.trans s _ _ ht), rfl, _, _, rfl, _, _, rfl, _, _, rfl, rfl, ?_⟩
      have ft : ∀ n, n ≤ 97 * (nM * nM) → ∀ d : Int, d.natAbs ≤ D * D → d ≠ 0 → Fit d n := fun n hn d hd d0 => by
        have m2 : nM * nM < 2 ^ 2000 := by
          have := Nat.mul_lt_mul'' okI.mB okI.mB
          rwa [← Nat.pow_add] at this
        have dd : D * D < 2 ^ 63 := Nat.lt_of_le_of_lt (Nat.mul_le_mul_right D (Nat.le_mul_of_pos_left D (by decide : 0 < 6))) okI.dB
        refine ⟨d0, ?_, ?_⟩
        · show d.natAbs < 2 ^ 4000
          exact Nat.lt_of_le_of_lt hd (Nat.lt_trans dd (Nat.pow_lt_pow_right (by decide) (by decide)))
        · have : 97 * (nM * nM) < 2 ^ 7 * 2 ^ 2000 := Nat.mul_lt_mul_of_le_of_lt (by decide) m2 (by decide)
          rw [← Nat.pow_add] at this
          exact Nat.lt_of_le_of_lt hn (Nat.lt_trans this (Nat.pow_lt_pow_right (by decide) (by decide)))
      have D0 := okI.d0
      have DD : D ≤ D * D := Nat.le_mul_of_pos_left D D0
      have MM : nM ≤ 97 * (nM * nM) := by
        rcases Nat.eq_zero_or_pos nM with e | e
        · omega
        · exact Nat.le_trans (Nat.le_mul_of_pos_left nM e) (Nat.le_mul_of_pos_left _ (by decide))
      refine ⟨_, rfl, _, rfl, _, rfl, W, zs, _, .ref A1, rfl, rfl, SqL.of (s _ _ hGa), at_of (j := p.1) rfl g1, _, rfl, _, rfl, W, zs, _, .ref A2, rfl, rfl, SqL.of (s _ _ hGa), at_of (j := p.2.1) rfl g4, ?_⟩
      refine ⟨A1, A2, us1, us2, _, _, (D : Int), (D : Int), nM, nM, rfl, s _ _ g2, s _ _ g5, ML.of_ql (RatL.same g3 s), ML.of_ql (RatL.same g6 s), z6, z8, ft _ MM _ (by rw [Int.natAbs_natCast]; exact DD) (by omega), ft _ MM _ (by rw [Int.natAbs_natCast]; exact DD) (by omega), ft _ (Nat.mul_le_mul_right _ z7) _ (by rw [Int.natAbs_mul, Int.natAbs_natCast]; exact Nat.le_refl _) (by have := Nat.mul_pos D0 D0; intro z; rcases Int.mul_eq_zero.mp z with z | z <;> omega), by omega, by omega, fun c H2 zs2 s2 nc hc hq => ?_⟩
      refine ⟨_, rfl, F, c, fs, zs2, _, _, nv, p.2.2, rfl, hn.same ((sHGa.trans s).trans s2), ⟨c4, ?_⟩, s2 _ _ hF, hc, ML.of_ql (RatL.same hQ s2), ML.of_ql hq, bits_big D0 okI.dB okI.mB (by decide) z2, ?_, bits_big D0 okI.dB okI.mB (by decide) z1, by omega, by omega, fun d H3 ws s3 nd hd hw => ?_⟩
      · exact Nat.lt_of_le_of_lt (show (p.2.2.den : Int).natAbs ≤ 6 by rw [Int.natAbs_natCast]; exact Nat.le_of_dvd (by decide) c3) (by decide)
      · exact (ft _ (Nat.le_refl _) ((D : Int) * (D : Int)) (by rw [Int.natAbs_mul, Int.natAbs_natCast]; exact Nat.le_refl _) (by have := Nat.mul_pos D0 D0; intro z; rcases Int.mul_eq_zero.mp z with z | z <;> omega)).all z4
      · rw [← take_line hp] at hw
        exact ⟨_, _, _, d, ws, rfl, (s.trans s2).trans s3, (s.trans s2).free nd, hd, hw⟩
    subst e
    rw [hts.1, List.take_length] at hQ
    have lf := hQ.len
    have hGW := s _ _ hGa
    have FW : F ≠ W := fun z => by rw [z, hGa] at nF; cases nF
    refine ⟨fun σ' G' => σ' = [some (.ref l), some (.ref a), some (.ref W), some (.ref b0), some (.ref F), o5, o6, o7, none] ∧ G' = G ∧ mk[i]? = some ln, ?_, ?_⟩
    · rcases hcase with hl1 | ⟨lg97, q⟩
      · have pm : lineQ (stockQ ms (mk.take i)) ln ∈ stockQ ms mk' := by
          have := List.mem_of_getElem? (stockQ_at (ms := ms) (at' i ln hl1))
          rwa [tk i iM] at this
        have l97 := (ok.fin _ pm).2
        exact ⟨_, rfl, F, fs, rfl, .inl (SqL.of hF), _, _, rfl, rfl, _, rfl, iteF2 (decide_eq_false (by omega)) ⟨rfl, rfl, hl1⟩⟩
      · exact ⟨_, rfl, F, fs, rfl, .inl (SqL.of hF), _, _, rfl, rfl, _, rfl, iteT2 (decide_eq_true (by omega)) (q _ (sHGa.trans s))⟩
    rintro _ _ ⟨rfl, rfl, hl1⟩
    have ii := (List.getElem?_eq_some_iff.mp hl1).1
    refine ⟨_, rfl, Or.inl ⟨rfl, _, SqL.of hGW⟩, _, rfl, W, zs, _, rfl, rfl, hGW, by rw [lz, sizeLine_eq]; omega, ?_⟩
    refine ⟨_, _, _, _, _, _, rfl, by rw [wo_upd]; exact sma.trans (wo_mono (D := W) s), upd_same, ii, ?_⟩
    rw [wo_upd, show mk.take (i + 1) = mk.take i ++ [ln] from takeS hl1, stockQ_snoc]
    exact (hEa.same ListN.mo (wo_mono (D := W) s)).snoc ⟨F, fs, rfl, sHGa.free nF, by rw [wo_ne FW]; exact hF, RatL.wo hQ hGW⟩
  subst e
  obtain ⟨lu, q⟩ := hF iM
  rw [lu, List.take_length] at hE
  have l1k : 1 ≤ mk.length := by omega
  have lz := hE.1
  rw [stockQ_len] at lz
  have sG : Same H G := sm.trans wo_le
  have hlast : (stockQ ms mk)[(stockQ ms mk).length - 1]? = some (lastQ ms mk) := by
    have e2 := last_at (ms := ms) l1k
    unfold linesQ at e2
    rw [List.getElem?_drop, List.length_drop, stockQ_len] at e2
    rw [stockQ_len, ← e2]
    congr 1
    omega
  obtain ⟨u, hu, c, ws, rfl, nc, hc, hq⟩ := hE.get hlast
  rw [stockQ_len, ← lz] at hu
  refine ⟨_, rfl, 1, rfl, W, zs, -1, _, rfl, rfl, SqL.of hG, at_last hu (by omega), q c G ws sG nc (wo_le _ _ hc) (RatL.same hq wo_le)⟩
end
end K21

namespace K21
open PySem PySem.Spec PyProof.Rows L2 Fp
section
variable {P : Program} {w : World} {K : PySem.W.Frag} {mg : Str → Option Value} {base : Heap} {k : Nat} {C fI fR : Addr}
def MsOk (ms : List (List Rat)) : Prop := 1 ≤ ms.length ∧ ms.length ≤ 3 ∧ ∀ q ∈ ms, MkP q
theorem MkP.all {q : List Rat} (h : MkP q) : Told q ∧ 2 ≤ q.length ∧ q.length ≤ 8 ∧ AllS 1 1000 q := let ⟨d, h1, h2, m⟩ := h; ⟨m.told, by rw [m.len]; omega, by rw [m.len]; omega, m.sz⟩
abbrev D2 : Nat := (szX 1 1000 8 2).1
abbrev E3 : Nat := (szX 1 1000 8 3).1
abbrev M3 : Nat := (szX 1 1000 8 3).2.1
theorem levX : 0 < D2 ∧ 6 * D2 * D2 < 2 ^ 63 ∧ (szX 1 1000 8 2).2.1 ≤ M3 ∧ M3 < 2 ^ 1000 ∧ 0 < E3 ∧ E3 < 2 ^ 63 ∧ (szX 1 1000 8 3).2.2 ≤ 97 ∧ (szX 1 1000 8 2).2.2 ≤ 97 := by decide +kernel
theorem sz_one {D M L : Nat} {st : List (List Rat)} (h : SizQ st 1 1000 8) (n : Nat) (z : List Rat) (hz : z = [] ∨ z = [1]) : SizQ (st ++ List.replicate n z) 1 1000 8 := fun p hp => by
  rcases List.mem_append.mp hp with e | e
  · exact h p e
  · rw [(List.mem_replicate.mp e).2]
    rcases hz with e | e <;> rw [e]
    · exact ⟨fun x hx => (by cases hx), by decide⟩
    · refine ⟨fun x hx => ?_, by decide⟩
      rw [List.mem_singleton.mp hx]
      have := Sc.int (z := 1) (M := 1000) (by decide)
      rwa [Rat.intCast_one] at this
theorem ms_szX {ms : List (List Rat)} (hz : MsOk ms) : SizQ ([1] :: ms) 1 1000 8 := fun p hp => by
  rcases List.mem_cons.mp hp with e | e
  · rw [e]
    refine ⟨fun x hx => ?_, by decide⟩
    rw [List.mem_singleton.mp hx]
    have := Sc.int (z := 1) (M := 1000) (by decide)
    rwa [Rat.intCast_one] at this
  · obtain ⟨_, _, l3, sc⟩ := (hz.2.2 p e).all
    exact ⟨sc, l3⟩
/-- lines that come to nothing or 1, and up to 3 lines of such parts, fit -/
theorem mkOkR {ms : List (List Rat)} (hz : MsOk ms) {n : Nat} {l0 : List PtQ} {z : List Rat} (hn : n ≤ 198) (hl0 : l0.length ≤ 60 ∧ ∀ p ∈ l0, PtOk 1 p) (e0 : ∀ k, lineQ (([1] :: ms) ++ List.replicate k z) l0 = z) (hz1 : z = [] ∨ z = [1]) {mk : List (List PtQ)} (l1 : 1 ≤ mk.length) (l3 : mk.length ≤ 3) (l200 : n + mk.length ≤ 200)
    (ok : ∀ (i : Nat) (ln : List PtQ), mk[i]? = some ln → PtsOkX (ms.length + 1 + n + i) ln) : MkOk ms (List.replicate n l0 ++ mk) D2 E3 M3 := by
  obtain ⟨v0, v1, v2, v3, v4, v5, v6, v7⟩ := levX
  have stn : ∀ k, stockQ ms (List.replicate k l0) = ([1] :: ms) ++ List.replicate k z := fun k => by
    induction k with
    | zero => rw [List.replicate_zero, List.replicate_zero, List.append_nil]; rfl
    | succ k ih => rw [List.replicate_succ', stockQ_snoc, ih, e0, List.replicate_succ', ← List.append_assoc]
  have sta : ∀ mk : List (List PtQ), stockQ ms (List.replicate n l0 ++ mk) = stockQ (ms ++ List.replicate n z) mk :=
    snoc_ind (by rw [List.append_nil, stn]; rfl) fun A x ih => by rw [← List.append_assoc, stockQ_snoc, ih, stockQ_snoc]
  have hb := stock_szX (ms := ms ++ List.replicate n z) (mk := mk) (D := 1) (M := 1000) (L := 8) (by decide) (by decide) (by decide) (sz_one (D := 1) (M := 1) (L := 1) (ms_szX hz) n z hz1) (fun i ln h => by
    rw [List.length_append, List.length_replicate, show ms.length + n + 1 + i = ms.length + 1 + n + i by omega]; exact ok i ln h)
  have td := stockQ_told (ms := ms) fun p h => (hz.2.2 p h).all.1
  have pre : ∀ i, i ≤ n + mk.length → ∃ j, j ≤ mk.length ∧ j + n ≤ max n i ∧ ∀ p ∈ stockQ ms ((List.replicate n l0 ++ mk).take i), p ∈ stockQ (ms ++ List.replicate n z) (mk.take j) := fun i hi => by
    rcases Nat.lt_or_ge i n with l | l
    · refine ⟨0, Nat.zero_le _, by omega, fun p hp => ?_⟩
      rw [List.take_append_of_le_length (by rw [List.length_replicate]; omega), List.take_replicate, stn] at hp
      show p ∈ ([1] :: ms) ++ List.replicate n z
      rcases List.mem_append.mp hp with h | h
      · exact List.mem_append_left _ h
      · rw [(List.mem_replicate.mp h).2]
        exact List.mem_append_right _ (List.mem_replicate.mpr ⟨by omega, rfl⟩)
    · refine ⟨i - n, by omega, by omega, fun p hp => ?_⟩
      rw [List.take_append, List.take_of_length_le (by rw [List.length_replicate]; exact l), List.length_replicate, sta] at hp
      exact hp
  exact { st := fun i hi => by
            rw [List.length_append, List.length_replicate] at hi
            obtain ⟨j, j1, j2, hj⟩ := pre i (by omega)
            have j3 : j ≤ 2 := by omega
            exact ⟨v0, v1, v3, fun p hp => by
              obtain ⟨b, c⟩ := SizQ.toX (by decide) (by decide) (by decide) (hb j j1) j3 p (hj p hp)
              exact fun x hx => (b x hx).mono v2, fun p hp => by
              have := (SizQ.toX (by decide) (by decide) (by decide) (hb j j1) j3 p (hj p hp)).2
              omega, fun p hp => td _ p hp⟩
          fin := fun p hp => by
              rw [sta] at hp
              have := SizQ.toX (by decide) (by decide) (by decide) (hb mk.length (Nat.le_refl _)) l3 p (by rw [List.take_length]; exact hp)
              exact ⟨this.1, by have := this.2; omega⟩
          e0 := v4
          e63 := v5
          l1 := by rw [List.length_append]; omega
          l2 := by rw [List.length_append, List.length_replicate]; omega
          lm := by have := hz.2.1; omega
          m49 := fun p hp => by have := (hz.2.2 p hp).all.2.2.1; omega
          ok := fun i ln hi => by
              rcases Nat.lt_or_ge i n with l | l
              · rw [List.getElem?_append_left (by rw [List.length_replicate]; exact l)] at hi
                rw [(List.mem_replicate.mp (List.mem_of_getElem? hi)).2]
                exact ⟨hl0.1, fun p hp => ⟨Nat.lt_of_lt_of_le (hl0.2 p hp).1 (by omega), Nat.lt_of_lt_of_le (hl0.2 p hp).2.1 (by omega), (hl0.2 p hp).2.2⟩⟩
              · rw [List.getElem?_append_right (by rw [List.length_replicate]; exact l), List.length_replicate] at hi
                obtain ⟨a, b⟩ := ok _ ln hi
                rw [show ms.length + 1 + n + (i - n) = ms.length + 1 + i by omega] at b
                exact ⟨a, b⟩ }
/-- up to 3 lines of such parts fit -/
theorem mkOkX {ms : List (List Rat)} (hz : MsOk ms) {mk : List (List PtQ)} (l1 : 1 ≤ mk.length) (l3 : mk.length ≤ 3) (ok : ∀ (i : Nat) (ln : List PtQ), mk[i]? = some ln → PtsOkX (ms.length + 1 + i) ln) : MkOk ms mk D2 E3 M3 := by
  have := mkOkR hz (n := 0) (l0 := []) (z := []) (by decide) ⟨by decide, fun p hp => (by cases hp)⟩ (fun k => rfl) (.inl rfl) l1 l3 (by omega) ok
  exact this
/-! ### what the values are made of -/
def CoefOk (C : Addr) (H : Hp) (c : V) : Prop := isNum H c = true → ∃ x, NumQ C H c x ∧ okS x.num ∧ okS (x.den : Int) ∧ x.den ∣ 6 ∧ x.num.natAbs < 2 ^ 100
def Pv (C : Addr) (H : Hp) (v : V) : Prop := Sk C H 2 v ∧ ∀ a b c, tupOf H v = some [a, b, c] → CoefOk C H c
def Lv (C : Addr) (H : Hp) (v : V) : Prop := (itemsOf H v = none ∧ ∃ d, Sk C H d v) ∨ ∃ a us, v = .ref a ∧ (H a = some (.lst us) ∨ H a = some (.tup us)) ∧ us.length ≤ 61 ∧ ∀ u ∈ us, Pv C H u
def Mv (C : Addr) (H : Hp) (v : V) : Prop := (itemsOf H v = none ∧ ∃ d, Sk C H d v) ∨ ∃ a us, v = .ref a ∧ (H a = some (.lst us) ∨ H a = some (.tup us)) ∧ us.length ≤ 3 ∧ ∀ u ∈ us, Lv C H u
theorem Lv.any {H : Hp} {v : V} (h : Lv C H v) : AnyL C H v := h.imp id fun ⟨a, us, h1, h2, l, h3⟩ => ⟨a, us, h1, h2, by omega, fun u hu => (h3 u hu).1⟩
theorem pos_nat {m : Nat} {v : V} (h : isPosV m v = true) : ∃ j : Nat, v = .int (j : Nat) ∧ j < m := by
  cases v with
  | int i =>
    have h : (decide (0 ≤ i) && decide (i < (m : Nat))) = true := h
    rw [Bool.and_eq_true, decide_eq_true_eq, decide_eq_true_eq] at h
    exact ⟨i.toNat, by rw [Int.toNat_of_nonneg h.1], by omega⟩
  | _ => cases h
theorem Pv.part {H : Hp} {v : V} {m : Nat} (h : Pv C H v) (e : isPartV H m v = true) (lm : m ≤ 1000) : ∃ p, PartR C H v p ∧ p.1 < m ∧ p.2.1 < m ∧ p.2.2.den ∣ 6 ∧ p.2.2.num.natAbs < 2 ^ 100 := by
  unfold isPartV at e
  cases q : tupOf H v with
  | none => rw [q] at e; cases e
  | some xs =>
    rw [q] at e
    match xs, e, q with
    | [a, b, c], e, q =>
      have e : ((isPosV m a && isPosV m b) && isNum H c) = true := e
      rw [Bool.and_eq_true, Bool.and_eq_true] at e
      obtain ⟨⟨e1, e2⟩, e3⟩ := e
      obtain ⟨i, rfl, hi⟩ := pos_nat e1
      obtain ⟨j, rfl, hj⟩ := pos_nat e2
      obtain ⟨x, n1, n2, n3, n4, n5⟩ := h.2 _ _ _ q e3
      obtain ⟨t, rfl, ht, _⟩ := tupOf_sk h.1 q
      exact ⟨(i, j, x), ⟨t, c, rfl, ht, n1, n2, n3, by show i < _; omega, by show j < _; omega⟩, hi, hj, n4, n5⟩
theorem Lv.line {H : Hp} {v : V} {m : Nat} (h : Lv C H v) (e : isLineV H m v = true) (lm : m ≤ 1000) : ∃ ln, LineR C H v ln ∧ PtsOkX m ln := by
  rcases h with ⟨h1, _⟩ | ⟨a, us, rfl, ha, l61, hu⟩
  · unfold isLineV at e; rw [h1] at e; cases e
  · unfold isLineV at e
    rw [items_lt ha] at e
    have e : (decide (us.length ≤ 60) && us.all (isPartV H m)) = true := e
    rw [Bool.and_eq_true, decide_eq_true_eq, List.all_eq_true] at e
    obtain ⟨l60, ea⟩ := e
    have key : ∀ us' : List V, (∀ u ∈ us', u ∈ us) → ∃ ln, Ea (PartR C) H us' ln ∧ ∀ p ∈ ln, p.1 < m ∧ p.2.1 < m ∧ p.2.2.den ∣ 6 ∧ p.2.2.num.natAbs < 2 ^ 100 := fun us' => by
      induction us' with
      | nil => exact fun _ => ⟨[], Ea.nil, fun p hp => (by cases hp)⟩
      | cons u us' ih =>
        intro hs
        obtain ⟨ln, h1, h2⟩ := ih fun x hx => hs x (List.mem_cons_of_mem _ hx)
        obtain ⟨p, hp, hq⟩ := (hu u (hs u List.mem_cons_self)).part (ea u (hs u List.mem_cons_self)) lm
        refine ⟨p :: ln, (Ea.one hp).app h1, fun r hr => ?_⟩
        rcases List.mem_cons.mp hr with z | z
        · rw [z]; exact hq
        · exact h2 r z
    obtain ⟨ln, h1, h2⟩ := key us fun _ h => h
    exact ⟨ln, ⟨a, us, rfl, ha, h1⟩, by rw [← h1.1]; exact l60, h2⟩
/-- lines that are, as far as they go -/
theorem prefix_of {H : Hp} {m : Nat} (lm : m ≤ 900) : ∀ us : List V, us.length ≤ 3 → (∀ u ∈ us, Lv C H u) → ∃ mk : List (List PtQ), mk.length ≤ us.length ∧ Ea (LineR C) H (us.take mk.length) mk ∧ (∀ (i : Nat) (ln : List PtQ), mk[i]? = some ln → PtsOkX (m + i) ln) ∧ (mk.length = us.length ∨ ∃ u, us[mk.length]? = some u ∧ isLineV H (m + mk.length) u = false) :=
  snoc_ind (fun _ _ => ⟨[], Nat.le_refl _, Ea.nil, fun i ln h => (by cases h), .inl rfl⟩) fun A x ih l h => by
    rw [List.length_append, List.length_singleton] at l
    obtain ⟨mk, h1, h2, h3, h4⟩ := ih (by omega) fun u hu => h u (List.mem_append_left _ hu)
    have tk : (A ++ [x]).take mk.length = A.take mk.length := List.take_append_of_le_length h1
    rcases h4 with h4 | ⟨u, h4, h5⟩
    · cases e : isLineV H (m + mk.length) x with
      | false =>
        exact ⟨mk, by rw [List.length_append]; omega, by rw [tk]; exact h2, h3, .inr ⟨x, by rw [h4, List.getElem?_append_right (Nat.le_refl _), Nat.sub_self]; rfl, e⟩⟩
      | true =>
        obtain ⟨ln, g1, g2⟩ := (h x (List.mem_append_right _ (List.mem_singleton.mpr rfl))).line e (by omega)
        refine ⟨mk ++ [ln], by rw [List.length_append, List.length_append, h4]; exact Nat.le_refl _, ?_, fun i l hi => ?_, .inl (by rw [List.length_append, List.length_append, h4]; rfl)⟩
        · rw [List.length_append, h4]
          show Ea (LineR C) H ((A ++ [x]).take (A.length + 1)) _
          rw [List.take_of_length_le (by rw [List.length_append]; exact Nat.le_refl _)]
          rw [h4, List.take_length] at h2
          exact h2.snoc g1
        · by_cases z : i < mk.length
          · rw [List.getElem?_append_left z] at hi
            exact h3 i l hi
          · rw [List.getElem?_append_right (by omega)] at hi
            have : i = mk.length := by
              have := (List.getElem?_eq_some_iff.mp hi).1
              simp at this
              omega
            subst this
            rw [Nat.sub_self] at hi
            obtain rfl := Option.some.inj hi
            exact g2
    · exact ⟨mk, by rw [List.length_append]; omega, by rw [tk]; exact h2, h3, .inr ⟨u, by rw [List.getElem?_append_left (List.getElem?_eq_some_iff.mp h4).1]; exact h4, h5⟩⟩
/-- a making, or none -/
theorem Mv.what {H : Hp} {v : V} {ms : List (List Rat)} (hz : MsOk ms) (h : Mv C H v) : ∃ mk : List (List PtQ), (MakR C H v mk ∧ MkOk ms mk D2 E3 M3) ∨ (BadM C H v ms.length mk ∧ MkOk ms (mk ++ [[]]) D2 E3 M3 ∧ ∀ us, itemsOf H v = some us → us.length ≤ 200 ∧ ∀ x ∈ us, AnyL C H x) := by
  have lz := hz.2.1
  have e0 : ∀ n, PtsOkX n [] := fun n => ⟨Nat.zero_le _, fun p h => (by cases h)⟩
  have one : ∀ (i : Nat) (ln : List PtQ), ([[]] : List (List PtQ))[i]? = some ln → PtsOkX (ms.length + 1 + i) ln := fun i ln h => by
    match i, h with
    | 0, h => obtain rfl := Option.some.inj h; exact e0 _
  rcases h with ⟨h1, h2⟩ | ⟨a, us, rfl, ha, l3, hu⟩
  · exact ⟨[], .inr ⟨.inl ⟨h1, h2⟩, mkOkX hz (by decide) (by decide) one, fun us h => by rw [h1] at h; cases h⟩⟩
  · obtain ⟨mk, h1, h2, h3, h4⟩ := prefix_of (m := ms.length + 1) (by omega) us l3 hu
    have hA : ∀ us', itemsOf H (.ref a) = some us' → us'.length ≤ 200 ∧ ∀ x ∈ us', AnyL C H x := fun us' h => by
      rw [items_lt ha] at h
      obtain rfl := Option.some.inj h
      exact ⟨by omega, fun x hx => (hu x hx).any⟩
    by_cases u0 : us = []
    · subst u0
      exact ⟨[], .inr ⟨.inr ⟨a, _, rfl, ha, .inl rfl⟩, mkOkX hz (by decide) (by decide) one, hA⟩⟩
    · rcases h4 with h4 | ⟨u, h4, h5⟩
      · rw [h4, List.take_length] at h2
        exact ⟨mk, .inl ⟨⟨a, us, rfl, ha, h2⟩, mkOkX hz (by have := List.length_pos_iff.mpr u0; omega) (by omega) h3⟩⟩
      · have il := (List.getElem?_eq_some_iff.mp h4).1
        refine ⟨mk, .inr ⟨.inr ⟨a, us, rfl, ha, .inr ⟨by omega, h2, u, h4, (hu u (List.mem_of_getElem? h4)).any, h5⟩⟩, mkOkX hz (by rw [List.length_append]; simp) (by rw [List.length_append]; show _ + 1 ≤ 3; omega) (fun i ln h => ?_), hA⟩⟩
        by_cases z : i < mk.length
        · rw [List.getElem?_append_left z] at h
          exact h3 i ln h
        · rw [List.getElem?_append_right (by omega)] at h
          have := (List.getElem?_eq_some_iff.mp h).1
          simp at this
          have e : i - mk.length = 0 := by omega
          rw [e] at h
          obtain rfl := Option.some.inj h
          exact e0 _
theorem CoefOk.same {H H' : Hp} {d : Nat} {c : V} (k : Sk C H d c) (h : CoefOk C H c) (e : Same H H') : CoefOk C H' c := fun n => by
  rw [isNum_same k e] at n
  obtain ⟨x, h1, h2⟩ := h n
  exact ⟨x, h1.same e, h2⟩
theorem Pv.same {H H' : Hp} {v : V} (h : Pv C H v) (e : Same H H') : Pv C H' v := ⟨h.1.same e, fun a b c q => by
  rw [tupOf_same h.1 e] at q
  exact CoefOk.same ((tupOf_sk h.1 q).choose_spec.2.2 c (by simp)) (h.2 a b c q) e⟩
theorem Lv.same {H H' : Hp} {v : V} (h : Lv C H v) (e : Same H H') : Lv C H' v := by
  rcases h with ⟨h1, d, h2⟩ | ⟨a, us, h1, h2, l, h3⟩
  · exact .inl ⟨by rw [itemsOf_same h2 e]; exact h1, d, h2.same e⟩
  · exact .inr ⟨a, us, h1, h2.imp (e _ _) (e _ _), l, fun u hu => (h3 u hu).same e⟩
theorem Mv.same {H H' : Hp} {v : V} (h : Mv C H v) (e : Same H H') : Mv C H' v := by
  rcases h with ⟨h1, d, h2⟩ | ⟨a, us, h1, h2, l, h3⟩
  · exact .inl ⟨by rw [itemsOf_same h2 e]; exact h1, d, h2.same e⟩
  · exact .inr ⟨a, us, h1, h2.imp (e _ _) (e _ _), l, fun u hu => (h3 u hu).same e⟩
/-- an item of a part -/
def It (C : Addr) (H : Hp) (y : V) : Prop := Sk C H 1 y ∧ CoefOk C H y
theorem It.same {H H' : Hp} {y : V} (h : It C H y) (e : Same H H') : It C H' y := ⟨h.1.same e, CoefOk.same h.1 h.2 e⟩
theorem It.int {H : Hp} {i : Int} (h : i.natAbs < 2 ^ 100) : It C H (.int i) := ⟨Sk.int (Nat.lt_trans h (by decide)), fun _ => ⟨(i : Rat), NumQ.int, Nat.lt_trans (show i.natAbs < 2 ^ 100 from h) (by decide), by show (1 : Int).natAbs < 10 ^ 50; decide, ⟨6, rfl⟩, h⟩⟩
theorem It.no {H : Hp} {y : V} (h : Sk C H 1 y) (n : isNum H y = false) : It C H y := ⟨h, fun z => by rw [n] at z; cases z⟩
end
end K21

namespace K21
open PySem PySem.Spec PyProof.Rows L2 Fp
variable {K : PySem.W.Frag}
abbrev PvT (C : Addr) := Pv C
abbrev LvT (C : Addr) := Lv C
abbrev MvT (C : Addr) := Mv C
theorem PvT.same {C : Addr} {H H' : Hp} {u : V} (h : PvT C H u) (e : Same H H') : PvT C H' u := Pv.same h e
theorem LvT.same {C : Addr} {H H' : Hp} {u : V} (h : LvT C H u) (e : Same H H') : LvT C H' u := Lv.same h e
theorem MvT.same {C : Addr} {H H' : Hp} {u : V} (h : MvT C H u) (e : Same H H') : MvT C H' u := Mv.same h e
theorem pv_seq {C : Addr} {H : Hp} {t : Addr} {us : List V} (h : H t = some (.lst us) ∨ H t = some (.tup us)) (l : us.length ≤ 4) (hu : ∀ y ∈ us, It C H y) : PvT C H (.ref t) := by
  refine ⟨?_, fun a b c q => ?_⟩
  · rcases h with h | h
    · exact Sk.lst (d := 1) h (by omega) fun y hy => (hu y hy).1
    · exact Sk.tup (d := 1) h (by omega) fun y hy => (hu y hy).1
  · unfold tupOf at q
    rcases h with h | h
    · simp only [h] at q; cases q
    · simp only [h] at q
      obtain rfl := Option.some.inj q
      exact (hu c (by simp)).2
theorem lv_seq {C : Addr} {H : Hp} {t : Addr} {us : List V} (h : H t = some (.lst us) ∨ H t = some (.tup us)) (l : us.length ≤ 61) (hu : ∀ y ∈ us, PvT C H y) : LvT C H (.ref t) := .inr ⟨t, us, rfl, h, l, hu⟩
theorem mv_seq {C : Addr} {H : Hp} {t : Addr} {us : List V} (h : H t = some (.lst us) ∨ H t = some (.tup us)) (l : us.length ≤ 3) (hu : ∀ y ∈ us, LvT C H y) : MvT C H (.ref t) := .inr ⟨t, us, rfl, h, l, hu⟩
theorem pv_none {C : Addr} {H : Hp} {v : V} (h : Sk C H 1 v) (n : tupOf H v = none) : PvT C H v := ⟨h.more (by omega), fun a b c q => by rw [n] at q; cases q⟩
theorem lv_none {C : Addr} {H : Hp} {v : V} (h : Sk C H 1 v) (n : itemsOf H v = none) : LvT C H v := .inl ⟨n, 1, h⟩
theorem mv_none {C : Addr} {H : Hp} {v : V} (h : Sk C H 1 v) (n : itemsOf H v = none) : MvT C H v := .inl ⟨n, 1, h⟩
section
variable {C p : Addr} {t : TE} {ts : TA} {σ : L2.St} {H : Hp} {S : List Addr} {n : Nat} {ψ χ : Hp → V → Prop}
/-- what is shown in brackets, of any kind: list and tuple -/
theorem gs_lst (hs : ∀ {H : Hp} {a : Addr} {us : List V}, (H a = some (.lst us) ∨ H a = some (.tup us)) → us.length ≤ n → (∀ y ∈ us, ψ H y) → χ H (.ref a)) (mo : ∀ {A B : Hp} {v : V}, ψ A v → Same A B → ψ B v) (kn : Kn S H) (hn : n ≤ 1000)
    (h : GvA ts σ H fun vs H' => vs.length = n ∧ ∀ v ∈ vs, ψ (wos S H') v) : Gv (tLst ts) σ H fun v H' => χ (wos S H') v := fun Q q =>
  h _ fun vs H1 s1 f1 => ⟨by rw [f1.1, sizeLine_eq]; omega, fun c nc => q _ _ (s1.trans (same_new nc)) (hs (us := vs) (.inl (by rw [wos_ne ((kn.same s1).new nc)]; exact upd_same)) (by rw [f1.1]; exact Nat.le_refl _) fun y hy => mo (f1.2 y hy) (wos_same (same_new nc)))⟩
theorem gs_tup (hs : ∀ {H : Hp} {a : Addr} {us : List V}, (H a = some (.lst us) ∨ H a = some (.tup us)) → us.length ≤ n → (∀ y ∈ us, ψ H y) → χ H (.ref a)) (mo : ∀ {A B : Hp} {v : V}, ψ A v → Same A B → ψ B v) (kn : Kn S H) (hn : n ≤ 1000)
    (h : GvA ts σ H fun vs H' => vs.length = n ∧ ∀ v ∈ vs, ψ (wos S H') v) : Gv (tTup ts) σ H fun v H' => χ (wos S H') v := fun Q q =>
  h _ fun vs H1 s1 f1 => ⟨by rw [f1.1, sizeLine_eq]; omega, fun c nc => q _ _ (s1.trans (same_new nc)) (hs (us := vs) (.inr (by rw [wos_ne ((kn.same s1).new nc)]; exact upd_same)) (by rw [f1.1]; exact Nat.le_refl _) fun y hy => mo (f1.2 y hy) (wos_same (same_new nc)))⟩
theorem ga_cons (mo : ∀ {A B : Hp} {v : V}, ψ A v → Same A B → ψ B v) (h1 : Gv t σ H fun v H' => ψ (wos S H') v) (h2 : ∀ H1, Same H H1 → GvA ts σ H1 fun vs H' => vs.length = n ∧ ∀ v ∈ vs, ψ (wos S H') v) : GvA (tCons t ts) σ H fun vs H' => vs.length = n + 1 ∧ ∀ v ∈ vs, ψ (wos S H') v :=
  gva_cons (ψ := fun v G => ψ (wos S G) v) (fun v A B s f => mo f (wos_same s)) h1 h2
theorem ga_nil : GvA tNil σ H fun vs H' => vs.length = 0 ∧ ∀ v ∈ vs, ψ (wos S H') v := gva_nil (ψ := fun v G => ψ (wos S G) v)
theorem gs_c {v : V} (h : ∀ G, ψ G v) : Gv (tC v) σ H fun v H' => ψ (wos S H') v := fun Q q => q v H (Same.refl _) (h _)
theorem gs_lstW (mo : ∀ {A B : Hp} {v : V}, ψ A v → Same A B → ψ B v) (kn : Kn S H) (hn : n ≤ 1000) (h : GvA ts σ H fun vs H' => vs.length = n ∧ ∀ v ∈ vs, ψ (wos S H') v) : Gv (tLst ts) σ H fun v H' => ∃ a ys, v = .ref a ∧ H a = none ∧ a ∉ S ∧ H' a = some (.lst ys) ∧ ys.length = n ∧ ∀ y ∈ ys, ψ (wos (a :: S) H') y := fun Q q =>
  h _ fun vs H1 s1 f1 => ⟨by rw [f1.1, sizeLine_eq]; omega, fun a na => by
    have np : a ∉ S := (kn.same s1).new na
    refine q _ _ (s1.trans (same_new na)) ⟨a, vs, rfl, s1.free na, np, upd_same, f1.1, fun y hy => mo (f1.2 y hy) ?_⟩
    refine (wos_sub (T := a :: S) fun b hb => ?_).trans (wos_same (same_new na))
    rcases List.mem_cons.mp hb with z | z
    · exact .inr (z ▸ na)
    · exact .inl z⟩
/-- a list kept apart from S, its items in view -/
theorem gs_lstV (mo : ∀ {A B : Hp} {v : V}, ψ A v → Same A B → ψ B v) (kn : Kn S H) (hn : n ≤ 1000) (h : GvA ts σ H fun vs H' => vs.length = n ∧ ∀ v ∈ vs, ψ (wos S H') v) : Gv (tLst ts) σ H fun v H' => ∃ a ys, v = .ref a ∧ a ∉ S ∧ H' a = some (.lst ys) ∧ ys.length = n ∧ ∀ y ∈ ys, ψ (wos S H') y := fun Q q =>
  h _ fun vs H1 s1 f1 => ⟨by rw [f1.1, sizeLine_eq]; omega, fun a na => q _ _ (s1.trans (same_new na)) ⟨a, vs, rfl, (kn.same s1).new na, upd_same, f1.1, fun y hy => mo (f1.2 y hy) (wos_same (same_new na))⟩⟩
theorem gm_lst (kn : Kn S H) (hn : n ≤ 3) (h : GvA ts σ H fun vs H' => vs.length = n ∧ ∀ v ∈ vs, LvT C (wos S H') v) : Gv (tLst ts) σ H fun v H' => MvT C (wos S H') v := gs_lst (ψ := LvT C) (χ := MvT C) (fun a b c => mv_seq a (by omega) c) LvT.same kn (by omega) h
theorem gm_tup (kn : Kn S H) (hn : n ≤ 3) (h : GvA ts σ H fun vs H' => vs.length = n ∧ ∀ v ∈ vs, LvT C (wos S H') v) : Gv (tTup ts) σ H fun v H' => MvT C (wos S H') v := gs_tup (ψ := LvT C) (χ := MvT C) (fun a b c => mv_seq a (by omega) c) LvT.same kn (by omega) h
theorem gl_lst (kn : Kn S H) (hn : n ≤ 4) (h : GvA ts σ H fun vs H' => vs.length = n ∧ ∀ v ∈ vs, PvT C (wos S H') v) : Gv (tLst ts) σ H fun v H' => LvT C (wos S H') v := gs_lst (ψ := PvT C) (χ := LvT C) (fun a b c => lv_seq a (by omega) c) PvT.same kn (by omega) h
theorem gl_tup (kn : Kn S H) (hn : n ≤ 4) (h : GvA ts σ H fun vs H' => vs.length = n ∧ ∀ v ∈ vs, PvT C (wos S H') v) : Gv (tTup ts) σ H fun v H' => LvT C (wos S H') v := gs_tup (ψ := PvT C) (χ := LvT C) (fun a b c => lv_seq a (by omega) c) PvT.same kn (by omega) h
theorem gp_lst (kn : Kn S H) (hn : n ≤ 4) (h : GvA ts σ H fun vs H' => vs.length = n ∧ ∀ v ∈ vs, It C (wos S H') v) : Gv (tLst ts) σ H fun v H' => PvT C (wos S H') v := gs_lst (ψ := It C) (χ := PvT C) (fun a b c => pv_seq a (by omega) c) It.same kn (by omega) h
theorem gp_tup (kn : Kn S H) (hn : n ≤ 4) (h : GvA ts σ H fun vs H' => vs.length = n ∧ ∀ v ∈ vs, It C (wos S H') v) : Gv (tTup ts) σ H fun v H' => PvT C (wos S H') v := gs_tup (ψ := It C) (χ := PvT C) (fun a b c => pv_seq a (by omega) c) It.same kn (by omega) h
theorem gs_var {i : Nat} {v : V} (hv : σ[i]? = some (some v)) (h : ψ (wos S H) v) : Gv (tVar i) σ H fun v H' => ψ (wos S H') v := fun Q q => ⟨v, hv, q _ _ (Same.refl _) h⟩
theorem git_var {i : Nat} {z : Int} (hv : σ[i]? = some (some (.int z))) (h : z.natAbs < 100) : Gv (tVar i) σ H fun v H' => It C (wos S H') v := fun Q q => ⟨_, hv, q _ _ (Same.refl _) (It.int (Nat.lt_trans h (by decide)))⟩
theorem git_neg {z : Int} (h : (-z).natAbs < 100) : Gv (tUn (rU fun i => V.int (-i)) (tC (.int z))) σ H fun v H' => It C (wos S H') v := fun Q q => ⟨z, rfl, q _ _ (Same.refl _) (It.int (Nat.lt_trans h (by decide)))⟩
theorem gm_d0 (kn : Kn S H) : Gv tDNewK σ H fun v H' => MvT C (wos S H') v := fun Q q => fun c nc => by
  have hc : (wos S (upd H c (.dK []))) c = some (.dK []) := by rw [wos_ne (kn.new nc)]; exact upd_same
  exact q _ _ (same_new nc) (mv_none ⟨_, Sh.dct (ds := []) hc (by simp) (fun p hp => by cases hp), Nat.le_trans (by decide) (Bz_ge 1)⟩ (by unfold itemsOf; simp only [hc]))
/-- an own number of an int -/
theorem git_rat {z : Int} (kn : Kn S H) (h : z.natAbs < 100) : Gv (tRat C (tCons (tC (.int z)) tNil)) σ H fun v H' => It C (wos S H') v := fun Q q => ⟨z, rfl, fun m H1 nm sm rm => q _ _ sm (by
  have rm : RQ C H1 m (z : Rat) := rm
  obtain ⟨dx, e⟩ := rm
  have r2 : RQ C (wos S H1) m (z : Rat) := ⟨dx, by rw [wos_ne (kn.new nm)]; exact e⟩
  exact ⟨Sk.own r2 (show (z : Rat).num.natAbs < _ from Nat.lt_trans h (by decide)) (by show (1 : Int).natAbs < _; decide) RQ.red, fun _ => ⟨_, r2.nq, Nat.lt_trans (show (z : Rat).num.natAbs < 100 from h) (by decide), by show (1 : Int).natAbs < 10 ^ 50; decide, ⟨6, rfl⟩, Nat.lt_trans (show (z : Rat).num.natAbs < 100 from h) (by decide)⟩⟩)⟩
end
end K21

namespace K21
open PySem PySem.Spec PyProof.Rows L2 Fp
variable {K : PySem.W.Frag}
section
variable {α : Type} {R : Hp → V → α → Prop} {t t1 t2 : TE} {ts : TA} {σ : L2.St} {H : Hp} {S : List Addr} {x : α} {xs ys : List α}
/-- a list whose items are of one kind -/
def LO (R : Hp → V → α → Prop) (H : Hp) (v : V) (xs : List α) : Prop := ∃ a us, v = .ref a ∧ H a = some (.lst us) ∧ Ea R H us xs
theorem LO.mo (m : Mo R) : Mo (LO R) := fun H H' v p ⟨a, us, h1, h2, h3⟩ e => ⟨a, us, h1, e _ _ h2, h3.same m e⟩
theorem LO.seq {v : V} (h : LO R H v xs) : SeqR R H v xs := let ⟨a, us, h1, h2, h3⟩ := h; ⟨a, us, h1, .inl h2, h3⟩
theorem LO.imp {R' : Hp → V → α → Prop} {v : V} (h : LO R H v xs) (f : ∀ v x, R H v x → R' H v x) : LO R' H v xs := let ⟨a, us, h1, h2, h3⟩ := h; ⟨a, us, h1, h2, h3.imp f⟩
theorem ge_nil : GvA tNil σ H fun vs H' => Ea R (wos S H') vs ([] : List α) := fun Q q => q [] H (Same.refl _) Ea.nil
theorem ge_cons (m : Mo R) (h1 : Gv t σ H fun v H' => R (wos S H') v x) (h2 : ∀ H1, Same H H1 → GvA ts σ H1 fun vs H' => Ea R (wos S H') vs xs) : GvA (tCons t ts) σ H fun vs H' => Ea R (wos S H') vs (x :: xs) := fun Q q =>
  h1 _ fun v H1 s1 f1 => h2 H1 s1 _ fun vs H2 s2 f2 => q (v :: vs) H2 (s1.trans s2) ((Ea.one (m _ _ _ _ f1 (wos_same s2))).app f2)
theorem ge_lst (m : Mo R) (kn : Kn S H) (l : xs.length ≤ 1000) (h : GvA ts σ H fun vs H' => Ea R (wos S H') vs xs) : Gv (tLst ts) σ H fun v H' => LO R (wos S H') v xs := fun Q q =>
  h _ fun vs H1 s1 f1 => ⟨by rw [f1.1, sizeLine_eq]; omega, fun a na => q _ _ (s1.trans (same_new na)) ⟨a, vs, rfl, by rw [wos_ne ((kn.same s1).new na)]; exact upd_same, f1.same m (wos_same (same_new na))⟩⟩
/-- a list that is to be changed: its items in view without it -/
theorem ge_lstW (m : Mo R) (l : xs.length ≤ 1000) (h : GvA ts σ H fun vs H' => Ea R (wos [] H') vs xs) : Gv (tLst ts) σ H fun v H' => ∃ a us, v = .ref a ∧ H a = none ∧ H' a = some (.lst us) ∧ Ea R (wos [a] H') us xs := fun Q q =>
  h _ fun vs H1 s1 f1 => ⟨by rw [f1.1, sizeLine_eq]; omega, fun a na => q _ _ (s1.trans (same_new na)) ⟨a, vs, rfl, s1.free na, upd_same, f1.same m ((wos_sub (T := [a]) fun b hb => by rw [List.mem_singleton.mp hb]; exact .inr na).trans (wos_same (same_new na)))⟩⟩
theorem ge_cat (m : Mo R) (kn : Kn S H) (l : xs.length + ys.length ≤ 1000) (h1 : Gv t1 σ H fun v H' => LO R (wos S H') v xs) (h2 : ∀ H1, Same H H1 → Gv t2 σ H1 fun v H' => LO R (wos S H') v ys) : Gv (tOp rCat t1 t2) σ H fun v H' => LO R (wos S H') v (xs ++ ys) := fun Q q =>
  h1 _ fun v H1 s1 f1 => h2 H1 s1 _ fun u H2 s2 f2 => by
    obtain ⟨a, us, rfl, e3, e4⟩ := LO.mo m _ _ _ _ f1 (wos_same s2)
    obtain ⟨b, zs, rfl, g3, g4⟩ := f2
    have l1 := e4.1
    have l2 := g4.1
    refine ⟨a, b, us, zs, rfl, rfl, (wos_some.mp e3).2, (wos_some.mp g3).2, by rw [sizeLine_eq]; omega, fun c nc => ?_⟩
    have s3 := (s1.trans s2).trans (same_new (o := .lst (us ++ zs)) nc)
    exact q _ _ s3 ⟨c, us ++ zs, rfl, by rw [wos_ne ((kn.same (s1.trans s2)).new nc)]; exact upd_same, (e4.app g4).same m (wos_same (same_new nc))⟩
theorem ge_var {i : Nat} {v : V} (hv : σ[i]? = some (some v)) (h : R (wos S H) v x) : Gv (tVar i) σ H fun v H' => R (wos S H') v x := fun Q q => ⟨v, hv, q _ _ (Same.refl _) h⟩
end
section
variable {C : Addr} {σ : L2.St} {H : Hp} {S : List Addr}
theorem ge_partT {i j : Nat} {k : Int} {q : Rat} {t : TE} (kn : Kn S H) (ht : ∀ Q : VK, Q (.int k) H → t σ H Q) (e : (k : Rat) = q) (hi : i < 10 ^ 6) (hj : j < 10 ^ 6) (hk : k.natAbs < 10 ^ 50) : Gv (tTup (tCons (tC (.int i)) (tCons (tC (.int j)) (tCons t tNil)))) σ H fun v H' => PartR C (wos S H') v (i, j, q) := fun Q q =>
  ht _ ⟨by show 3 ≤ sizeLine; decide, fun c nc => q _ _ (same_new nc) ⟨c, .int k, rfl, by rw [wos_ne (kn.new nc)]; exact upd_same, by rw [← e]; exact ⟨NumQ.int, hk, by show (1 : Int).natAbs < 10 ^ 50; decide, hi, hj⟩⟩⟩
theorem ge_part {i j : Nat} {k : Int} {q : Rat} (kn : Kn S H) (e : (k : Rat) = q) (hi : i < 10 ^ 6) (hj : j < 10 ^ 6) (hk : k.natAbs < 10 ^ 50) : Gv (tTup (tCons (tC (.int i)) (tCons (tC (.int j)) (tCons (tC (.int k)) tNil)))) σ H fun v H' => PartR C (wos S H') v (i, j, q) :=
  ge_partT kn (fun Q q => q) e hi hj hk
theorem ge_partN {i j : Nat} {k : Int} {q : Rat} (kn : Kn S H) (e : ((-k : Int) : Rat) = q) (hi : i < 10 ^ 6) (hj : j < 10 ^ 6) (hk : (-k).natAbs < 10 ^ 50) : Gv (tTup (tCons (tC (.int i)) (tCons (tC (.int j)) (tCons (tUn (rU fun i => V.int (-i)) (tC (.int k))) tNil)))) σ H fun v H' => PartR C (wos S H') v (i, j, q) :=
  ge_partT kn (fun Q q => ⟨k, rfl, q⟩) e hi hj hk
end

abbrev LP (C : Addr) := LO (PartR C)
abbrev MP (C : Addr) := LO (LP C)
theorem LP.mo {C : Addr} : Mo (LP C) := LO.mo PartR.mo
theorem MP.mo {C : Addr} : Mo (MP C) := LO.mo LP.mo
theorem MP.mak {C : Addr} {H : Hp} {v : V} {mk : List (List PtQ)} (h : MP C H v mk) : MakR C H v mk := (h.imp fun _ _ => LO.seq).seq
/-- a small number -/
def NumS (C : Addr) (H : Hp) (v : V) (q : Rat) : Prop := NumQ C H v q ∧ q.den ∣ 6 ∧ q.num.natAbs ≤ 3
theorem NumS.mo {C : Addr} : Mo (NumS C) := fun H H' v q ⟨h1, h2⟩ e => ⟨h1.same e, h2⟩
theorem NumS.int {C : Addr} {H : Hp} {z : Int} (h : z.natAbs ≤ 3) : NumS C H (.int z) (z : Rat) := ⟨NumQ.int, ⟨6, rfl⟩, h⟩
theorem NumS.ok {C : Addr} {H : Hp} {v : V} {q : Rat} (h : NumS C H v q) : okS q.num ∧ okS (q.den : Int) := ⟨Nat.lt_of_le_of_lt h.2.2 (by decide), by show (q.den : Int).natAbs < 10 ^ 50; rw [Int.natAbs_natCast]; exact Nat.lt_of_le_of_lt (Nat.le_of_dvd (by decide) h.2.1) (by decide)⟩
theorem NumS.it {C : Addr} {H : Hp} {v : V} {q : Rat} (h : NumS C H v q) : It C H v := ⟨(numq_sk h.1 h.ok.1 h.ok.2).1.more (by omega), fun _ => ⟨q, h.1, h.ok.1, h.ok.2, h.2.1, Nat.lt_of_le_of_lt h.2.2 (by decide)⟩⟩
section
variable {C : Addr} {σ : L2.St} {H : Hp} {S : List Addr}
theorem ge_partG {i j : Nat} {q : Rat} {t : TE} (kn : Kn S H) (ht : Gv t σ H fun v H' => NumS C (wos S H') v q) (hi : i < 10 ^ 6) (hj : j < 10 ^ 6) : Gv (tTup (tCons (tC (.int i)) (tCons (tC (.int j)) (tCons t tNil)))) σ H fun v H' => PartR C (wos S H') v (i, j, q) := fun Q q =>
  ht _ fun v H1 s1 f1 => ⟨by show 3 ≤ sizeLine; decide, fun c nc => q _ _ (s1.trans (same_new nc)) ⟨c, v, rfl, by rw [wos_ne ((kn.same s1).new nc)]; exact upd_same, f1.1.same (wos_same (same_new nc)), f1.ok.1, f1.ok.2, hi, hj⟩⟩
theorem gn_c {z : Int} (h : z.natAbs ≤ 3) : Gv (tC (.int z)) σ H fun v H' => NumS C (wos S H') v (z : Rat) := fun Q q => q _ _ (Same.refl _) (NumS.int h)
theorem gn_c2 {z : Int} {q : Rat} (e : (z : Rat) = q) (h : z.natAbs ≤ 3) : Gv (tC (.int z)) σ H fun v H' => NumS C (wos S H') v q := fun Q k => k _ _ (Same.refl _) (e ▸ NumS.int h)
theorem gn_var {i : Nat} {v : V} {q : Rat} (hv : σ[i]? = some (some v)) (h : NumS C (wos S H) v q) : Gv (tVar i) σ H fun v H' => NumS C (wos S H') v q := fun Q q => ⟨v, hv, q _ _ (Same.refl _) h⟩
theorem rq_new {m : Addr} {H H1 : Hp} {x : Rat} (kn : Kn S H) (nm : H m = none) (r : RQ C H1 m x) : RQ C (wos S H1) m x := let ⟨dx, e⟩ := r; ⟨dx, by rw [wos_ne (kn.new nm)]; exact e⟩
theorem gn_rat {z : Int} (kn : Kn S H) (h : z.natAbs ≤ 3) : Gv (tRat C (tCons (tC (.int z)) tNil)) σ H fun v H' => NumS C (wos S H') v (z : Rat) := fun Q q => ⟨z, rfl, fun m H1 nm sm rm => q _ _ sm ⟨(rq_new (x := (z : Rat)) kn nm rm).nq, ⟨6, rfl⟩, h⟩⟩
theorem gn_rat2 {z : Int} {q : Rat} (kn : Kn S H) (e : (z : Rat) = q) (h : z.natAbs ≤ 3) : Gv (tRat C (tCons (tC (.int z)) tNil)) σ H fun v H' => NumS C (wos S H') v q := e ▸ gn_rat kn h
theorem rep_one (v : V) : ∀ n, (List.replicate n [v]).flatten = List.replicate n v
  | 0 => rfl
  | n + 1 => by rw [List.replicate_succ, List.flatten_cons, rep_one v n]; rfl
theorem ge_rep {α : Type} {R : Hp → V → α → Prop} {t : TE} {x : α} {n : Nat} (m : Mo R) (kn : Kn S H) (hn : n ≤ 1000) (h : Gv t σ H fun v H' => R (wos S H') v x) : Gv (tOp rRep (tLst (tCons t tNil)) (tC (.int (n : Nat)))) σ H fun v H' => LO R (wos S H') v (List.replicate n x) := fun Q q =>
  h _ fun v H1 s1 f1 => ⟨by show 1 ≤ sizeLine; decide, fun c nc => ⟨c, (n : Nat), [v], rfl, rfl, upd_same, by omega, by omega, by rw [sizeLine_eq, Int.toNat_natCast]; simp; omega, fun d nd => by
    have s3 := (s1.trans (same_new (o := .lst [v]) nc)).trans (same_new (o := .lst (List.replicate (Int.toNat (n : Nat)) [v]).flatten) nd)
    have e : (List.replicate (Int.toNat (n : Nat)) [v]).flatten = List.replicate n v := by
      rw [Int.toNat_natCast]
      exact rep_one v n
    rw [e] at s3 ⊢
    refine q _ _ s3 ⟨d, List.replicate n v, rfl, by rw [wos_ne ((kn.same (s1.trans (same_new nc))).new nd)]; exact upd_same, by rw [List.length_replicate, List.length_replicate], fun i u hu => ?_⟩
    have li := (List.getElem?_eq_some_iff.mp hu).1
    rw [List.length_replicate] at li
    rw [(List.mem_replicate.mp (List.mem_of_getElem? hu)).2]
    exact ⟨x, by rw [List.getElem?_replicate, if_pos li], m _ _ _ _ f1 (wos_same ((same_new nc).trans (same_new nd)))⟩⟩⟩
end
/-- a list of items of a kind -/
def LsG (ψ : Hp → V → Prop) (n : Nat) (H : Hp) (v : V) : Prop := ∃ a us, v = .ref a ∧ H a = some (.lst us) ∧ us.length = n ∧ ∀ y ∈ us, ψ H y
section
variable {C : Addr} {σ : L2.St} {H : Hp} {S : List Addr} {ψ : Hp → V → Prop} {n m : Nat} {t t1 t2 : TE} {ts : TA}
theorem LsG.same (mo : ∀ {A B : Hp} {v : V}, ψ A v → Same A B → ψ B v) {H' : Hp} {v : V} (h : LsG ψ n H v) (e : Same H H') : LsG ψ n H' v := let ⟨a, us, h1, h2, h3, h4⟩ := h; ⟨a, us, h1, e _ _ h2, h3, fun y hy => mo (h4 y hy) e⟩
theorem gg_lst (mo : ∀ {A B : Hp} {v : V}, ψ A v → Same A B → ψ B v) (kn : Kn S H) (hn : n ≤ 1000) (h : GvA ts σ H fun vs H' => vs.length = n ∧ ∀ v ∈ vs, ψ (wos S H') v) : Gv (tLst ts) σ H fun v H' => LsG ψ n (wos S H') v := fun Q q =>
  h _ fun vs H1 s1 f1 => ⟨by rw [f1.1, sizeLine_eq]; omega, fun c nc => q _ _ (s1.trans (same_new nc)) ⟨c, vs, rfl, by rw [wos_ne ((kn.same s1).new nc)]; exact upd_same, f1.1, fun y hy => mo (f1.2 y hy) (wos_same (same_new nc))⟩⟩
theorem gg_cat (mo : ∀ {A B : Hp} {v : V}, ψ A v → Same A B → ψ B v) (kn : Kn S H) (hn : n + m ≤ 1000) (h1 : Gv t1 σ H fun v H' => LsG ψ n (wos S H') v) (h2 : ∀ H1, Same H H1 → Gv t2 σ H1 fun v H' => LsG ψ m (wos S H') v) : Gv (tOp rCat t1 t2) σ H fun v H' => LsG ψ (n + m) (wos S H') v := fun Q q =>
  h1 _ fun v H1 s1 f1 => h2 H1 s1 _ fun u H2 s2 f2 => by
    obtain ⟨a, us, rfl, e3, e4, e5⟩ := LsG.same (ψ := ψ) mo f1 (wos_same s2)
    obtain ⟨b, zs, rfl, g3, g4, g5⟩ := f2
    refine ⟨a, b, us, zs, rfl, rfl, (wos_some.mp e3).2, (wos_some.mp g3).2, by rw [sizeLine_eq]; omega, fun c nc => ?_⟩
    have s3 := (s1.trans s2).trans (same_new (o := .lst (us ++ zs)) nc)
    refine q _ _ s3 ⟨c, us ++ zs, rfl, by rw [wos_ne ((kn.same (s1.trans s2)).new nc)]; exact upd_same, by rw [List.length_append, e4, g4], fun y hy => ?_⟩
    rcases List.mem_append.mp hy with z | z
    · exact mo (e5 y z) (wos_same (same_new nc))
    · exact mo (g5 y z) (wos_same (same_new nc))
theorem gg_var {i : Nat} {v : V} (hv : σ[i]? = some (some v)) (h : LsG ψ n (wos S H) v) : Gv (tVar i) σ H fun v H' => LsG ψ n (wos S H') v := fun Q q => ⟨v, hv, q _ _ (Same.refl _) h⟩
theorem gg_to {k : Nat} (mo : ∀ {A B : Hp} {v : V}, ψ A v → Same A B → ψ B v) (kn : Kn S H) (h : Gv t σ H fun v H' => LsG ψ n (wos S H') v) (hk : k ≤ n) : Gv (tSl (rSlL K) t tNoPart (tPart (tC (.int (k : Nat))))) σ H fun v H' => LsG ψ k (wos S H') v := fun Q q =>
  h _ fun v H1 s1 ⟨a, us, e1, e3, e4, e5⟩ => by
    subst e1
    refine ⟨((k : Nat) : Int), rfl, a, us, rfl, SqL.of (wos_some.mp e3).2, fun c nc => ?_⟩
    rw [cut_to]
    have s2 := same_new (o := .lst (us.take k)) nc
    exact q _ _ (s1.trans s2) ⟨c, us.take k, rfl, by rw [wos_ne ((kn.same s1).new nc)]; exact upd_same, by rw [List.length_take]; omega, fun y hy => mo (e5 y (List.mem_of_mem_take hy)) (wos_same s2)⟩
theorem gg_from {k : Nat} (mo : ∀ {A B : Hp} {v : V}, ψ A v → Same A B → ψ B v) (kn : Kn S H) (h : Gv t σ H fun v H' => LsG ψ n (wos S H') v) : Gv (tSl (rSlL K) t (tPart (tC (.int (k : Nat)))) tNoPart) σ H fun v H' => LsG ψ (n - k) (wos S H') v := fun Q q =>
  h _ fun v H1 s1 ⟨a, us, e1, e3, e4, e5⟩ => by
    subst e1
    refine ⟨((k : Nat) : Int), rfl, a, us, rfl, SqL.of (wos_some.mp e3).2, fun c nc => ?_⟩
    rw [cut_from]
    have s2 := same_new (o := .lst (us.drop k)) nc
    exact q _ _ (s1.trans s2) ⟨c, us.drop k, rfl, by rw [wos_ne ((kn.same s1).new nc)]; exact upd_same, by rw [List.length_drop]; omega, fun y hy => mo (e5 y (List.mem_of_mem_drop hy)) (wos_same s2)⟩
theorem gg_rev {i : Nat} {a : Addr} {us : List V} (mo : ∀ {A B : Hp} {v : V}, ψ A v → Same A B → ψ B v) (kn : Kn S H) (hv : σ[i]? = some (some (.ref a))) (ha : wos S H a = some (.lst us)) (hu : ∀ y ∈ us, ψ (wos S H) y) (l : us.length = n) : Gv (tRevL K (tVar i)) σ H fun v H' => LsG ψ n (wos S H') v := fun Q q =>
  ⟨_, hv, a, us, rfl, SqL.of (wos_some.mp ha).2, fun c nc => q _ _ (same_new nc) ⟨c, us.reverse, rfl, by rw [wos_ne (kn.new nc)]; exact upd_same, by rw [List.length_reverse]; exact l, fun y hy => mo (hu y (List.mem_reverse.mp hy)) (wos_same (same_new nc))⟩⟩
theorem gg_rep (mo : ∀ {A B : Hp} {v : V}, ψ A v → Same A B → ψ B v) (kn : Kn S H) (hn : n ≤ 1000) (h : Gv t σ H fun v H' => ψ (wos S H') v) : Gv (tOp rRep (tLst (tCons t tNil)) (tC (.int (n : Nat)))) σ H fun v H' => LsG ψ n (wos S H') v := fun Q q =>
  ge_rep (α := Unit) (R := fun H v _ => ψ H v) (x := ()) (fun _ _ _ _ h e => mo h e) kn hn h Q fun v H' s ⟨a, us, e1, e2, e3⟩ => q v H' s ⟨a, us, e1, e2, by rw [e3.1, List.length_replicate], fun y hy => by
    obtain ⟨i, hi⟩ := List.getElem?_of_mem hy
    obtain ⟨_, _, h⟩ := e3.2 i y hi
    exact h⟩
/-- an item of a list by its place -/
theorem gg_ix {i j : Nat} {a : Addr} {us : List V} {u : V} {φ : V → Hp → Prop} (hv : σ[i]? = some (some (.ref a))) (ha : wos S H a = some (.lst us)) (hu : us[j]? = some u) (h : φ u H) : Gv (tOp (rIxL K) (tVar i) (tC (.int (j : Nat)))) σ H φ := fun Q q =>
  ⟨_, hv, a, us, _, u, rfl, rfl, SqL.of (wos_some.mp ha).2, at_of (j := j) rfl hu, q u H (Same.refl _) h⟩
end
end K21

namespace K21
open PySem PySem.Spec PyProof.Rows L2 Fp
section
variable {P : Program} {w : World} {K : PySem.W.Frag} {mg : Str → Option Value} {base : Heap} {k : Nat} {C fI fR : Addr}
/-- a polynomial of any kind that is told as xs -/
def PolyQ (C : Addr) (H : Hp) (x : V) (xs : List Rat) : Prop := Sk C H 1 x ∧ isPolyV H x = true ∧ toldP H x = xs.map nd
theorem PolyQ.same {H H' : Hp} {x : V} {xs : List Rat} (h : PolyQ C H x xs) (e : Same H H') : PolyQ C H' x xs := ⟨h.1.same e, by rw [isPolyV_same h.1 e]; exact h.2.1, by rw [toldP_same h.1 e]; exact h.2.2⟩
theorem numOf_q {H : Hp} {v : V} {x : Rat} (h : NumQ C H v x) : Fp.numOf H v = nd x ∧ isNum H v = true := by
  rcases h with ⟨rfl, h1⟩ | ⟨a, rfl, dx, h1⟩
  · exact ⟨by show (x.num, (1 : Int)) = (x.num, (x.den : Int)); rw [h1], rfl⟩
  · constructor
    · show Fp.numOf H (.ref a) = nd x
      unfold Fp.numOf
      simp only [h1]; rfl
    · unfold isNum isOwn
      simp only [h1]; rfl
def SmQ (x : Rat) : Prop := okS x.num ∧ okS x.den
theorem PolyQ.mk {H : Hp} {a : Addr} {gs : List V} {xs : List Rat} (hl : H a = some (.lst gs) ∨ H a = some (.tup gs)) (len : gs.length = xs.length) (h : ∀ (i : Nat) v x, gs[i]? = some v → xs[i]? = some x → NumQ C H v x) (sm : ∀ x ∈ xs, SmQ x) (l49 : gs.length ≤ 49) : PolyQ C H (.ref a) (trimQ xs) := by
  have ei : itemsOf H (.ref a) = some gs := by
    unfold itemsOf
    rcases hl with hl | hl <;> simp only [hl]
  have ed : itemsD H (.ref a) = gs := by unfold itemsD; rw [ei]; rfl
  have at_ : ∀ v ∈ gs, ∃ x, x ∈ xs ∧ NumQ C H v x := fun v hv => by
    obtain ⟨i, hi⟩ := List.getElem?_of_mem hv
    have li := (List.getElem?_eq_some_iff.mp hi).1
    have hx : xs[i]? = some xs[i] := List.getElem?_eq_getElem (by omega)
    exact ⟨_, List.getElem_mem _, h i v _ hi hx⟩
  have sk : ∀ v ∈ gs, Sk C H 0 v := fun v hv => by
    obtain ⟨x, hx, nq⟩ := at_ v hv
    obtain ⟨o1, o2⟩ := sm x hx
    rcases nq with ⟨rfl, _⟩ | ⟨b, rfl, r⟩
    · exact Sk.int o1
    · exact Sk.own r o1 o2 RQ.red
  refine ⟨?_, ?_, ?_⟩
  · rcases hl with hl | hl
    · exact Sk.lst (d := 0) hl (by omega) sk
    · exact Sk.tup (d := 0) hl (by omega) sk
  · unfold isPolyV
    rw [ei]
    simp only [Bool.and_eq_true, decide_eq_true_eq, List.all_eq_true]
    exact ⟨l49, fun v hv => let ⟨x, _, nq⟩ := at_ v hv; (numOf_q nq).2⟩
  · unfold toldP
    rw [ed, ← trimP_nd]
    congr 1
    refine List.ext_getElem? fun i => ?_
    rw [List.getElem?_map, List.getElem?_map]
    cases e : gs[i]? with
    | none => rw [List.getElem?_eq_none (by have := List.getElem?_eq_none_iff.mp e; omega)]; rfl
    | some v =>
      have li := (List.getElem?_eq_some_iff.mp e).1
      have hx : xs[i]? = some xs[i] := List.getElem?_eq_getElem (by omega)
      rw [hx]
      show some (Fp.numOf H v) = some (nd xs[i])
      rw [(numOf_q (h i v _ e hx)).1]
end
end K21

namespace K21
open Fp
/-- the law's own making -/
abbrev ln1 (q : Rat) : List PtQ := [(1, 1, q), (0, 2, 1)]
abbrev ln2 (j : Nat) (n : Rat) : List PtQ := [(0, j, 1), (1, 0, n), (0, 0, 3)]
abbrev mk0 (q n : Rat) : List (List PtQ) := [ln1 q, ln2 3 n]
theorem lineF_len {st : List (List Rat)} {L : Nat} : ∀ ln : List PtQ, (∀ p ∈ ln, (stq st p.1).length + (stq st p.2.1).length ≤ L + 1) → (lineF st ln).length ≤ L :=
  snoc_ind (fun _ => Nat.zero_le _) fun A p ih h => by
    rw [lineF_snoc, plusQ_len, timesQ_len]
    have h1 := ih fun q hq => h q (List.mem_append_left _ hq)
    have h2 := h p (List.mem_append_right _ (List.mem_singleton.mpr rfl))
    omega
def Sm3 (q : Rat) : Prop := q.den ∣ 6 ∧ q.num.natAbs ≤ 3
theorem sm3_1 : Sm3 1 := ⟨by decide, by decide⟩
theorem sm3_3 : Sm3 3 := ⟨by decide, by decide⟩
theorem sm3_0 : Sm3 0 := ⟨by decide, by decide⟩
theorem ln1_ok {q : Rat} {n : Nat} (h : Sm3 q) (l : 3 ≤ n) : PtsOk n (ln1 q) := ⟨by show 2 ≤ 3; decide, fun p hp => by
  simp only [List.mem_cons, List.not_mem_nil, or_false] at hp
  rcases hp with rfl | rfl
  · exact ⟨by show 1 < n; omega, by show 1 < n; omega, h⟩
  · exact ⟨by show 0 < n; omega, by show 2 < n; omega, sm3_1⟩⟩
theorem ln2_ok {q : Rat} {j n : Nat} (h : Sm3 q) (l : 2 ≤ n) (lj : j < n) : PtsOk n (ln2 j q) := ⟨by show 3 ≤ 3; decide, fun p hp => by
  simp only [List.mem_cons, List.not_mem_nil, or_false] at hp
  rcases hp with rfl | rfl | rfl
  · exact ⟨by show 0 < n; omega, lj, sm3_1⟩
  · exact ⟨by show 1 < n; omega, by show 0 < n; omega, h⟩
  · exact ⟨by show 0 < n; omega, by show 0 < n; omega, sm3_3⟩⟩
theorem ptsX {n : Nat} {ln : List PtQ} (h : PtsOk n ln) : PtsOkX n ln := ⟨by have := h.1; omega, fun p hp => let ⟨a, b, c, d⟩ := h.2 p hp; ⟨a, b, c, Nat.lt_of_le_of_lt d (by decide)⟩⟩
theorem mk0_ok {ms : List (List Rat)} (hz : MsOk ms) (l2 : ms.length = 2) {q n : Rat} (h1 : Sm3 q) (h2 : Sm3 n) : MkOk ms (mk0 q n) D2 E3 M3 := mkOkX hz (by show 1 ≤ 2; decide) (by show 2 ≤ 3; decide) fun i ln hi => by
  match i, hi with
  | 0, hi => obtain rfl := Option.some.inj hi; exact ptsX (ln1_ok h1 (by omega))
  | 1, hi => obtain rfl := Option.some.inj hi; exact ptsX (ln2_ok h2 (by omega) (by omega))
theorem last0 (ms : List (List Rat)) (q n : Rat) : lastQ ms (mk0 q n) = lineQ (stockQ ms [ln1 q]) (ln2 3 n) := by
  have a1 := linesQ_at (ms := ms) (mk := mk0 q n) (i := 1) rfl
  have a2 := last_at (ms := ms) (mk := mk0 q n) (by show 1 ≤ 2; decide)
  rw [linesQ_len] at a2
  exact Option.some.inj (a2.symm.trans a1)
theorem one_sc : AllS ((216 : Nat) : Int) 216 [(1 : Rat)] := fun x hx => by
  rw [List.mem_singleton.mp hx]
  have := (Sc.int (z := 1) (M := 1) (by decide)).up 216 (by decide)
  rw [Rat.intCast_one] at this
  exact this
structure PolOk (f : List Rat) : Prop where
  told : Told f
  len : f.length ≤ 20
  sc : AllS ((216 : Nat) : Int) (2 ^ 90) f
theorem PolOk.bits {f : List Rat} (h : PolOk f) {n : Nat} (hn : 100 ≤ n) : AllB n f := h.sc.bits (by decide) (show ((216 : Nat) : Int).natAbs < 2 ^ n from Nat.lt_of_lt_of_le (show 216 < 2 ^ 100 by decide) (Nat.pow_le_pow_right (by decide) hn)) (Nat.lt_of_lt_of_le (show 2 ^ 90 < 2 ^ 100 by decide) (Nat.pow_le_pow_right (by decide) hn))
theorem PolOk.sm {f : List Rat} (h : PolOk f) : ∀ x ∈ f, SmQ x := fun x hx => by
  obtain ⟨b1, b2⟩ := h.bits (Nat.le_refl 100) x hx
  exact ⟨Nat.lt_trans b1 (by decide), Nat.lt_trans b2 (by decide)⟩
theorem pol0 {ms : List (List Rat)} (hz : MsOk ms) (l2 : ms.length = 2) {q n : Rat} (h1 : Sm3 q) (h2 : Sm3 n) : PolOk (lastQ ms (mk0 q n)) ∧ PolOk (trimQ (plusQ 1 (lastQ ms (mk0 q n)) [1])) ∧ trimQ (plusQ 1 (lastQ ms (mk0 q n)) [1]) ≠ lastQ ms (mk0 q n) := by
  rw [last0]
  have s0 := ms_szX hz
  have e0 : stockQ ms [] = [1] :: ms := rfl
  have z1 : SizQ (stockQ ms [ln1 q]) (6 * (1 * 1)) (54 * (8 * (1000 * 1000))) (2 * 8 - 1) := by
    have := SizQ.line s0 (by decide) (by decide) (by decide) (ln := ln1 q) (ln1_ok h1 (by rw [List.length_cons]; omega))
    exact this
  have st1 : (stockQ ms [ln1 q]).length = 4 := by rw [stockQ_len]; simp; omega
  have z2 := lineF_sz z1 (ln := ln2 3 n) (ln2_ok h2 (by omega) (by omega))
  have sA : AllS ((216 : Nat) : Int) (2 ^ 89) (lineF (stockQ ms [ln1 q]) (ln2 3 n)) := fun x hx => (z2.1 x hx).mono (by decide)
  have len3 : (stq (stockQ ms [ln1 q]) 3).length ≤ 15 := (z1 _ (stq_memW (by omega))).2
  have len1 : (stq (stockQ ms [ln1 q]) 1).length ≤ 15 := (z1 _ (stq_memW (by omega))).2
  have len0 : (stq (stockQ ms [ln1 q]) 0).length = 1 := by
    have e : (stockQ ms [ln1 q])[0]? = some [1] := by
      show (stockQ ms ([] ++ [ln1 q]))[0]? = _
      rw [stockQ_snoc]; rfl
    unfold stq; rw [e]; rfl
  have lF : (lineF (stockQ ms [ln1 q]) (ln2 3 n)).length ≤ 16 := lineF_len _ fun p hp => by
    simp only [List.mem_cons, List.not_mem_nil, or_false] at hp
    rcases hp with rfl | rfl | rfl <;> dsimp only <;> omega
  have p0 : PolOk (lineQ (stockQ ms [ln1 q]) (ln2 3 n)) := ⟨lineQ_told _ _, Nat.le_trans (trimQ_len_le _ lF) (by decide), allS_trim' fun x hx => (sA x hx).mono (by decide)⟩
  refine ⟨p0, ⟨trimQ_told _, Nat.le_trans (trimQ_len_le _ (n := 16) (by rw [plusQ_len]; have := trimQ_len_le _ lF; show max (lineQ _ _).length 1 ≤ 16; unfold lineQ; omega)) (by decide), allS_trim' ?_⟩, fun e => ?_⟩
  · have := plusQ_sc (D := ((216 : Nat) : Int)) (c := 1) (ys := [1]) (M := 2 ^ 89) (N := 216) (xs := lineQ (stockQ ms [ln1 q]) (ln2 3 n)) (allS_trim' sA) fun n => by rw [Rat.one_mul]; exact one_sc.co n
    exact fun x hx => (this x hx).mono (by decide)
  · have e2 : co (trimQ (plusQ 1 (lineQ (stockQ ms [ln1 q]) (ln2 3 n)) [1])) 0 = co (lineQ (stockQ ms [ln1 q]) (ln2 3 n)) 0 := by rw [e]
    rw [trimQ_co, plusQ_co, Rat.one_mul] at e2
    have e3 : co [(1 : Rat)] 0 = 1 := rfl
    rw [e3] at e2
    generalize co (lineQ (stockQ ms [ln1 q]) (ln2 3 n)) 0 = x at e2
    grind
end K21

namespace K21
open PySem PySem.Spec PyProof.Rows L2 Fp
variable {K : PySem.W.Frag} {C : Addr} {H H' : Hp}
theorem gv_to {t : TE} {σ : L2.St} {φ ψ : V → Hp → Prop} (h : Gv t σ H φ) (k : ∀ v H', Same H H' → φ v H' → ψ v H') : Gv t σ H ψ := fun Q q => h Q fun v H' s f => q v H' s (k v H' s f)
theorem LsG.mv {n : Nat} {v : V} (h : LsG (LvT C) n H v) (l : n ≤ 3) : MvT C H v := let ⟨a, us, h1, h2, h3, h4⟩ := h; h1 ▸ mv_seq (.inl h2) (by omega) h4
theorem LsG.lv {n : Nat} {v : V} (h : LsG (PvT C) n H v) (l : n ≤ 61) : LvT C H v := let ⟨a, us, h1, h2, h3, h4⟩ := h; h1 ▸ lv_seq (.inl h2) (by omega) h4
theorem tup_num {v : V} {q : Rat} (h : NumQ C H v q) : tupOf H v = none := by
  rcases h with ⟨rfl, _⟩ | ⟨a, rfl, dx, r⟩
  · rfl
  · unfold tupOf; simp only [r]
theorem part_ps {v : V} {p : PtQ} (h : PartR C H v p) (s : Sm3 p.2.2) : PvT C H v ∧ LvT C H v := by
  obtain ⟨t, nv, rfl, ht, hn, n1, n2, m1, m2⟩ := h
  have iN : ∀ j : Nat, j < 10 ^ 6 → It C H (.int (j : Nat)) := fun j h => It.int (Nat.lt_trans (show ((j : Nat) : Int).natAbs < 10 ^ 6 by rw [Int.natAbs_natCast]; exact h) (by decide))
  have iS : It C H nv := NumS.it ⟨hn, s.1, s.2⟩
  refine ⟨pv_seq (.inr ht) (by simp) fun y hy => ?_, lv_seq (.inr ht) (by simp) fun y hy => ?_⟩
  · simp at hy
    rcases hy with rfl | rfl | rfl
    · exact iN _ m1
    · exact iN _ m2
    · exact iS
  · simp at hy
    rcases hy with rfl | rfl | rfl
    · exact pv_none (iN _ m1).1 rfl
    · exact pv_none (iN _ m2).1 rfl
    · exact pv_none iS.1 (tup_num hn)
/-- the law's making, where it stands -/
structure RightAt (C : Addr) (H : Hp) (r r0 r1 : Addr) (xs0 xs1 : List V) (q n : Rat) : Prop where
  mak : MakR C H (.ref r) (mk0 q n)
  hr : H r = some (.lst [.ref r0, .ref r1])
  h0 : H r0 = some (.lst xs0)
  l0 : xs0.length = 2
  p0 : ∀ y ∈ xs0, PvT C H y ∧ LvT C H y
  h1 : H r1 = some (.lst xs1)
  l1 : xs1.length = 3
  p1 : ∀ y ∈ xs1, PvT C H y ∧ LvT C H y
theorem RightAt.same {r r0 r1 : Addr} {xs0 xs1 : List V} {q n : Rat} (h : RightAt C H r r0 r1 xs0 xs1 q n) (e : Same H H') : RightAt C H' r r0 r1 xs0 xs1 q n :=
  ⟨SeqR.mo (SeqR.mo PartR.mo) _ _ _ _ h.mak e, e _ _ h.hr, e _ _ h.h0, h.l0, fun y hy => ⟨(h.p0 y hy).1.same e, (h.p0 y hy).2.same e⟩, e _ _ h.h1, h.l1, fun y hy => ⟨(h.p1 y hy).1.same e, (h.p1 y hy).2.same e⟩⟩
theorem right_at {v : V} {q n : Rat} (h : MP C H v (mk0 q n)) (hq : Sm3 q) (hn : Sm3 n) : ∃ r r0 r1 xs0 xs1, v = .ref r ∧ RightAt C H r r0 r1 xs0 xs1 q n := by
  have mk := MP.mak h
  obtain ⟨r, rs, rfl, hr, e⟩ := h
  obtain ⟨u0, g0, r0, xs0, rfl, h0, e0⟩ := e.get (x := ln1 q) (i := 0) rfl
  obtain ⟨u1, g1, r1, xs1, rfl, h1, e1⟩ := e.get (x := ln2 3 n) (i := 1) rfl
  have lr : rs.length = 2 := e.1
  have er : rs = [.ref r0, .ref r1] := by
    match rs, lr, g0, g1 with
    | [a, b], _, g0, g1 => rw [Option.some.inj g0, Option.some.inj g1]
  refine ⟨r, r0, r1, xs0, xs1, rfl, mk, by rw [hr, er], h0, e0.1, fun y hy => ?_, h1, e1.1, fun y hy => ?_⟩
  · obtain ⟨i, hi⟩ := List.getElem?_of_mem hy
    obtain ⟨p, hp, hP⟩ := e0.2 i y hi
    refine part_ps hP ?_
    have hm := List.mem_of_getElem? hp
    simp only [List.mem_cons, List.not_mem_nil, or_false] at hm
    rcases hm with rfl | rfl
    · exact hq
    · exact sm3_1
  · obtain ⟨i, hi⟩ := List.getElem?_of_mem hy
    obtain ⟨p, hp, hP⟩ := e1.2 i y hi
    refine part_ps hP ?_
    have hm := List.mem_of_getElem? hp
    simp only [List.mem_cons, List.not_mem_nil, or_false] at hm
    rcases hm with rfl | rfl | rfl
    · exact sm3_1
    · exact hn
    · exact sm3_3
namespace RightAt
variable {r r0 r1 : Addr} {xs0 xs1 : List V} {q n : Rat}
theorem lv0 (h : RightAt C H r r0 r1 xs0 xs1 q n) : LvT C H (.ref r0) := lv_seq (.inl h.h0) (by have := h.l0; omega) fun y hy => (h.p0 y hy).1
theorem lv1 (h : RightAt C H r r0 r1 xs0 xs1 q n) : LvT C H (.ref r1) := lv_seq (.inl h.h1) (by have := h.l1; omega) fun y hy => (h.p1 y hy).1
theorem mv1 (h : RightAt C H r r0 r1 xs0 xs1 q n) : MvT C H (.ref r1) := mv_seq (.inl h.h1) (by have := h.l1; omega) fun y hy => (h.p1 y hy).2
theorem lvs (h : RightAt C H r r0 r1 xs0 xs1 q n) : ∀ y ∈ [V.ref r0, V.ref r1], LvT C H y := fun y hy => by
  simp at hy
  rcases hy with rfl | rfl
  · exact h.lv0
  · exact h.lv1
theorem ls (h : RightAt C H r r0 r1 xs0 xs1 q n) : LsG (LvT C) 2 H (.ref r) := ⟨r, _, rfl, h.hr, rfl, h.lvs⟩
theorem ls1 (h : RightAt C H r r0 r1 xs0 xs1 q n) : LsG (PvT C) 3 H (.ref r1) := ⟨r1, _, rfl, h.h1, h.l1, fun y hy => (h.p1 y hy).1⟩
theorem mv (h : RightAt C H r r0 r1 xs0 xs1 q n) : MvT C H (.ref r) := h.ls.mv (by decide)
end RightAt
/-- a value: none that is long, or a making that fits -/
def VO (C : Addr) (ms : List (List Rat)) (H : Hp) (v : V) : Prop := MvT C H v ∨ ∃ mk, MakR C H v mk ∧ MkOk ms mk D2 E3 M3
theorem VO.same {ms : List (List Rat)} {v : V} (h : VO C ms H v) (e : Same H H') : VO C ms H' v := h.imp (fun h => h.same e) fun ⟨mk, h1, h2⟩ => ⟨mk, SeqR.mo (SeqR.mo PartR.mo) _ _ _ _ h1 e, h2⟩
theorem VO.what {ms : List (List Rat)} {v : V} (hz : MsOk ms) (h : VO C ms H v) : ∃ mk : List (List PtQ), (MakR C H v mk ∧ MkOk ms mk D2 E3 M3) ∨ (BadM C H v ms.length mk ∧ MkOk ms (mk ++ [[]]) D2 E3 M3) := by
  rcases h with h | ⟨mk, h1, h2⟩
  · obtain ⟨mk, h | ⟨h1, h2, _⟩⟩ := h.what hz
    · exact ⟨mk, .inl h⟩
    · exact ⟨mk, .inr ⟨h1, h2⟩⟩
  · exact ⟨mk, .inl ⟨h1, h2⟩⟩
/-- the makers of own numbers -/
theorem ms_makers {l : Addr} {gs : List V} {ms : List (List Rat)} (hl : H l = some (.lst gs)) (hg : Ea (ListQ C) H gs ms) (hz : MsOk ms) : MakersQ C H (.ref l) ms := by
  have lg := hg.1
  have one : ∀ v p, ListQ C H v p → MkP p → PolyQ C H v p := fun v p ⟨a, us, e, h1, h2⟩ m => by
    obtain ⟨t1, t2, t3, t4⟩ := m.all
    have := PolyQ.mk (C := C) (.inl h1) (QL.len h2) (fun i v x hv hx => (ML.of_ql h2).2 i v hv |>.elim fun y ⟨e1, e2⟩ => by rw [e1] at hx; rw [← Option.some.inj hx]; exact e2) (fun x hx => by
      obtain ⟨b1, b2⟩ := t4.bits (n := 100) (by decide) (by show (1 : Int).natAbs < 2 ^ 100; decide) (by decide) x hx
      exact ⟨Nat.lt_trans b1 (by decide), Nat.lt_trans b2 (by decide)⟩) (by rw [QL.len h2]; omega)
    rw [e]
    rwa [told_ext (trimQ_told _) t1 fun n => trimQ_co p n] at this
  have hI : itemsOf H (.ref l) = some gs := by unfold itemsOf; simp only [hl]
  have each : ∀ (i : Nat) (v : V), gs[i]? = some v → ∃ p, ms[i]? = some p ∧ PolyQ C H v p ∧ MkP p := fun i v hv => by
    obtain ⟨p, h1, h2⟩ := hg.2 i v hv
    exact ⟨p, h1, one v p h2 (hz.2.2 p (List.mem_of_getElem? h1)), hz.2.2 p (List.mem_of_getElem? h1)⟩
  refine ⟨Sk.lst hl (by have := hz.2.1; omega) fun x hx => ?_, ?_, ?_⟩
  · obtain ⟨i, hi⟩ := List.getElem?_of_mem hx
    obtain ⟨p, _, h, _⟩ := each i x hi
    exact h.1
  · unfold isMakersV
    rw [hI]
    simp only [Bool.and_eq_true, decide_eq_true_eq, List.all_eq_true]
    refine ⟨by have := hz.1; omega, by have := hz.2.1; omega, fun v hv => ?_⟩
    obtain ⟨i, hi⟩ := List.getElem?_of_mem hv
    obtain ⟨p, _, h, m⟩ := each i v hi
    obtain ⟨t1, t2, t3, _⟩ := m.all
    unfold isMakerV
    rw [h.2.1, h.2.2, List.length_map, decide_eq_true t2, decide_eq_true t3]; rfl
  · unfold toldsP itemsD
    rw [hI]
    show gs.map (toldP H) = _
    refine List.ext_getElem? fun i => ?_
    rw [List.getElem?_map, List.getElem?_map]
    by_cases z : i < gs.length
    · have hv := List.getElem?_eq_getElem z
      obtain ⟨p, h1, h, _⟩ := each i _ hv
      rw [hv, h1]
      show some (toldP H _) = some (p.map nd)
      rw [h.2.2]
    · rw [List.getElem?_eq_none (by omega), List.getElem?_eq_none (by omega)]; rfl
/-- a polynomial of own numbers, list or tuple -/
theorem pol_poly {a : Addr} {us : List V} {f : List Rat} (h : H a = some (.lst us) ∨ H a = some (.tup us)) (hq : QL C H us f) (ok : PolOk f) : Sk C H 1 (.ref a) ∧ isPolyV H (.ref a) = true ∧ toldP H (.ref a) = f.map nd ∧ f.length ≤ 25 := by
  have := PolyQ.mk (C := C) h (QL.len hq) (fun i v x hv hx => (ML.of_ql hq).2 i v hv |>.elim fun y ⟨e1, e2⟩ => by rw [e1] at hx; rw [← Option.some.inj hx]; exact e2) ok.sm (by rw [QL.len hq]; have := ok.len; omega)
  rw [told_ext (trimQ_told _) ok.told fun n => trimQ_co f n] at this
  exact ⟨this.1, this.2.1, this.2.2, by have := ok.len; omega⟩
end K21
namespace K21
open PySem PySem.Spec PyProof.Rows L2 Fp
/-- where _law_right of k48 stands -/
structure St48 (C p L r r0 r1 A0 W : Addr) (gs xs0 xs1 ps fs : List V) (v : V) (ms : List (List Rat)) (q n : Rat) (fq : List Rat) (H H' : Hp) : Prop where
  kp : Keep p H H'
  pot : PotOk H' p
  hL : H' L = some (.lst gs)
  hE : Ea (ListQ C) (wos [W, p] H') gs ms
  hR : RightAt C (wos [W, p] H') r r0 r1 xs0 xs1 q n
  hv : NumS C (wos [W, p] H') v q
  hA : H' A0 = some (.lst ps)
  hQ : QL C (wos [W, p] H') ps fq
  hW : H' W = some (.lst fs)
  it : ∀ y ∈ fs, VO C ms (wos [W, p] H') y
structure Ne48 (p L A0 W : Addr) (H : Hp) : Prop where
  Wp : W ≠ p
  Lp : L ≠ p
  Ap : A0 ≠ p
  WL : W ≠ L
  WA : W ≠ A0
  nW : H W = none
section
variable {K : PySem.W.Frag} {C p L r r0 r1 A0 W : Addr} {gs xs0 xs1 ps fs xs : List V} {v : V} {ms : List (List Rat)} {q n : Rat} {fq : List Rat} {H H1 H2 : Hp}
theorem St48.kn (h : St48 C p L r r0 r1 A0 W gs xs0 xs1 ps fs v ms q n fq H H1) : Kn [W, p] H1 := fun s hs z => by
  simp only [List.mem_cons, List.not_mem_nil, or_false] at hs
  rcases hs with e | e
  · rw [e, h.hW] at z; cases z
  · obtain ⟨u, v, g, _⟩ := h.pot
    rw [e, g] at z; cases z
theorem St48.same (h : St48 C p L r r0 r1 A0 W gs xs0 xs1 ps fs v ms q n fq H H1) (s : Same H1 H2) : St48 C p L r r0 r1 A0 W gs xs0 xs1 ps fs v ms q n fq H H2 :=
  ⟨h.kp.trans (Keep.of s), h.pot.same s, s _ _ h.hL, h.hE.same ListQ.mo (wos_same s), h.hR.same (wos_same s), NumS.mo _ _ _ _ h.hv (wos_same s), s _ _ h.hA, RatL.same h.hQ (wos_same s), s _ _ h.hW, fun y hy => (h.it y hy).same (wos_same s)⟩
theorem St48.keep (h : St48 C p L r r0 r1 A0 W gs xs0 xs1 ps fs v ms q n fq H H1) (N : Ne48 p L A0 W H) (k : Keep p H1 H2) (hp : PotOk H2 p) : St48 C p L r r0 r1 A0 W gs xs0 xs1 ps fs v ms q n fq H H2 :=
  have s := wos_keep (S := [W, p]) (by simp) k
  ⟨h.kp.trans k, hp, k _ _ N.Lp h.hL, h.hE.same ListQ.mo s, h.hR.same s, NumS.mo _ _ _ _ h.hv s, k _ _ N.Ap h.hA, RatL.same h.hQ s, k _ _ N.Wp h.hW, fun y hy => (h.it y hy).same s⟩
theorem St48.ext (h : St48 C p L r r0 r1 A0 W gs xs0 xs1 ps fs v ms q n fq H H1) (N : Ne48 p L A0 W H) (hx : ∀ y ∈ xs, VO C ms (wos [W, p] H1) y) : St48 C p L r r0 r1 A0 W gs xs0 xs1 ps (fs ++ xs) v ms q n fq H (upd H1 W (.lst (fs ++ xs))) := by
  have e : wos [W, p] (upd H1 W (.lst (fs ++ xs))) = wos [W, p] H1 := wos_upd (by simp)
  refine ⟨fun b o nb e => ?_, ?_, ?_, by rw [e]; exact h.hE, by rw [e]; exact h.hR, by rw [e]; exact h.hv, ?_, by rw [e]; exact h.hQ, upd_same, fun y hy => ?_⟩
  · rw [upd_ne (ne_of_none e N.nW)]; exact h.kp b o nb e
  · obtain ⟨u, v, e, r⟩ := h.pot
    exact ⟨u, v, by rw [upd_ne N.Wp.symm]; exact e, r⟩
  · rw [upd_ne N.WL.symm]; exact h.hL
  · rw [upd_ne N.WA.symm]; exact h.hA
  · rw [e]
    exact (List.mem_append.mp hy).elim (h.it y) (hx y)
theorem St48.app {σ : L2.St} {t : TE} {D : Ends} (hi : σ[8]? = some (some (.ref W))) (G : St48 C p L r r0 r1 A0 W gs xs0 xs1 ps fs v ms q n fq H H1) (N : Ne48 p L A0 W H) (l : fs.length ≤ 900) (h : GvK p t σ H1 fun v H' => VO C ms (wos [W, p] H') v)
    (k : ∀ u H2, St48 C p L r r0 r1 A0 W gs xs0 xs1 ps (fs ++ [u]) v ms q n fq H H2 → Same (wos [W, p] H1) (wos [W, p] H2) → D.nx σ H2) : (tDrop (tBM K "list" rAppend (tVar 8) (tCons t tNil))) D σ H1 := by
  refine ⟨_, hi, Or.inl ⟨rfl, _, SqL.of G.hW⟩, h _ fun u H2 k2 p2 hu => ?_⟩
  have G2 := G.keep N k2 p2
  refine ⟨W, fs, u, rfl, rfl, G2.hW, by rw [sizeLine_eq]; omega, k u _ (G2.ext N fun y hy => by rw [List.mem_singleton.mp hy]; exact hu) ?_⟩
  rw [show wos [W, p] (upd H2 W (.lst (fs ++ [u]))) = wos [W, p] H2 from wos_upd (by simp)]
  exact wos_keep (by simp) k2
theorem seq_for_gv {t : TE} {g : TG} {tb B : TS} {D : Ends} {σ : L2.St} {φ : V → Hp → Prop} (h : Gv t σ H φ) (k : ∀ v H', Same H H' → φ v H' → tSeq (tFor (iList K (tC v)) g tb) B D σ H') : tSeq (tFor (iList K t) g tb) B D σ H := h _ fun v H' s f => k v H' s f
abbrev bbT (B : Bool) : Str := listText [if B = true then Str.ofString "True" else Str.ofString "False", if B = true then Str.ofString "True" else Str.ofString "False"]
theorem bbT_len (B : Bool) : (bbT B).length ≤ sizeLine := Nat.le_trans (m := 100) (by cases B <;> decide +kernel) (by decide)
theorem sh_bb {H : Hp} {a : Addr} {B : Bool} (h : H a = some (.lst [.bl B, .bl B])) : Sh C H 1 (.ref a) (bbT B) := .lst h (by simp) rfl fun i x t h1 h2 => by
  match i, h1, h2 with
  | 0, h1, h2 => cases h1; cases h2; exact .bl _
  | 1, h1, h2 => cases h1; cases h2; exact .bl _
  | i + 2, h1, _ => cases h1
theorem line_001 (ms : List (List Rat)) (k : Nat) : lineQ (([1] :: ms) ++ List.replicate k [1]) [(0, 0, 1)] = [1] := by
  have e : stq (([1] :: ms) ++ List.replicate k [1]) 0 = [1] := rfl
  show trimQ (plusQ 1 [] (timesQ (stq (([1] :: ms) ++ List.replicate k [1]) 0) (stq (([1] :: ms) ++ List.replicate k [1]) 0))) = [1]
  rw [e]
  decide +kernel
/-- many lines ahead of the law's own -/
theorem vo_many {ms : List (List Rat)} (hz : MsOk ms) (l2 : ms.length = 2) {q n : Rat} (h1 : Sm3 q) (h2 : Sm3 n) {N : Nat} {l0 : List PtQ} (hN : N ≤ 198) (c : l0 = [] ∨ l0 = [(0, 0, 1)]) {H : Hp} {v : V} (h : MP C H v (List.replicate N l0 ++ [ln1 q, ln2 (3 + N) n])) : VO C ms H v := by
  have ok : ∀ (i : Nat) (ln : List PtQ), [ln1 q, ln2 (3 + N) n][i]? = some ln → PtsOkX (ms.length + 1 + N + i) ln := fun i ln hi => by
    match i, hi with
    | 0, hi => obtain rfl := Option.some.inj hi; exact ptsX (ln1_ok h1 (by omega))
    | 1, hi => obtain rfl := Option.some.inj hi; exact ptsX (ln2_ok h2 (by omega) (by omega))
  refine .inr ⟨_, MP.mak h, ?_⟩
  rcases c with rfl | rfl
  · exact mkOkR hz (z := []) hN ⟨by decide, fun p hp => (by cases hp)⟩ (fun k => rfl) (.inl rfl) (by simp) (by simp) (by simp; omega) ok
  · exact mkOkR hz (z := [1]) hN ⟨by decide, fun p hp => by rw [List.mem_singleton.mp hp]; exact ⟨by decide, by decide, by decide, by decide⟩⟩ (line_001 ms) (.inr rfl) (by simp) (by simp) (by simp; omega) ok
/-- how a value comes out -/
def Comes (C : Addr) (ms : List (List Rat)) (f : List Rat) (y : V) (B : Bool) (mk : List (List PtQ)) (G : Hp) : Prop := (MakR C G y mk ∧ MkOk ms mk D2 E3 M3 ∧ B = decide (lastQ ms mk = f)) ∨ (BadM C G y ms.length mk ∧ MkOk ms (mk ++ [[]]) D2 E3 M3 ∧ B = false)
theorem Comes.same {ms : List (List Rat)} {f : List Rat} {y : V} {B : Bool} {mk : List (List PtQ)} {G G' : Hp} (h : Comes C ms f y B mk G) (e : Same G G') : Comes C ms f y B mk G' := h.imp (fun ⟨a, b⟩ => ⟨SeqR.mo (SeqR.mo PartR.mo) _ _ _ _ a e, b⟩) fun ⟨a, b⟩ => ⟨a.same e, b⟩
theorem comes_of {ms : List (List Rat)} {f : List Rat} {y : V} {G : Hp} (hz : MsOk ms) (h : VO C ms G y) : ∃ B mk, Comes C ms f y B mk G := by
  obtain ⟨mk, ⟨h1, h2⟩ | ⟨h1, h2⟩⟩ := h.what hz
  · exact ⟨_, mk, .inl ⟨h1, h2, rfl⟩⟩
  · exact ⟨_, mk, .inr ⟨h1, h2, rfl⟩⟩
theorem asked_ok {ms : List (List Rat)} {f : List Rat} {y : V} {B : Bool} {mk : List (List PtQ)} {G : Hp} {l g : Addr} {us : List V} (hz : MsOk ms) (hl : G l = some (.lst gs)) (hE : Ea (ListQ C) G gs ms) (hg : G g = some (.lst us) ∨ G g = some (.tup us)) (hq : QL C G us f) (ok : PolOk f) (hc : Comes C ms f y B mk G) {Q : VK} (q : ∀ H', Same G H' → Q (.bl B) H') : sp_is_making_of C [.ref l, .ref g, y] G Q E0 := by
  obtain ⟨a1, a2, a3, a4⟩ := pol_poly hg hq ok
  refine ⟨.ref l, .ref g, y, ms, f, mk, D2, E3, M3, rfl, ms_makers hl hE hz, a1, a2, a3, a4, ?_⟩
  rcases hc with ⟨h1, h2, rfl⟩ | ⟨h1, h2, rfl⟩
  · exact .inl ⟨h1, h2, levX.2.2.2.1, q⟩
  · exact .inr ⟨.inl h1, h2, q⟩
theorem plus_one_bits {f : List Rat} (h : PolOk f) : AllB 4200 (plusQ 1 f [1]) := by
  have := plusQ_sc (D := ((216 : Nat) : Int)) (c := 1) (ys := [1]) (M := 2 ^ 90) (N := 216) h.sc fun n => by rw [Rat.one_mul]; exact one_sc.co n
  exact this.bits (by decide) (show ((216 : Nat) : Int).natAbs < 2 ^ 4200 from Nat.lt_of_lt_of_le (show 216 < 2 ^ 100 by decide) (Nat.pow_le_pow_right (by decide) (by decide))) (Nat.lt_of_lt_of_le (show 2 ^ 90 + 216 < 2 ^ 100 by decide) (Nat.pow_le_pow_right (by decide) (by decide)))
theorem one_bits {m : Nat} (h : 1 ≤ m) : Bits m (1 : Rat) := ⟨Nat.lt_of_lt_of_le bits_one.1 (Nat.pow_le_pow_right (by decide) h), Nat.lt_of_lt_of_le bits_one.2 (Nat.pow_le_pow_right (by decide) h)⟩
end
end K21

namespace K21
open PySem PySem.Spec PyProof.Rows L2 Fp
section
variable {P : Program} {w : World} {K : PySem.W.Frag} {mg : Str → Option Value} {base : Heap} {k : Nat} {C fI fR : Addr}
def rTupO (K : PySem.W.Frag) : List V → Hp → VK → Prop := fun xs H Q => ∃ p ys, xs = [.ref p] ∧ ((SqL K H p ys ∧ ∀ l : Addr, H l = none → Q (.ref l) (upd H l (.tup ys))) ∨ SqT K H p ys ∧ Q (.ref p) H)
def sp_law_right (K : PySem.W.Frag) : Sp := fun vs H Q _ => ∃ p : Addr, vs = [.ref p] ∧ PotOk H p ∧ ∀ H', Keep p H H' → Q (.bl true) H'
-- slots: _law_pot_here 0, _law_first 1, _law_second 2, _law_makers_here 3, _law_number 4, _law_much 5, _law_right_here 6, _law_poly_here 7, _law_values 8, _law_odd 9, _law_value 10, _law_due 11, _law_line 12; cells: 
abbrev s_law_right : Stmt := top 62
theorem bk_is_making_of_0_value_poly_makers : BindK 0 3 true "is_making_of" s_is_making_of ["makers", "poly", "value"] ["value", "poly", "makers"] := fun _ _ _ _ _ _ us ws hu hw => match us, ws, hu, hw with | [], [_, _, _], _, _ => rfl
abbrev N_law_right : List Str := ["_law_pot_here", "_law_first", "_law_second", "_law_makers_here", "_law_number", "_law_much", "_law_right_here", "_law_poly_here", "_law_values", "_law_odd", "_law_value", "_law_due", "_law_line"]
theorem sc_law_right : FnScope N_law_right ["_law_pot_here"] (defScope s_law_right) := ⟨rfl, rfl, rfl, by decide +kernel, rfl, by decide +kernel, by decide +kernel⟩
theorem d_law_right (B : Bnd K mg "_law_right" s_law_right) (M : Mg2 mg) (R : RCls K mg C fI fR) {kr : Nat} (RD : RDef P w K mg base kr C) (DQ : RDefQ P w K mg base kr C) (EXB : EqXB P w K mg base kr C) (hk : kr + 8 ≤ k) (D_is_making_of : Def P w K mg base k "is_making_of" s_is_making_of ["makers", "poly", "value"] (sp_is_making_of C)) (D_law_draw : Def P w K mg base k "_law_draw" sDraw ["_law_pot_here", "_law_size"] spDraw) (D_law_pick : Def P w K mg base k "_law_pick" sPick ["_law_pot_here", "_law_some"] spPick) (D_law_sum : Def P w K mg base k "_law_sum" s_law_sum ["_law_one", "_law_two_here", "_law_share"] (sp_law_sum K C)) (D_law_two : Def P w K mg base k "_law_two" s_law_two ["_law_pot_here"] (sp_law_two K C)) (D_law_makers : Def P w K mg base k "_law_makers" s_law_makers ["_law_pot_here", "_law_first", "_law_second"] (sp_law_makers K C)) (D_law_comes : Def P w K mg base k "_law_comes" s_law_comes ["_law_makers_here", "_law_making"] (sp_law_comes C)) : DefG P w K mg base (k + 1) "_law_right" s_law_right ["_law_pot_here"] (sp_law_right K) := by
  refine defG_of B sc_law_right (by rintro _ _ _ _ ⟨p, rfl, _⟩; rfl) (fun _ _ _ _ _ _ us hl => match us, hl with | [_], _ => rfl) fun f cdv A outer s H vs Q E hgd hr h => ?_
  obtain ⟨p, rfl, hp, q⟩ := h
  have hu := hr.units
  have hg2 : (A.deeper (envOfC "_law_right" (defScope s_law_right) s.heap.objs.size f cdv)).guards = some [] := hgd
  refine ⟨_, pss_cons (ps_asg (pe_d D_law_two hr (by rfl) (pa_cons (pv 0) pa_nil)) (pg_tup rfl (pgs_cons (pg_name (i := 1) sc_law_right.nd rfl (.inl rfl)) (pgs_cons (pg_name (i := 2) sc_law_right.nd rfl (.inl rfl)) pgs_nil))))
    (pss_cons (ps_set (i := 3) sc_law_right.nd rfl (.inl rfl) (pe_slice (r := rSlL K) sl_list (pe_d D_law_makers hr (by rfl) (pa_cons (pv 0) (pa_cons (pv 1) (pa_cons (pv 2) pa_nil)))) po_none (po_some pe_int)))
    (pss_cons (ps_par (i := 4) (j := 5) rfl sc_law_right.nd rfl rfl (by decide) rfl rfl (pa_cons (pe_op op_sub (pe_d D_law_draw hr (by rfl) (pa_cons (pv 0) (pa_cons pe_int pa_nil))) pe_int) (pa_cons (pe_d D_law_pick hr (by rfl) (pa_cons (pv 0) (pa_cons (pe_lst (pa_cons pe_int (pa_cons (pe_un un_neg pe_int) (pa_cons (pe_ratQ DQ (hr.mono (by omega)) (by rfl) (pa_cons pe_int (pa_cons pe_int pa_nil))) pa_nil)))) pa_nil))) pa_nil)) (by rfl))
    (pss_cons (ps_set (i := 6) sc_law_right.nd rfl (.inl rfl) (pe_lst (pa_cons (pe_lst (pa_cons (pe_tup (pa_cons pe_int (pa_cons pe_int (pa_cons (pv 5) pa_nil)))) (pa_cons (pe_tup (pa_cons pe_int (pa_cons pe_int (pa_cons pe_int pa_nil)))) pa_nil))) (pa_cons (pe_lst (pa_cons (pe_tup (pa_cons pe_int (pa_cons pe_int (pa_cons pe_int pa_nil)))) (pa_cons (pe_tup (pa_cons pe_int (pa_cons pe_int (pa_cons (pv 4) pa_nil)))) (pa_cons (pe_tup (pa_cons pe_int (pa_cons pe_int (pa_cons (pe_rat RD (hr.mono (by omega)) (by rfl) (pa_cons pe_int pa_nil)) pa_nil)))) pa_nil)))) pa_nil))))
    (pss_cons (ps_set (i := 7) sc_law_right.nd rfl (.inl rfl) (pe_d D_law_comes hr (by rfl) (pa_cons (pv 3) (pa_cons (pv 6) pa_nil))))
    (pss_cons (ps_set (i := 8) sc_law_right.nd rfl (.inl rfl) (pe_lst (pa_cons (pv 6) (pa_cons (pe_callTy call_tuple_of (by rfl) M.tuple (by decide +kernel) (pa_cons (pv 6) pa_nil)) (pa_cons (pe_lc (own := [("_law_line", 12)]) (g := (gName 12)) (tt := tYes) (te := (tCB (rTupO K) (tCons (tVar 12) tNil))) rfl sc_law_right.nd (pi_list (pv 6)) (blkOk_by (own := [("_law_line", 12)]) (N := N_law_right) (sc := defScope s_law_right) (by decide +kernel)) (fun _ _ _ _ _ => pg_name (i := 12) sc_law_right.nd rfl (.inl rfl)) (fun _ _ _ _ _ => pts_nil) (fun _ _ _ _ _ => pe_callTy (show CallR _ (Value.type "tuple") (rTupO K) from call_tuple_of) (by rfl) M.tuple (by decide +kernel) (pa_cons (pv 12) pa_nil))) (pa_cons (pe_op op_cat (pv 6) (pe_lst (pa_cons (pe_lst (pa_cons (pe_tup (pa_cons pe_int (pa_cons pe_int (pa_cons pe_int pa_nil)))) pa_nil)) pa_nil))) (pa_cons (pe_op op_cat (pe_lst (pa_cons (pe_lst pa_nil) pa_nil)) (pe_lst (pa_cons (pe_lst (pa_cons (pe_tup (pa_cons pe_int (pa_cons pe_int (pa_cons (pv 5) pa_nil)))) (pa_cons (pe_tup (pa_cons pe_int (pa_cons pe_int (pa_cons pe_int pa_nil)))) pa_nil))) (pa_cons (pe_lst (pa_cons (pe_tup (pa_cons pe_int (pa_cons pe_int (pa_cons pe_int pa_nil)))) (pa_cons (pe_tup (pa_cons pe_int (pa_cons pe_int (pa_cons (pv 4) pa_nil)))) (pa_cons (pe_tup (pa_cons pe_int (pa_cons pe_int (pa_cons pe_int pa_nil)))) pa_nil)))) pa_nil)))) pa_nil)))))))
    (pss_cons (ps_expr (pe_bm PySem.F.plainAttrs_list PySem.F.slot_list_extend PySem.F.type_list_extend mt_extend (pv 8) (pa_cons (pe_lst (pa_cons (pe_slice (r := rSlL K) sl_list (pv 6) po_none (po_some pe_int)) (pa_cons (pe_revL (pv 6)) (pa_cons (pe_op op_cat (pv 6) (pe_lst (pa_cons (pe_lst pa_nil) pa_nil))) (pa_cons (pe_lst pa_nil) (pa_cons (pe_lst (pa_cons (pe_lst pa_nil) pa_nil)) (pa_cons pe_non (pa_cons pe_int (pa_cons pe_str (pa_cons pe_dnewK (pa_cons pe_bl (pa_cons (pe_lst (pa_cons pe_non pa_nil)) (pa_cons (pe_ix (r := rIxL K) ix_list (pv 6) pe_int (fun _ _ => rfl)) pa_nil))))))))))))) pa_nil)))
    (pss_cons (ps_for PassesOwn.never rfl (pi_list (pe_lst (pa_cons (pe_tup (pa_cons pe_int (pa_cons pe_int pa_nil))) (pa_cons (pe_tup (pa_cons pe_int (pa_cons pe_int (pa_cons pe_int (pa_cons pe_int pa_nil))))) (pa_cons (pe_lst (pa_cons pe_int (pa_cons pe_int (pa_cons pe_int pa_nil)))) (pa_cons (pe_tup (pa_cons pe_int (pa_cons pe_int (pa_cons pe_int pa_nil)))) (pa_cons (pe_tup (pa_cons (pe_un un_neg pe_int) (pa_cons pe_int (pa_cons pe_int pa_nil)))) (pa_cons (pe_tup (pa_cons pe_int (pa_cons pe_int (pa_cons pe_bl pa_nil)))) (pa_cons (pe_tup (pa_cons pe_int (pa_cons pe_int (pa_cons pe_non pa_nil)))) (pa_cons (pe_tup (pa_cons pe_bl (pa_cons pe_int (pa_cons pe_int pa_nil)))) (pa_cons (pe_tup (pa_cons pe_str (pa_cons pe_int (pa_cons pe_int pa_nil)))) (pa_cons (pe_tup (pa_cons pe_int (pa_cons (pe_rat RD (hr.mono (by omega)) (by rfl) (pa_cons pe_int pa_nil)) (pa_cons pe_int pa_nil)))) pa_nil)))))))))))) (pg_name (i := 9) sc_law_right.nd rfl (.inl rfl))
      (pss_one (ps_expr (pe_bm PySem.F.plainAttrs_list PySem.F.slot_list_append PySem.F.type_list_append mt_append (pv 8) (pa_cons (pe_lst (pa_cons (pe_ix (r := rIxL K) ix_list (pv 6) pe_int (fun _ _ => rfl)) (pa_cons (pe_op op_cat (pe_lst (pa_cons (pv 9) pa_nil)) (pe_slice (r := rSlL K) sl_list (pe_ix (r := rIxL K) ix_list (pv 6) pe_int (fun _ _ => rfl)) (po_some pe_int) po_none)) pa_nil))) pa_nil)))))
    (pss_cons (ps_expr (pe_bm PySem.F.plainAttrs_list PySem.F.slot_list_append PySem.F.type_list_append mt_append (pv 8) (pa_cons (pe_lst (pa_cons (pe_ix (r := rIxL K) ix_list (pv 6) pe_int (fun _ _ => rfl)) (pa_cons (pe_op op_cat (pe_ix (r := rIxL K) ix_list (pv 6) pe_int (fun _ _ => rfl)) (pe_op op_rep (pe_lst (pa_cons (pe_tup (pa_cons pe_int (pa_cons pe_int (pa_cons pe_int pa_nil)))) pa_nil)) pe_int)) pa_nil))) pa_nil)))
    (pss_cons (ps_expr (pe_bm PySem.F.plainAttrs_list PySem.F.slot_list_append PySem.F.type_list_append mt_append (pv 8) (pa_cons (pe_lst (pa_cons (pe_ix (r := rIxL K) ix_list (pv 6) pe_int (fun _ _ => rfl)) (pa_cons (pe_op op_cat (pe_ix (r := rIxL K) ix_list (pv 6) pe_int (fun _ _ => rfl)) (pe_op op_rep (pe_lst (pa_cons (pe_tup (pa_cons pe_int (pa_cons pe_int (pa_cons pe_int pa_nil)))) pa_nil)) pe_int)) pa_nil))) pa_nil)))
    (pss_cons (ps_expr (pe_bm PySem.F.plainAttrs_list PySem.F.slot_list_append PySem.F.type_list_append mt_append (pv 8) (pa_cons (pe_op op_cat (pe_op op_rep (pe_lst (pa_cons (pe_lst pa_nil) pa_nil)) pe_int) (pe_lst (pa_cons (pe_lst (pa_cons (pe_tup (pa_cons pe_int (pa_cons pe_int (pa_cons (pv 5) pa_nil)))) (pa_cons (pe_tup (pa_cons pe_int (pa_cons pe_int (pa_cons pe_int pa_nil)))) pa_nil))) (pa_cons (pe_lst (pa_cons (pe_tup (pa_cons pe_int (pa_cons pe_int (pa_cons pe_int pa_nil)))) (pa_cons (pe_tup (pa_cons pe_int (pa_cons pe_int (pa_cons (pv 4) pa_nil)))) (pa_cons (pe_tup (pa_cons pe_int (pa_cons pe_int (pa_cons pe_int pa_nil)))) pa_nil)))) pa_nil)))) pa_nil)))
    (pss_cons (ps_expr (pe_bm PySem.F.plainAttrs_list PySem.F.slot_list_append PySem.F.type_list_append mt_append (pv 8) (pa_cons (pe_op op_cat (pe_op op_rep (pe_lst (pa_cons (pe_lst (pa_cons (pe_tup (pa_cons pe_int (pa_cons pe_int (pa_cons pe_int pa_nil)))) pa_nil)) pa_nil)) pe_int) (pe_lst (pa_cons (pe_lst (pa_cons (pe_tup (pa_cons pe_int (pa_cons pe_int (pa_cons (pv 5) pa_nil)))) (pa_cons (pe_tup (pa_cons pe_int (pa_cons pe_int (pa_cons pe_int pa_nil)))) pa_nil))) (pa_cons (pe_lst (pa_cons (pe_tup (pa_cons pe_int (pa_cons pe_int (pa_cons pe_int pa_nil)))) (pa_cons (pe_tup (pa_cons pe_int (pa_cons pe_int (pa_cons (pv 4) pa_nil)))) (pa_cons (pe_tup (pa_cons pe_int (pa_cons pe_int (pa_cons pe_int pa_nil)))) pa_nil)))) pa_nil)))) pa_nil)))
    (pss_cons (ps_expr (pe_bm PySem.F.plainAttrs_list PySem.F.slot_list_append PySem.F.type_list_append mt_append (pv 8) (pa_cons (pe_lst (pa_cons (pe_ix (r := rIxL K) ix_list (pv 6) pe_int (fun _ _ => rfl)) (pa_cons (pe_op op_cat (pe_ix (r := rIxL K) ix_list (pv 6) pe_int (fun _ _ => rfl)) (pe_lst (pa_cons (pe_tup (pa_cons pe_int (pa_cons pe_int (pa_cons (pe_d D_law_draw hr (by rfl) (pa_cons (pv 0) (pa_cons pe_int pa_nil))) pa_nil)))) pa_nil))) pa_nil))) pa_nil)))
    (pss_cons (ps_for PassesOwn.never rfl (pi_list (pv 8)) (pg_name (i := 10) sc_law_right.nd rfl (.inl rfl))
      (pss_cons (ps_set (i := 11) sc_law_right.nd rfl (.inl rfl) (pe_cmpR (op_eq1B EXB (hr.mono (by omega))) (pe_d D_law_comes hr (by rfl) (pa_cons (pv 3) (pa_cons (pv 10) pa_nil))) (pv 7) (nomark _)))
      (pss_one (ps_if (pt_cmpR op_ne (pe_callB (cr_sh (RD.own (hr.mono (by omega))) (hr.mono (by omega)) hg2) (by rfl) M.repr (by decide +kernel) (pa_cons (pe_lst (pa_cons (pe_d D_is_making_of hr (by rfl) (pa_cons (pv 3) (pa_cons (pv 7) (pa_cons (pv 10) pa_nil)))) (pa_cons (pe_dk0 D_is_making_of hr (by rfl) 3 true ["value", "poly", "makers"] bk_is_making_of_0_value_poly_makers (pk_cons (pv 10) (pk_cons (pe_callTy call_tuple_of (by rfl) M.tuple (by decide +kernel) (pa_cons (pv 7) pa_nil)) (pk_cons (pv 3) pk_nil)))) pa_nil))) pa_nil)) (pe_callB (cr_sh (RD.own (hr.mono (by omega))) (hr.mono (by omega)) hg2) (by rfl) M.repr (by decide +kernel) (pa_cons (pe_lst (pa_cons (pv 11) (pa_cons (pv 11) pa_nil))) pa_nil)) (nomark _))
        (pss_one (ps_ret pe_bl))
        (pss_nil)))))
    (pss_one (ps_ret (pe_cmpR op_isBl (pe_d D_is_making_of hr (by rfl) (pa_cons (pv 3) (pa_cons (pe_d D_law_sum hr (by rfl) (pa_cons (pv 7) (pa_cons (pe_lst (pa_cons (pe_rat RD (hr.mono (by omega)) (by rfl) (pa_cons pe_int pa_nil)) pa_nil)) (pa_cons pe_int pa_nil)))) (pa_cons (pv 6) pa_nil)))) pe_bl (nomark _))))))))))))))))), ?_⟩
  refine ⟨_, rfl, p, rfl, hp, fun t H1 a b us ws f g lo hi hp1 k1 ht ha hb hf hg tp ap bp m1 m2 c1 c2 c3 c4 c5 => ?_⟩
  refine ⟨t, _, rfl, SqT.of ht, rfl, _, _, rfl, _, _, rfl, rfl, ?_⟩
  refine ⟨_, rfl, _, rfl, _, rfl, p, a, b, us, ws, f, g, lo, hi, rfl, hp1, ap, bp, ha, hb, hf, hg, m1, m2, c1, c2, c3, c4, c5, fun l H2 gs ps hp2 k2 nl hl hE l2 mk => ?_⟩
  refine ⟨((2 : Nat) : Int), rfl, l, gs, rfl, SqL.of hl, fun L nL => ?_⟩
  rw [cut_to]
  have lgs := hE.1
  have sL := same_new (o := .lst (gs.take 2)) nL
  have nLp : L ≠ p := pot_ne hp2 nL
  have hms : MsOk (ps.take 2) := ⟨by rw [List.length_take]; omega, by rw [List.length_take]; omega, fun q hq => mk q (List.mem_of_mem_take hq)⟩
  have lms : (ps.take 2).length = 2 := by rw [List.length_take]; omega
  have hE3 : Ea (ListQ C) (wos [p] (upd H2 L (.lst (gs.take 2)))) (gs.take 2) (ps.take 2) := by
    have e1 : Ea (ListQ C) (wos [l, p] H2) (gs.take 2) (ps.take 2) := ⟨by rw [List.length_take, List.length_take, lgs], fun i v hv => by
      rw [List.getElem?_take] at hv ⊢
      split at hv
      · rename_i i5; rw [if_pos i5]; exact hE.2 i v hv
      · cases hv⟩
    refine e1.same ListQ.mo ((wos_sub (T := [p]) fun b hb => .inl ?_).trans (wos_same sL))
    rw [List.mem_singleton.mp hb]; simp
  have hL : (upd H2 L (.lst (gs.take 2))) L = some (.lst (gs.take 2)) := upd_same
  have hp3 := hp2.same sL
  have k3 := (k1.trans k2).trans (Keep.of sL)
  have nLH : H L = none := by
    cases z : H L with
    | none => rfl
    | some o => rw [(k1.trans k2) _ _ nLp z] at nL; cases nL
  generalize gs.take 2 = gs, ps.take 2 = ms at *
  generalize upd H2 L (.lst gs) = H3 at *
  clear hE mk nl hl hp2 k2 k1 hp1 sL
  dsimp only [gName]
  show tSeq (tPar _ _ _) _ _ [some (.ref p), some (.ref a), some (.ref b), some (.ref L), none, none, none, none, none, none, none, none, none] H3
  refine ⟨_, rfl, p, 5, rfl, hp3, by omega, by omega, fun z H4 z0 z1 hp4 k4 => ⟨z, 2, rfl, rfl, ?_⟩⟩
  have kn : ∀ G, PotOk G p → Kn [p] G := fun G pG s hs z => by
    obtain ⟨u, v, g, _⟩ := pG
    rw [List.mem_singleton.mp hs, g] at z; cases z
  refine gk_pick (p := p) (S := [p]) (ψ := fun v G => ∃ q, NumS C (wos [p] G) v q) (n := 3) rfl hp4 (by simp) (kn _ hp4) (by omega) (by omega) (fun v A B s ⟨q, h⟩ => ⟨q, NumS.mo _ _ _ _ h (wos_same s)⟩) (fun v A B k ⟨q, h⟩ => ⟨q, NumS.mo _ _ _ _ h (wos_keep (by simp) k)⟩) ?_ _ ?_
  · have hm : ∀ v A B, Same A B → (∃ q, NumS C (wos [p] A) v q) → ∃ q, NumS C (wos [p] B) v q := fun v A B s ⟨q, h⟩ => ⟨q, NumS.mo _ _ _ _ h (wos_same s)⟩
    refine gva_cons hm (fun Q q => q _ _ (Same.refl _) ⟨_, NumS.int (by decide)⟩) fun H5 s5 => ?_
    refine gva_cons hm (fun Q q => ⟨2, rfl, q _ _ (Same.refl _) ⟨_, NumS.int (by decide)⟩⟩) fun H6 s6 => ?_
    refine gva_cons hm (fun Q q => ⟨1, 3, rfl, by decide, ?_⟩) fun H7 s7 => ?_
    · exact ⟨Nat.lt_of_lt_of_le (show (3 : Int).natAbs < 2 ^ 2 by decide) (Nat.pow_le_pow_right (by decide) (by decide)), fun m H' nm sm r => q _ _ sm ⟨_, (rq_new (kn _ ((hp4.same s5).same s6)) nm r).nq, by decide +kernel, by decide +kernel⟩⟩
    exact gva_nil
  rintro v H5 k5 hp5 ⟨q3, hv⟩
  refine ⟨_, _, rfl, ?_⟩
  have kn5 := kn _ hp5
  have hn : (z - 2).natAbs ≤ 3 := by omega
  dsimp only
  generalize z - 2 = nn at hn ⊢
  have k5 := k3.trans (k4.trans k5)
  have hL5 := (k4.trans (by assumption)) _ _ nLp hL
  have hE5 := hE3.same ListQ.mo (wos_keep (S := [p]) (by simp) (k4.trans (by assumption)))
  show tSeq (tAsg _ _) _ _ [some (.ref p), some (.ref a), some (.ref b), some (.ref L), some (.int nn), some v, none, none, none, none, none, none, none] H5
  refine seq_asg (φ := fun v H' => MP C (wos [p] H') v (mk0 q3 nn)) (ge_lst (R := LP C) LP.mo kn5 (by simp) (ge_cons (R := LP C) LP.mo (ge_lst (R := PartR C) PartR.mo kn5 (by simp) (ge_cons (R := PartR C) PartR.mo (ge_partG (i := 1) (j := 1) kn5 (gn_var rfl (NumS.mo _ _ _ _ hv (wos_same (Same.refl _)))) (by decide) (by decide)) fun G2 t2 => ge_cons (R := PartR C) PartR.mo (ge_partG (i := 0) (j := 2) (kn5.same t2) (gn_c2 (z := 1) rfl (by decide)) (by decide) (by decide)) fun G3 t3 => ge_nil (R := PartR C))) fun G1 t1 => ge_cons (R := LP C) LP.mo (ge_lst (R := PartR C) PartR.mo (kn5.same t1) (by simp) (ge_cons (R := PartR C) PartR.mo (ge_partG (i := 0) (j := 3) (kn5.same t1) (gn_c2 (z := 1) rfl (by decide)) (by decide) (by decide)) fun G5 t5 => ge_cons (R := PartR C) PartR.mo (ge_partG (i := 1) (j := 0) ((kn5.same t1).same t5) (gn_var rfl (NumS.int hn)) (by decide) (by decide)) fun G6 t6 => ge_cons (R := PartR C) PartR.mo (ge_partG (i := 0) (j := 0) (((kn5.same t1).same t5).same t6) (gn_rat2 (z := 3) (((kn5.same t1).same t5).same t6) rfl (by decide)) (by decide) (by decide)) fun G7 t7 => ge_nil (R := PartR C))) fun G4 t4 => ge_nil (R := LP C))) ?_
  intro vr H6 s6 hMP
  have sm3q : Sm3 q3 := ⟨hv.2.1, hv.2.2⟩
  have sm3n : Sm3 ((nn : Int) : Rat) := ⟨⟨6, rfl⟩, hn⟩
  obtain ⟨r, r0, r1, xs0, xs1, rfl, hR⟩ := right_at hMP sm3q sm3n
  have kn6 := kn5.same s6
  have hp6 := hp5.same s6
  have hIt : It C (wos [p] H6) v := (NumS.mo _ _ _ _ hv (wos_same s6)).it
  have hv6 := NumS.mo _ _ _ _ hv (wos_same s6)
  have k6 := k5.trans (Keep.of s6)
  have hL6 := s6 _ _ hL5
  have hE6 := hE5.same ListQ.mo (wos_same s6)
  have hmk := mk0_ok hms lms sm3q sm3n
  obtain ⟨pf, pg, pne⟩ := pol0 hms lms sm3q sm3n
  generalize hf0 : lastQ ms (mk0 q3 nn) = fq at pf pg pne
  dsimp only [gName]
  show tSeq (tAsg _ _) _ _ [some (.ref p), some (.ref a), some (.ref b), some (.ref L), some (.int nn), some v, some (.ref r), none, none, none, none, none, none] H6
  refine ⟨_, rfl, _, rfl, L, .ref r, gs, ms, mk0 q3 nn, D2, E3, M3, rfl, hL6, hE6.same ListQ.mo wos_le, fun q hq => (hms.2.2 q hq).all.1, .inl ⟨SeqR.mo (SeqR.mo PartR.mo) _ _ _ _ hR.mak wos_le, hmk, fun A0 H7 ps7 s7 nA hA hQ => ?_⟩⟩
  rw [hf0] at hQ
  have nAp : A0 ≠ p := pot_ne hp6 nA
  have kn7 := kn6.same s7
  have hp7 := hp6.same s7
  have k7 := k6.trans (Keep.of s7)
  have hL7 := s7 _ _ hL6
  have hE7 := hE6.same ListQ.mo (wos_same s7)
  have hR7 := hR.same (wos_same s7)
  have hv7 := NumS.mo _ _ _ _ hv6 (wos_same s7)
  have hIt7 := It.same hIt (wos_same s7)
  have hQ7 : QL C (wos [p] H7) ps7 fq := hQ.same_wos hp7
  clear hMP hR hv6 hIt hE6 hL6 k6 hE5 hL5 k5 hE3 hL k3 k4 hp3 hp4 hp5 hp6 s6 kn5 kn6 hv hQ
  have hIt := hIt7
  dsimp only [gName]
  show tSeq (tAsg _ _) _ _ [some (.ref p), some (.ref a), some (.ref b), some (.ref L), some (.int nn), some v, some (.ref r), some (.ref A0), none, none, none, none, none] H7
  refine seq_asg (gs_lstW (ψ := MvT C) (n := 5) MvT.same kn7 (by decide) ?_) ?_
  · refine ga_cons (ψ := MvT C) MvT.same (gs_var (ψ := MvT C) rfl hR7.mv) fun G1 t1 => ?_
    refine ga_cons (ψ := MvT C) MvT.same (fun Q q => ⟨_, rfl, r, _, rfl, .inl ⟨SqL.of (t1 _ _ (wos_le _ _ hR7.hr)), fun l nl => q _ _ (same_new nl) (mv_seq (us := [V.ref r0, V.ref r1]) (.inr (by rw [wos_ne ((kn7.same t1).new nl)]; exact upd_same)) (by simp) fun y hy => (hR7.lvs y hy).same (wos_same (t1.trans (same_new nl))))⟩⟩) fun G2 t2 => ?_
    refine ga_cons (ψ := MvT C) MvT.same ?_ fun G3 t3 => ?_
    · intro Q q
      have t12 := t1.trans t2
      have hr2 := t12 _ _ (wos_le _ _ hR7.hr)
      have kn12 := kn7.same t12
      refine ⟨_, rfl, r, rfl, ⟨_, SqL.of hr2⟩, fun D nD => ?_⟩
      refine lc_rel (walk_list (K := K) (a := r) (xs := [V.ref r0, V.ref r1])) (fun i acc Hh => acc.length = i ∧ ∀ y ∈ acc, LvT C (wos [p] Hh) y) nD (by rw [sizeLine_eq]; show 2 ≤ _; omega) (fun Hh sh => SqL.of (sh _ _ hr2)) ⟨rfl, fun y hy => (by cases hy)⟩ (fun i acc A B s r => ⟨r.1, fun y hy => (r.2 y hy).same (wos_same s)⟩) (fun i y acc Ha Hb hi sa hA hr hy Yc Nc yc nc => ?_) (fun acc H9 s9 hD hr => ?_)
      · obtain ⟨rfl, hy2⟩ := hy
        obtain ⟨b9, xs9, rfl, hb9, l9, p9⟩ : ∃ b xs, y = .ref b ∧ wos [p] H7 b = some (.lst xs) ∧ xs.length ≤ 3 ∧ ∀ u ∈ xs, PvT C (wos [p] H7) u := by
          match i, hi, hy2 with
          | 0, _, h => obtain rfl := Option.some.inj h; exact ⟨r0, xs0, rfl, hR7.h0, by have := hR7.l0; omega, fun u hu => (hR7.p0 u hu).1⟩
          | 1, _, h => obtain rfl := Option.some.inj h; exact ⟨r1, xs1, rfl, hR7.h1, by have := hR7.l1; omega, fun u hu => (hR7.p1 u hu).1⟩
        have sb := t12.trans sa
        refine ⟨rfl, _, rfl, b9, xs9, rfl, .inl ⟨SqL.of (sb _ _ (wos_le _ _ hb9)), fun l nl => yc (.ref l) _ (same_new nl) ⟨by rw [List.length_append, hr.1]; rfl, fun u hu => ?_⟩⟩⟩
        have nD7 : H7 D = none := t12.free nD
        rcases List.mem_append.mp hu with h | h
        · exact (hr.2 u h).same (wos_same (wo_mono (same_new nl)))
        · rw [List.mem_singleton.mp h]
          have lD : l ≠ D := fun z => by rw [z, hA] at nl; cases nl
          refine lv_seq (us := xs9) (.inr ?_) (by omega) fun u hu => (p9 u hu).same (wos_same (same_wo nD7 (sb.trans (same_new nl))))
          rw [wos_ne ((kn7.same sb).new nl), wo_ne lD]; exact upd_same
      · have ns : D ∉ [p] := kn12.new nD
        refine q _ _ s9 (mv_seq (us := acc) (.inl ?_) (by rw [hr.1]; simp) fun y hy => (hr.2 y hy).same (wos_same wo_le))
        rw [wos_ne ns]; exact hD
    have t13 := (t1.trans t2).trans t3
    have kn13 := kn7.same t13
    refine ga_cons (ψ := MvT C) MvT.same (fun Q q => (gg_cat (ψ := LvT C) (n := 2) (m := 1) LvT.same kn13 (by decide) (gg_var rfl (LsG.same (ψ := LvT C) LvT.same hR7.ls (wos_same t13))) fun G t => gg_lst (ψ := LvT C) (n := 1) LvT.same (kn13.same t) (by decide) (ga_cons (ψ := LvT C) LvT.same (gl_lst (n := 1) (kn13.same t) (by omega) (ga_cons (ψ := PvT C) PvT.same (gp_tup (n := 3) (kn13.same t) (by omega) (ga_cons (ψ := It C) It.same (gs_c (ψ := It C) fun _ => It.int (by decide)) fun G3 t3 => ga_cons (ψ := It C) It.same (gs_c (ψ := It C) fun _ => It.int (by decide)) fun G4 t4 => ga_cons (ψ := It C) It.same (gs_c (ψ := It C) fun _ => It.int (by decide)) fun G5 t5 => ga_nil (ψ := It C))) fun G2 t2 => ga_nil (ψ := PvT C))) fun G1 t1 => ga_nil (ψ := LvT C))) Q fun v H' s h => q v H' s (h.mv (by decide))) fun G4 t4 => ?_
    have kn14 := kn13.same t4
    have hIt := It.same hIt (wos_same (t13.trans t4))
    refine ga_cons (ψ := MvT C) MvT.same (fun Q q => (gg_cat (ψ := LvT C) (n := 1) (m := 2) LvT.same kn14 (by decide) (gg_lst (ψ := LvT C) (n := 1) LvT.same kn14 (by decide) (ga_cons (ψ := LvT C) LvT.same (gl_lst (n := 0) kn14 (by omega) (ga_nil (ψ := PvT C))) fun G6 t6 => ga_nil (ψ := LvT C))) fun G t => gg_lst (ψ := LvT C) (n := 2) LvT.same (kn14.same t) (by decide) (ga_cons (ψ := LvT C) LvT.same (gl_lst (n := 2) (kn14.same t) (by omega) (ga_cons (ψ := PvT C) PvT.same (gp_tup (n := 3) (kn14.same t) (by omega) (ga_cons (ψ := It C) It.same (gs_c (ψ := It C) fun _ => It.int (by decide)) fun G9 t9 => ga_cons (ψ := It C) It.same (gs_c (ψ := It C) fun _ => It.int (by decide)) fun G10 t10 => ga_cons (ψ := It C) It.same (gs_var (ψ := It C) rfl (It.same hIt (wos_same ((t.trans t9).trans t10)))) fun G11 t11 => ga_nil (ψ := It C))) fun G8 t8 => ga_cons (ψ := PvT C) PvT.same (gp_tup (n := 3) ((kn14.same t).same t8) (by omega) (ga_cons (ψ := It C) It.same (gs_c (ψ := It C) fun _ => It.int (by decide)) fun G13 t13 => ga_cons (ψ := It C) It.same (gs_c (ψ := It C) fun _ => It.int (by decide)) fun G14 t14 => ga_cons (ψ := It C) It.same (gs_c (ψ := It C) fun _ => It.int (by decide)) fun G15 t15 => ga_nil (ψ := It C))) fun G12 t12 => ga_nil (ψ := PvT C))) fun G7 t7 => ga_cons (ψ := LvT C) LvT.same (gl_lst (n := 3) ((kn14.same t).same t7) (by omega) (ga_cons (ψ := PvT C) PvT.same (gp_tup (n := 3) ((kn14.same t).same t7) (by omega) (ga_cons (ψ := It C) It.same (gs_c (ψ := It C) fun _ => It.int (by decide)) fun G18 t18 => ga_cons (ψ := It C) It.same (gs_c (ψ := It C) fun _ => It.int (by decide)) fun G19 t19 => ga_cons (ψ := It C) It.same (gs_c (ψ := It C) fun _ => It.int (by decide)) fun G20 t20 => ga_nil (ψ := It C))) fun G17 t17 => ga_cons (ψ := PvT C) PvT.same (gp_tup (n := 3) (((kn14.same t).same t7).same t17) (by omega) (ga_cons (ψ := It C) It.same (gs_c (ψ := It C) fun _ => It.int (by decide)) fun G22 t22 => ga_cons (ψ := It C) It.same (gs_c (ψ := It C) fun _ => It.int (by decide)) fun G23 t23 => ga_cons (ψ := It C) It.same (git_var rfl (by omega)) fun G24 t24 => ga_nil (ψ := It C))) fun G21 t21 => ga_cons (ψ := PvT C) PvT.same (gp_tup (n := 3) ((((kn14.same t).same t7).same t17).same t21) (by omega) (ga_cons (ψ := It C) It.same (gs_c (ψ := It C) fun _ => It.int (by decide)) fun G26 t26 => ga_cons (ψ := It C) It.same (gs_c (ψ := It C) fun _ => It.int (by decide)) fun G27 t27 => ga_cons (ψ := It C) It.same (gs_c (ψ := It C) fun _ => It.int (by decide)) fun G28 t28 => ga_nil (ψ := It C))) fun G25 t25 => ga_nil (ψ := PvT C))) fun G16 t16 => ga_nil (ψ := LvT C))) Q fun v H' s h => q v H' s (h.mv (by decide))) fun G5 t5 => ga_nil
  rintro _ H8 s8 ⟨W, f0, rfl, nW, nWp, hW, lf, hf0'⟩
  have N : Ne48 p L A0 W H := ⟨by simpa using nWp, nLp, nAp, fun z => by rw [z, hL7] at nW; (cases nW), fun z => by rw [z, hA] at nW; (cases nW), by
    cases e : H W with
    | none => rfl
    | some o => rw [k7 _ _ (by simpa using nWp) e] at nW; cases nW⟩
  have v7 : Same (wos [p] H7) (wos [W, p] H8) := fun b o e => by
    obtain ⟨g1, g2⟩ := wos_some.mp e
    exact wos_some.mpr ⟨by simp only [List.mem_cons, List.not_mem_nil, or_false, not_or] at g1 ⊢; exact ⟨ne_of_none g2 nW, g1⟩, s8 _ _ g2⟩
  have G8 : St48 C p L r r0 r1 A0 W gs xs0 xs1 ps7 f0 v ms q3 nn fq H H8 := ⟨k7.trans (Keep.of s8), hp7.same s8, s8 _ _ hL7, hE7.same ListQ.mo v7, hR7.same v7, NumS.mo _ _ _ _ hv7 v7, s8 _ _ hA, RatL.same hQ7 v7, hW, fun y hy => .inl (hf0' y hy)⟩
  have lf5 : f0.length = 5 := lf
  clear v7 hf0' hW nWp nW lf hIt hIt7 hQ7 hv7 hR7 hE7 hL7 k7 hp7 kn7 nA hA
  dsimp only [gName]
  show tSeq (tDrop _) _ _ [some (.ref p), some (.ref a), some (.ref b), some (.ref L), some (.int nn), some v, some (.ref r), some (.ref A0), some (.ref W), none, none, none, none] H8
  have kn8 := G8.kn
  refine seq_ext rfl G8.hW (gs_lstV (ψ := MvT C) (n := 12) MvT.same kn8 (by decide) ?_) ?_
  · have R8 := G8.hR
    refine ga_cons (ψ := MvT C) MvT.same (fun Q q => (gg_to (ψ := LvT C) (n := 2) (k := 1) LvT.same kn8 (gg_var rfl R8.ls) (by decide)) Q fun v H' s h => q v H' s (h.mv (by decide))) fun G1 t1 => ?_
    refine ga_cons (ψ := MvT C) MvT.same (fun Q q => (gg_rev (ψ := LvT C) (n := 2) LvT.same (kn8.same t1) rfl (wos_same t1 _ _ R8.hr) (fun y hy => (R8.lvs y hy).same (wos_same t1)) rfl) Q fun v H' s h => q v H' s (h.mv (by decide))) fun G2 t2 => ?_
    have t12 := t1.trans t2
    refine ga_cons (ψ := MvT C) MvT.same (fun Q q => (gg_cat (ψ := LvT C) (n := 2) (m := 1) LvT.same (kn8.same t12) (by decide) (gg_var rfl (LsG.same (ψ := LvT C) LvT.same R8.ls (wos_same t12))) fun G t => gg_lst (ψ := LvT C) (n := 1) LvT.same ((kn8.same t12).same t) (by decide) (ga_cons (ψ := LvT C) LvT.same (gl_lst (n := 0) ((kn8.same t12).same t) (by omega) (ga_nil (ψ := PvT C))) fun G29 t29 => ga_nil (ψ := LvT C))) Q fun v H' s h => q v H' s (h.mv (by decide))) fun G3 t3 => ?_
    have k3 := (kn8.same t12).same t3
    refine ga_cons (ψ := MvT C) MvT.same (gm_lst (n := 0) k3 (by omega) (ga_nil (ψ := LvT C))) fun G4 t4 => ?_
    have k4 := k3.same t4
    refine ga_cons (ψ := MvT C) MvT.same (gm_lst (n := 1) k4 (by omega) (ga_cons (ψ := LvT C) LvT.same (gl_lst (n := 0) k4 (by omega) (ga_nil (ψ := PvT C))) fun G73 t73 => ga_nil (ψ := LvT C))) fun G5 t5 => ?_
    have k5 := k4.same t5
    refine ga_cons (ψ := MvT C) MvT.same (gs_c (ψ := MvT C) fun _ => mv_none Sk.non rfl) fun G6 t6 => ?_
    refine ga_cons (ψ := MvT C) MvT.same (gs_c (ψ := MvT C) fun _ => mv_none (Sk.int (by decide)) rfl) fun G7 t7 => ?_
    refine ga_cons (ψ := MvT C) MvT.same (gs_c (ψ := MvT C) fun _ => mv_none (Sk.str (by decide +kernel)) rfl) fun G8 t8 => ?_
    have k8 := ((k5.same t6).same t7).same t8
    refine ga_cons (ψ := MvT C) MvT.same (gm_d0 k8) fun G9 t9 => ?_
    have k9 := k8.same t9
    refine ga_cons (ψ := MvT C) MvT.same (gs_c (ψ := MvT C) fun _ => mv_none (Sk.bl _) rfl) fun G10 t10 => ?_
    have k10 := k9.same t10
    refine ga_cons (ψ := MvT C) MvT.same (gm_lst (n := 1) k10 (by omega) (ga_cons (ψ := LvT C) LvT.same (gs_c (ψ := LvT C) fun _ => lv_none Sk.non rfl) fun G74 t74 => ga_nil (ψ := LvT C))) fun G11 t11 => ?_
    have tt := ((((((((t12.trans t3).trans t4).trans t5).trans t6).trans t7).trans t8).trans t9).trans t10).trans t11
    refine ga_cons (ψ := MvT C) MvT.same (gg_ix (j := 1) (φ := fun v H' => MvT C (wos [W, p] H') v) rfl (wos_same tt _ _ R8.hr) rfl (R8.mv1.same (wos_same tt))) fun G12 t12 => ga_nil
  rintro _ H9 s9 ⟨g9, ys, rfl, ng, hg9, lg, hgs⟩
  have lg12 : ys.length = 12 := lg
  have G9 := G8.same s9
  refine ⟨g9, ys, rfl, hg9, by omega, ?_⟩
  have G10 := St48.ext G9 N fun y hy => .inl (hgs y hy)
  have l10 : (f0 ++ ys).length = 17 := by rw [List.length_append]; omega
  generalize f0 ++ ys = fs, upd H9 W (.lst (f0 ++ ys)) = H10 at G10 l10
  clear G9 G8 hg9 hgs ng lg lg12 s9 s8 lf5 kn8
  try dsimp only
  show tSeq (tFor _ _ _) _ _ [some (.ref p), some (.ref a), some (.ref b), some (.ref L), some (.int nn), some v, some (.ref r), some (.ref A0), some (.ref W), none, none, none, none] H10
  refine seq_for_gv (gg_lst (ψ := PvT C) (n := 10) PvT.same G10.kn (by decide) (ga_cons (ψ := PvT C) PvT.same (gp_tup (n := 2) G10.kn (by omega) (ga_cons (ψ := It C) It.same (gs_c (ψ := It C) fun _ => It.int (by decide)) fun G31 t31 => ga_cons (ψ := It C) It.same (gs_c (ψ := It C) fun _ => It.int (by decide)) fun G32 t32 => ga_nil (ψ := It C))) fun G30 t30 => ga_cons (ψ := PvT C) PvT.same (gp_tup (n := 4) (G10.kn.same t30) (by omega) (ga_cons (ψ := It C) It.same (gs_c (ψ := It C) fun _ => It.int (by decide)) fun G34 t34 => ga_cons (ψ := It C) It.same (gs_c (ψ := It C) fun _ => It.int (by decide)) fun G35 t35 => ga_cons (ψ := It C) It.same (gs_c (ψ := It C) fun _ => It.int (by decide)) fun G36 t36 => ga_cons (ψ := It C) It.same (gs_c (ψ := It C) fun _ => It.int (by decide)) fun G37 t37 => ga_nil (ψ := It C))) fun G33 t33 => ga_cons (ψ := PvT C) PvT.same (gp_lst (n := 3) ((G10.kn.same t30).same t33) (by omega) (ga_cons (ψ := It C) It.same (gs_c (ψ := It C) fun _ => It.int (by decide)) fun G39 t39 => ga_cons (ψ := It C) It.same (gs_c (ψ := It C) fun _ => It.int (by decide)) fun G40 t40 => ga_cons (ψ := It C) It.same (gs_c (ψ := It C) fun _ => It.int (by decide)) fun G41 t41 => ga_nil (ψ := It C))) fun G38 t38 => ga_cons (ψ := PvT C) PvT.same (gp_tup (n := 3) (((G10.kn.same t30).same t33).same t38) (by omega) (ga_cons (ψ := It C) It.same (gs_c (ψ := It C) fun _ => It.int (by decide)) fun G43 t43 => ga_cons (ψ := It C) It.same (gs_c (ψ := It C) fun _ => It.int (by decide)) fun G44 t44 => ga_cons (ψ := It C) It.same (gs_c (ψ := It C) fun _ => It.int (by decide)) fun G45 t45 => ga_nil (ψ := It C))) fun G42 t42 => ga_cons (ψ := PvT C) PvT.same (gp_tup (n := 3) ((((G10.kn.same t30).same t33).same t38).same t42) (by omega) (ga_cons (ψ := It C) It.same (git_neg (by decide)) fun G47 t47 => ga_cons (ψ := It C) It.same (gs_c (ψ := It C) fun _ => It.int (by decide)) fun G48 t48 => ga_cons (ψ := It C) It.same (gs_c (ψ := It C) fun _ => It.int (by decide)) fun G49 t49 => ga_nil (ψ := It C))) fun G46 t46 => ga_cons (ψ := PvT C) PvT.same (gp_tup (n := 3) (((((G10.kn.same t30).same t33).same t38).same t42).same t46) (by omega) (ga_cons (ψ := It C) It.same (gs_c (ψ := It C) fun _ => It.int (by decide)) fun G51 t51 => ga_cons (ψ := It C) It.same (gs_c (ψ := It C) fun _ => It.int (by decide)) fun G52 t52 => ga_cons (ψ := It C) It.same (gs_c (ψ := It C) fun _ => It.no (Sk.bl _) rfl) fun G53 t53 => ga_nil (ψ := It C))) fun G50 t50 => ga_cons (ψ := PvT C) PvT.same (gp_tup (n := 3) ((((((G10.kn.same t30).same t33).same t38).same t42).same t46).same t50) (by omega) (ga_cons (ψ := It C) It.same (gs_c (ψ := It C) fun _ => It.int (by decide)) fun G55 t55 => ga_cons (ψ := It C) It.same (gs_c (ψ := It C) fun _ => It.int (by decide)) fun G56 t56 => ga_cons (ψ := It C) It.same (gs_c (ψ := It C) fun _ => It.no Sk.non rfl) fun G57 t57 => ga_nil (ψ := It C))) fun G54 t54 => ga_cons (ψ := PvT C) PvT.same (gp_tup (n := 3) (((((((G10.kn.same t30).same t33).same t38).same t42).same t46).same t50).same t54) (by omega) (ga_cons (ψ := It C) It.same (gs_c (ψ := It C) fun _ => It.no (Sk.bl _) rfl) fun G59 t59 => ga_cons (ψ := It C) It.same (gs_c (ψ := It C) fun _ => It.int (by decide)) fun G60 t60 => ga_cons (ψ := It C) It.same (gs_c (ψ := It C) fun _ => It.int (by decide)) fun G61 t61 => ga_nil (ψ := It C))) fun G58 t58 => ga_cons (ψ := PvT C) PvT.same (gp_tup (n := 3) ((((((((G10.kn.same t30).same t33).same t38).same t42).same t46).same t50).same t54).same t58) (by omega) (ga_cons (ψ := It C) It.same (gs_c (ψ := It C) fun _ => It.no (Sk.str (by decide +kernel)) rfl) fun G63 t63 => ga_cons (ψ := It C) It.same (gs_c (ψ := It C) fun _ => It.int (by decide)) fun G64 t64 => ga_cons (ψ := It C) It.same (gs_c (ψ := It C) fun _ => It.int (by decide)) fun G65 t65 => ga_nil (ψ := It C))) fun G62 t62 => ga_cons (ψ := PvT C) PvT.same (gp_tup (n := 3) (((((((((G10.kn.same t30).same t33).same t38).same t42).same t46).same t50).same t54).same t58).same t62) (by omega) (ga_cons (ψ := It C) It.same (gs_c (ψ := It C) fun _ => It.int (by decide)) fun G67 t67 => ga_cons (ψ := It C) It.same (git_rat ((((((((((G10.kn.same t30).same t33).same t38).same t42).same t46).same t50).same t54).same t58).same t62).same t67) (by decide)) fun G68 t68 => ga_cons (ψ := It C) It.same (gs_c (ψ := It C) fun _ => It.int (by decide)) fun G69 t69 => ga_nil (ψ := It C))) fun G66 t66 => ga_nil (ψ := PvT C))) ?_
  rintro _ H11 s11 ⟨O, os, rfl, hO, lo10, ho⟩
  have G11 := G10.same s11
  clear G10
  refine ⟨O, rfl, ⟨os, SqL.of (wos_le _ _ hO)⟩, for_list (xs := os) (fun i σ G => ∃ (o9 : Option V) (us : List V), σ = [some (.ref p), some (.ref a), some (.ref b), some (.ref L), some (.int nn), some v, some (.ref r), some (.ref A0), some (.ref W), o9, none, none, none] ∧ us.length ≤ 17 + i ∧ St48 C p L r r0 r1 A0 W gs xs0 xs1 ps7 us v ms q3 nn fq H G ∧ Same (wos [W, p] H11) (wos [W, p] G)) ⟨none, fs, rfl, by omega, G11, Same.refl _⟩ (fun i σ' G _ ⟨_, _, _, _, _, s⟩ => SqL.of (wos_le _ _ (s _ _ hO))) (fun i y σ' G hy ⟨o9, us, e, lu, G12, s⟩ => ?_) (fun σ' G ⟨o9, us, e, lu, G12, s⟩ => ?_)⟩
  · subst e
    have li := (List.getElem?_eq_some_iff.mp hy).1
    have hyP := (ho y (List.mem_of_getElem? hy)).same s
    have R12 := G12.hR
    dsimp only [gName]
    show tDrop (tBM _ "list" rAppend (tVar 8) _) _ [some (.ref p), some (.ref a), some (.ref b), some (.ref L), some (.int nn), some v, some (.ref r), some (.ref A0), some (.ref W), some y, none, none, none] G
    refine St48.app (K := K) rfl G12 N (by omega) ?_ (fun u H2 G13 s13 => ⟨_, us ++ [u], rfl, by rw [List.length_append]; simp; omega, G13, s.trans s13⟩)
    refine gk_of G12.pot fun Q q => ?_
    refine gm_lst (n := 2) G12.kn (by decide) ?_ Q fun v H' s h => q v H' s (.inl h)
    refine ga_cons (ψ := LvT C) LvT.same (gg_ix (j := 0) (φ := fun v H' => LvT C (wos [W, p] H') v) rfl R12.hr rfl R12.lv0) fun G1 t1 => ?_
    refine ga_cons (ψ := LvT C) LvT.same (fun Q q => ?_) fun _ _ => ga_nil
    refine gg_cat (ψ := PvT C) (n := 1) (m := 2) PvT.same (G12.kn.same t1) (by decide) ?_ ?_ Q fun v H' s h => q v H' s (h.lv (by decide))
    · exact gg_lst (ψ := PvT C) (n := 1) PvT.same (G12.kn.same t1) (by decide) (ga_cons (ψ := PvT C) PvT.same (gs_var rfl (hyP.same (wos_same t1))) fun _ _ => ga_nil)
    · exact fun G2 t2 => gg_from (ψ := PvT C) (n := 3) (k := 1) PvT.same ((G12.kn.same t1).same t2) (gg_ix (j := 1) (φ := fun v H' => LsG (PvT C) 3 (wos [W, p] H') v) rfl (wos_same (t1.trans t2) _ _ R12.hr) rfl (LsG.same (ψ := PvT C) PvT.same R12.ls1 (wos_same (t1.trans t2))))
  subst e
  rw [lo10] at lu
  clear G11 s ho hO s11 l10
  dsimp only
  show tSeq (tDrop _) _ _ [some (.ref p), some (.ref a), some (.ref b), some (.ref L), some (.int nn), some v, some (.ref r), some (.ref A0), some (.ref W), o9, none, none, none] G
  have many : ∀ (n : Nat) (G1 : Hp) (G12 : Kn [W, p] G1), 3 + n ≤ 61 → RightAt C (wos [W, p] G1) r r0 r1 xs0 xs1 q3 nn → ∀ σ : L2.St, σ[6]? = some (some (.ref r)) → Gv (tLst (tCons (tOp (rIxL K) (tVar 6) (tC (.int (0 : Nat)))) (tCons (tOp rCat (tOp (rIxL K) (tVar 6) (tC (.int (1 : Nat)))) (tOp rRep (tLst (tCons (tTup (tCons (tC (.int 0)) (tCons (tC (.int 0)) (tCons (tC (.int 0)) tNil)))) tNil)) (tC (.int (n : Nat))))) tNil))) σ G1 fun v H' => MvT C (wos [W, p] H') v := fun n G1 kn ln R12 σ hi => by
    refine gm_lst (n := 2) kn (by decide) ?_
    refine ga_cons (ψ := LvT C) LvT.same (gg_ix (j := 0) (φ := fun v H' => LvT C (wos [W, p] H') v) hi R12.hr rfl R12.lv0) fun G2 t2 => ?_
    refine ga_cons (ψ := LvT C) LvT.same (fun Q q => ?_) fun _ _ => ga_nil
    refine gg_cat (ψ := PvT C) (n := 3) (m := n) PvT.same (kn.same t2) (by omega) (gg_ix (j := 1) (φ := fun v H' => LsG (PvT C) 3 (wos [W, p] H') v) hi (wos_same t2 _ _ R12.hr) rfl (LsG.same (ψ := PvT C) PvT.same R12.ls1 (wos_same t2))) ?_ Q fun v H' s h => q v H' s (h.lv ln)
    exact fun G3 t3 => gg_rep (ψ := PvT C) PvT.same ((kn.same t2).same t3) (by omega) (gp_tup (n := 3) ((kn.same t2).same t3) (by omega) (ga_cons (ψ := It C) It.same (gs_c (ψ := It C) fun _ => It.int (by decide)) fun G70 t70 => ga_cons (ψ := It C) It.same (gs_c (ψ := It C) fun _ => It.int (by decide)) fun G71 t71 => ga_cons (ψ := It C) It.same (gs_c (ψ := It C) fun _ => It.int (by decide)) fun G72 t72 => ga_nil (ψ := It C)))
  refine St48.app (K := K) rfl G12 N (by omega) (gk_of G12.pot fun Q q => many 58 _ G12.kn (by decide) G12.hR _ rfl Q fun v H' s h => q v H' s (.inl h)) (fun u1 H13 G13 _ => ?_)
  have lu1 : (us ++ [u1]).length = us.length + 1 := by rw [List.length_append]; rfl
  generalize us ++ [u1] = us1 at *
  refine St48.app (K := K) rfl G13 N (by omega) (gk_of G13.pot fun Q q => many 57 _ G13.kn (by decide) G13.hR _ rfl Q fun v H' s h => q v H' s (.inl h)) (fun u2 H14 G14 _ => ?_)
  have lu2 : (us1 ++ [u2]).length = us1.length + 1 := by rw [List.length_append]; rfl
  generalize us1 ++ [u2] = us2 at *
  clear G12 G13 many
  have hv := G14.hv
  have kn14 := G14.kn
  refine St48.app (K := K) rfl G14 N (by omega) (gk_of G14.pot (gv_to (φ := fun v H' => MP C (wos [W, p] H') v (List.replicate 198 [] ++ [ln1 q3, ln2 (3 + 198) nn])) (ge_cat (R := LP C) LP.mo kn14 (by simp) (ge_rep (n := 198) LP.mo kn14 (by decide) (ge_lst (R := PartR C) PartR.mo kn14 (by simp) (ge_nil (R := PartR C)))) fun G8 t8 => ge_lst (R := LP C) LP.mo (kn14.same t8) (by simp) (ge_cons (R := LP C) LP.mo (ge_lst (R := PartR C) PartR.mo (kn14.same t8) (by simp) (ge_cons (R := PartR C) PartR.mo (ge_partG (i := 1) (j := 1) (kn14.same t8) (gn_var rfl (NumS.mo _ _ _ _ hv (wos_same t8))) (by decide) (by decide)) fun G10 t10 => ge_cons (R := PartR C) PartR.mo (ge_partG (i := 0) (j := 2) ((kn14.same t8).same t10) (gn_c2 (z := 1) rfl (by decide)) (by decide) (by decide)) fun G11 t11 => ge_nil (R := PartR C))) fun G9 t9 => ge_cons (R := LP C) LP.mo (ge_lst (R := PartR C) PartR.mo ((kn14.same t8).same t9) (by simp) (ge_cons (R := PartR C) PartR.mo (ge_partG (i := 0) (j := 201) ((kn14.same t8).same t9) (gn_c2 (z := 1) rfl (by decide)) (by decide) (by decide)) fun G13 t13 => ge_cons (R := PartR C) PartR.mo (ge_partG (i := 1) (j := 0) (((kn14.same t8).same t9).same t13) (gn_var rfl (NumS.int hn)) (by decide) (by decide)) fun G14 t14 => ge_cons (R := PartR C) PartR.mo (ge_partG (i := 0) (j := 0) ((((kn14.same t8).same t9).same t13).same t14) (gn_c2 (z := 3) rfl (by decide)) (by decide) (by decide)) fun G15 t15 => ge_nil (R := PartR C))) fun G12 t12 => ge_nil (R := LP C))) fun v H' s h => vo_many hms lms sm3q sm3n (by decide) (.inl rfl) h)) (fun u3 H15 G15 _ => ?_)
  have lu3 : (us2 ++ [u3]).length = us2.length + 1 := by rw [List.length_append]; rfl
  generalize us2 ++ [u3] = us3 at *
  clear G14
  have hv := G15.hv
  have kn15 := G15.kn
  refine St48.app (K := K) rfl G15 N (by omega) (gk_of G15.pot (gv_to (φ := fun v H' => MP C (wos [W, p] H') v (List.replicate 30 [(0, 0, 1)] ++ [ln1 q3, ln2 (3 + 30) nn])) (ge_cat (R := LP C) LP.mo kn15 (by simp) (ge_rep (n := 30) LP.mo kn15 (by decide) (ge_lst (R := PartR C) PartR.mo kn15 (by simp) (ge_cons (R := PartR C) PartR.mo (ge_partG (i := 0) (j := 0) kn15 (gn_c2 (z := 1) rfl (by decide)) (by decide) (by decide)) fun G17 t17 => ge_nil (R := PartR C)))) fun G16 t16 => ge_lst (R := LP C) LP.mo (kn15.same t16) (by simp) (ge_cons (R := LP C) LP.mo (ge_lst (R := PartR C) PartR.mo (kn15.same t16) (by simp) (ge_cons (R := PartR C) PartR.mo (ge_partG (i := 1) (j := 1) (kn15.same t16) (gn_var rfl (NumS.mo _ _ _ _ hv (wos_same t16))) (by decide) (by decide)) fun G19 t19 => ge_cons (R := PartR C) PartR.mo (ge_partG (i := 0) (j := 2) ((kn15.same t16).same t19) (gn_c2 (z := 1) rfl (by decide)) (by decide) (by decide)) fun G20 t20 => ge_nil (R := PartR C))) fun G18 t18 => ge_cons (R := LP C) LP.mo (ge_lst (R := PartR C) PartR.mo ((kn15.same t16).same t18) (by simp) (ge_cons (R := PartR C) PartR.mo (ge_partG (i := 0) (j := 33) ((kn15.same t16).same t18) (gn_c2 (z := 1) rfl (by decide)) (by decide) (by decide)) fun G22 t22 => ge_cons (R := PartR C) PartR.mo (ge_partG (i := 1) (j := 0) (((kn15.same t16).same t18).same t22) (gn_var rfl (NumS.int hn)) (by decide) (by decide)) fun G23 t23 => ge_cons (R := PartR C) PartR.mo (ge_partG (i := 0) (j := 0) ((((kn15.same t16).same t18).same t22).same t23) (gn_c2 (z := 3) rfl (by decide)) (by decide) (by decide)) fun G24 t24 => ge_nil (R := PartR C))) fun G21 t21 => ge_nil (R := LP C))) fun v H' s h => vo_many hms lms sm3q sm3n (by decide) (.inr rfl) h)) (fun u4 H16 G16 _ => ?_)
  have lu4 : (us3 ++ [u4]).length = us3.length + 1 := by rw [List.length_append]; rfl
  generalize us3 ++ [u4] = us4 at *
  clear G15
  have R16 := G16.hR
  have kn16 := G16.kn
  refine St48.app (K := K) rfl G16 N (by omega) (fun Q q => ?_) (fun u5 H17 G17 _ => ?_)
  · refine ⟨_, rfl, r, _, 0, .ref r0, rfl, rfl, SqL.of (wos_le _ _ R16.hr), rfl, ?_⟩
    refine ⟨_, rfl, r, _, 1, .ref r1, rfl, rfl, SqL.of (wos_le _ _ R16.hr), rfl, ?_⟩
    refine ⟨_, rfl, p, 2, rfl, G16.pot, by omega, by omega, fun d G1 d0 d1 hp' k' => ⟨by show 3 ≤ sizeLine; decide, fun c nc => ⟨by show 1 ≤ sizeLine; decide, fun e ne => ?_⟩⟩⟩
    have kn1 := (G16.keep N k' hp').kn
    have R1 := (G16.keep N k' hp').hR
    have sc := same_new (o := .tup [V.int 1, V.int 2, V.int d]) nc
    have se := same_new (o := .lst [V.ref c]) ne
    have s2 := sc.trans se
    have R2 := R1.same (wos_same s2)
    refine ⟨r1, e, xs1, _, rfl, rfl, wos_le _ _ R2.h1, upd_same, by have := R1.l1; rw [sizeLine_eq]; simp; omega, fun g ng => ⟨by show 2 ≤ sizeLine; decide, fun h nh => ?_⟩⟩
    have sg := same_new (o := .lst (xs1 ++ [V.ref c])) ng
    have sh := same_new (o := .lst [V.ref r0, V.ref g]) nh
    have s3 := s2.trans (sg.trans sh)
    have R3 := R1.same (wos_same s3)
    have cIn : PvT C (wos [W, p] (upd (upd (upd (upd G1 c (.tup [V.int 1, V.int 2, V.int d])) e (.lst [V.ref c])) g (.lst (xs1 ++ [V.ref c]))) h (.lst [V.ref r0, V.ref g]))) (.ref c) := pv_seq (us := [.int 1, .int 2, .int d]) (.inr (wos_same (se.trans (sg.trans sh)) _ _ (by rw [wos_ne (kn1.new nc)]; exact upd_same))) (by simp) fun y hy => by
      simp at hy
      rcases hy with rfl | rfl | rfl
      · exact It.int (by decide)
      · exact It.int (by decide)
      · exact It.int (Nat.lt_trans (show d.natAbs < 2 by omega) (by decide))
    refine q _ _ (k'.trans (Keep.of s3)) (hp'.same s3) (.inl (mv_seq (us := [.ref r0, .ref g]) (.inl (by rw [wos_ne ((kn1.same (s2.trans sg)).new nh)]; exact upd_same)) (by simp) fun y hy => ?_))
    simp at hy
    rcases hy with rfl | rfl
    · exact R3.lv0
    · refine lv_seq (us := xs1 ++ [.ref c]) (.inl (wos_same sh _ _ (by rw [wos_ne ((kn1.same s2).new ng)]; exact upd_same))) (by have := R1.l1; rw [List.length_append]; simp; omega) fun y hy => ?_
      rcases List.mem_append.mp hy with z | z
      · exact (R3.p1 y z).1
      · rw [List.mem_singleton.mp z]; exact cIn
  have lu5 : (us4 ++ [u5]).length = us4.length + 1 := by rw [List.length_append]; rfl
  generalize us4 ++ [u5] = us5 at *
  clear G16 R16 kn16 kn15 kn14
  have lfin : us5.length ≤ 100 := by omega
  clear lu1 lu2 lu3 lu4 lu5 lu
  dsimp only
  show tSeq (tFor _ _ _) _ _ [some (.ref p), some (.ref a), some (.ref b), some (.ref L), some (.int nn), some v, some (.ref r), some (.ref A0), some (.ref W), o9, none, none, none] H17
  have hEf : ∀ G, Same H17 G → Ea (ListQ C) G gs ms := fun G s => (G17.hE.same ListQ.mo wos_le).same ListQ.mo s
  have hQf : ∀ G, Same H17 G → QL C G ps7 fq := fun G s => RatL.same (RatL.same G17.hQ wos_le) s
  refine ⟨_, rfl, W, rfl, ⟨us5, SqL.of G17.hW⟩, for_list (xs := us5) (fun i σ G => ∃ (o10 o11 : Option V), σ = [some (.ref p), some (.ref a), some (.ref b), some (.ref L), some (.int nn), some v, some (.ref r), some (.ref A0), some (.ref W), o9, o10, o11, none] ∧ Same H17 G) ⟨none, none, rfl, Same.refl _⟩ (fun i σ' G _ ⟨_, _, _, s⟩ => SqL.of (s _ _ G17.hW)) (fun i y σ' G hy ⟨o10, o11, e, s⟩ => ?_) (fun σ' G ⟨o10, o11, e, s⟩ => ?_)⟩
  · subst e
    obtain ⟨B, mk, hc0⟩ := comes_of (f := fq) hms (G17.it y (List.mem_of_getElem? hy))
    have hc : ∀ G, Same H17 G → Comes C ms fq y B mk G := fun G s => hc0.same (wos_le.trans s)
    dsimp only [gName]
    show tSeq (tAsg _ _) _ _ [some (.ref p), some (.ref a), some (.ref b), some (.ref L), some (.int nn), some v, some (.ref r), some (.ref A0), some (.ref W), o9, some y, o11, none] G
    refine seq_asg (φ := fun v _ => v = .bl B) (fun Q q => ?_) ?_
    · refine ⟨_, rfl, _, rfl, L, y, gs, ms, mk, D2, E3, M3, rfl, s _ _ G17.hL, hEf _ s, fun q hq => (hms.2.2 q hq).all.1, ?_⟩
      rcases hc G s with ⟨c1, c2, c3⟩ | ⟨c1, c2, c3⟩
      · refine .inl ⟨c1, c2, fun A1 H1 us s1 nA hA hQ => ⟨_, rfl, .inr ⟨_, ql_eqB hA (s1 _ _ (s _ _ G17.hA)) hQ (hQf _ (s.trans s1)), fun H2 s2 => ?_⟩⟩⟩
        rw [← c3]
        exact q _ _ (s1.trans s2) rfl
      · refine .inr ⟨c1, c2, fun H1 s1 => ⟨_, rfl, .inl ⟨rfl, ⟨A0, ps7, rfl, s1 _ _ (s _ _ G17.hA)⟩, ?_⟩⟩⟩
        rw [← c3]
        exact q _ _ s1 rfl
    rintro _ G1 s1 rfl
    have sA := s.trans s1
    dsimp only [gName]
    show tIfS _ _ _ _ [some (.ref p), some (.ref a), some (.ref b), some (.ref L), some (.int nn), some v, some (.ref r), some (.ref A0), some (.ref W), o9, some y, some (.bl B), none] G1
    refine ⟨_, rfl, _, rfl, _, rfl, ?_⟩
    refine asked_ok (gs := gs) hms (sA _ _ G17.hL) (hEf _ sA) (.inl (sA _ _ G17.hA)) (hQf _ sA) pf (hc _ sA) fun H2 s2 => ?_
    have sB := sA.trans s2
    refine ⟨_, rfl, _, rfl, A0, ps7, rfl, .inl ⟨SqL.of (sB _ _ G17.hA), fun tp ntp => ⟨_, rfl, rfl, rfl, ?_⟩⟩⟩
    have sC := sB.trans (same_new (o := .tup ps7) ntp)
    refine asked_ok (gs := gs) hms (sC _ _ G17.hL) (hEf _ sC) (.inr upd_same) (hQf _ sC) pf (hc _ sC) fun H3 s3 => ?_
    have sD := sC.trans s3
    refine ⟨by show 2 ≤ sizeLine; decide, fun a1 na1 => ⟨.ref a1, bbT B, 1, rfl, sh_bb upd_same, bbT_len B, by omega, fun H5 s5 => ?_⟩⟩
    have sE := (sD.trans (same_new na1)).trans s5
    refine ⟨_, rfl, _, rfl, by show 2 ≤ sizeLine; decide, fun b1 nb1 => ⟨.ref b1, bbT B, 1, rfl, sh_bb upd_same, bbT_len B, by omega, fun H6 s6 => ?_⟩⟩
    exact ⟨rfl, _, rfl, iteF2 (by simp) ⟨_, _, rfl, (sE.trans (same_new nb1)).trans s6⟩⟩
  · subst e
    refine ⟨_, rfl, _, rfl, 1, rfl, fun m1 H1 nm1 sm1 rm1 => ⟨by show 1 ≤ sizeLine; decide, fun c nc => ?_⟩⟩
    have rm1 : RQ C H1 m1 1 := rm1
    have sc := same_new (o := .lst [V.ref m1]) nc
    have s1 := s.trans (sm1.trans sc)
    refine ⟨A0, c, ps7, [.ref m1], fq, [1], .int 1, 1, rfl, num_one, one_bits (by decide), s1 _ _ G17.hA, upd_same, ML.of_ql (hQf _ s1), ML.of_ql (QL.nil.snoc (rm1.same sc)), pf.bits (by decide), fun x hx => by rw [List.mem_singleton.mp hx]; exact one_bits (by decide), plus_one_bits pf, by have := pf.len; omega, by simp, fun d H2 zs s2 nd hd hq => ⟨_, rfl, ?_⟩⟩
    have sB := s1.trans s2
    refine asked_ok (gs := gs) (B := false) hms (sB _ _ G17.hL) (hEf _ sB) (.inl hd) hq pg (mk := mk0 q3 nn) (.inl ⟨SeqR.mo (SeqR.mo PartR.mo) _ _ _ _ G17.hR.mak (wos_le.trans sB), mk0_ok hms lms sm3q sm3n, ?_⟩) fun H3 s3 => ⟨false, false, rfl, rfl, ?_⟩
    · rw [hf0]
      exact (decide_eq_false fun e => pne e.symm).symm
    · exact q _ (G17.kp.trans (Keep.of (sB.trans s3)))
end
end K21

namespace K21
open PySem PySem.Spec PyProof.Rows L2 Fp
section
variable {P : Program} {w : World} {K : PySem.W.Frag} {mg : Str → Option Value} {base : Heap} {k : Nat}
def spLaw (K : PySem.W.Frag) : Sp := fun vs H Q _ => ∃ (a : Addr) (ns : List Int), vs = [.ref a] ∧ SqL K H a (VI ns) ∧ ns.length ≤ 63 ∧ ∀ H', Q (.bl true) H'
abbrev sLaw : Stmt := top 63
theorem sc_law : FnScope ["_law_script"] ["_law_script"] (defScope sLaw) := ⟨rfl, rfl, rfl, by decide +kernel, rfl, by decide +kernel, by decide +kernel⟩
theorem d_law (B : Bnd K mg "law" sLaw) (M : Mg2 mg) (DP : Def P w K mg base k "_law_pot" sPot ["_law_script", "_law_k"] (spPot K)) (DR : DefG P w K mg base k "_law_right" s_law_right ["_law_pot_here"] (sp_law_right K)) : DefG P w K mg base (k + 1) "law" sLaw ["_law_script"] (spLaw K) := by
  refine defG_of B sc_law (by rintro _ _ _ _ ⟨a, ns, rfl, _⟩; rfl) (fun _ _ _ _ _ _ us hl => match us, hl with | [_], _ => rfl) fun f cdv A outer s H vs Q E hgd hr h => ?_
  obtain ⟨a, ns, rfl, hS, hl, q⟩ := h
  have hg2 : (A.deeper (envOfC "law" (defScope sLaw) s.heap.objs.size f cdv)).guards = some [] := hgd
  refine ⟨_, pss_one (ps_ret (pe_dG DR hg2 hr (by rfl) (pa_cons (pe_d DP hr (by rfl) (pa_cons (pv 0) (pa_cons pe_int pa_nil))) pa_nil))), ?_⟩
  exact ⟨_, rfl, a, ns, 0, rfl, hS, by omega, by omega, fun p H2 s2 np hp => ⟨p, rfl, hp, fun H3 k3 => q H3⟩⟩
end
theorem bnd {K : PySem.W.Frag} {h : Heap} {mg : Str → Option Value} (X : K.In h) (G : h.Ns mainGlobals mg) {x : Str} {st : Stmt} {f : Addr} {oc kV dc pm cd ct : Value} {od an : Option Addr} {sl : Array (Option Value)} (a : PySem.W.nsIn K mainGlobals x = some (some (.ref f)))
    (l : K.lookup f = some ⟨oc, od, .func (PySem.W.fnOf x x (defArgs st) (defBody st) (defScope st) .none kV dc pm an cd ct), sl⟩) (c : PySem.W.codeIn K cd x = true) (k : PySem.W.keepIn K (.ref f) = true) : Bnd K mg x st :=
  ⟨f, _, PySem.W.mg_of X G a, fun_mk (st := st) l c k⟩
theorem cls_mk {K : PySem.W.Frag} {h : Heap} {mg : Str → Option Value} (X : K.In h) (G : h.Ns mainGlobals mg) {C fI fR T p3 f3 p4 f4 p5 f5 f6 u6 f7 u7 f8 u8 f9 f10 : Addr} {od1 an1 od2 an2 od3 an3 od4 an4 od5 an5 od6 an6 od7 an7 od8 an8 odv6 anv6 odv8 anv8 od9 an9 od10 an10 odT : Option Addr} {sl1 sl2 sl3 sl4 sl5 sl6 sl7 sl8 slv6 slv8 sl9 sl10 slT : Array (Option Value)} {oc1 kV1 dc1 pm1 cd1 ct1 oc2 kV2 dc2 pm2 cd2 ct2 oc3 kV3 dc3 pm3 cd3 ct3 oc4 kV4 dc4 pm4 cd4 ct4 oc5 kV5 dc5 pm5 cd5 ct5 oc6 kV6 dc6 pm6 cd6 ct6 oc7 kV7 dc7 pm7 cd7 ct7 oc8 kV8 dc8 pm8 cd8 ct8 ocv6 kVv6 dcv6 pmv6 cdv6 ctv6 ocv8 kVv8 dcv8 pmv8 cdv8 ctv8 oc9 kV9 dc9 pm9 cd9 ct9 oc10 kV10 dc10 pm10 cd10 ct10 ocT : Value} {n : Nat} {tk : Tok} {rest3 rest4 rest5 : List Value} {fo6 ro6 fo7 ro7 fo8 ro8 : Option Value}
    (aC : PySem.W.nsIn K mainGlobals "Ratio" = some (some (.ref C)))
    (pg : PySem.W.plainGet K C Str.empty = true)
    (hd : PySem.W.hasDictIn K C = true)
    (po : PySem.W.plainOver K C = true)
    (sa : PySem.W.findIn K (.ref C) "__setattr__" = some (some (.builtin "object.__setattr__")))
    (nT : PySem.W.findIn K (.ref C) "_top" = some none)
    (nB : PySem.W.findIn K (.ref C) "_bottom" = some none)
    (mk : PySem.W.makesIn K C = true)
    (kc : PySem.W.keepIn K (.ref C) = true)
    (a1 : PySem.W.findIn K (.ref C) "__init__" = some (some (.ref fI)))
    (i1 : PySem.W.isFn K (.ref fI) = true)
    (a2 : PySem.W.findIn K (.ref C) "__repr__" = some (some (.ref fR)))
    (i2 : PySem.W.isFn K (.ref fR) = true)
    (isA : PySem.W.findIn K (.ref C) "__class__" = some (some (.builtin "object.__class__")))
    (isN : PySem.W.specialIn K (.builtin "object.__class__") "__get__" = some (some (.builtin "getset_descriptor.__get__")))
    (isT : PySem.W.takesIn K (.builtin "object.__class__") = some true)
    (isM : PySem.W.mroIn K C (.type "object") = some true)
    (kI : PySem.W.kitOne K (.ref C) (.type "int") = some false)
    (kB : PySem.W.kitOne K (.ref C) (.type "bool") = some false)
    (kL : PySem.W.kitOne K (.ref C) (.type "list") = some false)
    (kT : PySem.W.kitOne K (.ref C) (.type "tuple") = some false)
    (l1 : K.lookup fI = some ⟨oc1, od1, .func (PySem.W.fnOf "__init__" "Ratio.__init__" (defArgs s_Ratio___init__) (defBody s_Ratio___init__) (defScope s_Ratio___init__) (.ref T) kV1 dc1 pm1 an1 cd1 ct1), sl1⟩)
    (c1 : PySem.W.codeIn K cd1 "Ratio.__init__" = true)
    (k1 : PySem.W.keepIn K (.ref fI) = true)
    (lT : K.lookup T = some ⟨ocT, odT, .seq #[.int 1 tk] n, slT⟩)
    (l2 : K.lookup fR = some ⟨oc2, od2, .func (PySem.W.fnOf "__repr__" "Ratio.__repr__" (defArgs s_Ratio___repr__) (defBody s_Ratio___repr__) (defScope s_Ratio___repr__) .none kV2 dc2 pm2 an2 cd2 ct2), sl2⟩)
    (c2 : PySem.W.codeIn K cd2 "Ratio.__repr__" = true)
    (k2 : PySem.W.keepIn K (.ref fR) = true)
    (ji : PySem.W.kitOne K (.type "int") (.ref C) = some false)
    (jb : PySem.W.kitOne K (.type "bool") (.ref C) = some false)
    (jn : PySem.W.kitOne K (.type "NoneType") (.ref C) = some false)
    (js : PySem.W.kitOne K (.type "str") (.ref C) = some false)
    (jl : PySem.W.kitOne K (.type "list") (.ref C) = some false)
    (jt : PySem.W.kitOne K (.type "tuple") (.ref C) = some false)
    (jd : PySem.W.kitOne K (.type "dict") (.ref C) = some false)
    (jc : PySem.W.kitOne K (.ref C) (.ref C) = some true)
    (q3 : PySem.W.findIn K (.ref C) "top" = some (some (.ref p3)))
    (g3 : PySem.W.specialIn K (.ref p3) "__get__" = some (some (.builtin "property.__get__")))
    (t3 : PySem.W.takesIn K (.ref p3) = some true)
    (r3 : PySem.W.recIn K p3 "property" = some (.ref f3 :: rest3))
    (l3 : K.lookup f3 = some ⟨oc3, od3, .func (PySem.W.fnOf "top" "Ratio.top" (defArgs s_Ratio_top) (defBody s_Ratio_top) (defScope s_Ratio_top) .none kV3 dc3 pm3 an3 cd3 ct3), sl3⟩)
    (c3 : PySem.W.codeIn K cd3 "Ratio.top" = true)
    (k3 : PySem.W.keepIn K (.ref f3) = true)
    (q4 : PySem.W.findIn K (.ref C) "bottom" = some (some (.ref p4)))
    (g4 : PySem.W.specialIn K (.ref p4) "__get__" = some (some (.builtin "property.__get__")))
    (t4 : PySem.W.takesIn K (.ref p4) = some true)
    (r4 : PySem.W.recIn K p4 "property" = some (.ref f4 :: rest4))
    (l4 : K.lookup f4 = some ⟨oc4, od4, .func (PySem.W.fnOf "bottom" "Ratio.bottom" (defArgs s_Ratio_bottom) (defBody s_Ratio_bottom) (defScope s_Ratio_bottom) .none kV4 dc4 pm4 an4 cd4 ct4), sl4⟩)
    (c4 : PySem.W.codeIn K cd4 "Ratio.bottom" = true)
    (k4 : PySem.W.keepIn K (.ref f4) = true)
    (q5 : PySem.W.findIn K (.ref C) "sign" = some (some (.ref p5)))
    (g5 : PySem.W.specialIn K (.ref p5) "__get__" = some (some (.builtin "property.__get__")))
    (t5 : PySem.W.takesIn K (.ref p5) = some true)
    (r5 : PySem.W.recIn K p5 "property" = some (.ref f5 :: rest5))
    (l5 : K.lookup f5 = some ⟨oc5, od5, .func (PySem.W.fnOf "sign" "Ratio.sign" (defArgs s_Ratio_sign) (defBody s_Ratio_sign) (defScope s_Ratio_sign) .none kV5 dc5 pm5 an5 cd5 ct5), sl5⟩)
    (c5 : PySem.W.codeIn K cd5 "Ratio.sign" = true)
    (k5 : PySem.W.keepIn K (.ref f5) = true)
    (sf : PySem.W.selfFirst K C = true)
    (a6 : PySem.W.findIn K (.ref C) "__add__" = some (some (.ref f6)))
    (i6 : PySem.W.isFn K (.ref f6) = true)
    (ra6 : PySem.W.findIn K (.ref C) "__radd__" = some (some (.ref u6)))
    (h16 : PySem.W.findIn K (.type "int") "__add__" = some fo6)
    (h26 : PySem.W.findIn K (.type "int") "__radd__" = some ro6)
    (hs : PySem.W.subIn K (.type "int") (.ref C) = some false)
    (l6 : K.lookup f6 = some ⟨oc6, od6, .func (PySem.W.fnOf "__add__" "Ratio.__add__" (defArgs s_Ratio___add__) (defBody s_Ratio___add__) (defScope s_Ratio___add__) .none kV6 dc6 pm6 an6 cd6 ct6), sl6⟩)
    (c6 : PySem.W.codeIn K cd6 "Ratio.__add__" = true)
    (k6 : PySem.W.keepIn K (.ref f6) = true)
    (a7 : PySem.W.findIn K (.ref C) "__sub__" = some (some (.ref f7)))
    (i7 : PySem.W.isFn K (.ref f7) = true)
    (ra7 : PySem.W.findIn K (.ref C) "__rsub__" = some (some (.ref u7)))
    (h17 : PySem.W.findIn K (.type "int") "__sub__" = some fo7)
    (h27 : PySem.W.findIn K (.type "int") "__rsub__" = some ro7)
    (l7 : K.lookup f7 = some ⟨oc7, od7, .func (PySem.W.fnOf "__sub__" "Ratio.__sub__" (defArgs s_Ratio___sub__) (defBody s_Ratio___sub__) (defScope s_Ratio___sub__) .none kV7 dc7 pm7 an7 cd7 ct7), sl7⟩)
    (c7 : PySem.W.codeIn K cd7 "Ratio.__sub__" = true)
    (k7 : PySem.W.keepIn K (.ref f7) = true)
    (a8 : PySem.W.findIn K (.ref C) "__mul__" = some (some (.ref f8)))
    (i8 : PySem.W.isFn K (.ref f8) = true)
    (ra8 : PySem.W.findIn K (.ref C) "__rmul__" = some (some (.ref u8)))
    (h18 : PySem.W.findIn K (.type "int") "__mul__" = some fo8)
    (h28 : PySem.W.findIn K (.type "int") "__rmul__" = some ro8)
    (l8 : K.lookup f8 = some ⟨oc8, od8, .func (PySem.W.fnOf "__mul__" "Ratio.__mul__" (defArgs s_Ratio___mul__) (defBody s_Ratio___mul__) (defScope s_Ratio___mul__) .none kV8 dc8 pm8 an8 cd8 ct8), sl8⟩)
    (c8 : PySem.W.codeIn K cd8 "Ratio.__mul__" = true)
    (k8 : PySem.W.keepIn K (.ref f8) = true)
    (iu6 : PySem.W.isFn K (.ref u6) = true)
    (hs2 : PySem.W.subIn K (.ref C) (.type "int") = some false)
    (lv6 : K.lookup u6 = some ⟨ocv6, odv6, .func (PySem.W.fnOf "__radd__" "Ratio.__radd__" (defArgs s_Ratio___radd__) (defBody s_Ratio___radd__) (defScope s_Ratio___radd__) .none kVv6 dcv6 pmv6 anv6 cdv6 ctv6), slv6⟩)
    (cv6 : PySem.W.codeIn K cdv6 "Ratio.__radd__" = true)
    (kv6 : PySem.W.keepIn K (.ref u6) = true)
    (iu8 : PySem.W.isFn K (.ref u8) = true)
    (lv8 : K.lookup u8 = some ⟨ocv8, odv8, .func (PySem.W.fnOf "__rmul__" "Ratio.__rmul__" (defArgs s_Ratio___rmul__) (defBody s_Ratio___rmul__) (defScope s_Ratio___rmul__) .none kVv8 dcv8 pmv8 anv8 cdv8 ctv8), slv8⟩)
    (cv8 : PySem.W.codeIn K cdv8 "Ratio.__rmul__" = true)
    (kv8 : PySem.W.keepIn K (.ref u8) = true)
    (a9 : PySem.W.findIn K (.ref C) "over" = some (some (.ref f9)))
    (i9 : PySem.W.isFn K (.ref f9) = true)
    (l9 : K.lookup f9 = some ⟨oc9, od9, .func (PySem.W.fnOf "over" "Ratio.over" (defArgs s_Ratio_over) (defBody s_Ratio_over) (defScope s_Ratio_over) .none kV9 dc9 pm9 an9 cd9 ct9), sl9⟩)
    (c9 : PySem.W.codeIn K cd9 "Ratio.over" = true)
    (k9 : PySem.W.keepIn K (.ref f9) = true)
    (a10 : PySem.W.findIn K (.ref C) "__eq__" = some (some (.ref f10)))
    (i10 : PySem.W.isFn K (.ref f10) = true)
    (l10 : K.lookup f10 = some ⟨oc10, od10, .func (PySem.W.fnOf "__eq__" "Ratio.__eq__" (defArgs s_Ratio___eq__) (defBody s_Ratio___eq__) (defScope s_Ratio___eq__) .none kV10 dc10 pm10 an10 cd10 ct10), sl10⟩)
    (c10 : PySem.W.codeIn K cd10 "Ratio.__eq__" = true)
    (k10 : PySem.W.keepIn K (.ref f10) = true) :
    ∃ (C fI fR : Addr) (fdI fdR : FuncData), RCls K mg C fI fR ∧ FunD K "__init__" "Ratio.__init__" (defArgs s_Ratio___init__) (defBody s_Ratio___init__) (defScope s_Ratio___init__) [V.int 1] [] fI fdI ∧ Fun K "__repr__" "Ratio.__repr__" s_Ratio___repr__ fR fdR ∧ RIsi K C ∧ (∃ (p g : Addr) (fd : FuncData), PropOf K C "top" p g ∧ Fun K "top" "Ratio.top" s_Ratio_top g fd) ∧ (∃ (p g : Addr) (fd : FuncData), PropOf K C "bottom" p g ∧ Fun K "bottom" "Ratio.bottom" s_Ratio_bottom g fd) ∧ (∃ (p g : Addr) (fd : FuncData), PropOf K C "sign" p g ∧ Fun K "sign" "Ratio.sign" s_Ratio_sign g fd) ∧ (∃ (f : Addr) (fd : FuncData), BinF K C f .Add ∧ Fun K "__add__" "Ratio.__add__" s_Ratio___add__ f fd) ∧ (∃ (f : Addr) (fd : FuncData), BinF K C f .Sub ∧ Fun K "__sub__" "Ratio.__sub__" s_Ratio___sub__ f fd) ∧ (∃ (f : Addr) (fd : FuncData), BinF K C f .Mult ∧ Fun K "__mul__" "Ratio.__mul__" s_Ratio___mul__ f fd) ∧ (∃ (f : Addr) (fd : FuncData), RevF K C f .Add ∧ Fun K "__radd__" "Ratio.__radd__" s_Ratio___radd__ f fd) ∧ (∃ (f : Addr) (fd : FuncData), RevF K C f .Mult ∧ Fun K "__rmul__" "Ratio.__rmul__" s_Ratio___rmul__ f fd) ∧ (∃ (f : Addr) (fd : FuncData), Meth K C "over" f ∧ Fun K "over" "Ratio.over" s_Ratio_over f fd) ∧ (∃ (f : Addr) (fd : FuncData), PySem.W.findIn K (.ref C) "__eq__" = some (some (.ref f)) ∧ PySem.W.isFn K (.ref f) = true ∧ Fun K "__eq__" "Ratio.__eq__" s_Ratio___eq__ f fd) := by
  refine ⟨C, fI, fR, _, _, ⟨⟨pg, hd, po, sa⟩, nT, nB, PySem.W.mg_of X G aC, ⟨mk, a1, i1, kc⟩, a2, i2, isA, isN, isT, isM, kI, kB, kL, kT⟩,
    ⟨⟨oc1, od1, .ref T, kV1, dc1, pm1, an1, cd1, ct1, sl1, rfl, l1, c1, .inr ⟨List.cons_ne_nil _ _, T, _, [.int 1 tk], n, rfl, lT, rfl, .cons ⟨tk, rfl⟩ .nil⟩, .inl rfl⟩, k1⟩, fun_mk (st := s_Ratio___repr__) l2 c2 k2, ⟨ji, jb, jn, js, jl, jt, jd, jc⟩,
    ⟨p3, f3, _, ⟨q3, g3, t3, rest3, r3⟩, fun_mk (st := s_Ratio_top) l3 c3 k3⟩, ⟨p4, f4, _, ⟨q4, g4, t4, rest4, r4⟩, fun_mk (st := s_Ratio_bottom) l4 c4 k4⟩, ⟨p5, f5, _, ⟨q5, g5, t5, rest5, r5⟩, fun_mk (st := s_Ratio_sign) l5 c5 k5⟩, ⟨f6, _, ⟨sf, ?_, i6, ⟨u6, ?_⟩, ⟨fo6, ?_⟩, ⟨ro6, ?_⟩, hs⟩, fun_mk (st := s_Ratio___add__) l6 c6 k6⟩, ⟨f7, _, ⟨sf, ?_, i7, ⟨u7, ?_⟩, ⟨fo7, ?_⟩, ⟨ro7, ?_⟩, hs⟩, fun_mk (st := s_Ratio___sub__) l7 c7 k7⟩, ⟨f8, _, ⟨sf, ?_, i8, ⟨u8, ?_⟩, ⟨fo8, ?_⟩, ⟨ro8, ?_⟩, hs⟩, fun_mk (st := s_Ratio___mul__) l8 c8 k8⟩, ⟨u6, _, ⟨sf, ⟨f6, ?_⟩, ?_, iu6, hs2⟩, fun_mk (st := s_Ratio___radd__) lv6 cv6 kv6⟩, ⟨u8, _, ⟨sf, ⟨f8, ?_⟩, ?_, iu8, hs2⟩, fun_mk (st := s_Ratio___rmul__) lv8 cv8 kv8⟩, ⟨f9, _, ⟨a9, i9, k9⟩, fun_mk (st := s_Ratio_over) l9 c9 k9⟩, ⟨f10, _, a10, i10, fun_mk (st := s_Ratio___eq__) l10 c10 k10⟩⟩
  · show PySem.W.findIn K (.ref C) (PySem.dunder "add") = _
    rw [show PySem.dunder "add" = ("__add__" : Str) by decide +kernel]; exact a6
  · show PySem.W.findIn K (.ref C) (PySem.dunderR "add") = _
    rw [show PySem.dunderR "add" = ("__radd__" : Str) by decide +kernel]; exact ra6
  · show PySem.W.findIn K (.type "int") (PySem.dunder "add") = _
    rw [show PySem.dunder "add" = ("__add__" : Str) by decide +kernel]; exact h16
  · show PySem.W.findIn K (.type "int") (PySem.dunderR "add") = _
    rw [show PySem.dunderR "add" = ("__radd__" : Str) by decide +kernel]; exact h26
  · show PySem.W.findIn K (.ref C) (PySem.dunder "sub") = _
    rw [show PySem.dunder "sub" = ("__sub__" : Str) by decide +kernel]; exact a7
  · show PySem.W.findIn K (.ref C) (PySem.dunderR "sub") = _
    rw [show PySem.dunderR "sub" = ("__rsub__" : Str) by decide +kernel]; exact ra7
  · show PySem.W.findIn K (.type "int") (PySem.dunder "sub") = _
    rw [show PySem.dunder "sub" = ("__sub__" : Str) by decide +kernel]; exact h17
  · show PySem.W.findIn K (.type "int") (PySem.dunderR "sub") = _
    rw [show PySem.dunderR "sub" = ("__rsub__" : Str) by decide +kernel]; exact h27
  · show PySem.W.findIn K (.ref C) (PySem.dunder "mul") = _
    rw [show PySem.dunder "mul" = ("__mul__" : Str) by decide +kernel]; exact a8
  · show PySem.W.findIn K (.ref C) (PySem.dunderR "mul") = _
    rw [show PySem.dunderR "mul" = ("__rmul__" : Str) by decide +kernel]; exact ra8
  · show PySem.W.findIn K (.type "int") (PySem.dunder "mul") = _
    rw [show PySem.dunder "mul" = ("__mul__" : Str) by decide +kernel]; exact h18
  · show PySem.W.findIn K (.type "int") (PySem.dunderR "mul") = _
    rw [show PySem.dunderR "mul" = ("__rmul__" : Str) by decide +kernel]; exact h28
  · show PySem.W.findIn K (.ref C) (PySem.dunder "add") = _
    rw [show PySem.dunder "add" = ("__add__" : Str) by decide +kernel]; exact a6
  · show PySem.W.findIn K (.ref C) (PySem.dunderR "add") = _
    rw [show PySem.dunderR "add" = ("__radd__" : Str) by decide +kernel]; exact ra6
  · show PySem.W.findIn K (.ref C) (PySem.dunder "mul") = _
    rw [show PySem.dunder "mul" = ("__mul__" : Str) by decide +kernel]; exact a8
  · show PySem.W.findIn K (.ref C) (PySem.dunderR "mul") = _
    rw [show PySem.dunderR "mul" = ("__rmul__" : Str) by decide +kernel]; exact ra8
structure All (K : PySem.W.Frag) (mg : Str → Option Value) : Prop where
  g : Mg2 mg
  R : ∃ (C fI fR : Addr) (fdI fdR : FuncData), RCls K mg C fI fR ∧ FunD K "__init__" "Ratio.__init__" (defArgs s_Ratio___init__) (defBody s_Ratio___init__) (defScope s_Ratio___init__) [V.int 1] [] fI fdI ∧ Fun K "__repr__" "Ratio.__repr__" s_Ratio___repr__ fR fdR ∧ RIsi K C ∧ (∃ (p g : Addr) (fd : FuncData), PropOf K C "top" p g ∧ Fun K "top" "Ratio.top" s_Ratio_top g fd) ∧ (∃ (p g : Addr) (fd : FuncData), PropOf K C "bottom" p g ∧ Fun K "bottom" "Ratio.bottom" s_Ratio_bottom g fd) ∧ (∃ (p g : Addr) (fd : FuncData), PropOf K C "sign" p g ∧ Fun K "sign" "Ratio.sign" s_Ratio_sign g fd) ∧ (∃ (f : Addr) (fd : FuncData), BinF K C f .Add ∧ Fun K "__add__" "Ratio.__add__" s_Ratio___add__ f fd) ∧ (∃ (f : Addr) (fd : FuncData), BinF K C f .Sub ∧ Fun K "__sub__" "Ratio.__sub__" s_Ratio___sub__ f fd) ∧ (∃ (f : Addr) (fd : FuncData), BinF K C f .Mult ∧ Fun K "__mul__" "Ratio.__mul__" s_Ratio___mul__ f fd) ∧ (∃ (f : Addr) (fd : FuncData), RevF K C f .Add ∧ Fun K "__radd__" "Ratio.__radd__" s_Ratio___radd__ f fd) ∧ (∃ (f : Addr) (fd : FuncData), RevF K C f .Mult ∧ Fun K "__rmul__" "Ratio.__rmul__" s_Ratio___rmul__ f fd) ∧ (∃ (f : Addr) (fd : FuncData), Meth K C "over" f ∧ Fun K "over" "Ratio.over" s_Ratio_over f fd) ∧ (∃ (f : Addr) (fd : FuncData), PySem.W.findIn K (.ref C) "__eq__" = some (some (.ref f)) ∧ PySem.W.isFn K (.ref f) = true ∧ Fun K "__eq__" "Ratio.__eq__" s_Ratio___eq__ f fd)
  b11 : Bnd K mg "is_integer" sInteger
  b12 : Bnd K mg "is_count" s_is_count
  b13 : Bnd K mg "is_list" sList
  b16 : Bnd K mg "is_number" s_is_number
  b17 : Bnd K mg "as_ratio" s_as_ratio
  b18 : Bnd K mg "over_one_bottom" s_over_one_bottom
  b20 : Bnd K mg "lowest" s_lowest
  b21 : Bnd K mg "without_noughts" s_without_noughts
  b24 : Bnd K mg "is_poly" s_is_poly
  b25 : Bnd K mg "told" s_told
  b26 : Bnd K mg "degree" s_degree
  b27 : Bnd K mg "trimmed" s_trimmed
  b31 : Bnd K mg "is_makers" s_is_makers
  b32 : Bnd K mg "told_makers" s_told_makers
  b34 : Bnd K mg "packed" s_packed
  b35 : Bnd K mg "unpacked" s_unpacked
  b36 : Bnd K mg "sum_of_products" s_sum_of_products
  b37 : Bnd K mg "most_bits" s_most_bits
  b42 : Bnd K mg "worths_of" s_worths_of
  b43 : Bnd K mg "is_line" s_is_line
  b44 : Bnd K mg "is_part" s_is_part
  b45 : Bnd K mg "line_worth" s_line_worth
  b46 : Bnd K mg "told_worth" s_told_worth
  b49 : Bnd K mg "is_making_of" s_is_making_of
  b50 : Bnd K mg "asked" s_asked
  b52 : Bnd K mg "_law_pot" sPot
  b53 : Bnd K mg "_law_draw" sDraw
  b54 : Bnd K mg "_law_pick" sPick
  b55 : Bnd K mg "_law_poly" s_law_poly
  b56 : Bnd K mg "_law_sum" s_law_sum
  b57 : Bnd K mg "_law_product" s_law_product
  b58 : Bnd K mg "_law_two" s_law_two
  b59 : Bnd K mg "_law_makers" s_law_makers
  b60 : Bnd K mg "_law_is_line" s_law_is_line
  b61 : Bnd K mg "_law_comes" s_law_comes
  b62 : Bnd K mg "_law_right" s_law_right
  b63 : Bnd K mg "law" sLaw
theorem all_law {P : Program} {w : World} {K : PySem.W.Frag} {mg : Str → Option Value} {base : Heap} (A : All K mg) : DefG P w K mg base 33 "law" sLaw ["_law_script"] (spLaw K) := by
  obtain ⟨C, fI, fR, fdI, fdR, R, FI, FR, J, ⟨pr0, gr0, fr0, Pr0, Fr0⟩, ⟨pr1, gr1, fr1, Pr1, Fr1⟩, ⟨pr2, gr2, fr2, Pr2, Fr2⟩, ⟨fo0, fdo0, BO0, FO0⟩, ⟨fo1, fdo1, BO1, FO1⟩, ⟨fo2, fdo2, BO2, FO2⟩, ⟨fv0, fdv0, RV0, FV0⟩, ⟨fv1, fdv1, RV1, FV1⟩, ⟨fm0, fdm0, MM0, FM0⟩, ⟨fe, fde, ae, ie, FE⟩⟩ := A.R
  have bI := FI.binds1 (ps := ["self", "top", "bottom"]) 2 0 (List.cons_ne_nil _ _) rfl fun T kV doc pm an cdv ct us its hu hi => match us, its, hu, hi with | [_, _], [_], _, _ => ⟨_, rfl, rfl⟩
  have bI2 : Binds K fdI ["self", "top", "bottom"] [] := by
    obtain ⟨ds, hv, hb⟩ := FI.binds1 (ps := ["self", "top", "bottom"]) 3 1 (List.cons_ne_nil _ _) rfl fun T kV doc pm an cdv ct us its hu hi => match us, its, hu, hi with | [_, _, _], [_], _, _ => ⟨_, rfl, rfl⟩
    cases hv
    exact hb
  have bR := FR.binds (ps := ["self"]) fun _ _ _ _ _ _ us hl => match us, hl with | [_], _ => rfl
  have br0 := Fr0.binds (ps := ["self"]) fun _ _ _ _ _ _ us hl => match us, hl with | [_], _ => rfl
  have br1 := Fr1.binds (ps := ["self"]) fun _ _ _ _ _ _ us hl => match us, hl with | [_], _ => rfl
  have br2 := Fr2.binds (ps := ["self"]) fun _ _ _ _ _ _ us hl => match us, hl with | [_], _ => rfl
  have bo0 := FO0.binds (ps := ["self", "other"]) fun _ _ _ _ _ _ us hl => match us, hl with | [_, _], _ => rfl
  have bo1 := FO1.binds (ps := ["self", "other"]) fun _ _ _ _ _ _ us hl => match us, hl with | [_, _], _ => rfl
  have bo2 := FO2.binds (ps := ["self", "other"]) fun _ _ _ _ _ _ us hl => match us, hl with | [_, _], _ => rfl
  have bv0 := FV0.binds (ps := ["self", "other"]) fun _ _ _ _ _ _ us hl => match us, hl with | [_, _], _ => rfl
  have bv1 := FV1.binds (ps := ["self", "other"]) fun _ _ _ _ _ _ us hl => match us, hl with | [_, _], _ => rfl
  have bm0 := FM0.binds (ps := ["self", "other"]) fun _ _ _ _ _ _ us hl => match us, hl with | [_, _], _ => rfl
  have be := FE.binds (ps := ["self", "other"]) fun _ _ _ _ _ _ us hl => match us, hl with | [_, _], _ => rfl
  have N_is_integer : Def P w K mg base 1 _ _ _ _ := d_integer (k := 0) A.b11 A.g.toMg
  have RI1 := d_rinit (k := 1) FI R A.g.toMg N_is_integer
  have RI2 := d_rinitQ (k := 1) FI R A.g.toMg N_is_integer
  have RD : RDef P w K mg base 2 C := ⟨fI, fR, fdI, fdR, R, RI1, bI, bI2, d_rrepr (k := 1) FR R, bR⟩
  have DQ : RDefQ P w K mg base 2 C := ⟨fI, fR, fdI, R, RI2, bI2⟩
  have PT : PropX P w K mg base 2 C "top" (spTopR C) := ⟨pr0, gr0, fr0, Pr0, d_rtop (k := 1) Fr0 R, br0⟩
  have PB : PropX P w K mg base 2 C "bottom" (spBotR C) := ⟨pr1, gr1, fr1, Pr1, d_rbot (k := 1) Fr1 R, br1⟩
  have PS : PropX P w K mg base 2 C "sign" (spSgnR C) := ⟨pr2, gr2, fr2, Pr2, d_rsgn (k := 1) Fr2 R, br2⟩
  have X_as : Def P w K mg base 11 _ _ _ _ := d_as_ratio (k := 10) A.b17 A.g.toMg R J RD (by omega)
  have FA := d_radd (k := 11) FO0 R DQ PT PB (by omega) X_as
  have FM := d_rmul (k := 11) FO2 R DQ PT PB (by omega) X_as
  have AD : BinX P w K mg base 12 C .Add (spAddQ C) := ⟨fo0, fdo0, BO0, FA, bo0⟩
  have SU : BinX P w K mg base 12 C .Sub (spSubQ C) := ⟨fo1, fdo1, BO1, d_rsub (k := 11) FO1 R DQ PT PB (by omega) X_as, bo1⟩
  have MU : BinX P w K mg base 12 C .Mult (spMulQ C) := ⟨fo2, fdo2, BO2, FM, bo2⟩
  have OV : C8.Met P w K mg base 12 C "over" (spOverQ C) [] := ⟨fm0, fdm0, _, [], R.cl, MM0, d_rover (k := 11) FM0 R DQ PT PB PS (by omega) X_as, bm0, .nil⟩
  have RD12 : RDef P w K mg base 12 C := ⟨fI, fR, fdI, fdR, R, RI1.mono (by omega), bI, bI2, (d_rrepr (k := 1) FR R).mono (by omega), bR⟩
  have PT12 : PropX P w K mg base 12 C "top" (spTopR C) := ⟨pr0, gr0, fr0, Pr0, (d_rtop (k := 1) Fr0 R).mono (by omega), br0⟩
  have EXB : EqXB P w K mg base 2 C := ⟨fe, fde, ae, ie, d_reqB (k := 1) FE R J A.g.toMg, be⟩
  have PS12 : PropX P w K mg base 12 C "sign" (spSgnR C) := ⟨pr2, gr2, fr2, Pr2, (d_rsgn (k := 1) Fr2 R).mono (by omega), br2⟩
  have RD21 : RDef P w K mg base 21 C := ⟨fI, fR, fdI, fdR, R, RI1.mono (by omega), bI, bI2, (d_rrepr (k := 1) FR R).mono (by omega), bR⟩
  have RA : RevX P w K mg base 21 C .Add (spAddQ C) := ⟨fv0, fdv0, RV0, d_rradd (k := 20) FV0 R AD (by omega) (X_as.mono (by omega)), bv0⟩
  have RM : RevX P w K mg base 21 C .Mult (spMulQ C) := ⟨fv1, fdv1, RV1, d_rrmul (k := 20) FV1 R MU (by omega) (X_as.mono (by omega)), bv1⟩
  have AD21 : BinX P w K mg base 21 C .Add (spAddQ C) := ⟨fo0, fdo0, BO0, FA.mono (by omega), bo0⟩
  have MU21 : BinX P w K mg base 21 C .Mult (spMulQ C) := ⟨fo2, fdo2, BO2, FM.mono (by omega), bo2⟩
  have X_int : Def P w K mg base 1 _ _ _ _ := d_is_integer (k := 0) A.b11 A.g R
  have X_list : Def P w K mg base 1 _ _ _ _ := d_is_list (k := 0) A.b13 A.g R
  have X_num : Def P w K mg base 2 _ _ _ _ := d_is_number (k := 1) A.b16 A.g R J X_int
  have X_poly : Def P w K mg base 3 _ _ _ _ := d_is_poly (k := 2) A.b24 A.g R (X_list.mono (by omega)) X_num
  have X_trim : Def P w K mg base 11 _ _ _ _ := d_trimmed (k := 10) A.b27 A.g R J PS (by omega)
  have X_told : Def P w K mg base 13 _ _ _ _ := d_told (k := 12) A.b25 A.g R (X_as.mono (by omega)) (X_poly.mono (by omega)) (X_trim.mono (by omega))
  have X_cnt : Def P w K mg base 2 _ _ _ _ := d_is_count (k := 1) A.b12 A.g R X_int
  have X_wn : Def P w K mg base 1 _ _ _ _ := d_without_noughts (k := 0) A.b21 A.g
  have X_pk : Def P w K mg base 1 _ _ _ _ := d_packed (k := 0) A.b34 A.g
  have X_un : Def P w K mg base 1 _ _ _ _ := d_unpacked (k := 0) A.b35 A.g
  have X_mb : Def P w K mg base 1 _ _ _ _ := d_most_bits (k := 0) A.b37 A.g
  have X_low : Def P w K mg base 1 _ _ _ _ := d_lowest (k := 0) A.b20 A.g
  have X_sop : Def P w K mg base 2 _ _ _ _ := d_sum_of_products (k := 1) A.b36 A.g X_wn X_pk X_un X_mb
  have X_deg : Def P w K mg base 14 _ _ _ _ := d_degree (k := 13) A.b26 A.g R X_told
  have X_ismk : Def P w K mg base 15 _ _ _ _ := d_is_makers (k := 14) A.b31 A.g R (X_list.mono (by omega)) (X_poly.mono (by omega)) X_deg
  have X_tmk : Def P w K mg base 16 _ _ _ _ := d_told_makers (k := 15) A.b32 A.g R (X_told.mono (by omega)) X_ismk
  have X_over : Def P w K mg base 12 _ _ _ _ := d_over_one_bottom (k := 11) A.b18 A.g R PT PB (by omega) X_as
  have X_part : Def P w K mg base 3 _ _ _ _ := d_is_part (k := 2) A.b44 A.g R J X_cnt X_num
  have X_line : Def P w K mg base 4 _ _ _ _ := d_is_line (k := 3) A.b43 A.g R (X_list.mono (by omega)) X_part
  have X_lw : Def P w K mg base 12 _ _ _ _ := d_line_worth (k := 11) A.b45 A.g R PT PB PS (by omega) X_as (X_low.mono (by omega)) (X_sop.mono (by omega))
  have X_wo : Def P w K mg base 13 _ _ _ _ := d_worths_of (k := 12) A.b42 A.g R (X_list.mono (by omega)) X_over (X_line.mono (by omega)) X_lw
  have X_tw : Def P w K mg base 11 _ _ _ _ := d_told_worth (k := 10) A.b46 A.g DQ (by omega)
  have X_ask : Def P w K mg base 17 _ _ _ _ := d_asked (k := 16) A.b50 A.g R (X_told.mono (by omega)) X_tmk
  have X_imo : Def P w K mg base 18 _ _ _ _ := d_is_making_of (k := 17) A.b49 A.g R EXB (by omega) (X_wo.mono (by omega)) (X_tw.mono (by omega)) X_ask
  have L_draw : Def P w K mg base 1 _ _ _ _ := d_draw (k := 0) A.b53 A.g.toMg
  have L_pick : Def P w K mg base 2 _ _ _ _ := d_pick (k := 1) A.b54 A.g.toMg L_draw
  have L_poly : Def P w K mg base 21 _ _ _ _ := d_law_poly (k := 20) A.b55 A.g R RD12 AD PS12 (by omega)
  have L_sum : Def P w K mg base 30 _ _ _ _ := d_law_sum (k := 29) A.b56 A.g R RD21 AD21 RA MU21 RM (by omega) (L_poly.mono (by omega))
  have L_prod : Def P w K mg base 30 _ _ _ _ := d_law_product (k := 29) A.b57 A.g R RD21 AD21 RA MU21 RM (by omega) (L_poly.mono (by omega))
  have L_two : Def P w K mg base 22 _ _ _ _ := d_law_two (k := 21) A.b58 A.g (L_draw.mono (by omega)) (L_pick.mono (by omega)) L_poly
  have L_mkr : Def P w K mg base 31 _ _ _ _ := d_law_makers (k := 30) A.b59 A.g R RD (by omega) (L_draw.mono (by omega)) (L_pick.mono (by omega)) L_sum L_prod
  have L_isl : Def P w K mg base 1 _ _ _ _ := d_law_is_line (k := 0) A.b60 A.g R J
  have L_com : Def P w K mg base 31 _ _ _ _ := d_law_comes (k := 30) A.b61 A.g R J (L_poly.mono (by omega)) L_sum L_prod (L_isl.mono (by omega))
  have L_right : DefG P w K mg base 32 _ _ _ _ := d_law_right (k := 31) A.b62 A.g R RD DQ EXB (by omega) (X_imo.mono (by omega)) (L_draw.mono (by omega)) (L_pick.mono (by omega)) (L_sum.mono (by omega)) (L_two.mono (by omega)) (L_mkr.mono (by omega)) (L_com.mono (by omega))
  have L_pot : Def P w K mg base 1 _ _ _ _ := d_pot (k := 0) A.b52 A.g.toMg
  exact d_law (k := 32) A.b63 A.g (L_pot.mono (by omega)) L_right
theorem mg_int {K : PySem.W.Frag} {h : Heap} {mg : Str → Option Value} {x : Str} {z : Int} {t : Tok} (X : K.In h) (G : h.Ns mainGlobals mg) (a : PySem.W.nsIn K mainGlobals x = some (some (.int z t))) : ∃ t, mg x = some (.int z t) := ⟨t, PySem.W.mg_of X G a⟩
theorem fun_fd {K : PySem.W.Frag} {x : Str} {st : Stmt} {f : Addr} {fd fd' : FuncData} (a : Fun K x x st f fd) (b : Fun K x x st f fd') : fd = fd' := by
  obtain ⟨_, _, _, _, _, _, _, _, _, _, l1, _⟩ := a.ex
  obtain ⟨_, _, _, _, _, _, _, _, _, _, l2, _⟩ := b.ex
  rw [l1] at l2
  cases l2
  rfl
theorem fin {l : PySem.W.OpenLaw} {w : World} {K : PySem.W.Frag} {mg : Str → Option Value} {fa : Addr} (hfa : mg "law" = some (.ref fa)) (A : All K mg) :
    ∃ fd : FuncData, (∀ (s : Shared) (v : Value), BindsTo s fd ⟨[v], []⟩ [("_law_script", v)]) ∧ ∀ base : Heap, K.In base → base.Ns mainGlobals mg → FnG l.prog w K mg base CX0 33 fa fd ["_law_script"] (spLaw K) := by
  obtain ⟨f, fd, hm, F⟩ := A.b63.ex
  obtain rfl : f = fa := by
    rw [hfa] at hm
    cases hm
    rfl
  refine ⟨fd, fun s v => ?_, fun base _ _ => ?_⟩
  · obtain ⟨_, _, _, _, _, _, _, _, _, rfl, _⟩ := F.ex
    exact .of_eq rfl
  · obtain ⟨f', fd', hm', F', _, ok⟩ := (all_law (P := l.prog) (w := w) (base := base) A).ex
    obtain rfl : f = f' := by
      rw [hm] at hm'
      cases hm'
      rfl
    rw [fun_fd F F']
    exact ok
end K21
open PySem PySem.W PyProof.Rows
set_option maxRecDepth 100000 in
set_option maxHeartbeats 0 in
theorem PySem.Challenge.cw_fromplaces_k48_any_value_as_making_holds : PySem.Challenge.rw_fromplaces_k48_any_value_as_making.Holds := by
  w_on; o_law; k_head; (case hw => w_witness2)
  k_fill
  refine Fp.walk_ofG (l := PySem.Challenge.rw_fromplaces_k48_any_value_as_making) (n := 63) (k := 33) (x := "_law_script") (sp := K21.spLaw) rfl (by decide) rfl ⟨rfl, by decide, by decide⟩ (fun w h Y => PySem.W.kIn_of Y) ?F (fun K H a ns hl _ hS => ⟨a, ns, rfl, hS, hl, fun _ => rfl⟩)
  case F =>
    intro w mg fa h KX G hmg
    refine' K21.fin hmg ?_
    refine' ⟨⟨⟨?_, ?_, ?_, ?_, ?_, ?_, ?_, ?_, ?_, ?_, ?_, ?_, ?_, ?_, ?_, ?_, ?_, ?_, ?_, ?_, ?_⟩, ?_, ?_, ?_, ?_, ?_, ?_, ?_⟩, ?R, ?_, ?_, ?_, ?_, ?_, ?_, ?_, ?_, ?_, ?_, ?_, ?_, ?_, ?_, ?_, ?_, ?_, ?_, ?_, ?_, ?_, ?_, ?_, ?_, ?_, ?_, ?_, ?_, ?_, ?_, ?_, ?_, ?_, ?_, ?_, ?_, ?_⟩
    (case R => (refine' K21.cls_mk KX G ?aC ?pg ?hd ?po ?sa ?nT ?nB ?mk ?kc ?a1 ?i1 ?a2 ?i2 ?isA ?isN ?isT ?isM ?kI ?kB ?kL ?kT ?l1 ?c1 ?k1 ?lT ?l2 ?c2 ?k2 ?ji ?jb ?jn ?js ?jl ?jt ?jd ?jc ?q3 ?g3 ?t3 ?r3 ?l3 ?c3 ?k3 ?q4 ?g4 ?t4 ?r4 ?l4 ?c4 ?k4 ?q5 ?g5 ?t5 ?r5 ?l5 ?c5 ?k5 ?sf ?a6 ?i6 ?ra6 ?h16 ?h26 ?hs ?l6 ?c6 ?k6 ?a7 ?i7 ?ra7 ?h17 ?h27 ?l7 ?c7 ?k7 ?a8 ?i8 ?ra8 ?h18 ?h28 ?l8 ?c8 ?k8 ?iu6 ?hs2 ?lv6 ?cv6 ?kv6 ?iu8 ?lv8 ?cv8 ?kv8 ?a9 ?i9 ?l9 ?c9 ?k9 ?a10 ?i10 ?l10 ?c10 ?k10); (case aC => k_is); (case pg => k_is); (case hd => k_is); (case po => k_is); (case sa => k_is); (case nT => k_is); (case nB => k_is); (case mk => k_is); (case kc => k_is); (case a1 => k_is); (case i1 => k_is); (case a2 => k_is); (case i2 => k_is); (case isA => k_is); (case isN => k_is); (case isT => k_is); (case isM => k_is); (case kI => kit_is); (case kB => kit_is); (case kL => kit_is); (case kT => kit_is); (case l1 => k_is); (case c1 => k_is); (case k1 => k_is); (case lT => k_is); (case l2 => k_is); (case c2 => k_is); (case k2 => k_is); (case ji => kit_is); (case jb => kit_is); (case jn => kit_is); (case js => kit_is); (case jl => kit_is); (case jt => kit_is); (case jd => kit_is); (case jc => kit_is); (case q3 => k_is); (case g3 => k_is); (case t3 => k_is); (case r3 => k_is); (case l3 => k_is); (case c3 => k_is); (case k3 => k_is); (case q4 => k_is); (case g4 => k_is); (case t4 => k_is); (case r4 => k_is); (case l4 => k_is); (case c4 => k_is); (case k4 => k_is); (case q5 => k_is); (case g5 => k_is); (case t5 => k_is); (case r5 => k_is); (case l5 => k_is); (case c5 => k_is); (case k5 => k_is); (case sf => k_is); (case a6 => k_is); (case i6 => k_is); (case ra6 => k_is); (case h16 => k_is); (case h26 => k_is); (case hs => k_is); (case l6 => k_is); (case c6 => k_is); (case k6 => k_is); (case a7 => k_is); (case i7 => k_is); (case ra7 => k_is); (case h17 => k_is); (case h27 => k_is); (case l7 => k_is); (case c7 => k_is); (case k7 => k_is); (case a8 => k_is); (case i8 => k_is); (case ra8 => k_is); (case h18 => k_is); (case h28 => k_is); (case l8 => k_is); (case c8 => k_is); (case k8 => k_is); (case iu6 => k_is); (case hs2 => k_is); (case lv6 => k_is); (case cv6 => k_is); (case kv6 => k_is); (case iu8 => k_is); (case lv8 => k_is); (case cv8 => k_is); (case kv8 => k_is); (case a9 => k_is); (case i9 => k_is); (case l9 => k_is); (case c9 => k_is); (case k9 => k_is); (case a10 => k_is); (case i10 => k_is); (case l10 => k_is); (case c10 => k_is); (case k10 => k_is))
    (refine' PySem.W.mg_none_of KX G ?a; (case a => k_is))
    (refine' PySem.W.mg_none_of KX G ?a; (case a => k_is))
    (refine' PySem.W.mg_none_of KX G ?a; (case a => k_is))
    (refine' PySem.W.mg_none_of KX G ?a; (case a => k_is))
    (refine' PySem.W.mg_none_of KX G ?a; (case a => k_is))
    (refine' PySem.W.mg_none_of KX G ?a; (case a => k_is))
    (refine' PySem.W.mg_none_of KX G ?a; (case a => k_is))
    (refine' PySem.W.mg_none_of KX G ?a; (case a => k_is))
    (refine' PySem.W.mg_none_of KX G ?a; (case a => k_is))
    (refine' PySem.W.mg_none_of KX G ?a; (case a => k_is))
    (refine' PySem.W.mg_none_of KX G ?a; (case a => k_is))
    (refine' PySem.W.mg_none_of KX G ?a; (case a => k_is))
    (refine' PySem.W.mg_none_of KX G ?a; (case a => k_is))
    (refine' PySem.W.mg_none_of KX G ?a; (case a => k_is))
    (refine' PySem.W.mg_none_of KX G ?a; (case a => k_is))
    (refine' PySem.W.mg_none_of KX G ?a; (case a => k_is))
    (refine' PySem.W.mg_none_of KX G ?a; (case a => k_is))
    (refine' PySem.W.mg_none_of KX G ?a; (case a => k_is))
    (refine' PySem.W.mg_none_of KX G ?a; (case a => k_is))
    (refine' PySem.W.mg_of KX G ?a; (case a => k_is))
    (refine' PySem.W.mg_of KX G ?a; (case a => k_is))
    (refine' K21.mg_int KX G ?a; (case a => k_is))
    (refine' K21.mg_int KX G ?a; (case a => k_is))
    (refine' K21.mg_int KX G ?a; (case a => k_is))
    (refine' K21.mg_int KX G ?a; (case a => k_is))
    (refine' K21.mg_int KX G ?a; (case a => k_is))
    (refine' K21.mg_int KX G ?a; (case a => k_is))
    (refine' K21.mg_int KX G ?a; (case a => k_is))
    all_goals (refine' K21.bnd KX G ?a ?l ?c ?k; (case a => k_is); (case l => k_is); (case c => k_is); (case k => k_is))
