import PyProof.Rows.All
import Wide.All
import OpenK.AllK
import Wide.FinOn
import HandS.ForMost
import HandS.IsInst
import HandS.Gcd
import HandS.Style
import HandS.SetFor
import HandS.Strs
import PyProof.ReprRoads
import KE.Datum
import KE.SortData
import KE.GoesMore
import KE.GoesZip
import HandS.Walk
import HandS.TupAny
import HandS.Star
import HandS.Deep
import HandS.Codes
import HandS.Conv
import KE.GoesEnum
import HandS.SortInts
import HandS.OwnEq
import HandS.Property
import PyProof.ReprNest
import PyProof.ReprReads
import PyProof.Rows.RegStrFacts
import KE.KOpsOwn
import PyProof.ReprBulk
import HandS.FStr
import HandS.Defaults
import OpenK.KMeth
import PyProof.NeKinds
import HandS.Wide
import KE.KMathGC
import HandS.DictComp
import HandS.WideBits
import PyProof.Walk
import PyProof.WalkLemmas
import PyProof.TwoTypes
import KE.RegKIsAll
import PySem.Challenge.RW_fromplaces_k15_whole_parts_with_others
set_option Elab.async false
set_option linter.all false
set_option maxRecDepth 100000
set_option maxHeartbeats 8000000
namespace Fp
open PySem PySem.Spec PyProof.Rows L2

/-! ### heaps -/
theorem same_new {H : Hp} {p : Addr} {o : HO} (h : H p = none) : Same H (upd H p o) := fun b u q => by rw [upd_ne (ne_of_none q h)]; exact q
theorem same_sqT {K : PySem.W.Frag} {H H' : Hp} {a : Addr} {xs : List V} (e : Same H H') (h : SqT K H a xs) : SqT K H' a xs := by
  rcases h with (h | ⟨o, h⟩) | h
  · exact Or.inl (Or.inl (e _ _ h))
  · exact Or.inl (Or.inr ⟨o, e _ _ h⟩)
  · exact Or.inr h
/-- a list or a tuple that is read -/
def Sq (K : PySem.W.Frag) (H : Hp) (a : Addr) (xs : List V) : Prop := SqL K H a xs ∨ SqT K H a xs
theorem Sq.same {K : PySem.W.Frag} {H H' : Hp} {a : Addr} {xs : List V} (h : Sq K H a xs) (e : Same H H') : Sq K H' a xs := h.imp (fun q => e.seq q) (fun q => same_sqT e q)
theorem sq_lst {K : PySem.W.Frag} {H : Hp} {a : Addr} {xs : List V} (h : H a = some (.lst xs)) : Sq K H a xs := Or.inl (SqL.of h)
theorem sq_tup {K : PySem.W.Frag} {H : Hp} {a : Addr} {xs : List V} (h : H a = some (.tup xs)) : Sq K H a xs := Or.inr (SqT.of h)
/-- all but p as it was -/
def Keep (p : Addr) (H H' : Hp) : Prop := ∀ b o, b ≠ p → H b = some o → H' b = some o
theorem Keep.refl (p : Addr) (H : Hp) : Keep p H H := fun _ _ _ h => h
theorem Keep.trans {p : Addr} {H H1 H2 : Hp} (a : Keep p H H1) (b : Keep p H1 H2) : Keep p H H2 := fun c o n h => b c o n (a c o n h)
theorem Keep.of {p : Addr} {H H' : Hp} (a : Same H H') : Keep p H H' := fun c o _ h => a c o h
theorem keep_upd {p : Addr} {H : Hp} {o : HO} : Keep p H (upd H p o) := fun b u n q => by rw [upd_ne n]; exact q

/-! ### what is walked: a list or a tuple -/
section
variable {X : Cx} {tg : Expr}
theorem pi_or {l : Expr} {w1 w2 : TI} (h1 : PI X tg l w1) (h2 : PI X tg l w2) : PI X tg l (fun σ H R => w1 σ H R ∨ w2 σ H R) :=
  ⟨fun pins s σ H R I h => h.elim (fun q => h1.run pins s σ H R I q) (fun q => h2.run pins s σ H R I q)⟩
def iSq (K : PySem.W.Frag) (tl : TE) : TI := fun σ H R => iList K tl σ H R ∨ iTup K tl σ H R
theorem pi_sq {l : Expr} {tl : TE} (hl : PE X l tl) : PI X tg l (iSq X.K tl) := pi_or (pi_list hl) (pi_tup hl)
end
section
variable {K : PySem.W.Frag} {tl : TE} {a : Addr} {xs : List V} {g : TG} {tt : TT} {te : TE} {vs : List Nat} {σ : L2.St} {H : Hp} {Q : VK} {tb : TS} {D : Ends}
/-- for x in a list or a tuple that stood at H0 and stands still -/
theorem for_sq {H0 : Hp} (Pv : Nat → L2.St → Hp → Prop) (hv : ∀ R : V → Hp → Prop, R (.ref a) H → tl σ H R) (hS : Sq K H0 a xs) (e0 : Same H0 H) (h0 : Pv 0 σ H) (hl : ∀ i σ' H', Pv i σ' H' → Same H0 H')
    (hs : ∀ i x σ H, xs[i]? = some x → Pv i σ H → g x σ H fun σ2 H2 => tb { D with nx := Pv (i + 1), ct := Pv (i + 1), bk := D.nx } σ2 H2) (hd : ∀ σ H, Pv xs.length σ H → D.nx σ H) : tFor (iSq K tl) g tb D σ H := by
  rcases hS with hS | hS
  · exact Or.inl (hv _ ⟨a, rfl, ⟨xs, e0.seq hS⟩, for_list (xs := xs) Pv h0 (fun i σ' H' _ p => (hl i σ' H' p).seq hS) hs hd⟩)
  · exact Or.inr (hv _ ⟨a, rfl, ⟨xs, same_sqT e0 hS⟩, for_tup (xs := xs) Pv h0 (fun i σ' H' _ p => same_sqT (hl i σ' H' p) hS) hs hd⟩)

/-! ### comprehensions whose elements leave what is tracked as it was: index i yields f i (or is left out) -/
theorem fm_succ {α : Type} (f : Nat → Option α) (i : Nat) : (List.range (i + 1)).filterMap f = (List.range i).filterMap f ++ (match f i with | some y => [y] | none => []) := by
  rw [List.range_succ, List.filterMap_append]
  cases e : f i <;> simp [e]
theorem fm_len {α : Type} (f : Nat → Option α) (n : Nat) : ((List.range n).filterMap f).length ≤ n := by
  have q := List.length_filterMap_le f (List.range n)
  rw [List.length_range] at q
  exact q
/-- the part of a reading that a turn of such a comprehension is -/
def LcTurn (f : Nat → Option V) (g : TG) (tt : TT) (te : TE) (vs : List Nat) (σ : L2.St) (i : Nat) (x : V) (H0 H1 : Hp) : Prop :=
  ∀ (Y : V → Hp → Prop) (N : Hp → Prop), (∀ y H2, Same H0 H2 → f i = some y → Y y H2) → (∀ H2, Same H0 H2 → f i = none → N H2) →
    g x (wipe σ vs) H1 fun σ2 H2 => wipe σ2 vs = wipe σ vs ∧ tt σ2 H2 fun b H3 => if b = true then te σ2 H3 Y else N H3
/-- the invariant -/
def LcInv (f : Nat → Option V) (H : Hp) (Dd : Addr) (i : Nat) (H1 : Hp) : Prop := Same H H1 ∧ H1 Dd = some (.lst ((List.range i).filterMap f))
theorem LcInv.start {f : Nat → Option V} {Dd : Addr} (hD : H Dd = none) : LcInv f H Dd 0 (upd H Dd (.lst [])) := ⟨same_new hD, by rw [upd_same]; rfl⟩
theorem LcInv.turn {f : Nat → Option V} {Dd : Addr} (hD : H Dd = none) {i : Nat} (hz : i < sizeLine) {x : V} {H1 H0 : Hp} (h : LcInv f H Dd i H1) (h0 : Same H1 H0) (t : LcTurn f g tt te vs σ i x H1 H0) :
    g x (wipe σ vs) H0 fun σ2 H2 => wipe σ2 vs = wipe σ vs ∧ tt σ2 H2 fun b H3 =>
      if b = true then te σ2 H3 fun y H4 => ∃ acc, H4 Dd = some (.lst acc) ∧ acc.length < sizeLine ∧ LcInv f H Dd (i + 1) (upd H4 Dd (.lst (acc ++ [y]))) else LcInv f H Dd (i + 1) H3 := by
  refine t _ _ (fun y H2 sm e => ?_) fun H2 sm e => ?_
  · refine ⟨_, sm _ _ h.2, Nat.lt_of_le_of_lt (fm_len f i) hz, fun b o q => ?_, ?_⟩
    · rw [upd_ne (ne_of_none q hD)]
      exact sm _ _ (h.1 _ _ q)
    · rw [upd_same, fm_succ, e]
  · refine ⟨fun b o q => sm _ _ (h.1 _ _ q), ?_⟩
    rw [sm _ _ h.2, fm_succ, e, List.append_nil]
theorem lc_sq (f : Nat → Option V) (hv : ∀ R : V → Hp → Prop, R (.ref a) H → tl σ H R) (hS : Sq K H a xs) (hz : xs.length ≤ sizeLine)
    (hs : ∀ i x H1, xs[i]? = some x → Same H H1 → LcTurn f g tt te vs σ i x H1 H1)
    (hd : ∀ Dd H1, Same H H1 → H Dd = none → H1 Dd = some (.lst ((List.range xs.length).filterMap f)) → Q (.ref Dd) H1) : tLc (iSq K tl) g tt te vs σ H Q := by
  have hi : ∀ {i : Nat} {x : V}, xs[i]? = some x → i < sizeLine := fun {i x} e => Nat.lt_of_lt_of_le (List.getElem?_eq_some_iff.mp e).1 hz
  rcases hS with hS | hS
  · exact Or.inl (hv _ ⟨a, rfl, ⟨xs, hS⟩, fun Dd hD => lc_list (xs := xs) (LcInv f H Dd) (LcInv.start hD) (fun i H1 _ p => p.1.seq hS)
      (fun i x H1 hx p => p.turn hD (hi hx) (Same.refl _) (hs i x H1 hx p.1)) fun H1 p => hd Dd H1 p.1 hD p.2⟩)
  · exact Or.inr (hv _ ⟨a, rfl, ⟨xs, hS⟩, fun Dd hD => lc_tup (xs := xs) (LcInv f H Dd) (LcInv.start hD) (fun i H1 _ p => same_sqT p.1 hS)
      (fun i x H1 hx p => p.turn hD (hi hx) (Same.refl _) (hs i x H1 hx p.1)) fun H1 p => hd Dd H1 p.1 hD p.2⟩)
/-- over a range: ahead of it stand the range's own words -/
theorem lc_rg {lo : Int} {n : Nat} {Dd : Addr} {Qd : Hp → Prop} (f : Nat → Option V) (hD : H Dd = none) (hz : n ≤ sizeLine)
    (hs : ∀ i H1, i < n → Same H H1 → LcTurn f g tt te vs σ i (.int (lo + i)) H1 H1)
    (hd : ∀ H1, Same H H1 → H1 Dd = some (.lst ((List.range n).filterMap f)) → Qd H1) : ∃ W : Nat → Nat → Hp → Prop, (∃ m, W 0 m (upd H Dd (.lst []))) ∧ ∀ i m H, W i m H →
      ((Itr lo n).stop i H ∧ Qd H) ∨ ((Itr lo n).go i H ∧ ∃ Nx : Hp → Prop, (∀ H', Nx H' → ∃ m', m' < m ∧ W (i + 1) m' H') ∧ ∀ x H', (Itr lo n).yld i H x H' → g x (wipe σ vs) H' fun σ2 H2 => wipe σ2 vs = wipe σ vs ∧ tt σ2 H2 fun b H3 =>
        if b = true then te σ2 H3 fun y H4 => ∃ acc, H4 Dd = some (.lst acc) ∧ acc.length < sizeLine ∧ Nx (upd H4 Dd (.lst (acc ++ [y]))) else Nx H3) :=
  lc_range (lo := lo) (n := n) (LcInv f H Dd) (LcInv.start hD) (fun i H1 hi p => p.turn hD (Nat.lt_of_lt_of_le hi hz) (Same.refl _) (hs i H1 hi p.1)) fun H1 p => hd H1 p.1 p.2
/-- over enumerate of a list -/
theorem lc_en {Dd : Addr} {Qd : Hp → Prop} (f : Nat → Option V) (hS : SqL K H a xs) (hD : H Dd = none) (hz : xs.length ≤ sizeLine)
    (hs : ∀ i x H1 T, xs[i]? = some x → Same H H1 → H1 T = none → LcTurn f g tt te vs σ i (.ref T) H1 (upd H1 T (.tup [.int (i : Nat), x])))
    (hd : ∀ H1, Same H H1 → H1 Dd = some (.lst ((List.range xs.length).filterMap f)) → Qd H1) : ∃ W : Nat → Nat → Hp → Prop, (∃ m, W 0 m (upd H Dd (.lst []))) ∧ ∀ i m H, W i m H →
      ((Ite K a).stop i H ∧ Qd H) ∨ ((Ite K a).go i H ∧ ∃ Nx : Hp → Prop, (∀ H', Nx H' → ∃ m', m' < m ∧ W (i + 1) m' H') ∧ ∀ x H', (Ite K a).yld i H x H' → g x (wipe σ vs) H' fun σ2 H2 => wipe σ2 vs = wipe σ vs ∧ tt σ2 H2 fun b H3 =>
        if b = true then te σ2 H3 fun y H4 => ∃ acc, H4 Dd = some (.lst acc) ∧ acc.length < sizeLine ∧ Nx (upd H4 Dd (.lst (acc ++ [y]))) else Nx H3) := by
  refine ⟨fun i m H1 => m = xs.length - i ∧ i ≤ xs.length ∧ LcInv f H Dd i H1, ⟨xs.length, rfl, Nat.zero_le _, LcInv.start hD⟩, ?_⟩
  rintro i m H1 ⟨rfl, hi, p⟩
  have q : SqL K H1 a xs := p.1.seq hS
  by_cases hlt : i < xs.length
  · have hx : xs[i]? = some xs[i] := List.getElem?_eq_getElem hlt
    refine Or.inr ⟨⟨xs, xs[i], q, hx⟩, LcInv f H Dd (i + 1), fun H' p' => ⟨xs.length - (i + 1), by omega, rfl, hlt, p'⟩, ?_⟩
    rintro v H' ⟨T, x, rfl, hT, rfl, hy⟩
    have ex : x = xs[i] := Option.some.inj ((hy xs q).symm.trans hx)
    subst ex
    exact p.turn hD (Nat.lt_of_lt_of_le hlt hz) (same_new hT) (hs i _ H1 T hx p.1 hT)
  · have e : i = xs.length := by omega
    subst e
    exact Or.inl ⟨⟨xs, q, Nat.le_refl _⟩, hd H1 p.1 p.2⟩
end
/-- from an index to the items -/
theorem fm_take {α : Type} (xs : List α) (h : α → Option V) : ∀ n, (List.range n).filterMap (fun i => (xs[i]?).bind h) = (xs.take n).filterMap h
  | 0 => by rw [List.take_zero]; rfl
  | n + 1 => by
    rw [fm_succ, fm_take xs h n, List.take_add_one, List.filterMap_append]
    cases e : xs[n]? with
    | none => rfl
    | some x =>
      cases e2 : h x <;> simp [e2]
theorem fm_all {α : Type} (xs : List α) (h : α → Option V) : (List.range xs.length).filterMap (fun i => (xs[i]?).bind h) = xs.filterMap h := by
  rw [fm_take, List.take_length]
end Fp

namespace Fp
open PySem PySem.Spec PyProof.Rows L2

/-! ### isinstance(x, (list, tuple)) -/
theorem tyx_of {K : PySem.W.Frag} {H : Hp} {a : Addr} {xs : List V} (h : Sq K H a xs) : TyX K H (.ref a) (.type "list") ∨ TyX K H (.ref a) (.type "tuple") := by
  rcases h with ((h | ⟨o, h⟩) | ⟨o, its, n, hk, hc, _⟩) | ((h | ⟨o, h⟩) | ⟨o, its, n, hk, hc, _⟩)
  · exact Or.inl (.base (.lst h))
  · exact Or.inl (.base (.frz h))
  · exact Or.inl (.kList hk hc)
  · exact Or.inr (.base (.tup h))
  · exact Or.inr (.fTuple h)
  · exact Or.inr (.kTuple hk hc)
theorem kit_lt {K : PySem.W.Frag} : PySem.W.kitAny K (.type "list") [.type "list", .type "tuple"] = some true ∧ PySem.W.kitAny K (.type "tuple") [.type "list", .type "tuple"] = some true := by
  refine ⟨kitAny_cons (kit_ty (r := true) (by decide +kernel)) (fun z => nomatch z) (fun _ => rfl), ?_⟩
  exact kitAny_cons (kit_ty (r := false) (by decide +kernel)) (fun _ => kitAny_cons (kit_ty (r := true) (by decide +kernel)) (fun z => nomatch z) (fun _ => rfl)) (fun z => nomatch z)
theorem isi_lt {K : PySem.W.Frag} {H : Hp} {a tp : Addr} {xs : List V} {Q : VK} (h : Sq K H a xs) (ht : H tp = some (.tup [.ty "list", .ty "tuple"])) (q : Q (.bl true) H) : rIsiT K [.ref a, .ref tp] H Q := by
  rcases tyx_of h with t | t
  · exact ⟨_, tp, _, _, _, true, rfl, ht, .cons (.ty _) (.cons (.ty _) .nil), t, kit_lt.1, q⟩
  · exact ⟨_, tp, _, _, _, true, rfl, ht, .cons (.ty _) (.cons (.ty _) .nil), t, kit_lt.2, q⟩
theorem kit_int {K : PySem.W.Frag} : PySem.W.kitOne K (.type "int") (.type "int") = some true := kit_ty (by decide +kernel)
theorem kit_int_bool {K : PySem.W.Frag} : PySem.W.kitOne K (.type "int") (.type "bool") = some false := kit_ty (by decide +kernel)
theorem isi_int {K : PySem.W.Frag} {H : Hp} {i : Int} {Q : VK} (q : Q (.bl true) H) : rIsi K [.int i, .ty "int"] H Q := ⟨_, _, _, _, true, rfl, .ty _, .base (.int i), kit_int, q⟩
theorem isi_bool {K : PySem.W.Frag} {H : Hp} {i : Int} {Q : VK} (q : Q (.bl false) H) : rIsi K [.int i, .ty "bool"] H Q := ⟨_, _, _, _, false, rfl, .ty _, .base (.int i), kit_int_bool, q⟩

/-! ### len of a list or a tuple -/
theorem len_sq {K : PySem.W.Frag} {H : Hp} {a : Addr} {xs : List V} {Q : VK} (h : Sq K H a xs) (q : Q (.int xs.length) H) : ∃ p ys, [V.ref a] = [.ref p] ∧ (SqL K H p ys ∨ SqT K H p ys) ∧ Q (.int ys.length) H := ⟨a, xs, rfl, h, q⟩

/-! ### set(..) of a list or a tuple of ints -/
abbrev eset (w : World) : Obj := { cls := .type "set", dict := none, data := .set #[] 0 (.fresh 0 0 (!w.params.followText "set-order")) }
section
variable {P : Program} {w : World} {A : Around} {E : Value → Shared → Prop} {s : Shared}
theorem call_set_lstI {l : Addr} {xs : Array Value} (ns : List Int) {Q : Value → Shared → Prop} (hh : A.handled = none) (hl : s.heap.IsList l xs) (hi : IntsAre xs.toList ns) (hb : ns.length + 1 < scanBound)
    (q : ∀ (h' : Heap) (tk c : Nat), SetR w h' s.heap.objs.size (fun j => decide (j ∈ ns)) c → c ≤ ns.length → (∀ b o, s.heap.get? b = some o → h'.get? b = some o) → Q (.ref s.heap.objs.size) { s with heap := h', toks := tk }) :
    wpAny (model P w) A (call (.type "set") [.ref l]) Q E s := by
  have sz : xs.size = ns.length := by have z := IntsAre.length hi; rw [Array.length_toList] at z; exact z
  obtain ⟨c0, tl0, mro0⟩ := F.called_set.mro
  have f1 := F.called_set.made
  have f2 := F.called_set.sub
  have f3 := F.called_set.notType
  have f4 := F.called_set.canCreate
  have f5 := F.typeCall_set_1 (.ref l)
  refine wpAny_call (codeAny_of_tree (wpAny_pure ⟨Code.quiet_builtin _ (by decide +kernel), codeAny_builtin F.entry_type_call ?_⟩))
  rw [Around.under_plain (weight_type_call_type "set" [.ref l] []) rfl]
  repeat (any_goals (first | assumption | wp_step))
  refine codeAny_mono (code_set_led1 (.ref l) (E := E) (Q₁ := fun ob sb => ob = .ref s.heap.objs.size ∧ sb = { s with heap := s.heap.push (eset w) }) ⟨rfl, rfl⟩) ?_
  rintro (e | fl) s1 hr
  · exact hr
  cases fl with
  | next => exact hr.elim
  | brk => exact hr.elim
  | cont => exact hr.elim
  | ret ob =>
    obtain ⟨rfl, rfl⟩ := hr
    have g0 : (s.heap.push (eset w)).get? s.heap.objs.size = some (eset w) := Heap.get?_push_size _ rfl
    have gT : Shared.TypeIs { s with heap := s.heap.push (eset w) } (.ref s.heap.objs.size) "set" := ⟨_, g0, rfl⟩
    have i1 := F.called_set.init.lookup
    have i2 := F.called_set.init.bind (.ref s.heap.objs.size)
    repeat (any_goals (first | assumption | wp_step))
    refine codeAny_mono (codeAny_call_builtin (R := wants (fun r sb => r = .none ∧ ∃ h' tk c, sb = { s with heap := h', toks := tk } ∧ SetR w h' s.heap.objs.size (fun j => decide (j ∈ ns)) c ∧ c ≤ ns.length ∧
        (∀ b o, s.heap.get? b = some o → h'.get? b = some o)) E) F.called_set.init.plain F.entry_set_init (check_set_init_1 gT ?_)) ?_
    · obtain ⟨⟨ocls, odict, odata, oslots⟩, hol, hcl, nl, hdl⟩ := hl
      simp only at hcl hdl
      subst hcl; subst hdl
      have hl0 : l < s.heap.objs.size := Heap.lt_size hol
      have hol1 : (s.heap.push (eset w)).get? l = some { cls := .type "list", dict := odict, data := .seq xs nl, slots := oslots } := Heap.get?_push_of_some _ hol
      have hl1 : (s.heap.push (eset w)).IsList l xs := ⟨_, hol1, rfl, nl, rfl⟩
      have u1 := F.sub_list_set
      have u2 := F.sub_list_frozenset
      have u3 : (Value.type "list" == Value.type "dict") = false := by decide
      unfold Builtin.«set.__init__» noKeywords Builtin.Frozenset.updateFrom
      generalize hPI : pyIter = PI
      wp_walk
      subst hPI
      refine wpAny_pyIter_list hl1 ?_
      refine wpAny_bind (wpAny_runValue ?_)
      have z1 : (s.heap.push (eset w)).objs.size = s.heap.objs.size + 1 := Heap.size_push ..
      have n1 : l ≠ (s.heap.push (eset w)).objs.size := Nat.ne_of_lt (by rw [z1]; exact Nat.lt_succ_of_lt hl0)
      have n2 : s.heap.objs.size ∉ [(s.heap.push (eset w)).objs.size, l] := by
        simp only [List.mem_cons, List.not_mem_nil, or_false, not_or]
        exact ⟨Nat.ne_of_lt (by rw [z1]; exact Nat.lt_succ_self _), Nat.ne_of_gt hl0⟩
      have it : ∀ (i : Nat) (v : Value), xs[i]? = some v → ∃ k t, ns[i]? = some k ∧ v = .int k t := fun i v hv => by
        have hlt : i < ns.length := by rw [← sz]; exact (Array.getElem?_eq_some_iff.mp hv).1
        obtain ⟨t, e⟩ := PyProof.Rows.IntsAre.int_at hi i v (by rw [Array.getElem?_toList]; exact hv)
        refine ⟨ns[i], t, List.getElem?_eq_getElem hlt, e.trans ?_⟩
        rw [List.getD_eq_getElem?_getD, List.getElem?_eq_getElem hlt]; rfl
      have hA3 : A.in1.in1.in1.handled = none := by simp [hh]
      refine set_update_ints ((Walks.list hA3 _ l n1 xs).toS) s.heap.objs.size n2 ns sz hb it (xs.size - 0) 0 _ (by omega) (Nat.zero_le _) ⟨⟨_, Heap.get?_push_size _ rfl, rfl, rfl⟩, (hl1.push _)⟩ ?_ ?_
      · exact ⟨0, Nat.le_refl 0, setR_new_at (Heap.get?_push_of_some _ g0)⟩
      · rintro ⟨h', g2, d', tk', os'⟩ c' hm hc' hS'
        obtain rfl : g2 = s.gens := hm.gens
        obtain rfl : d' = s.drawn := hm.drawn
        obtain rfl : os' = s.os := hm.os
        rw [sz] at hc'
        refine wpAny_pure (wpAny_pure ⟨rfl, h', tk', c', rfl, hS', hc', fun b o e => ?_⟩)
        have hb0 : b < s.heap.objs.size := Heap.lt_size e
        refine hm.heap b o ?_ (Heap.get?_push_of_some _ (Heap.get?_push_of_some _ e))
        simp only [List.mem_cons, List.not_mem_nil, or_false, not_or]
        exact ⟨Nat.ne_of_lt hb0, Nat.ne_of_lt (by rw [z1]; exact Nat.lt_succ_of_lt hb0)⟩
    · rintro (e | f2) s2 hr2
      · exact hr2
      cases f2 with
      | next => exact hr2.elim
      | brk => exact hr2.elim
      | cont => exact hr2.elim
      | ret r =>
        obtain ⟨rfl, h', tk, c', rfl, hS', hc', hk'⟩ := hr2
        repeat (any_goals (first | assumption | wp_step))
        exact q _ _ _ hS' hc' hk'
end
end Fp

namespace Fp
open PySem PySem.Spec PyProof.Rows L2

/-! ### repr(..) of data, where nothing is being shown -/
def rRepr (K : PySem.W.Frag) : List V → Hp → VK → Prop := fun vs H Q => ∃ (a : Addr) (d : PyData), vs = [.ref a] ∧ Dp K H (.ref a) d ∧ d.showable = true ∧ d.hasDict = false ∧ d.depth ≤ 8 ∧ d.shown.length ≤ sizeLine ∧ Q (.str d.shown) H
theorem cr_repr {X : Cx} (hu : X.A.units + 64 < cLine) (hg : X.A.guards = some []) : CallR X (.builtin "repr") (rRepr X.K) := by
  intro pins s σ H xs us Q I r h
  obtain ⟨a, d, rfl, hd, h1, h2, h3, h4, q⟩ := h
  rw [Vals.ref1 r]
  obtain ⟨as, hr⟩ := Dp.reads I d _ (.ref a) hd rfl
  refine repr_of_reads' hr h1 (fun z => by rw [h2] at z; cases z) hg (by omega) (fun _ _ e => e) (fun h' u tk k => ?_) h4
  exact ⟨.str d.shown, H, I.kept (t' := tk) k, ⟨u, rfl⟩, q⟩

/-! ### defs that are called where nothing is being shown -/
structure FnG (P : Program) (w : World) (K : PySem.W.Frag) (mg : Str → Option Value) (base : Heap) (CX : CXT) (k : Nat) (f : Addr) (fd : FuncData) (ps : List Str) (sp : Sp) : Prop where
  len : ∀ vs H Q E, sp vs H Q E → vs.length = ps.length
  go : ∀ (A : Around) (outer : List Env) (s : Shared) (H : Hp) (args : Args) (us : List Value) (vs : List V) (Q : VK) (E : XK), A.guards = some [] → Room k A → Env0 P w K mg base A outer s H → BindsTo s fd args (ps.zip us) → Vals vs us → sp vs H Q E →
    codeAny (model P w) A (.call (.ref f) args) (CR CX outer P w H s Q E) s
section
variable {P : Program} {w : World} {K : PySem.W.Frag} {mg : Str → Option Value} {base : Heap} {CX : CXT} {k : Nat} {f : Addr}
theorem fnG_of {name qual : Str} {params : Arguments} {body : List Stmt} {scope : Scope} {dV kV doc pm cdv ct oc : Value} {an od : Option Addr} {osl : Array (Option Value)} {N ps : List Str} {sp : Sp}
    (lk : K.lookup f = some ⟨oc, od, .func (PySem.W.fnOf name qual params body scope dV kV doc pm an cdv ct), osl⟩) (hcd : PySem.W.codeIn K cdv qual = true) (S : FnScope N ps scope) (len : ∀ vs H Q E, sp vs H Q E → vs.length = ps.length)
    (hb : ∀ (A : Around) (outer : List Env) (s : Shared) (H : Hp) (vs : List V) (Q : VK) (E : XK), A.guards = some [] → Room k (A.deeper (envOfC qual scope s.heap.objs.size f cdv)) → sp vs H Q E →
      ∃ t, PSs (cxOf CX P w K mg base N qual scope f cdv A outer s H E) body t ∧ t { nx := fun _ H1 => Q .non H1, rt := Q } (start N vs) H) :
    FnG P w K mg base CX (k + 1) f (PySem.W.fnOf name qual params body scope dV kV doc pm an cdv ct) ps sp := by
  constructor
  · exact len
  intro A outer s H args us vs Q E hgd hr e0 hbd rv hsp
  have z := len _ _ _ _ hsp
  have KX : K.In s.heap := e0.mod.kin.keeps (fun b o e => (e0.bs b o e).1)
  have nl : s.heap.NoLimit := e0.mod.nolimit.keeps (fun b o e => (e0.bs b o e).1)
  have par : ∀ y ∈ ps.zip us, scope.names.lookup y.1 = some .local ∨ (scope.names.lookup y.1 = some .cell ∧ ((cellsFrom (s.heap.objs.size + 1) scope.names []).lookup y.1).isSome = true) := by
    rintro ⟨n, v⟩ hy
    exact (S.par n (List.of_mem_zip hy).1).imp id fun q => ⟨q, PySem.W.cellsFrom_some _ _ _ (.inl q)⟩
  refine codeAny_call_function hr.depth (KX _ _ lk) rfl S.co S.gen rfl (PySem.W.codeRec_of KX hcd) (hbd _ _ _ _ (wpAny_newFunctionEnv_cells S.kind par ?_))
  rintro env rfl s1 x
  refine ⟨nl.keeps x.toInCall.keep, codeAny_func ?_⟩
  obtain ⟨t, ht, hq⟩ := hb A outer s H vs Q E hgd (hr.deeper _) hsp
  have I := inv_start (CX := CX) (cd := cdv) (f := f) (E := E) S hr.hd e0 z rv x
  refine wpAny_mono (ht.run [] s1 (start N vs) H _ I hq) ?_ (fun e s' h => h)
  rintro (_ | _ | _ | u) s' h
  · obtain ⟨σ', H', J, q⟩ := h
    exact ⟨.non, H', J.os, J.bare, J.base, J.hok, rfl, q⟩
  · obtain ⟨_, _, _, q⟩ := h
    exact q.elim
  · obtain ⟨_, _, _, q⟩ := h
    exact q.elim
  · obtain ⟨v, σ', H', J, r, q⟩ := h
    exact ⟨v, H', J.os, J.bare, J.base, J.hok, r, q⟩
/-- the rule for such a def -/
theorem fun_okG {x qual : Str} {st : Stmt} {fd : FuncData} {N ps : List Str} {sp : Sp} (F : Fun K x qual st f fd) (S : FnScope N ps (defScope st)) (len : ∀ vs H Q E, sp vs H Q E → vs.length = ps.length)
    (hb : ∀ (cdv : Value) (A : Around) (outer : List Env) (s : Shared) (H : Hp) (vs : List V) (Q : VK) (E : XK), A.guards = some [] → Room k (A.deeper (envOfC qual (defScope st) s.heap.objs.size f cdv)) → sp vs H Q E →
      ∃ t, PSs (cxOf CX0 P w K mg base N qual (defScope st) f cdv A outer s H E).nox (defBody st) t ∧ t { nx := fun _ H' => Q .non H', rt := Q } (start N vs) H) : FnG P w K mg base CX0 (k + 1) f fd ps sp := by
  obtain ⟨oc, od, kV, doc, pm, an, cdv, ct, osl, rfl, lk, hcd⟩ := F.ex
  refine fnG_of lk hcd S len fun A outer s H vs Q E hg hr hsp => ?_
  obtain ⟨t, h, q⟩ := hb cdv A outer s H vs Q E hg hr hsp
  exact ⟨t, h.nox, q⟩
end
section
variable {X : Cx} {CX : CXT} {k : Nat} {f : Addr} {fd : FuncData} {ps : List Str} {sp : Sp} {E : XK} {x : Str} {p pos : Pos} {e : Expr} {es : List Expr} {t : TA}
theorem pe_callG (F : FnG X.prog X.w X.K X.mg X.base CX k f fd ps sp) (hgd : X.A.guards = some []) (hr : Room k X.A) (hg : Gl X x) (hm : X.mg x = some (.ref f)) (hk : PySem.W.keepIn X.K (.ref f) = true) (hb : Binds X.K fd ps []) (hx : Passes CX X E)
    (ha : PA X (e :: es) t) (hdb : (x == ("__debug__" : Str)) = false := by decide) (he : starEach (e :: es) X.env = (false, eval e X.env) :: starEach es X.env := by rfl) (hpl : (backTo pos (starEach es X.env)).any (·.1) = false := by rfl) :
    PE X (.Call (.Name x p) (e :: es) [] pos) (fun σ H Q => t σ H fun vs H1 => sp vs H1 Q E) := by
  constructor
  intro pins s σ H Q I h
  refine wpAny_Call_Name_kw (ld_glob I hg hm (PySem.W.callWith_K (h₀ := X.base) I.ok.mod.kin hk (thn (ha.run pos pins s σ H _ I h) ?_) he hpl) hdb)
  rintro us s1 ⟨vs, H1, I1, r, q⟩
  refine ⟨I1.kIn, ?_⟩
  have hl : us.length = ps.length := by rw [← r.length]; exact F.len _ _ _ _ q
  have hb' : BindsTo s1 fd ⟨us, []⟩ (ps.zip us) := by
    have z := hb s1 us I1.kIn (by rw [List.append_nil]; exact hl)
    rw [List.append_nil] at z
    exact z
  refine wpAny_call (codeAny_mono (F.go X.A X.stack s1 H1 ⟨us, []⟩ us vs Q E hgd hr I1.env0 hb' r q) ?_)
  rintro (e | fl) s' hq
  · exact hx pins σ H1 s1 e s' I1 hq
  · cases fl with
    | ret u => exact I1.after hq
    | next => exact hq.elim
    | brk => exact hq.elim
    | cont => exact hq.elim
end
end Fp

namespace Fp
open PySem PySem.Spec PyProof.Rows L2

/-! ### the law's own call, by FnG -/
theorem only_base {P : Program} {w : World} {K : PySem.W.Frag} {mg mb : Str → Option Value} {a : Addr} {s : Shared} {vs : List Value} {H : Hp} (KX : K.In s.heap) (hns : s.heap.Ns mainGlobals mg) (hb : s.heap.Ns builtinsNs mb)
    (hbb : ∀ x : Str, x ≠ "__name__" → mb x = bootBuiltins x) (hlim : s.heap.NoLimit) (hgen : s.gens = #[]) (ha : s.heap.get? a = some { cls := .type "list", data := .seq vs.toArray }) (hok : HOk P w H s.heap)
    (hA : ∀ b, H b ≠ none → b = a) (hK : H a ≠ none → K.lookup a = none) : K.In (hidT s.heap H) ∧ (hidT s.heap H).Ns mainGlobals mg ∧ Env0 P w K mg (hidT s.heap H) callerA [] s H := by
  have fr : ∀ {b : Addr}, b ≠ a → H b = none := fun {b} n => by
    cases q : H b with
    | none => rfl
    | some u => exact absurd (hA b fun z => by rw [q] at z; cases z) n
  have dn : ∀ {b : Addr} {m : Str → Option Value}, s.heap.Ns b m → (hidT s.heap H).Ns b m := fun {b m} ⟨o, es, ep, e, d, r⟩ => by
    refine ⟨o, es, ep, hidT_get e (fr fun z => ?_), d, r⟩
    subst z
    obtain rfl := Option.some.inj (e.symm.trans ha)
    cases (show Data.seq vs.toArray _ = Data.dict es ep from d)
  have k0 : K.In (hidT s.heap H) := fun b o e => by
    by_cases z : H b = none
    · exact hidT_get (KX b o e) z
    · have eb := hA b z
      subst eb
      rw [hK z] at e
      cases e
  obtain ⟨mc, l1, l2⟩ := hlim
  exact ⟨k0, dn hns, ⟨rfl, ⟨k0, dn hns, ⟨mb, dn hb, hbb⟩, ⟨mc, dn l1, l2⟩⟩, fun b o e => of_hidT e, Nat.le_of_eq (hidT_size _ _), trivial, fun b z => absurd (show b ∈ ([] : List Addr) from z) (by simp), hok, .of_eq hgen⟩⟩
theorem law_callG {P : Program} {w : World} {K : PySem.W.Frag} {mg mb : Str → Option Value} {CX : CXT} {k : Nat} {fa a : Addr} {fd : FuncData} {x : Str} {sp : Sp} {s : Shared} {vs : List Value} {ns : List Int}
    (KX : K.In s.heap) (hns : s.heap.Ns mainGlobals mg) (hb : s.heap.Ns builtinsNs mb) (hbb : ∀ x : Str, x ≠ "__name__" → mb x = bootBuiltins x) (hlim : s.heap.NoLimit) (hgen : s.gens = #[])
    (ha : s.heap.get? a = some { cls := .type "list", data := .seq vs.toArray }) (hi : IntsAre vs ns) (hl : ns.length ≤ sizeLine) (hr : Room k callerA)
    (F : ∀ base : Heap, K.In base → base.Ns mainGlobals mg → FnG P w K mg base CX k fa fd [x] sp) (hbind : ∀ (s : Shared) (u : Value), BindsTo s fd ⟨[u], []⟩ [(x, u)])
    (hsp : ∀ H : Hp, Only H → SqL K H a (ns.map V.int) → sp [.ref a] H (fun v _ => v = .bl true) fun _ _ _ => False) (hCX : ∀ H e s', CX [] H s (fun _ _ _ => False) e s' → False) :
    codeAny (model P w) callerA (.call (.ref fa) ⟨[.ref a], []⟩) (fun r s' => r = .ok (.ret (.bool true)) ∧ OldK s.heap s'.heap ∧ s'.os = s.os ∧ AllBare s'.gens) s := by
  have rv := vals_ints hi
  have core : ∀ H : Hp, Only H → SqL K H a (ns.map V.int) → HOk P w H s.heap → (∀ b, H b ≠ none → b = a) → (H a ≠ none → K.lookup a = none) →
      codeAny (model P w) callerA (.call (.ref fa) ⟨[.ref a], []⟩) (fun r s' => r = .ok (.ret (.bool true)) ∧ OldK s.heap s'.heap ∧ s'.os = s.os ∧ AllBare s'.gens) s := by
    intro H hO hS hok hA hK
    obtain ⟨k0, n0, e0⟩ := only_base (P := P) (w := w) KX hns hb hbb hlim hgen ha hok hA hK
    refine codeAny_mono ((F _ k0 n0).go callerA [] s H ⟨[.ref a], []⟩ [.ref a] [.ref a] _ _ rfl hr e0 (hbind s (.ref a)) (.cons rfl .nil) (hsp H hO hS)) ?_
    rintro (e | fl) s' h
    · exact (hCX H e s' h).elim
    cases fl with
    | next => exact h.elim
    | brk => exact h.elim
    | cont => exact h.elim
    | ret u =>
      obtain ⟨v, H', os, bare, un, hok', r, q⟩ := h
      obtain rfl : v = .bl true := q
      obtain rfl : u = Value.bool true := r
      refine ⟨rfl, OldK.of_keep fun b o e => ?_, os, bare⟩
      rcases hO b with z | ⟨ob, xs, z⟩
      · exact un.keep b o e z (fun z => absurd (show b ∈ ([] : List Addr) from z) (by simp)) (by simp)
      · obtain ⟨e1, _⟩ := hok b _ z
        obtain ⟨e2, _⟩ := hok' b _ (un.frzs b ob _ z)
        exact e2.trans (e1.symm.trans e)
  cases hk : K.lookup a with
  | some o =>
    obtain rfl := Option.some.inj ((KX a o hk).symm.trans ha)
    exact core (fun _ => none) (fun _ => .inl rfl) (.inr ⟨_, vs.toArray, _, hk, rfl, rfl, rfl, by rw [List.size_toArray, hi.length]; exact hl, by simpa using rv⟩) (fun b u z => by cases (show (none : Option HO) = some u from z)) (fun b z => absurd rfl z) (fun z => absurd rfl z)
  | none =>
    have up : ∀ {b : Addr} {u : HO}, (fun c => if c = a then some (HO.frz { cls := .type "list", data := .seq vs.toArray } (.lst (ns.map V.int))) else none) b = some u → b = a ∧ u = HO.frz { cls := .type "list", data := .seq vs.toArray } (.lst (ns.map V.int)) := fun {b u} z => by
      by_cases hb : b = a
      · exact ⟨hb, (Option.some.inj ((if_pos hb).symm.trans z)).symm⟩
      · cases (if_neg hb).symm.trans z
    refine core (fun c => if c = a then some (HO.frz { cls := .type "list", data := .seq vs.toArray } (.lst (ns.map V.int))) else none) (fun b => ?_) (.inl (.inr ⟨_, if_pos rfl⟩)) (fun b u z => ?_) (fun b z => ?_) (fun _ => hk)
    · by_cases hb : b = a
      · exact .inr ⟨_, _, if_pos hb⟩
      · exact .inl (if_neg hb)
    · obtain ⟨rfl, rfl⟩ := up z
      exact ⟨ha, by rw [List.length_map]; exact hl, vs, _, rv, ha⟩
    · by_cases hb : b = a
      · exact hb
      · exact absurd (if_neg hb) z
theorem walk_ofG {l : PySem.W.OpenLaw} {n k : Nat} {q : Program} {loose : List Str} {XP : (Str → Option Value) → Heap → Prop} {YP : World → Heap → Prop} {d : DefRec} {K : Params → PySem.W.Frag} {sp : PySem.W.Frag → Sp} {x : Str}
    (hn : l.most = some n) (hn2 : n ≤ sizeLine) (hdf : d.params.defaults = []) (hr : Room k callerA) (hY : ∀ (w : World) (h : Heap), YP w h → (K w.params).In h)
    (F : ∀ (w : World) (mg : Str → Option Value) (fa : Addr) (h : Heap), (K w.params).In h → h.Ns mainGlobals mg → mg d.name = some (.ref fa) →
      ∃ fd : FuncData, (∀ (s : Shared) (u : Value), BindsTo s fd ⟨[u], []⟩ [(x, u)]) ∧ ∀ base : Heap, (K w.params).In base → base.Ns mainGlobals mg → FnG l.prog w (K w.params) mg base CX0 k fa fd [x] (sp (K w.params)))
    (hsp : ∀ (K : PySem.W.Frag) (H : Hp) (a : Addr) (ns : List Int), ns.length ≤ n → Only H → SqL K H a (ns.map V.int) → sp K [.ref a] H (fun v _ => v = .bl true) fun _ _ _ => False) :
    PySem.W.WalkO q loose XP YP l.row.toRowW d [] (fun f vs => PySem.call f vs) := by
  refine Att.attach_call hn hdf ?_
  intro w s₀ s₁ mg mb fa o pm cd doc a vs ns G Y ho hd hcd hmg hobj hints hlen hg
  have KX := hY w _ Y
  obtain ⟨fd, hb, hF⟩ := F w mg fa _ KX G.T.g hmg
  exact law_callG KX G.T.g G.T.b G.T.builtins G.T.nolimit hg hobj hints (Nat.le_trans hlen hn2) hr hF hb (fun H hO hS => hsp (K w.params) H a ns hlen hO hS) (fun H e s' h => h.elim)
end Fp

namespace Fp
open PySem PySem.Spec PyProof.Rows L2

/-- the def that stands at the module's name x -/
structure Bnd (K : PySem.W.Frag) (mg : Str → Option Value) (x : Str) (st : Stmt) : Prop where
  ex : ∃ (f : Addr) (fd : FuncData), mg x = some (.ref f) ∧ Fun K x x st f fd
/-- the def at the module's name x keeps its promise -/
structure Def (P : Program) (w : World) (K : PySem.W.Frag) (mg : Str → Option Value) (base : Heap) (k : Nat) (x : Str) (st : Stmt) (ps : List Str) (sp : Sp) : Prop where
  ex : ∃ (f : Addr) (fd : FuncData), mg x = some (.ref f) ∧ Fun K x x st f fd ∧ Binds K fd ps [] ∧ FnOk P w K mg base CX0 k f fd ps sp
structure DefG (P : Program) (w : World) (K : PySem.W.Frag) (mg : Str → Option Value) (base : Heap) (k : Nat) (x : Str) (st : Stmt) (ps : List Str) (sp : Sp) : Prop where
  ex : ∃ (f : Addr) (fd : FuncData), mg x = some (.ref f) ∧ Fun K x x st f fd ∧ Binds K fd ps [] ∧ FnG P w K mg base CX0 k f fd ps sp
/-- how a def without defaults binds -/
abbrev Bind (x : Str) (st : Stmt) (ps : List Str) : Prop := ∀ (kV doc pm : Value) (an : Option Addr) (cdv ct : Value) (us : List Value), us.length = ps.length → bindArgs (PySem.W.fnOf x x (defArgs st) (defBody st) (defScope st) .none kV doc pm an cdv ct) ⟨us, []⟩ = pure (ps.zip us)
section
variable {P : Program} {w : World} {K : PySem.W.Frag} {mg : Str → Option Value} {base : Heap} {k : Nat} {x : Str} {st : Stmt} {N ps : List Str} {sp : Sp}
theorem Def.mono {j : Nat} (D : Def P w K mg base k x st ps sp) (h : k ≤ j) : Def P w K mg base j x st ps sp := by
  obtain ⟨f, fd, a, b, c, d⟩ := D.ex
  exact ⟨f, fd, a, b, c, d.mono h⟩
theorem def_of (B : Bnd K mg x st) (S : FnScope N ps (defScope st)) (len : ∀ vs H Q E, sp vs H Q E → vs.length = ps.length) (hbi : Bind x st ps)
    (hb : ∀ (f : Addr) (cdv : Value) (A : Around) (outer : List Env) (s : Shared) (H : Hp) (vs : List V) (Q : VK) (E : XK), Room k (A.deeper (envOfC x (defScope st) s.heap.objs.size f cdv)) → sp vs H Q E →
      ∃ t, PSs (cxOf CX0 P w K mg base N x (defScope st) f cdv A outer s H E).nox (defBody st) t ∧ t { nx := fun _ H' => Q .non H', rt := Q } (start N vs) H) : Def P w K mg base (k + 1) x st ps sp := by
  obtain ⟨f, fd, hm, F⟩ := B.ex
  exact ⟨f, fd, hm, F, F.binds hbi, F.ok S len (hb f)⟩
theorem defG_of (B : Bnd K mg x st) (S : FnScope N ps (defScope st)) (len : ∀ vs H Q E, sp vs H Q E → vs.length = ps.length) (hbi : Bind x st ps)
    (hb : ∀ (f : Addr) (cdv : Value) (A : Around) (outer : List Env) (s : Shared) (H : Hp) (vs : List V) (Q : VK) (E : XK), A.guards = some [] → Room k (A.deeper (envOfC x (defScope st) s.heap.objs.size f cdv)) → sp vs H Q E →
      ∃ t, PSs (cxOf CX0 P w K mg base N x (defScope st) f cdv A outer s H E).nox (defBody st) t ∧ t { nx := fun _ H' => Q .non H', rt := Q } (start N vs) H) : DefG P w K mg base (k + 1) x st ps sp := by
  obtain ⟨f, fd, hm, F⟩ := B.ex
  exact ⟨f, fd, hm, F, F.binds hbi, fun_okG F S len (hb f)⟩
end
def tD (sp : Sp) (t : TA) : TE := fun σ H Q => t σ H fun vs H1 => sp vs H1 Q E0
def tDK (n m : Nat) (b : Bool) (sp : Sp) (t tk : TA) : TE := fun σ H Q => t σ H fun vs H1 => tk σ H1 fun zs H2 => vs.length = n ∧ zs.length = m ∧ sp (vs ++ if b = true then zs.reverse else zs) H2 Q E0
/-- how a def without defaults binds n values by place and m by the names ks (b: turned about) -/
abbrev BindK (n m : Nat) (b : Bool) (x : Str) (st : Stmt) (ps ks : List Str) : Prop := ∀ (kV doc pm : Value) (an : Option Addr) (cdv ct : Value) (us ws : List Value), us.length = n → ws.length = m →
  bindArgs (PySem.W.fnOf x x (defArgs st) (defBody st) (defScope st) .none kV doc pm an cdv ct) ⟨us, ks.zip ws⟩ = pure (ps.zip (us ++ if b = true then ws.reverse else ws))
section
variable {X : Cx} {k : Nat} {x : Str} {st : Stmt} {ps ks : List Str} {sp : Sp} {p pos : Pos} {e : Expr} {es : List Expr} {t tk : TA} {kws : List Keyword} {n m : Nat} {b : Bool}
/-- f(e, ..) -/
theorem pe_d (D : Def X.prog X.w X.K X.mg X.base k x st ps sp) (hr : Room k X.A) (hg : Gl X x) (ha : PA X (e :: es) t)
    (hdb : (x == ("__debug__" : Str)) = false := by decide) (he : starEach (e :: es) X.env = (false, eval e X.env) :: starEach es X.env := by rfl) (hpl : (backTo pos (starEach es X.env)).any (·.1) = false := by rfl) :
    PE X (.Call (.Name x p) (e :: es) [] pos) (tD sp t) := by
  obtain ⟨f, fd, hm, F, hb, ok⟩ := D.ex
  have q := pe_call (p := p) ok hr hg hm F.kp hb .nil (pass0 (X := X)) ha hdb he hpl
  have z : tCall sp [] E0 t = tD sp t := by
    funext σ H Q
    unfold tCall tD
    simp only [List.append_nil]
  rw [z] at q
  exact q
theorem pe_dG (D : DefG X.prog X.w X.K X.mg X.base k x st ps sp) (hgd : X.A.guards = some []) (hr : Room k X.A) (hg : Gl X x) (ha : PA X (e :: es) t)
    (hdb : (x == ("__debug__" : Str)) = false := by decide) (he : starEach (e :: es) X.env = (false, eval e X.env) :: starEach es X.env := by rfl) (hpl : (backTo pos (starEach es X.env)).any (·.1) = false := by rfl) :
    PE X (.Call (.Name x p) (e :: es) [] pos) (tD sp t) := by
  obtain ⟨f, fd, hm, F, hb, ok⟩ := D.ex
  exact pe_callG (p := p) ok hgd hr hg hm F.kp hb (pass0 (X := X)) ha hdb he hpl
theorem run_dk {pins : List (Addr × Obj)} {σ : L2.St} {H : Hp} {s : Shared} {Q : VK} {us ws : List Value} {vs zs : List V} {f : Addr} {fd : FuncData} (F : Fun X.K x x st f fd) (ok : FnOk X.prog X.w X.K X.mg X.base CX0 k f fd ps sp) (hr : Room k X.A)
    (hb : BindK n m b x st ps ks) (I : Inv X pins σ H s) (r : Vals vs us) (rz : Vals zs ws) (hn : vs.length = n) (hm : zs.length = m) (h : sp (vs ++ if b = true then zs.reverse else zs) H Q E0) :
    wpAny (model X.prog X.w) X.A (call (.ref f) us (ks.zip ws)) (EP X pins σ Q) X.xe s := by
  obtain ⟨oc, od, kV, doc, pm, an, cdv, ct, osl, efd, lk, hcd⟩ := F.ex
  have rr : Vals (vs ++ if b = true then zs.reverse else zs) (us ++ if b = true then ws.reverse else ws) := by
    refine r.append ?_
    cases b with
    | true => rw [if_pos rfl, if_pos rfl]; exact rz.reverse
    | false => rw [if_neg Bool.false_ne_true, if_neg Bool.false_ne_true]; exact rz
  have hbd : BindsTo s fd ⟨us, ks.zip ws⟩ (ps.zip (us ++ if b = true then ws.reverse else ws)) := by
    rw [efd]
    exact .of_eq (hb kV doc pm an cdv ct us ws (r.length.symm.trans hn) (rz.length.symm.trans hm))
  refine wpAny_call (codeAny_mono (ok.run X.A X.stack s H ⟨us, ks.zip ws⟩ _ _ Q E0 hr I.env0 hbd rr h) ?_)
  rintro (e | fl) s' hq
  · exact pass0 (X := X) pins σ H s e s' I hq
  · cases fl with
    | ret u => exact I.after hq
    | next => exact hq.elim
    | brk => exact hq.elim
    | cont => exact hq.elim
/-- f(e, .., k = v, ..) -/
theorem pe_dk (D : Def X.prog X.w X.K X.mg X.base k x st ps sp) (hr : Room k X.A) (hg : Gl X x) (n m : Nat) (b : Bool) (ks : List Str) (hb : BindK n m b x st ps ks) (ha : PA X (e :: es) t) (hkw : PK X kws tk)
    (hks : (backToKw pos (keywordEach kws X.env)).filterMap (·.1) = ks := by rfl) (hall : (backToKw pos (keywordEach kws X.env)).all (·.1.isSome) = true := by rfl) (hdb : (x == ("__debug__" : Str)) = false := by decide)
    (he : starEach (e :: es) X.env = (false, eval e X.env) :: starEach es X.env := by rfl) (hpl : ((backTo pos (starEach (e :: es) X.env)).any (·.1) || (backToKw pos (keywordEach kws X.env)).any (·.1.isNone)) = false := by rfl) :
    PE X (.Call (.Name x p) (e :: es) kws pos) (tDK n m b sp t tk) := by
  obtain ⟨f, fd, hm, F, _, ok⟩ := D.ex
  constructor
  intro pins s σ H Q I h
  refine wpAny_Call_Name_kw (ld_glob I hg hm (PySem.W.callWith_KW (h₀ := X.base) I.ok.mod.kin F.kp hall (thn (ha.run pos pins s σ H _ I h) ?_) hpl he) hdb)
  rintro us s1 ⟨vs, H1, I1, r, q⟩
  refine thn (hkw.run pos pins s1 σ H1 _ I1 q) ?_
  rintro ws s2 ⟨zs, H2, I2, rz, q2⟩
  refine ⟨I2.kIn, ?_⟩
  rw [hks]
  exact run_dk F ok hr hb I2 r rz q2.1 q2.2.1 q2.2.2
/-- f(k = v, ..) -/
theorem pe_dk0 (D : Def X.prog X.w X.K X.mg X.base k x st ps sp) (hr : Room k X.A) (hg : Gl X x) (m : Nat) (b : Bool) (ks : List Str) (hb : BindK 0 m b x st ps ks) (hkw : PK X kws tk)
    (hks : (backToKw pos (keywordEach kws X.env)).filterMap (·.1) = ks := by rfl) (hall : (backToKw pos (keywordEach kws X.env)).all (·.1.isSome) = true := by rfl) (hdb : (x == ("__debug__" : Str)) = false := by decide)
    (hpl : ((backTo pos (starEach [] X.env)).any (·.1) || (backToKw pos (keywordEach kws X.env)).any (·.1.isNone)) = false := by rfl) :
    PE X (.Call (.Name x p) [] kws pos) (tDK 0 m b sp tNil tk) := by
  obtain ⟨f, fd, hm, F, _, ok⟩ := D.ex
  constructor
  intro pins s σ H Q I h
  refine wpAny_Call_Name_kw (ld_glob I hg hm (PySem.W.callWith_KW0 (h₀ := X.base) I.ok.mod.kin F.kp hall (thn (hkw.run pos pins s σ H _ I h) ?_) hpl) hdb)
  rintro ws s2 ⟨zs, H2, I2, rz, q2⟩
  refine ⟨I2.kIn, ?_⟩
  rw [hks]
  exact run_dk F ok hr hb I2 .nil rz q2.1 q2.2.1 q2.2.2
end
/-- sorted(set(..)) and set(..) -/
def rSetI (K : PySem.W.Frag) (w : World) : List V → Hp → VK → Prop := fun vs H Q => ∃ (a : Addr) (ns : List Int), vs = [.ref a] ∧ Sq K H a (ns.map V.int) ∧ ns.length ≤ 60 ∧
  ∀ (p : Addr) (n : Nat), n ≤ ns.length → H p = none → Q (.ref p) (upd H p (SetO w p (fun j => decide (j ∈ ns)) n))
theorem cr_setI {X : Cx} (hc : X.calm = true) : CallR X (.type "set") (rSetI X.K X.w) := by
  intro pins s σ H vs us Q I r h
  obtain ⟨a, ns, rfl, hS, hz, q⟩ := h
  rw [Vals.ref1 r]
  have hb : ns.length + 1 < scanBound := by unfold scanBound; omega
  have fin : ∀ (h' : Heap) (tk c : Nat), SetR X.w h' s.heap.objs.size (fun j => decide (j ∈ ns)) c → c ≤ ns.length → (∀ b o, s.heap.get? b = some o → h'.get? b = some o) → EP X pins σ Q (.ref s.heap.objs.size) { s with heap := h', toks := tk } :=
    fun h' tk c R hc k => ⟨.ref s.heap.objs.size, _, I.laid (t' := tk) k (Nat.le_refl _) (setO_new R), rfl, q _ c hc (I.hok.fresh (Nat.le_refl _))⟩
  rcases hS with hS | hS
  · obtain ⟨its, rv, pl, _⟩ := I.list hS
    exact call_set_lstI ns (I.ok.hd hc) pl.isList (by simpa using Vals.ints rv) hb fin
  · obtain ⟨its, rv, pl, _⟩ := I.tuple hS
    exact call_set_tupI ns (I.ok.hd hc) pl (by simpa using Vals.ints rv) hb fin
end Fp

namespace Fp
open PySem PySem.Spec PyProof.Rows L2 PySem.W

/-! ### data by a Lean type -/
section
variable {K : PySem.W.Frag} {H H' : Hp}
mutual
theorem dp_same (e : Same H H') : ∀ (d : PyData) (v : V), Dp K H v d → Dp K H' v d
  | .none, _, h => by cases h; exact .non
  | .bool _, _, h => by cases h; exact .bl _
  | .int _, _, h => by cases h; exact .int _
  | .str _, _, h => by cases h; exact .str _
  | .list ds, _, h => by
    cases h with
    | lst a b => exact .lst (e.seq a) (dpAll_same e ds _ b)
  | .tuple ds, _, h => by
    cases h with
    | tup a b => exact .tup (same_sqT e a) (dpAll_same e ds _ b)
  | .dict _, _, h => by cases h
theorem dpAll_same (e : Same H H') : ∀ (ds : List PyData) (vs : List V), DpAll K H vs ds → DpAll K H' vs ds
  | [], _, h => by cases h; exact .nil
  | d :: ds, _, h => by
    cases h with
    | cons a b => exact .cons (dp_same e d _ a) (dpAll_same e ds _ b)
end
theorem dpAll_len : ∀ {vs : List V} {ds : List PyData}, DpAll K H vs ds → vs.length = ds.length
  | _, _, .nil => rfl
  | _, _, .cons _ b => congrArg (· + 1) (dpAll_len b)
theorem dpAll_app : ∀ {vs ws : List V} {ds es : List PyData}, DpAll K H vs ds → DpAll K H ws es → DpAll K H (vs ++ ws) (ds ++ es)
  | _, _, _, _, .nil, b => b
  | _, _, _, _, .cons a r, b => .cons a (dpAll_app r b)
theorem dpAll_at : ∀ {vs : List V} {ds : List PyData}, DpAll K H vs ds → ∀ {i : Nat} {v : V}, vs[i]? = some v → ∃ d, ds[i]? = some d ∧ Dp K H v d
  | _, _, .nil, i, v, h => by cases h
  | _, _, .cons a r, 0, v, h => by obtain rfl := Option.some.inj h; exact ⟨_, rfl, a⟩
  | _, _, .cons a r, i + 1, v, h => dpAll_at r (i := i) h
theorem dpAll_get : ∀ {vs : List V} {ds : List PyData}, DpAll K H vs ds → ∀ {i : Nat} {d : PyData}, ds[i]? = some d → ∃ v, vs[i]? = some v ∧ Dp K H v d
  | _, _, .nil, i, v, h => by cases h
  | _, _, .cons a r, 0, v, h => by obtain rfl := Option.some.inj h; exact ⟨_, rfl, a⟩
  | _, _, .cons a r, i + 1, v, h => dpAll_get r (i := i) h
theorem dpAll_rev : ∀ {vs : List V} {ds : List PyData}, DpAll K H vs ds → DpAll K H vs.reverse ds.reverse
  | _, _, .nil => .nil
  | _, _, .cons a r => by
    rw [List.reverse_cons, List.reverse_cons]
    exact dpAll_app (dpAll_rev r) (.cons a .nil)
theorem dpAll_take : ∀ {vs : List V} {ds : List PyData}, DpAll K H vs ds → ∀ n, DpAll K H (vs.take n) (ds.take n)
  | _, _, .nil, n => by rw [List.take_nil, List.take_nil]; exact .nil
  | _, _, .cons a r, 0 => .nil
  | _, _, .cons a r, n + 1 => .cons a (dpAll_take r n)
theorem dpAll_drop : ∀ {vs : List V} {ds : List PyData}, DpAll K H vs ds → ∀ n, DpAll K H (vs.drop n) (ds.drop n)
  | _, _, .nil, n => by rw [List.drop_nil, List.drop_nil]; exact .nil
  | _, _, .cons a r, 0 => .cons a r
  | _, _, .cons a r, n + 1 => dpAll_drop r n
theorem dpAll_ints : ∀ ns : List Int, DpAll K H (ns.map V.int) (ns.map Datum.toD)
  | [] => .nil
  | n :: r => .cons (.int n) (dpAll_ints r)
theorem ints_dpAll : ∀ {vs : List V} {ns : List Int}, DpAll K H vs (ns.map Datum.toD) → vs = ns.map V.int
  | [], [], _ => rfl
  | [], _ :: _, h => by cases h
  | _ :: _, [], h => by cases h
  | v :: vs, n :: ns, h => by
    cases h with
    | cons a r =>
      have e : v = .int n := by
        have a' : Dp K H v (.int n) := a
        cases a'; rfl
      rw [e, ints_dpAll r]; rfl
section
variable {α β : Type} [DecidableEq α] [Datum α] [DecidableEq β] [Datum β]
/-- v holds x -/
abbrev Hd (K : PySem.W.Frag) (H : Hp) (v : V) (x : α) : Prop := Dp K H v (Datum.toD x)
/-- the values hold the items -/
abbrev Hs (K : PySem.W.Frag) (H : Hp) (vs : List V) (xs : List α) : Prop := DpAll K H vs (xs.map Datum.toD)
theorem Hd.same {v : V} {x : α} (h : Hd K H v x) (e : Same H H') : Hd K H' v x := dp_same e _ _ h
theorem Hs.same {vs : List V} {xs : List α} (h : Hs K H vs xs) (e : Same H H') : Hs K H' vs xs := dpAll_same e _ _ h
theorem hd_lst {a : Addr} {vs : List V} {xs : List α} (h : SqL K H a vs) (r : Hs K H vs xs) : Hd K H (.ref a) xs := Dp.lst h r
theorem hd_pair {a : Addr} {u v : V} {x : α} {y : β} (h : SqT K H a [u, v]) (r : Hd K H u x) (q : Hd K H v y) : Hd K H (.ref a) (x, y) := Dp.tup h (.cons r (.cons q .nil))
theorem hd_int (i : Int) : Hd K H (.int i) i := .int i
theorem lst_hd {v : V} {xs : List α} (h : Hd K H v xs) : ∃ a vs, v = .ref a ∧ SqL K H a vs ∧ Hs K H vs xs := by
  have h' : Dp K H v (.list (xs.map Datum.toD)) := h
  cases h' with
  | lst a b => exact ⟨_, _, rfl, a, b⟩
theorem pair_hd {v : V} {p : α × β} (h : Hd K H v p) : ∃ a x y, v = .ref a ∧ SqT K H a [x, y] ∧ Hd K H x p.1 ∧ Hd K H y p.2 := by
  have h' : Dp K H v (.tuple [Datum.toD p.1, Datum.toD p.2]) := h
  cases h' with
  | tup a b =>
    cases b with
    | cons b1 b2 =>
      cases b2 with
      | cons b2 b3 =>
        cases b3
        exact ⟨_, _, _, rfl, a, b1, b2⟩
theorem hd_ints {a : Addr} {ns : List Int} (h : SqL K H a (ns.map V.int)) : Hd K H (.ref a) ns := hd_lst h (dpAll_ints ns)
theorem ints_hd {v : V} {ns : List Int} (h : Hd K H v ns) : ∃ a, v = .ref a ∧ SqL K H a (ns.map V.int) := by
  obtain ⟨a, vs, e, hs, r⟩ := lst_hd h
  rw [ints_dpAll r] at hs
  exact ⟨a, e, hs⟩
theorem int_hd {v : V} {n : Int} (h : Hd K H v n) : v = .int n := by
  have h' : Dp K H v (.int n) := h
  cases h'; rfl
theorem Hs.len {vs : List V} {xs : List α} (h : Hs K H vs xs) : vs.length = xs.length := by rw [dpAll_len h, List.length_map]
theorem Hs.at {vs : List V} {xs : List α} (h : Hs K H vs xs) {i : Nat} {v : V} (e : vs[i]? = some v) : ∃ x, xs[i]? = some x ∧ Hd K H v x := by
  obtain ⟨d, e2, hd⟩ := dpAll_at h e
  rw [List.getElem?_map] at e2
  cases q : xs[i]? with
  | none => rw [q] at e2; cases e2
  | some x =>
    rw [q] at e2
    obtain rfl : Datum.toD x = d := Option.some.inj e2
    exact ⟨x, rfl, hd⟩
theorem Hs.get {vs : List V} {xs : List α} (h : Hs K H vs xs) {i : Nat} {x : α} (e : xs[i]? = some x) : ∃ v, vs[i]? = some v ∧ Hd K H v x :=
  dpAll_get h (by rw [List.getElem?_map, e]; rfl)
theorem Hs.app {vs ws : List V} {xs ys : List α} (h : Hs K H vs xs) (r : Hs K H ws ys) : Hs K H (vs ++ ws) (xs ++ ys) := by
  show DpAll K H (vs ++ ws) ((xs ++ ys).map Datum.toD)
  rw [List.map_append]
  exact dpAll_app h r
theorem Hs.one {v : V} {x : α} (h : Hd K H v x) : Hs K H [v] [x] := .cons h .nil
theorem Hs.snoc {vs : List V} {xs : List α} {v : V} {x : α} (h : Hs K H vs xs) (r : Hd K H v x) : Hs K H (vs ++ [v]) (xs ++ [x]) := h.app (.one r)
theorem Hs.rev {vs : List V} {xs : List α} (h : Hs K H vs xs) : Hs K H vs.reverse xs.reverse := by
  show DpAll K H vs.reverse (xs.reverse.map Datum.toD)
  rw [List.map_reverse]
  exact dpAll_rev h
theorem Hs.take {vs : List V} {xs : List α} (h : Hs K H vs xs) (n : Nat) : Hs K H (vs.take n) (xs.take n) := by
  show DpAll K H (vs.take n) ((xs.take n).map Datum.toD)
  rw [List.map_take]
  exact dpAll_take h n
theorem Hs.drop {vs : List V} {xs : List α} (h : Hs K H vs xs) (n : Nat) : Hs K H (vs.drop n) (xs.drop n) := by
  show DpAll K H (vs.drop n) ((xs.drop n).map Datum.toD)
  rw [List.map_drop]
  exact dpAll_drop h n
end
end

/-! ### ==, !=, in, not in of such -/
section
variable {X : Cx}
def rEqH (α : Type) [DecidableEq α] [Datum α] (K : PySem.W.Frag) : R2 := fun x y H Q => ∃ a b : α, Hd K H x a ∧ Hd K H y b ∧ Q (.bl (decide (a = b))) H
def rNeH (α : Type) [DecidableEq α] [Datum α] (K : PySem.W.Frag) : R2 := fun x y H Q => ∃ a b : α, Hd K H x a ∧ Hd K H y b ∧ Q (.bl (decide (a ≠ b))) H
def rInH (α : Type) [DecidableEq α] [Datum α] (K : PySem.W.Frag) : R2 := fun x y H Q => ∃ (a : α) (bs : List α), Hd K H x a ∧ Hd K H y bs ∧ Q (.bl (decide (a ∈ bs))) H
def rNiH (α : Type) [DecidableEq α] [Datum α] (K : PySem.W.Frag) : R2 := fun x y H Q => ∃ (a : α) (bs : List α), Hd K H x a ∧ Hd K H y bs ∧ Q (.bl (decide (a ∉ bs))) H
theorem op_eqH (α : Type) [DecidableEq α] [Datum α] (hu : X.A.units + Datum.depth α < cLine) : OpR X (compareOp .Eq) (rEqH α X.K) := by
  intro pins s σ H x y v u Q I rx ry h
  obtain ⟨a, b, ha, hb, q⟩ := h
  exact eq_datum (Dp.reads I _ x v ha rx) (Dp.reads I _ y u hb ry) hu ⟨.bl _, H, I, rfl, q⟩
theorem op_neH (α : Type) [DecidableEq α] [Datum α] (hu : X.A.units + Datum.depth α < cLine) : OpR X (compareOp .NotEq) (rNeH α X.K) := by
  intro pins s σ H x y v u Q I rx ry h
  obtain ⟨a, b, ha, hb, q⟩ := h
  exact ne_datum (Dp.reads I _ x v ha rx) (Dp.reads I _ y u hb ry) hu ⟨.bl _, H, I, rfl, q⟩
theorem op_inH (α : Type) [DecidableEq α] [Datum α] (hu : X.A.units + 1 + Datum.depth α < cLine) : OpR X (compareOp .In) (rInH α X.K) := by
  intro pins s σ H x y v u Q I rx ry h
  obtain ⟨a, bs, ha, hb, q⟩ := h
  obtain ⟨l, vs, rfl, hs, r⟩ := lst_hd hb
  obtain ⟨its, rv, pl, _⟩ := I.list hs
  cases ry
  exact in_list_datum pl.isList (Dp.readsAll I _ vs its r rv) (Dp.reads I _ x v ha rx) hu ⟨.bl _, H, I, rfl, q⟩
theorem op_niH (α : Type) [DecidableEq α] [Datum α] (hu : X.A.units + 1 + Datum.depth α < cLine) : OpR X (compareOp .NotIn) (rNiH α X.K) := by
  intro pins s σ H x y v u Q I rx ry h
  obtain ⟨a, bs, ha, hb, q⟩ := h
  obtain ⟨l, vs, rfl, hs, r⟩ := lst_hd hb
  obtain ⟨its, rv, pl, _⟩ := I.list hs
  cases ry
  exact notIn_list_datum pl.isList (Dp.readsAll I _ vs its r rv) (Dp.reads I _ x v ha rx) hu ⟨.bl _, H, I, rfl, q⟩
end

/-! ### sorted of such, any number -/
section
variable {X : Cx}
/-- data that a sort takes: all of one build, no tuples -/
class Srt1 (α : Type) [DecidableEq α] [Datum α] : Prop where
  like : ∀ a b : α, alike (Datum.toD a) (Datum.toD b) = true
  other : ∀ a : α, Datum.toD a ≠ .none ∧ ∀ xs, Datum.toD a ≠ .tuple xs
theorem like_all {α : Type} [DecidableEq α] [Datum α] (h : ∀ a b : α, alike (Datum.toD a) (Datum.toD b) = true) : ∀ xs ys : List α, alikeAll (xs.map Datum.toD) (ys.map Datum.toD) = true
  | [], _ => by simp [alikeAll]
  | _ :: _, [] => by simp [alikeAll]
  | x :: xs, y :: ys => by
    show alikeAll (Datum.toD x :: xs.map Datum.toD) (Datum.toD y :: ys.map Datum.toD) = true
    rw [alikeAll, h x y, like_all h xs ys]; rfl
instance : Srt1 Int where
  like _ _ := by simp [Datum.toD, alike]
  other _ := ⟨(fun z => by cases z), (fun _ z => by cases z)⟩
instance {α : Type} [DecidableEq α] [Datum α] [Srt1 α] : Srt1 (List α) where
  like a b := by
    show alike (.list (a.map Datum.toD)) (.list (b.map Datum.toD)) = true
    simpa [alike] using like_all Srt1.like a b
  other _ := ⟨(fun z => by cases z), (fun _ z => by cases z)⟩
theorem vals_of_each {R : Value → V → Prop} : ∀ {out : List Value}, (∀ v ∈ out, ∃ x, R v x) → ∃ ws : List V, EachIs R out ws
  | [], _ => ⟨[], .nil⟩
  | v :: out, h => by
    obtain ⟨x, hx⟩ := h v List.mem_cons_self
    obtain ⟨ws, e⟩ := vals_of_each (out := out) fun u hu => h u (List.mem_cons_of_mem _ hu)
    exact ⟨x :: ws, .cons hx e⟩
def SrR (K : PySem.W.Frag) (H : Hp) (vs : List V) {α : Type} [DecidableEq α] [Datum α] (v : Value) (b : α) : Prop := ∃ x, x ∈ vs ∧ RelV x v ∧ Hd K H x b
theorem srt_in {α : Type} [DecidableEq α] [Datum α] {K : PySem.W.Frag} {H : Hp} {all : List V} : ∀ {vs : List V} {its : List Value} {xs : List α}, (∀ v ∈ vs, v ∈ all) → Vals vs its → Hs K H vs xs → EachIs (SrR K H all) its xs
  | [], _, [], _, r, _ => by cases r; exact .nil
  | [], _, _ :: _, _, _, h => by cases h
  | _ :: _, _, [], _, _, h => by cases h
  | v :: vs, _, x :: xs, m, r, h => by
    cases r with
    | cons r1 r2 =>
      cases h with
      | cons h1 h2 => exact .cons ⟨v, m v List.mem_cons_self, r1, h1⟩ (srt_in (fun u hu => m u (List.mem_cons_of_mem _ hu)) r2 h2)
theorem srt_out {α : Type} [DecidableEq α] [Datum α] {K : PySem.W.Frag} {H : Hp} {all : List V} : ∀ {its : List Value} {xs : List α}, EachIs (SrR K H all) its xs → ∃ ws, Vals ws its ∧ Hs K H ws xs ∧ ∀ w ∈ ws, w ∈ all
  | _, _, .nil => ⟨[], .nil, .nil, fun w h => by cases h⟩
  | _, _, .cons h r => by
    obtain ⟨x, m, rx, hx⟩ := h
    obtain ⟨ws, r1, r2, r3⟩ := srt_out r
    exact ⟨x :: ws, .cons rx r1, .cons hx r2, fun w hw => by
      rcases List.mem_cons.mp hw with e | e
      · rw [e]; exact m
      · exact r3 w e⟩
/-- the order of sorted -/
def leH {α : Type} [DecidableEq α] [Datum α] : α → α → Bool := dataLe false Datum.toD
def rSortH (α : Type) [DecidableEq α] [Datum α] (K : PySem.W.Frag) : List V → Hp → VK → Prop := fun vs H Q => ∃ (a : Addr) (xs : List V) (L : List α), vs = [V.ref a] ∧ SqL K H a xs ∧ Hs K H xs L ∧
  ∀ p ws, (∀ w ∈ ws, w ∈ xs) → Hs K H ws (L.mergeSort leH) → H p = none → Q (.ref p) (upd H p (.lst ws))
theorem cr_sortH (α : Type) [DecidableEq α] [Datum α] [Srt1 α] (hu : X.A.units + 2 + Datum.depth α < cLine) : CallR X (.builtin "sorted") (rSortH α X.K) := by
  intro pins s σ H vs us Q I r h
  obtain ⟨a, xs, L, rfl, hs, hL, q⟩ := h
  obtain ⟨its, rv, hl, hz⟩ := I.list hs
  rw [Vals.ref1 r]
  have el := srt_in (all := xs) (fun _ m => m) rv hL
  have n1 : L.length = xs.length := hL.len.symm
  have er : EachIs (fun v (b : α) => ∃ as, Reads s.heap v (Datum.toD b) as) its L := el.mono fun v b ⟨x, _, rx, hx⟩ => Dp.reads I _ x v hx rx
  refine sorted_data (enc := Datum.toD) hl.isList el er (AllAlike.of Srt1.like) (Sortable.others Srt1.other) (by rw [n1]; exact hz) (fun b _ => Nat.lt_of_le_of_lt (Nat.add_le_add_left (Datum.depth_le b) _) hu) fun out ho eo => ?_
  obtain ⟨ws, r1, r2, r3⟩ := srt_out eo
  obtain ⟨ep, he'⟩ := PyProof.Rows.sortedAll_at s.heap its out.toArray
  have hlen : ws.length ≤ sizeLine := by rw [r1.length, ho, n1]; exact hz
  exact ⟨.ref _, upd H (s.heap.objs.size + 1) (.lst ws), I.laid (t' := s.toks) (fun _ _ => PyProof.Rows.sortedAll_old) (Nat.le_succ _) ⟨hlen, out, ep, r1, he'⟩, rfl, q _ _ r3 r2 (I.hok.fresh (Nat.le_succ _))⟩
end

/-! ### zip of lists and tuples -/
def SqK (κ : Bool) (K : PySem.W.Frag) (H : Hp) (a : Addr) (xs : List V) : Prop := if κ = true then SqT K H a xs else SqL K H a xs
theorem sqk_of {K : PySem.W.Frag} {H : Hp} {a : Addr} {xs : List V} (h : Sq K H a xs) : ∃ κ, SqK κ K H a xs := h.elim (fun q => ⟨false, q⟩) (fun q => ⟨true, q⟩)
theorem SqK.same {κ : Bool} {K : PySem.W.Frag} {H H' : Hp} {a : Addr} {xs : List V} (e : Same H H') (h : SqK κ K H a xs) : SqK κ K H' a xs := by
  cases κ with
  | false => exact e.seq (show SqL K H a xs from h)
  | true => exact same_sqT e (show SqT K H a xs from h)
theorem sqk_lst {K : PySem.W.Frag} {H : Hp} {a : Addr} {xs : List V} (h : H a = some (.lst xs)) : SqK false K H a xs := SqL.of h
theorem SqK.sq {κ : Bool} {K : PySem.W.Frag} {H : Hp} {a : Addr} {xs : List V} (h : SqK κ K H a xs) : Sq K H a xs := by
  cases κ with
  | false => exact .inl h
  | true => exact .inr h
def ItAtK (κ : Bool) (h : Heap) (it l : Addr) (i : Nat) : Prop := if κ = true then h.IsTupleIter it l i else h.IsListIter it l i
def SqAtK (κ : Bool) (h : Heap) (l : Addr) (its : Array Value) : Prop := if κ = true then h.IsTuple l its else h.IsList l its
theorem ItAtK.at {κ : Bool} {h h' : Heap} {it l : Addr} {i : Nat} (a : ItAtK κ h it l i) (k : ∀ o, h.get? it = some o → h'.get? it = some o) : ItAtK κ h' it l i := by
  cases κ with
  | false => exact Heap.IsListIter.at (show h.IsListIter it l i from a) k
  | true => exact Heap.IsTupleIter.at (show h.IsTupleIter it l i from a) k
theorem ItAtK.obj {κ : Bool} {h : Heap} {it l : Addr} {i : Nat} (a : ItAtK κ h it l i) : ∃ o, h.get? it = some o ∧ ∀ v, o.data ≠ .cell v := by
  cases κ with
  | false => obtain ⟨o, e, _, d⟩ := (show h.IsListIter it l i from a); exact ⟨o, e, fun v q => by rw [d] at q; cases q⟩
  | true => obtain ⟨o, e, _, d⟩ := (show h.IsTupleIter it l i from a); exact ⟨o, e, fun v q => by rw [d] at q; cases q⟩
theorem draws_k {prog : Program} {w : World} {A : Around} (κ : Bool) (hh : A.handled = none) (it l : Addr) (ne : l ≠ it) (its : Array Value) :
    Draws prog w A it [it, l] its.size (fun i v => its[i]? = some v) (fun i h => ItAtK κ h it l i ∧ SqAtK κ h l its) := by
  cases κ with
  | false => exact Draws.list hh it l ne its
  | true => exact Draws.tuple hh it l ne its
theorem Inv.seqK {X : Cx} {pins : List (Addr × Obj)} {σ : L2.St} {H : Hp} {s : Shared} {κ : Bool} {a : Addr} {xs : List V} (I : L2.Inv X pins σ H s) (h : SqK κ X.K H a xs) : ∃ its : List Value, Vals xs its ∧ SqAtK κ s.heap a its.toArray ∧ a < s.heap.objs.size := by
  cases κ with
  | false =>
    obtain ⟨its, rv, p, _⟩ := I.list (show SqL X.K H a xs from h)
    exact ⟨its, rv, p.isList, p.lt⟩
  | true =>
    obtain ⟨its, rv, p, _⟩ := I.tuple (show SqT X.K H a xs from h)
    obtain ⟨o, ho, _⟩ := id p
    exact ⟨its, rv, p, Heap.lt_size ho⟩
theorem Inv.seqK_inj {X : Cx} {pins : List (Addr × Obj)} {σ : L2.St} {H : Hp} {s : Shared} {κ : Bool} {a : Addr} {xs ys : List V} (I : L2.Inv X pins σ H s) (h : SqK κ X.K H a xs) (g : SqK κ X.K H a ys) : xs = ys := by
  cases κ with
  | false => exact I.list_inj (show SqL X.K H a xs from h) (show SqL X.K H a ys from g)
  | true => exact I.tuple_inj (show SqT X.K H a xs from h) (show SqT X.K H a ys from g)
def ItZ (K : PySem.W.Frag) (κ1 κ2 : Bool) (a b : Addr) (xs ys : List V) : It :=
  ⟨fun i H => SqK κ1 K H a xs ∧ SqK κ2 K H b ys ∧ i < xs.length ∧ i < ys.length,
    fun i H v H' => ∃ T x y, v = .ref T ∧ H T = none ∧ H' = upd H T (.tup [x, y]) ∧ xs[i]? = some x ∧ ys[i]? = some y,
    fun i H => SqK κ1 K H a xs ∧ SqK κ2 K H b ys ∧ i ≤ xs.length ∧ i ≤ ys.length ∧ (i = xs.length ∨ i = ys.length)⟩
def TnZ (κ1 κ2 : Bool) (z TI TO i1 i2 a b : Addr) (i : Nat) (h : Heap) : Prop := IsZip h z TI TO .none ∧ IsPair h TI (.ref i1) (.ref i2) ∧ (∃ x y, IsPair h TO x y) ∧ ItAtK κ1 h i1 a i ∧ ItAtK κ2 h i2 b i
theorem zip_turns {P : Program} {w : World} {K : PySem.W.Frag} {elts : List Expr} {kk : Nat} {tpos : Pos} {κ1 κ2 : Bool} {a b z TI TO i1 i2 : Addr} {xs ys : List V} (D : ZipApart z TI TO i1 i2 a b) :
    Turn P w K (.Tuple elts kk tpos) (ItZ K κ1 κ2 a b xs ys) [z, TI, TO, i1, i2] z (TnZ κ1 κ2 z TI TO i1 i2 a b) := by
  have S : ZipSep2 z TI TO i1 i2 [i1, a] [i2, b] := by
    refine ⟨D.TIz, D.TOz, D.TITO, D.TIi1, by simp, ?_, ?_, D.TIi2, by simp, ?_, ?_, ?_, ?_⟩ <;>
      · simp only [List.mem_cons, List.not_mem_nil, or_false, not_or]
        first
          | exact ⟨D.i1z.symm, D.l1z.symm⟩ | exact ⟨D.TOi1, D.l1TO.symm⟩ | exact ⟨D.i2z.symm, D.l2z.symm⟩ | exact ⟨D.TOi2, D.l2TO.symm⟩ | exact ⟨D.i12, D.l2i1.symm⟩ | exact ⟨D.i12.symm, D.l1i2.symm⟩
  refine ⟨by simp, ?_, ?_, ?_, ?_, ?_⟩
  · rintro i h ⟨hz, hTI, ⟨x, y, hTO⟩, h1, h2⟩ c hc
    have e' : c = z ∨ c = TI ∨ c = TO ∨ c = i1 ∨ c = i2 := by simpa using hc
    rcases e' with q | q | q | q | q <;> subst q
    · exact ⟨_, hz, fun v q => nomatch q⟩
    · exact ⟨_, hTI, fun v q => nomatch q⟩
    · exact ⟨_, hTO, fun v q => nomatch q⟩
    · exact h1.obj
    · exact h2.obj
  · rintro i h h' ⟨hz, hTI, ⟨x, y, hTO⟩, h1, h2⟩ k
    exact ⟨k z (by simp) _ hz, k TI (by simp) _ hTI, ⟨x, y, k TO (by simp) _ hTO⟩, h1.at fun o q => k i1 (by simp) o q, h2.at fun o q => k i2 (by simp) o q⟩
  · intro X hP hw hK hc i pins s σ H E I hf st hg
    subst hP hw hK
    obtain ⟨hz, hTI, ⟨x0, y0, hTO⟩, h1, h2⟩ := st
    obtain ⟨qx, qy, l1, l2⟩ := hg
    obtain ⟨its, rv, p, _⟩ := Inv.seqK I qx
    obtain ⟨its2, rv2, p2, _⟩ := Inv.seqK I qy
    have hA : X.A.in1.handled = none := by
      have q := I.ok.hd hc
      simpa using q
    have zl : z < s.heap.objs.size := Heap.lt_size hz
    have n1 := rv.length
    have n2 := rv2.length
    refine wpAny_pyNext_zipD2_item S (draws_k κ1 hA i1 a D.l1i1 its.toArray) (draws_k κ2 hA i2 b D.l2i2 its2.toArray) hz hTI hTO ⟨h1, p⟩ ⟨h2, p2⟩ (by simp; omega) (by simp; omega) ?_
    intro u u2 h' tk hu hu2 z' TO' st1 st2 hT hsz hk
    obtain ⟨x, hx, ru⟩ : ∃ x, xs[i]? = some x ∧ RelV x u := by
      obtain ⟨u', e1, e2⟩ := rv.get (List.getElem?_eq_getElem l1)
      have e3 : its[i]? = some u := by simpa using hu
      rw [e1] at e3
      obtain rfl := Option.some.inj e3
      exact ⟨_, List.getElem?_eq_getElem l1, e2⟩
    obtain ⟨y, hy, ru2⟩ : ∃ y, ys[i]? = some y ∧ RelV y u2 := by
      obtain ⟨u', e1, e2⟩ := rv2.get (List.getElem?_eq_getElem l2)
      have e3 : its2[i]? = some u2 := by simpa using hu2
      rw [e1] at e3
      obtain rfl := Option.some.inj e3
      exact ⟨_, List.getElem?_eq_getElem l2, e2⟩
    refine ⟨_, rfl, wpAny_letOwnedTupleGo_zip (s := { s with heap := h', toks := tk }) z' fun h'' z'' sb => ?_⟩
    have T2 : h''.get? s.heap.objs.size = some { cls := .type "tuple", data := .seq #[u, u2] } := (sb.2 _ (Nat.ne_of_gt zl)).trans hT
    have far : ∀ c o, c ∉ [z, TI, TO, i1, i2] → s.heap.get? c = some o → h''.get? c = some o := fun c o hb q => by
      simp only [List.mem_cons, List.not_mem_nil, or_false, not_or] at hb
      exact (sb.2 c hb.1).trans (hk c o hb.1 hb.2.2.1 hb.2.2.2.1 hb.2.2.2.2 q)
    have I1 : L2.Inv X pins σ (upd H s.heap.objs.size (.tup [x, y])) { s with heap := h'', toks := tk } :=
      I.turnedNew (t' := tk) (ch := [z, TI, TO, i1, i2]) far hf (Nat.le_refl _) ⟨by show 2 ≤ sizeLine; decide, [u, u2], .cons ru (.cons ru2 .nil), ⟨_, T2, rfl, _, rfl⟩⟩
    refine ⟨.ref s.heap.objs.size, _, I1, rfl, ⟨_, x, y, rfl, I.hok.fresh (Nat.le_refl _), rfl, hx, hy⟩, ⟨z'', ?_, ⟨u, u2, ?_⟩, ?_, ?_⟩, fun c hcm => ?_⟩
    · exact (sb.2 _ D.TIz).trans (hk _ _ D.TIz D.TITO D.TIi1 D.TIi2 hTI)
    · exact (sb.2 _ D.TOz).trans TO'
    · exact st1.1.at fun o q => (sb.2 _ D.i1z).trans q
    · exact st2.1.at fun o q => (sb.2 _ D.i2z).trans q
    · have lt : c < s.heap.objs.size := by
        have e' : c = z ∨ c = TI ∨ c = TO ∨ c = i1 ∨ c = i2 := by simpa using hcm
        rcases e' with q | q | q | q | q <;> subst q
        · exact zl
        · exact Heap.lt_size hTI
        · exact Heap.lt_size hTO
        · obtain ⟨_, e1, _⟩ := h1.obj; exact Heap.lt_size e1
        · obtain ⟨_, e2, _⟩ := h2.obj; exact Heap.lt_size e2
      rw [upd_ne (Nat.ne_of_lt lt)]
      exact (hf c hcm).1
  · intro X hP hw hK hc i pins s σ H E I hf st hg
    subst hP hw hK
    obtain ⟨hz, hTI, ⟨x0, y0, hTO⟩, h1, h2⟩ := st
    obtain ⟨qx, qy, l1, l2, l3⟩ := hg
    obtain ⟨its, rv, p, _⟩ := Inv.seqK I qx
    obtain ⟨its2, rv2, p2, _⟩ := Inv.seqK I qy
    have hA : X.A.in1.handled = none := by
      have q := I.ok.hd hc
      simpa using q
    have n1 := rv.length
    have n2 := rv2.length
    refine wpAny_pyNext_zipD2_end S (draws_k κ1 hA i1 a D.l1i1 its.toArray) (draws_k κ2 hA i2 b D.l2i2 its2.toArray) hz hTI hTO ⟨h1, p⟩ ⟨h2, p2⟩ (by simp; omega) (by simp; omega) (by simp; omega) fun h' tk hk => ?_
    refine ⟨rfl, I.turnedL (t' := tk) (ch := [z, TI, TO, i1, i2]) (fun c o hb q => ?_) hf⟩
    simp only [List.mem_cons, List.not_mem_nil, or_false, not_or] at hb
    exact hk c o hb.1 hb.2.2.1 hb.2.2.2.1 hb.2.2.2.2 q
  · intro A i s Q E st h
    exact wpAny_pyIter_zip st.1 h
def iZipS (K : PySem.W.Frag) (ta : TA) : TI := fun σ H R => ta σ H fun vs H1 => ∃ a b xs ys κ1 κ2, vs = [.ref a, .ref b] ∧ SqK κ1 K H1 a xs ∧ SqK κ2 K H1 b ys ∧ R (ItZ K κ1 κ2 a b xs ys) H1
theorem zip_made {prog : Program} {w : World} {A : Around} {E : Value → Shared → Prop} {s : Shared} {κ1 κ2 : Bool} {l1 l2 : Addr} {xs ys : Array Value} {Q : Value → Shared → Prop} (h1 : SqAtK κ1 s.heap l1 xs) (h2 : SqAtK κ2 s.heap l2 ys)
    (h : ∀ h', IsZip h' (s.heap.objs.size + 4) (s.heap.objs.size + 2) (s.heap.objs.size + 3) .none → IsPair h' (s.heap.objs.size + 2) (.ref s.heap.objs.size) (.ref (s.heap.objs.size + 1)) → IsPair h' (s.heap.objs.size + 3) .none .none →
      ItAtK κ1 h' s.heap.objs.size l1 0 → ItAtK κ2 h' (s.heap.objs.size + 1) l2 0 → (∀ c o, s.heap.get? c = some o → h'.get? c = some o) → Q (.ref (s.heap.objs.size + 4)) { s with heap := h' }) :
    wpAny (model prog w) A (call (.type "zip") [.ref l1, .ref l2]) Q E s := by
  cases κ1 <;> cases κ2
  · exact zip_begins2 (begins_list l1 xs) (begins_list l2 ys) h1 h2 fun h' a b c d e _ f => h h' a b c ⟨_, d, rfl, rfl⟩ ⟨_, e, rfl, rfl⟩ f
  · exact zip_begins2 (begins_list l1 xs) (begins_tuple l2 ys) h1 h2 fun h' a b c d e _ f => h h' a b c ⟨_, d, rfl, rfl⟩ ⟨_, e, rfl, rfl⟩ f
  · exact zip_begins2 (begins_tuple l1 xs) (begins_list l2 ys) h1 h2 fun h' a b c d e _ f => h h' a b c ⟨_, d, rfl, rfl⟩ ⟨_, e, rfl, rfl⟩ f
  · exact zip_begins2 (begins_tuple l1 xs) (begins_tuple l2 ys) h1 h2 fun h' a b c d e _ f => h h' a b c ⟨_, d, rfl, rfl⟩ ⟨_, e, rfl, rfl⟩ f
theorem pi_zipS {X : Cx} {e e2 : Expr} {ta : TA} {p pos tpos : Pos} {elts : List Expr} {kk : Nat} (hg : Gl X "zip") (hm : X.mg "zip" = none) (ha : PA X [e, e2] ta)
    (hs : starEach [e, e2] X.env = (false, eval e X.env) :: starEach [e2] X.env := by rfl) (hpl : (backTo pos (starEach [e2] X.env)).any (·.1) = false := by rfl) :
    PI X (.Tuple elts kk tpos) (.Call (.Name "zip" p) [e, e2] [] pos) (iZipS X.K ta) := by
  refine ⟨fun pins s σ H R I h => Call_ (ld_blt I hg hm PyProof.Rows.boot_zip (PyProof.Rows.callWith_type1 (thn (ha.run pos pins s σ H _ I h) ?_) hs hpl))⟩
  rintro us s1 ⟨vs, H1, I1, r1, a, b, xs, ys, κ1, κ2, rfl, kx, ky, q⟩
  obtain ⟨u1, u2, rfl, ra, rb⟩ := vals2 r1
  cases ra
  cases rb
  obtain ⟨its, rv, p1, la⟩ := Inv.seqK I1 kx
  obtain ⟨its2, rv2, p2, lb⟩ := Inv.seqK I1 ky
  refine zip_made p1 p2 fun h' hz hTI hTO h1 h2 hk => wpAny_pyIter_zip hz ?_
  refine ⟨s1.heap.objs.size + 4, _, _, _, H1, rfl, I1.kept (t' := s1.toks) hk, zip_turns (PySem.W.ktu_apart s1.heap.objs.size a b la lb), ⟨hz, hTI, ⟨_, _, hTO⟩, h1, h2⟩, fun c hcm => ?_, q⟩
  have le : s1.heap.objs.size ≤ c := by
    have e' : c = s1.heap.objs.size + 4 ∨ c = s1.heap.objs.size + 2 ∨ c = s1.heap.objs.size + 3 ∨ c = s1.heap.objs.size ∨ c = s1.heap.objs.size + 1 := by simpa using hcm
    rcases e' with z | z | z | z | z <;> rw [z] <;> first | exact Nat.le_refl _ | exact Nat.le_add_right _ _
  exact I1.fpOk le (I1.hok.fresh le)
theorem walk_zipS {K : PySem.W.Frag} {κ1 κ2 : Bool} {a b : Addr} {xs ys : List V} {n : Nat} (hn : n = min xs.length ys.length) :
    Walk (ItZ K κ1 κ2 a b xs ys) n (fun H => SqK κ1 K H a xs ∧ SqK κ2 K H b ys) (YPair (fun i => xs[i]?) (fun i => ys[i]?)) := by
  subst hn
  refine ⟨fun i _ hi q => ⟨q.1, q.2, by omega, by omega⟩, fun _ q => ⟨q.1, q.2, by omega, by omega, by omega⟩, fun i H v H' _ q y => ?_⟩
  obtain ⟨T, x, z, h1, h2, h3, h4, h5⟩ := y
  exact ⟨T, x, z, h1, h2, h3, h4, h5⟩

/-! ### comprehensions whose elements make new objects: Rel by the turn and what was made so far -/
/-- the heap without D -/
def wo (D : Addr) (H : Hp) : Hp := fun b => if b = D then none else H b
theorem wo_upd {D : Addr} {H : Hp} {o : HO} : wo D (upd H D o) = wo D H := by
  funext b
  unfold wo
  by_cases e : b = D
  · rw [if_pos e, if_pos e]
  · rw [if_neg e, if_neg e, upd_ne e]
theorem wo_same {D : Addr} {H H' : Hp} (e : Same H H') : Same (wo D H) (wo D H') := fun b o q => by
  unfold wo at q ⊢
  by_cases z : b = D
  · rw [if_pos z] at q; cases q
  · rw [if_neg z] at q ⊢; exact e _ _ q
theorem same_wo {D : Addr} {H H' : Hp} (n : H D = none) (e : Same H H') : Same H (wo D H') := fun b o q => by
  unfold wo
  rw [if_neg (ne_of_none q n)]
  exact e _ _ q
theorem wo_le {D : Addr} {H : Hp} : Same (wo D H) H := fun b o q => by
  unfold wo at q
  by_cases z : b = D
  · rw [if_pos z] at q; cases q
  · rw [if_neg z] at q; exact q
theorem wo_ne {D b : Addr} {H : Hp} (h : b ≠ D) : wo D H b = H b := if_neg h
/-- a new object beside D -/
theorem wo_new {D p : Addr} {H : Hp} {o : HO} {acc : List V} (hD : H D = some (.lst acc)) (hp : H p = none) : wo D (upd H p o) = upd (wo D H) p o := by
  have ne : p ≠ D := fun z => by rw [z, hD] at hp; cases hp
  funext b
  by_cases e : b = D
  · subst e
    rw [upd_ne ne.symm]
    exact (if_pos rfl).trans (if_pos rfl).symm
  · rw [wo_ne e]
    by_cases z : b = p
    · subst z
      rw [upd_same, upd_same]
    · rw [upd_ne z, upd_ne z, wo_ne e]
section
variable {J : It} {n : Nat} {G : Hp → Prop} {Y : Nat → Hp → V → Hp → Prop} {g : TG} {tt : TT} {te : TE} {vs : List Nat} {σ : L2.St} {H1 : Hp} {D : Addr} {Qd : Hp → Prop}
def RInv (Rel : Nat → List V → Hp → Prop) (H1 : Hp) (D : Addr) (i : Nat) (H : Hp) : Prop := Same H1 H ∧ ∃ acc, H D = some (.lst acc) ∧ acc.length ≤ i ∧ Rel i acc (wo D H)
theorem lc_rel (w : Walk J n G Y) (Rel : Nat → List V → Hp → Prop) (hD : H1 D = none) (hz : n ≤ sizeLine) (hG : ∀ H', Same H1 H' → G H') (h0 : Rel 0 [] H1) (hm : ∀ i acc A B, Same A B → Rel i acc A → Rel i acc B)
    (hs : ∀ i x acc Ha Hb, i < n → Same H1 Ha → Ha D = some (.lst acc) → Rel i acc (wo D Ha) → Y i Ha x Hb → ∀ (Yc : V → Hp → Prop) (Nc : Hp → Prop), (∀ y H4, Same Ha H4 → Rel (i + 1) (acc ++ [y]) (wo D H4) → Yc y H4) → (∀ H3, Same Ha H3 → Rel (i + 1) acc (wo D H3) → Nc H3) →
      g x (wipe σ vs) Hb fun σ2 H2 => wipe σ2 vs = wipe σ vs ∧ tt σ2 H2 fun b H3 => if b = true then te σ2 H3 Yc else Nc H3)
    (hd : ∀ acc H', Same H1 H' → H' D = some (.lst acc) → Rel n acc (wo D H') → Qd H') :
    ∃ W : Nat → Nat → Hp → Prop, (∃ m, W 0 m (upd H1 D (.lst []))) ∧ ∀ i m H, W i m H →
      (J.stop i H ∧ Qd H) ∨ (J.go i H ∧ ∃ Nx : Hp → Prop, (∀ H', Nx H' → ∃ m', m' < m ∧ W (i + 1) m' H') ∧ ∀ x H', J.yld i H x H' → g x (wipe σ vs) H' fun σ2 H2 => wipe σ2 vs = wipe σ vs ∧ tt σ2 H2 fun b H3 =>
        if b = true then te σ2 H3 fun y H4 => ∃ acc, H4 D = some (.lst acc) ∧ acc.length < sizeLine ∧ Nx (upd H4 D (.lst (acc ++ [y]))) else Nx H3) := by
  refine lc_it w (RInv Rel H1 D) ⟨same_new hD, [], upd_same, Nat.le_refl _, ?_⟩ (fun i H hi p => hG H p.1) (fun i x H H' hi ⟨s1, acc, ha, hl, hr⟩ y => ?_) (fun H ⟨s1, acc, ha, _, hr⟩ => hd acc H s1 ha hr)
  · rw [wo_upd]
    exact hm _ _ _ _ (same_wo hD (Same.refl _)) h0
  · refine hs i x acc H H' hi s1 ha hr y _ _ (fun y H4 s2 r => ?_) (fun H3 s2 r => ?_)
    · refine ⟨acc, s2 _ _ ha, by omega, ?_, acc ++ [y], upd_same, ?_, ?_⟩
      · intro b o q
        rw [upd_ne (ne_of_none q hD)]
        exact s2 _ _ (s1 _ _ q)
      · rw [List.length_append]; simp only [List.length_cons, List.length_nil]; omega
      · rw [wo_upd]; exact r
    · exact ⟨s1.trans s2, acc, s2 _ _ ha, by omega, r⟩
end
end Fp

namespace Fp
open PySem PySem.Spec PyProof.Rows L2 PySem.W
theorem dle {u d : Nat} (hu : u + 64 < cLine) (h : d ≤ 60) : u + d < cLine := by omega
theorem dle1 {u d : Nat} (hu : u + 64 < cLine) (h : d ≤ 60) : u + 1 + d < cLine := by omega
theorem dle2 {u d : Nat} (hu : u + 64 < cLine) (h : d ≤ 60) : u + 2 + d < cLine := by omega
theorem iteT2 {b : Bool} {A B : Prop} (h : b = true) (a : A) : if b = true then A else B := by subst h; exact iteT a
theorem iteF2 {b : Bool} {A B : Prop} (h : b = false) (a : B) : if b = true then A else B := by subst h; exact iteF a
section
variable {X : Cx}
/-! ### subscripts and slices of a list or a tuple -/
def rIxQ (K : PySem.W.Frag) : R2 := fun x y H Q => rIxL K x y H Q ∨ rIxT K x y H Q
theorem ix_sq : IxR X (rIxQ X.K) := ix_list.or ix_tup
theorem ixq {K : PySem.W.Frag} {H : Hp} {a : Addr} {xs : List V} {i : Int} {v : V} {Q : VK} (h : Sq K H a xs) (e : atI xs i = some v) (q : Q v H) : rIxQ K (.ref a) (.int i) H Q :=
  h.elim (fun s => .inl ⟨a, xs, i, v, rfl, rfl, s, e, q⟩) (fun s => .inr ⟨a, xs, i, v, rfl, rfl, s, e, q⟩)
theorem sl_or {r r' : V → Option Int → Option Int → Hp → VK → Prop} (h : SlR X r) (h' : SlR X r') : SlR X (fun x lo hi H Q => r x lo hi H Q ∨ r' x lo hi H Q) := by
  intro pins s σ H x v vl vu lo hi sl Q I rx hs pl pu q
  rcases q with q | q
  · exact h pins s σ H x v vl vu lo hi sl Q I rx hs pl pu q
  · exact h' pins s σ H x v vl vu lo hi sl Q I rx hs pl pu q
def rSlS (K : PySem.W.Frag) : V → Option Int → Option Int → Hp → VK → Prop := fun x lo hi H Q => rSlL K x lo hi H Q ∨ rSlA K x lo hi H Q
theorem sl_sq : SlR X (rSlS X.K) := sl_or sl_list sl_tupA
/-- a slice of a list or a tuple: something that is read as its part -/
theorem slq {K : PySem.W.Frag} {H : Hp} {a : Addr} {xs : List V} {lo hi : Option Int} {Q : VK} (h : Sq K H a xs) (q : ∀ p H', Same H H' → Sq K H' p (cutV xs lo hi) → Q (.ref p) H') : rSlS K (.ref a) lo hi H Q := by
  rcases h with h | h
  · exact .inl ⟨a, xs, rfl, h, fun p hp => q p _ (same_new hp) (sq_lst upd_same)⟩
  · refine .inr ⟨a, xs, rfl, h, fun z => q a H (Same.refl H) (.inr ?_), fun _ p hp => q p _ (same_new hp) (sq_tup upd_same)⟩
    have e : cutV xs lo hi = xs := by
      unfold cutV
      rw [z.1, z.2]; simp
    rw [e]; exact h
theorem cut_from {xs : List V} (n : Nat) : cutV xs (some (n : Int)) none = xs.drop n := by
  have e : HT.sIx xs.length 0 (some (n : Int)) = min n xs.length := by
    show (if (n : Int) < 0 then ((n : Int) + (xs.length : Int)).toNat else min (n : Int).toNat xs.length) = min n xs.length
    rw [if_neg (by omega), Int.toNat_natCast]
  unfold cutV
  rw [e, HT.sIx_none, List.take_of_length_le (by rw [List.length_drop]; omega)]
  rcases Nat.le_total n xs.length with h | h
  · rw [Nat.min_eq_left h]
  · rw [Nat.min_eq_right h, List.drop_of_length_le (Nat.le_refl _), List.drop_of_length_le h]
theorem cut_to {xs : List V} (n : Nat) : cutV xs none (some (n : Int)) = xs.take n := by
  have e : HT.sIx xs.length xs.length (some (n : Int)) = min n xs.length := by
    show (if (n : Int) < 0 then ((n : Int) + (xs.length : Int)).toNat else min (n : Int).toNat xs.length) = min n xs.length
    rw [if_neg (by omega), Int.toNat_natCast]
  have e0 : HT.sIx xs.length 0 none = 0 := rfl
  unfold cutV
  rw [e, e0, List.drop_zero, Nat.sub_zero]
  rcases Nat.le_total n xs.length with h | h
  · rw [Nat.min_eq_left h]
  · rw [Nat.min_eq_right h, List.take_of_length_le (Nat.le_refl _), List.take_of_length_le h]
/-! ### xs[i] op= e -/
theorem pget_list : PGet X (fun o i H Q => ∃ p xs k v, o = .ref p ∧ i = .int k ∧ SqL X.K H p xs ∧ 0 ≤ k ∧ xs[k.toNat]? = some v ∧ Q v H) := by
  intro pins s σ H o i ov iv Q I ro ri h
  obtain ⟨p, xs, k, v, rfl, rfl, hq, h0, he, q⟩ := h
  cases ro
  obtain ⟨t, rfl⟩ := ri
  obtain ⟨its, r, pl, hz⟩ := I.list hq
  obtain ⟨w, ew, rw'⟩ := r.get he
  have hl := r.length
  have hn := line63
  have hk := (List.getElem?_eq_some_iff.mp he).1
  exact wpAny_getItem_list (x := w) pl.isList h0 (by omega) (by simpa using ew) ⟨v, H, I, rw', q⟩
end
/-! ### truth of lists of bools, tables -/
theorem hs_bls {K : PySem.W.Frag} {H : Hp} : ∀ bs : List Bool, Hs K H (bs.map V.bl) bs
  | [] => .nil
  | b :: r => .cons (.bl b) (hs_bls r)
theorem bls_hs {K : PySem.W.Frag} {H : Hp} : ∀ {vs : List V} {bs : List Bool}, Hs K H vs bs → vs = bs.map V.bl
  | [], [], _ => rfl
  | [], _ :: _, h => by cases h
  | _ :: _, [], h => by cases h
  | v :: vs, b :: bs, h => by
    cases h with
    | cons a r =>
      have e : v = .bl b := by
        have a' : Dp K H v (.bool b) := a
        cases a'; rfl
      rw [e, bls_hs r]; rfl
theorem bls_hd {K : PySem.W.Frag} {H : Hp} {v : V} {bs : List Bool} (h : Hd K H v bs) : ∃ a, v = .ref a ∧ SqL K H a (bs.map V.bl) := by
  obtain ⟨a, vs, e, hs, r⟩ := lst_hd h
  rw [bls_hs r] at hs
  exact ⟨a, e, hs⟩
/-! ### comprehensions with two fors -/
section
variable {J : It} {n : Nat} {G : Hp → Prop} {Y : Nat → Hp → V → Hp → Prop} {g : TG} {tt : TT} {te : TE} {vs : List Nat} {σ : L2.St} {H1 : Hp} {D : Addr} {Qd : Hp → Prop}
/-- the inner loop's own reading -/
def In2 (D : Addr) (σ2 : L2.St) (vs1 : List Nat) (g1 : TG) (tt1 : TT) (te : TE) (Nx : Hp → Prop) (J1 : It) (H4 : Hp) : Prop := ∃ W1 : Nat → Nat → Hp → Prop, (∃ m, W1 0 m H4) ∧ ∀ j k H, W1 j k H →
  (J1.stop j H ∧ Nx H) ∨ (J1.go j H ∧ ∃ Nx1 : Hp → Prop, (∀ H', Nx1 H' → ∃ k', k' < k ∧ W1 (j + 1) k' H') ∧ ∀ x H', J1.yld j H x H' → g1 x (wipe σ2 vs1) H' fun σ3 H5 => wipe σ3 vs1 = wipe σ2 vs1 ∧ tt1 σ3 H5 fun b H6 =>
    if b = true then te σ3 H6 fun y H7 => ∃ acc, H7 D = some (.lst acc) ∧ acc.length < sizeLine ∧ Nx1 (upd H7 D (.lst (acc ++ [y]))) else Nx1 H6)
theorem lc2_in {σ2 : L2.St} {vs1 : List Nat} {g1 : TG} {tt1 : TT} {Nx : Hp → Prop} {H4 : Hp} {acc0 : List V} (w : Walk J n G Y) (Rel : Nat → List V → Hp → Prop) (hD : H4 D = some (.lst acc0)) (h0 : Rel 0 acc0 (wo D H4)) (hz : ∀ i acc H, i ≤ n → Rel i acc H → acc.length < sizeLine) (hG : ∀ H', Same (wo D H4) (wo D H') → G H')
    (hs : ∀ i x acc Ha Hb, i < n → Same (wo D H4) (wo D Ha) → Ha D = some (.lst acc) → Rel i acc (wo D Ha) → Y i Ha x Hb → ∀ (Yc : V → Hp → Prop) (Nc : Hp → Prop), (∀ y Hc, Same Ha Hc → Rel (i + 1) (acc ++ [y]) (wo D Hc) → Yc y Hc) → (∀ Hc, Same Ha Hc → Rel (i + 1) acc (wo D Hc) → Nc Hc) →
      g1 x (wipe σ2 vs1) Hb fun σ3 H5 => wipe σ3 vs1 = wipe σ2 vs1 ∧ tt1 σ3 H5 fun b H6 => if b = true then te σ3 H6 Yc else Nc H6)
    (hd : ∀ acc H', Same (wo D H4) (wo D H') → H' D = some (.lst acc) → Rel n acc (wo D H') → Nx H') : In2 D σ2 vs1 g1 tt1 te Nx J H4 := by
  refine ⟨fun i m H => m = n - i ∧ i ≤ n ∧ Same (wo D H4) (wo D H) ∧ ∃ acc, H D = some (.lst acc) ∧ Rel i acc (wo D H), ⟨n, by simp, Nat.zero_le _, Same.refl _, acc0, hD, h0⟩, ?_⟩
  rintro i m H ⟨rfl, hi, s1, acc, ha, hr⟩
  have q := hG H s1
  by_cases hlt : i < n
  · refine .inr ⟨w.goes i H hlt q, fun H' => i + 1 ≤ n ∧ Same (wo D H4) (wo D H') ∧ ∃ acc, H' D = some (.lst acc) ∧ Rel (i + 1) acc (wo D H'), fun H' p' => ⟨n - (i + 1), by omega, rfl, p'.1, p'.2⟩, fun x H' y => ?_⟩
    refine hs i x acc H H' hlt s1 ha hr (w.yields i H x H' hlt q y) _ _ (fun y Hc s2 r => ?_) (fun Hc s2 r => ?_)
    · refine ⟨acc, s2 _ _ ha, hz i acc _ hi hr, hlt, ?_, acc ++ [y], upd_same, ?_⟩
      · rw [wo_upd]; exact s1.trans (wo_same s2)
      · rw [wo_upd]; exact r
    · exact ⟨hlt, s1.trans (wo_same s2), acc, s2 _ _ ha, r⟩
  · have e : i = n := by omega
    subst e
    exact .inl ⟨w.stops H q, hd acc H s1 ha hr⟩
theorem lc2_rel {wi1 : TI} {vs1 : List Nat} {g1 : TG} {tt1 : TT} (w : Walk J n G Y) (Rel : Nat → List V → Hp → Prop) (hD : H1 D = none) (hG : ∀ H', Same H1 H' → G H') (h0 : Rel 0 [] H1) (hm : ∀ i acc A B, Same A B → Rel i acc A → Rel i acc B)
    (hs : ∀ i x acc Ha Hb, i < n → Same H1 Ha → Ha D = some (.lst acc) → Rel i acc (wo D Ha) → Y i Ha x Hb → ∀ Nx : Hp → Prop, (∀ acc' H', Same H1 H' → H' D = some (.lst acc') → Rel (i + 1) acc' (wo D H') → Nx H') →
      g x (wipe σ vs) Hb fun σ2 H2 => wipe σ2 vs = wipe σ vs ∧ tt σ2 H2 fun b H3 => if b = true then wi1 σ2 H3 (In2 D σ2 vs1 g1 tt1 te Nx) else Nx H3)
    (hd : ∀ acc H', Same H1 H' → H' D = some (.lst acc) → Rel n acc (wo D H') → Qd H') :
    ∃ W : Nat → Nat → Hp → Prop, (∃ m, W 0 m (upd H1 D (.lst []))) ∧ ∀ i m H, W i m H →
      (J.stop i H ∧ Qd H) ∨ (J.go i H ∧ ∃ Nx : Hp → Prop, (∀ H', Nx H' → ∃ m', m' < m ∧ W (i + 1) m' H') ∧ ∀ x H', J.yld i H x H' → g x (wipe σ vs) H' fun σ2 H2 => wipe σ2 vs = wipe σ vs ∧ tt σ2 H2 fun b H3 =>
        if b = true then wi1 σ2 H3 (In2 D σ2 vs1 g1 tt1 te Nx) else Nx H3) := by
  refine ⟨fun i m H => m = n - i ∧ i ≤ n ∧ Same H1 H ∧ ∃ acc, H D = some (.lst acc) ∧ Rel i acc (wo D H), ⟨n, by simp, Nat.zero_le _, same_new hD, [], upd_same, ?_⟩, ?_⟩
  · rw [wo_upd]
    exact hm _ _ _ _ (same_wo hD (Same.refl _)) h0
  rintro i m H ⟨rfl, hi, s1, acc, ha, hr⟩
  have q := hG H s1
  by_cases hlt : i < n
  · refine .inr ⟨w.goes i H hlt q, fun H' => i + 1 ≤ n ∧ Same H1 H' ∧ ∃ acc, H' D = some (.lst acc) ∧ Rel (i + 1) acc (wo D H'), fun H' p' => ⟨n - (i + 1), by omega, rfl, p'.1, p'.2⟩, fun x H' y => ?_⟩
    exact hs i x acc H H' hlt s1 ha hr (w.yields i H x H' hlt q y) _ fun acc' H' a b c => ⟨hlt, a, acc', b, c⟩
  · have e : i = n := by omega
    subst e
    exact .inl ⟨w.stops H q, hd acc H s1 ha hr⟩
end
/-! ### repr(..) of a truth value -/
theorem cr_reprB {X : Cx} : CallR X (.builtin "repr") (fun xs H Q => ∃ b : Bool, xs = [.bl b] ∧ Q (.str (if b then "True" else "False")) H) := by
  intro pins s σ H xs us Q I r h
  obtain ⟨b, rfl, q⟩ := h
  obtain ⟨u, rfl, ru⟩ := vals1 r
  cases ru
  exact PySem.P.repr_of_bool ⟨.str _, H, I.tok _, ⟨_, rfl⟩, q⟩
theorem cut_neg {xs : List V} (n : Nat) (h : 0 < n) : cutV xs (some (-(n : Int))) none = xs.drop (xs.length - n) := by
  have e : HT.sIx xs.length 0 (some (-(n : Int))) = xs.length - n := by
    show (if (-(n : Int)) < 0 then ((-(n : Int)) + (xs.length : Int)).toNat else min (-(n : Int)).toNat xs.length) = xs.length - n
    rw [if_pos (by omega)]; omega
  unfold cutV
  rw [e, HT.sIx_none, List.take_of_length_le (by rw [List.length_drop]; omega)]
/-! ### lists of new lists of ints -/
structure A2 {β : Type} (R : V → β → Prop) (vs : List V) (bs : List β) : Prop where
  len : vs.length = bs.length
  at_ : ∀ (i : Nat) (v : V), vs[i]? = some v → ∃ b, bs[i]? = some b ∧ R v b
section
variable {β : Type} {R S : V → β → Prop}
theorem A2.nil : A2 R [] [] := ⟨rfl, fun i v h => by cases h⟩
theorem A2.snoc {vs : List V} {bs : List β} {v : V} {b : β} (h : A2 R vs bs) (r : R v b) : A2 R (vs ++ [v]) (bs ++ [b]) := by
  refine ⟨by rw [List.length_append, List.length_append, h.len]; rfl, fun i u hu => ?_⟩
  by_cases e : i < vs.length
  · rw [List.getElem?_append_left e] at hu
    obtain ⟨b', e1, e2⟩ := h.at_ i u hu
    exact ⟨b', by rw [List.getElem?_append_left (by rw [← h.len]; exact e)]; exact e1, e2⟩
  · rw [List.getElem?_append_right (by omega)] at hu
    have z : i - vs.length = 0 := by
      have := (List.getElem?_eq_some_iff.mp hu).1
      simp only [List.length_cons, List.length_nil] at this
      omega
    rw [z] at hu
    obtain rfl := Option.some.inj hu
    exact ⟨b, by rw [List.getElem?_append_right (by rw [← h.len]; omega), ← h.len, z]; rfl, r⟩
theorem A2.mono {vs : List V} {bs : List β} (h : A2 R vs bs) (k : ∀ v b, R v b → S v b) : A2 S vs bs := ⟨h.len, fun i v e => let ⟨b, e1, e2⟩ := h.at_ i v e; ⟨b, e1, k v b e2⟩⟩
theorem A2.tail {v : V} {vs : List V} {b : β} {bs : List β} (h : A2 R (v :: vs) (b :: bs)) : R v b ∧ A2 R vs bs := by
  refine ⟨?_, by simpa using h.len, fun i u e => h.at_ (i + 1) u e⟩
  obtain ⟨b', e1, e2⟩ := h.at_ 0 v rfl
  obtain rfl : b = b' := Option.some.inj e1
  exact e2
theorem A2.cons {v : V} {vs : List V} {b : β} {bs : List β} (r : R v b) (h : A2 R vs bs) : A2 R (v :: vs) (b :: bs) := by
  refine ⟨by rw [List.length_cons, List.length_cons, h.len], fun i u e => ?_⟩
  cases i with
  | zero => obtain rfl := Option.some.inj e; exact ⟨b, rfl, r⟩
  | succ i => exact h.at_ i u e
theorem A2.app {vs ws : List V} {bs cs : List β} (h : A2 R vs bs) (g : A2 R ws cs) : A2 R (vs ++ ws) (bs ++ cs) := by
  induction vs generalizing bs with
  | nil =>
    cases bs with
    | nil => exact g
    | cons _ _ => have := h.len; cases this
  | cons v vs ih =>
    cases bs with
    | nil => have := h.len; cases this
    | cons b bs => exact .cons h.tail.1 (ih h.tail.2)
theorem A2.get {vs : List V} {bs : List β} (h : A2 R vs bs) {i : Nat} {b : β} (e : bs[i]? = some b) : ∃ v, vs[i]? = some v ∧ R v b := by
  have l := (List.getElem?_eq_some_iff.mp e).1
  have hv : vs[i]? = some (vs[i]'(by rw [h.len]; exact l)) := List.getElem?_eq_getElem _
  obtain ⟨b', e1, e2⟩ := h.at_ i _ hv
  rw [e] at e1
  obtain rfl := Option.some.inj e1
  exact ⟨_, hv, e2⟩
end
theorem a2_hs {K : PySem.W.Frag} {H : Hp} {α : Type} [DecidableEq α] [Datum α] {R : V → α → Prop} (k : ∀ v b, R v b → Hd K H v b) : ∀ {vs : List V} {bs : List α}, A2 R vs bs → Hs K H vs bs
  | [], [], _ => .nil
  | [], _ :: _, h => by have := h.len; cases this
  | _ :: _, [], h => by have := h.len; cases this
  | _ :: _, _ :: _, h => .cons (k _ _ h.tail.1) (a2_hs k h.tail.2)
/-- a list of ints that is new since H0 -/
def Rw (H0 H : Hp) (v : V) (l : List Int) : Prop := ∃ b, v = .ref b ∧ H0 b = none ∧ H b = some (.lst (l.map V.int))
theorem Rw.same {H0 H H' : Hp} {v : V} {l : List Int} (e : Same H H') (h : Rw H0 H v l) : Rw H0 H' v l := let ⟨b, a, c, d⟩ := h; ⟨b, a, c, e _ _ d⟩
theorem Rw.old {H0 G0 H : Hp} {v : V} {l : List Int} (e : Same G0 H0) (h : Rw H0 H v l) : Rw G0 H v l := let ⟨b, a, c, d⟩ := h; ⟨b, a, e.free c, d⟩
theorem Rw.hd {K : PySem.W.Frag} {H0 H : Hp} {v : V} {l : List Int} (h : Rw H0 H v l) : Hd K H v l := by
  obtain ⟨b, rfl, _, d⟩ := h
  exact hd_ints (SqL.of d)
theorem rws_hs {K : PySem.W.Frag} {H0 H : Hp} {vs : List V} {L : List (List Int)} (h : A2 (Rw H0 H) vs L) : Hs K H vs L := a2_hs (fun _ _ r => r.hd) h
end Fp

namespace Fp
open PySem PySem.Spec PyProof.Rows L2 PySem.W
/-! ### enumerate of a list or a tuple -/
abbrev eObj (it : Addr) : Obj := { cls := .type "enumerate", data := .fields #[.none, .bool false, .ref it, rawInt 0, .none, .none] }
theorem meets_enum1 {v : Value} {o : Obj} {G : Heap → Prop} (B : Begins v o G) :
    Meets (Builtin.«enumerate.__new__» ⟨[.type "enumerate", v], []⟩) (fun _ R s => G s.heap ∧ R (.ok (.ret (.ref (s.heap.push o).objs.size))) { s with heap := (s.heap.push o).push (eObj s.heap.objs.size) }) :=
  .of_wp fun prog w A R s0 hyp => by
    obtain ⟨hp0, gens0, drawn0, tok0, os0⟩ := s0
    obtain ⟨ground, fin⟩ := hyp
    have subE := sub_enumerate
    have first : ∀ {A' : Around} {E : Value → Shared → Prop} {Q : Value → Shared → Prop}, Q (.ref hp0.objs.size) ⟨hp0.push o, gens0, drawn0, tok0, os0⟩ → wpAny (model prog w) A' (pyIter v) Q E ⟨hp0, gens0, drawn0, tok0, os0⟩ :=
      fun z => B.iter prog w _ _ ⟨hp0, gens0, drawn0, tok0, os0⟩ _ ground z
    wp_walk using first
    refine wpAny_stack_any fun frames => wpAny_pure ?_
    split
    · rename_i cl _ _ _ _ _
      cases (cl == Value.type "enumerate") <;>
      · wp_walk using first
        exact ⟨_, rfl, fin⟩
    · wp_walk using first
      exact ⟨_, rfl, fin⟩
section
variable {prog : Program} {w : World} {A : Around} {E : Value → Shared → Prop} {s : Shared}
theorem enum_made {κ : Bool} {l : Addr} {xs : Array Value} {Q : Value → Shared → Prop} (h1 : SqAtK κ s.heap l xs)
    (h : ∀ h', IsEnum h' (s.heap.objs.size + 1) s.heap.objs.size 0 .none → ItAtK κ h' s.heap.objs.size l 0 → (∀ b o, s.heap.get? b = some o → h'.get? b = some o) → Q (.ref (s.heap.objs.size + 1)) { s with heap := h' }) :
    wpAny (model prog w) A (call (.type "enumerate") [.ref l]) Q E s := by
  have key : ∀ {o : Obj} {G : Heap → Prop}, Begins (.ref l) o G → G s.heap → (∀ h' : Heap, h'.get? s.heap.objs.size = some o → ItAtK κ h' s.heap.objs.size l 0) → wpAny (model prog w) A (call (.type "enumerate") [.ref l]) Q E s := by
    intro o G B hG hit
    refine callType_new F.called_enumerate (by decide) (F.typeCall_enumerate_1 _) (F.newCall_enumerate_1 _) (fun obj => F.args_object_init_2 obj _) F.entry_enumerate_new (meets_enum1 B) ⟨hG, ?_⟩
    have sz : (s.heap.push o).objs.size = s.heap.objs.size + 1 := Heap.size_push ..
    have at1 : ((s.heap.push o).push (eObj s.heap.objs.size)).get? (s.heap.objs.size + 1) = some (eObj s.heap.objs.size) := by
      have z := Heap.get?_push_size (s.heap.push o) (o := eObj s.heap.objs.size) rfl
      rw [sz] at z
      exact z
    show _ ∧ _
    rw [sz]
    exact ⟨⟨_, at1, rfl⟩, h _ at1 (hit _ (Heap.get?_push_of_some _ (Heap.get?_push_size _ B.free))) fun b o x => Heap.get?_push_of_some _ (Heap.get?_push_of_some _ x)⟩
  cases κ with
  | false => exact key (begins_list l xs) h1 fun h' e => ⟨_, e, rfl, rfl⟩
  | true => exact key (begins_tuple l xs) h1 fun h' e => ⟨_, e, rfl, rfl⟩
end
def ItN (K : PySem.W.Frag) (κ : Bool) (a : Addr) (xs : List V) : It :=
  ⟨fun i H => SqK κ K H a xs ∧ i < xs.length, fun i H v H' => ∃ T x, v = .ref T ∧ H T = none ∧ H' = upd H T (.tup [.int (i : Nat), x]) ∧ xs[i]? = some x, fun i H => SqK κ K H a xs ∧ i = xs.length⟩
def TnN (κ : Bool) (e it a : Addr) (i : Nat) (h : Heap) : Prop := (∃ old, IsEnum h e it ((i : Nat) : Int) old) ∧ ItAtK κ h it a i ∧ e ≠ it ∧ e ≠ a ∧ a ≠ it
theorem enum_turns {P : Program} {w : World} {K : PySem.W.Frag} {elts : List Expr} {kk : Nat} {tpos : Pos} {κ : Bool} {a e it : Addr} {xs : List V} :
    Turn P w K (.Tuple elts kk tpos) (ItN K κ a xs) [e, it] e (TnN κ e it a) := by
  refine ⟨by simp, ?_, ?_, ?_, ?_, ?_⟩
  · rintro i h ⟨⟨old, he⟩, hi, _⟩ b hb
    have e' : b = e ∨ b = it := by simpa using hb
    rcases e' with z | z <;> subst z
    · exact ⟨_, he, fun v q => nomatch q⟩
    · exact hi.obj
  · rintro i h h' ⟨⟨old, he⟩, hi, n1, n2, n3⟩ k
    exact ⟨⟨old, k e (by simp) _ he⟩, hi.at fun o q => k it (by simp) o q, n1, n2, n3⟩
  · intro X hP hw hK hc i pins s σ H E I hf st hg
    subst hP hw hK
    obtain ⟨⟨old, he⟩, hit, n1, n2, n3⟩ := st
    obtain ⟨qx, lx⟩ := hg
    obtain ⟨its, rv, p, _⟩ := Inv.seqK I qx
    have hA : X.A.in1.handled = none := by
      have q := I.ok.hd hc
      simpa using q
    have el : e < s.heap.objs.size := Heap.lt_size he
    have il : it < s.heap.objs.size := by obtain ⟨_, q, _⟩ := hit.obj; exact Heap.lt_size q
    have len := rv.length
    refine wpAny_pyNext_enum_itemC (draws_k κ hA it a n3 its.toArray) he ⟨hit, p⟩ (by simp; omega) n1 (by simp only [List.mem_cons, List.not_mem_nil, or_false, not_or]; exact ⟨n1, n2⟩) ?_
    intro u h' tk hu ho st' hT hsz hk
    obtain ⟨x, hx, ru⟩ : ∃ x, xs[i]? = some x ∧ RelV x u := by
      obtain ⟨u', e1, e2⟩ := rv.get (List.getElem?_eq_getElem lx)
      have e3 : its[i]? = some u := by simpa using hu
      rw [e1] at e3
      obtain rfl := Option.some.inj e3
      exact ⟨_, List.getElem?_eq_getElem lx, e2⟩
    refine ⟨_, rfl, wpAny_letOwnedTupleGo_enum (s := { s with heap := h', toks := tk + 1 }) ho fun h'' he' sb => ?_⟩
    have T2 : h''.get? s.heap.objs.size = some { cls := .type "tuple", data := .seq #[.int i tk, u] } := (sb.2 _ (Nat.ne_of_gt el)).trans hT
    have I1 : L2.Inv X pins σ (upd H s.heap.objs.size (.tup [.int (i : Nat), x])) { s with heap := h'', toks := tk + 1 } :=
      I.turnedNew (ch := [e, it]) (fun b ob hb q => (sb.2 b (fun z => hb (by simp [z]))).trans (hk b ob (fun z => hb (by simp [z])) (fun z => hb (by simp [z])) q)) hf (Nat.le_refl _)
        ⟨by show 2 ≤ sizeLine; decide, [.int i tk, u], .cons ⟨_, rfl⟩ (.cons ru .nil), ⟨_, T2, rfl, _, rfl⟩⟩
    refine ⟨.ref s.heap.objs.size, _, I1, rfl, ⟨_, x, rfl, I.hok.fresh (Nat.le_refl _), rfl, hx⟩, ⟨⟨u, ?_⟩, st'.1.at fun o q => (sb.2 it (Ne.symm n1)).trans q, n1, n2, n3⟩, fun b hb => ?_⟩
    · have e1 : ((i + 1 : Nat) : Int) = (i : Int) + 1 := by omega
      rw [e1]; exact he'
    · have lt : b < s.heap.objs.size := by
        have e' : b = e ∨ b = it := by simpa using hb
        rcases e' with z | z <;> subst z
        · exact el
        · exact il
      rw [upd_ne (Nat.ne_of_lt lt)]
      exact (hf b hb).1
  · intro X hP hw hK hc i pins s σ H E I hf st hg
    subst hP hw hK
    obtain ⟨⟨old, he⟩, hit, n1, n2, n3⟩ := st
    obtain ⟨qx, lx⟩ := hg
    obtain ⟨its, rv, p, _⟩ := Inv.seqK I qx
    have hA : X.A.in1.handled = none := by
      have q := I.ok.hd hc
      simpa using q
    have len := rv.length
    obtain ⟨f0, f1, f2, f3, f4, f5⟩ := hf it (by simp)
    have le : its.toArray.size = i := by simp; omega
    refine wpAny_pyNext_enum_endD (draws_k κ hA it a n3 its.toArray) he (by rw [le]; exact ⟨hit, p⟩) fun h' eb => ⟨rfl, I.turned (t' := s.toks) (fun b o hb q => eb b o hb q) f0 f1 f3 f4 f5⟩
  · rintro A i s Q E ⟨⟨old, he⟩, _⟩ h
    exact wpAny_pyIter_enum he h
def iEnumS (K : PySem.W.Frag) (ta : TA) : TI := fun σ H R => ta σ H fun vs H1 => ∃ a xs κ, vs = [.ref a] ∧ SqK κ K H1 a xs ∧ R (ItN K κ a xs) H1
theorem pi_enumS {X : Cx} {e : Expr} {ta : TA} {p pos tpos : Pos} {elts : List Expr} {kk : Nat} (hg : Gl X "enumerate") (hm : X.mg "enumerate" = none) (ha : PA X [e] ta) (hs : starEach [e] X.env = [(false, eval e X.env)] := by rfl) :
    PI X (.Tuple elts kk tpos) (.Call (.Name "enumerate" p) [e] [] pos) (iEnumS X.K ta) := by
  refine ⟨fun pins s σ H R I h => Call_ (ld_blt I hg hm boot_enumerate (PyProof.Rows.callWith_type1 (thn (ha.run pos pins s σ H _ I h) ?_) hs rfl))⟩
  rintro us s1 ⟨vs, H1, I1, r1, a, xs, κ, rfl, kx, q⟩
  obtain ⟨u1, rfl, ra⟩ := vals1 r1
  cases ra
  obtain ⟨its, rv, p1, la⟩ := Inv.seqK I1 kx
  refine enum_made p1 fun h' he hit hk => wpAny_pyIter_enum he ?_
  refine ⟨s1.heap.objs.size + 1, _, _, _, H1, rfl, I1.kept (t' := s1.toks) hk, enum_turns, ⟨⟨.none, he⟩, hit, Nat.succ_ne_self _, Nat.ne_of_gt (Nat.lt_succ_of_lt la), Nat.ne_of_lt la⟩, fun b hb => ?_, q⟩
  have le : s1.heap.objs.size ≤ b := by
    have e' : b = s1.heap.objs.size + 1 ∨ b = s1.heap.objs.size := by simpa using hb
    rcases e' with z | z <;> rw [z]
    · exact Nat.le_succ _
    · exact Nat.le_refl _
  exact I1.fpOk le (I1.hok.fresh le)
theorem walk_enumS {K : PySem.W.Frag} {κ : Bool} {a : Addr} {xs : List V} {n : Nat} (hn : n = xs.length) : Walk (ItN K κ a xs) n (fun H => SqK κ K H a xs) (YPair (fun i => some (.int (i : Nat))) (fun i => xs[i]?)) := by
  subst hn
  refine ⟨fun i _ hi q => ⟨q, hi⟩, fun _ q => ⟨q, rfl⟩, fun i H v H' _ q y => ?_⟩
  obtain ⟨T, x, h1, h2, h3, h4⟩ := y
  exact ⟨T, .int (i : Nat), x, h1, h2, h3, rfl, h4⟩
end Fp

namespace PyProof.Rows
open PySem PySem.Spec PySem.W
theorem collect_tupI {prog : Program} {w : World} {A : Around} {E : Value → Shared → Prop} {s : Shared} {l : Addr} {vs : List Value} {Q : List Value → Shared → Prop} (hl : s.heap.IsTuple l vs.toArray)
    (h : Q vs { s with heap := (s.heap.push (seqObj "list" #[] 0)).update s.heap.objs.size (Obj.mapSeq (· ++ vs.toArray)) }) (hsz : vs.length ≤ sizeLine) :
    wpAny (model prog w) A (collect (.ref l)) Q E s := by
  obtain ⟨o, ho, hc, n, hd⟩ := id hl
  unfold collect
  refine wpAny_bind (wpAny_runValue (codeAny_builtin entry_proto_collect' ?_))
  show wpAny _ _ (do again (.builtin "list.__iadd__" ⟨[← newList [], .ref l], []⟩)) _ _ s
  refine wpAny_bind (wpAny_newList (wpAny_pure ⟨Code.quiet_builtin _ (by decide +kernel), codeAny_builtin entry_list_iadd' ?_⟩))
  show wpAny _ _ (Builtin.List.listExtendWith (.ref s.heap.objs.size) (.ref l) (.ref s.heap.objs.size)) _ _ { s with heap := s.heap.push (seqObj "list" #[] 0) }
  unfold Builtin.List.listExtendWith
  have ho' : (s.heap.push (seqObj "list" #[] 0)).get? l = some o := Heap.get?_push_of_some _ ho
  refine wpAny_bind (wpAny_typeOf (T := "tuple") ⟨o, ho', hc⟩ ?_)
  have ht : (Value.type "tuple" == Value.type "tuple") = true := by rfl
  rw [if_pos (by rw [ht]; simp)]
  refine wpAny_bind (listItems_at ho' hd ?_)
  refine wpAny_bind (listItems_at (xs := #[]) (n := 0) (Heap.get?_push_size _ rfl) rfl ?_)
  rw [if_neg (by simp)]
  refine wpAny_bind (listUpdate_at (xs := #[]) (n := 0) (Heap.get?_push_size _ rfl) rfl ?_ (Nat.zero_le _) (by show (#[] ++ vs.toArray).size ≤ sizeLine + 1; simp only [Array.size_append, List.size_toArray, List.length_nil]; omega))
  refine wpAny_pure ?_
  show wpAny (model prog w) A (do
      let o ← load s.heap.objs.size
      match o.data with
      | .seq xs _ => pure xs.toList
      | _ => unsupported "internal:collect") Q E { s with heap := (s.heap.push (seqObj "list" #[] 0)).update s.heap.objs.size (Obj.mapSeq (· ++ vs.toArray)) }
  refine wpAny_bind (wpAny_load (get?_update_seq (Heap.get?_push_size _ rfl) _) ?_)
  show wpAny _ _ (pure ((#[] : Array Value) ++ vs.toArray).toList) Q E _
  refine wpAny_pure ?_
  simpa using h
end PyProof.Rows
namespace SrtO
open PySem PySem.Spec PyProof.Rows PySem.W
theorem sorted_ordT {prog : Program} {w : World} {A : Around} {E : Value → Shared → Prop} {s : Shared} {l : Addr} {vs : List Value} {ltv : Value → Value → Bool} {Q : Value → Shared → Prop} (O : Swo ltv) (hl : s.heap.IsTuple l vs.toArray) (hz : vs.length ≤ sizeLine)
    (hS : 2 ≤ vs.length → ∀ (h₁ : Heap) (a : Addr), h₁.get? a = some (seqObj "list" vs.toArray 0) → (∀ b o, s.heap.get? b = some o → b ≠ a ∧ h₁.get? b = some o) → SortableO prog w A.in1.in1 { s with heap := h₁ } a vs ltv)
    (h : ∀ out : List Value, Srtd ltv out → Stb ltv out vs → Q (.ref (s.heap.objs.size + 1)) { s with heap := sortedAll s.heap vs out.toArray }) :
    wpAny (model prog w) A (call (.builtin "sorted") [.ref l]) Q E s := by
  refine Calls.call_function_entry kind_sorted plain_sorted entry_sorted (args_sorted1 _) ?_
  unfold Builtin.«sorted»
  refine wpAny_bind (m := checkCount "sorted" 1 1 _) (wpAny_pure ?_)
  refine wpAny_bind (collect_tupI hl ?_ hz)
  refine wpAny_bind (wpAny_newList ?_ hz)
  have hsz : ((s.heap.push (seqObj "list" #[] 0)).update s.heap.objs.size (Obj.mapSeq (· ++ vs.toArray))).objs.size = s.heap.objs.size + 1 := by
    rw [Heap.size_update, size_push']
  have hoL : (((s.heap.push (seqObj "list" #[] 0)).update s.heap.objs.size (Obj.mapSeq (· ++ vs.toArray))).push (seqObj "list" vs.toArray 0)).get? (s.heap.objs.size + 1) = some (seqObj "list" vs.toArray 0) := by
    rw [← hsz]; exact Heap.get?_push_size _ rfl
  have keep : ∀ b o, s.heap.get? b = some o → b ≠ s.heap.objs.size + 1 ∧ (((s.heap.push (seqObj "list" #[] 0)).update s.heap.objs.size (Obj.mapSeq (· ++ vs.toArray))).push (seqObj "list" vs.toArray 0)).get? b = some o := fun b o q => by
    have hlt : b < s.heap.objs.size := Heap.lt_size q
    refine ⟨Nat.ne_of_lt (Nat.lt_succ_of_lt hlt), Heap.get?_push_of_some _ ?_⟩
    rw [Heap.get?_update_ne _ _ _ _ (Nat.ne_of_lt hlt)]
    exact Heap.get?_push_of_some _ q
  show wpAny _ _ _ _ _ { s with heap := ((s.heap.push (seqObj "list" #[] 0)).update s.heap.objs.size (Obj.mapSeq (· ++ vs.toArray))).push (seqObj "list" vs.toArray 0) }
  rw [hsz]
  refine wpAny_bind (wpAny_holding (wpAny_call_entry slot_list_sort ⟨_, hoL, rfl⟩ entry_list_sort (list_sort_ord O hoL hz (fun h2 => hS h2 _ _ hoL keep) fun out hs hb => ⟨_, rfl, ?_⟩) (args_list_sort _)))
  exact wpAny_pure ⟨_, rfl, h out hs hb⟩
end SrtO
namespace Fp
open PySem PySem.Spec PyProof.Rows L2 PySem.W
/-- sorted of ints in a list or a tuple -/
def rSortIS (K : PySem.W.Frag) : List V → Hp → VK → Prop := fun vs H Q => ∃ (a : Addr) (ns : List Int), vs = [V.ref a] ∧ Sq K H a (ns.map V.int) ∧
  ∀ (ns' : List Int) (p : Addr), ns'.Perm ns → ns'.Pairwise (· ≤ ·) → H p = none → Q (.ref p) (upd H p (.lst (ns'.map V.int)))
theorem cr_sortIS {X : Cx} : CallR X (.builtin "sorted") (rSortIS X.K) := by
  intro pins s σ H vs us Q I r h
  obtain ⟨a, ns, rfl, hs, q⟩ := h
  rcases hs with hs | hs
  · exact cr_sortedI pins s σ H [.ref a] us Q I r ⟨a, ns, rfl, hs, q⟩
  obtain ⟨its, rv, hl, hz⟩ := I.tuple hs
  rw [Vals.ref1 r]
  have hi := rv.ints
  have hz' : its.length ≤ sizeLine := by
    have := rv.length
    first | omega | exact this ▸ hz | simpa using hz
  refine SrtO.sorted_ordT SrtO.swo_int hl hz' (fun h2 h₁ a' _ _ => SrtO.ints_sortable hi h2) fun out h1 h2 => ?_
  obtain ⟨k1, k2, k3⟩ := SrtO.ints_out hi h1 h2
  obtain ⟨ep, he'⟩ := PyProof.Rows.sortedAll_at s.heap its out.toArray
  have hlen : ((out.map SrtO.iv).map V.int).length ≤ sizeLine := by
    rw [List.length_map, k2.length_eq]
    have := hi.length
    omega
  exact ⟨.ref _, upd H (s.heap.objs.size + 1) (.lst ((out.map SrtO.iv).map V.int)), I.laid (t' := s.toks) (fun _ _ => PyProof.Rows.sortedAll_old) (Nat.le_succ _) ⟨hlen, out, ep, vals_of_ints k1, he'⟩, rfl, q _ _ k2 k3 (I.hok.fresh (Nat.le_succ _))⟩
/-! ### min and max of ints in a list or a tuple -/
theorem min_tupI {prog : Program} {w : World} {A : Around} {E : Value → Shared → Prop} {s : Shared} {l : Addr} {its : List Value} {ns : List Int} {Q : Value → Shared → Prop} (hh : A.handled = none) (hl : s.heap.IsTuple l its.toArray) (hi : IntsAre its ns) (hne : 0 < ns.length)
    (h : ∀ h' tk M t', (∀ b o, s.heap.get? b = some o → h'.get? b = some o) → M ∈ ns → (∀ a, a ∈ ns → M ≤ a) → Q (.int M t') { s with heap := h', toks := tk }) : wpAny (model prog w) A (call (.builtin "min") [.ref l]) Q E s := by
  obtain ⟨xs, e⟩ := hi.allInts.items
  have hn : numsOf (intItems xs).toList = ns := by rw [← e]; exact hi.numsOf
  rw [nums_intItems] at hn
  subst hn
  rw [e] at hl
  have hsz : 0 < xs.size := by simpa using hne
  have hl0 : l < s.heap.objs.size := by obtain ⟨o, ho, _⟩ := hl; exact Heap.lt_size ho
  refine call_min_walk (wpAny_pyIter_tuple hl ?_)
  refine ⟨_, [_, l], [_], _, _, _, _, rfl, Walks.tuple (A := A.in1) hh _ l (Nat.ne_of_lt hl0) (intItems xs), ⟨⟨_, Heap.get?_push_size _ rfl, rfl, rfl⟩, hl.push _⟩, fun c hc => ?_, by simpa [intItems] using hsz, CmpOf.ints_lt (numAt xs) (fun _ _ => intItems_at), fun v h' tk hP hk => ?_⟩
  · show c < (s.heap.push _).objs.size
    rw [Heap.size_push]
    rcases List.mem_cons.mp hc with rfl | hc
    · exact Nat.lt_succ_self _
    · rw [List.mem_singleton.mp hc]; exact Nat.lt_succ_of_lt hl0
  · have kept : ∀ b o, s.heap.get? b = some o → h'.get? b = some o := fun b o eb => hk b o (fun hm => by
      rw [List.mem_singleton.mp hm] at eb
      exact Nat.lt_irrefl _ (Heap.lt_size eb)) (Heap.get?_push_of_some _ eb)
    obtain ⟨t, rfl⟩ := intItems_at (by simpa [intItems] using hP)
    obtain ⟨h1, h2⟩ := argBest_lt (numAt xs) (xs.size - 1)
    refine h h' tk _ t kept ?_ fun a ha => ?_
    · rw [numAt_eq]; exact PySem.getD_mem (by rw [List.length_map, Array.length_toList]; omega)
    · obtain ⟨j, hj, rfl⟩ := mem_getD ha
      rw [List.length_map, Array.length_toList] at hj
      rw [← numAt_eq]; exact h2 j (by omega)
def rMinS (K : PySem.W.Frag) : List V → Hp → VK → Prop := fun vs H Q => ∃ (a : Addr) (ns : List Int), vs = [V.ref a] ∧ Sq K H a (ns.map V.int) ∧ 0 < ns.length ∧ ∀ m, m ∈ ns → (∀ y, y ∈ ns → m ≤ y) → Q (.int m) H
theorem cr_minS {X : Cx} (hc : X.calm = true) : CallR X (.builtin "min") (rMinS X.K) := by
  intro pins s σ H vs us Q I r h
  obtain ⟨a, ns, rfl, hs, hne, q⟩ := h
  rcases hs with hs | hs
  · exact cr_min hc pins s σ H [.ref a] us Q I r ⟨a, ns, rfl, hs, hne, q⟩
  · obtain ⟨its, rv, hl, _⟩ := I.tuple hs
    rw [Vals.ref1 r]
    exact min_tupI (I.ok.hd hc) hl rv.ints hne fun h' tk m t' hk h1 h2 => ⟨.int _, H, I.kept hk, ⟨_, rfl⟩, q m h1 h2⟩
theorem max_tupI {prog : Program} {w : World} {A : Around} {E : Value → Shared → Prop} {s : Shared} {l : Addr} {its : List Value} {ns : List Int} {Q : Value → Shared → Prop} (hh : A.handled = none) (hl : s.heap.IsTuple l its.toArray) (hi : IntsAre its ns) (hne : 0 < ns.length)
    (h : ∀ h' tk M t', (∀ b o, s.heap.get? b = some o → h'.get? b = some o) → M ∈ ns → (∀ a, a ∈ ns → a ≤ M) → Q (.int M t') { s with heap := h', toks := tk }) : wpAny (model prog w) A (call (.builtin "max") [.ref l]) Q E s := by
  obtain ⟨xs, e⟩ := hi.allInts.items
  have hn : numsOf (intItems xs).toList = ns := by rw [← e]; exact hi.numsOf
  rw [nums_intItems] at hn
  subst hn
  rw [e] at hl
  have hsz : 0 < xs.size := by simpa using hne
  have hl0 : l < s.heap.objs.size := by obtain ⟨o, ho, _⟩ := hl; exact Heap.lt_size ho
  refine call_max_walk (wpAny_pyIter_tuple hl ?_)
  refine ⟨_, [_, l], [_], _, _, _, _, rfl, Walks.tuple (A := A.in1) hh _ l (Nat.ne_of_lt hl0) (intItems xs), ⟨⟨_, Heap.get?_push_size _ rfl, rfl, rfl⟩, hl.push _⟩, fun c hc => ?_, by simpa [intItems] using hsz, CmpOf.ints_gt (numAt xs) (fun _ _ => intItems_at), fun v h' tk hP hk => ?_⟩
  · show c < (s.heap.push _).objs.size
    rw [Heap.size_push]
    rcases List.mem_cons.mp hc with rfl | hc
    · exact Nat.lt_succ_self _
    · rw [List.mem_singleton.mp hc]; exact Nat.lt_succ_of_lt hl0
  · have kept : ∀ b o, s.heap.get? b = some o → h'.get? b = some o := fun b o eb => hk b o (fun hm => by
      rw [List.mem_singleton.mp hm] at eb
      exact Nat.lt_irrefl _ (Heap.lt_size eb)) (Heap.get?_push_of_some _ eb)
    obtain ⟨t, rfl⟩ := intItems_at (by simpa [intItems] using hP)
    obtain ⟨h1, h2⟩ := argBest_gt (numAt xs) (xs.size - 1)
    refine h h' tk _ t kept ?_ fun a ha => ?_
    · have h1' : argBest (fun i j => decide (numAt xs j < numAt xs i)) (xs.size - 1) ≤ xs.size - 1 := h1
      rw [numAt_eq]; exact PySem.getD_mem (by rw [List.length_map, Array.length_toList]; omega)
    · obtain ⟨j, hj, rfl⟩ := mem_getD ha
      rw [List.length_map, Array.length_toList] at hj
      rw [← numAt_eq]; exact h2 j (by omega)
def rMaxS (K : PySem.W.Frag) : List V → Hp → VK → Prop := fun vs H Q => ∃ (a : Addr) (ns : List Int), vs = [V.ref a] ∧ Sq K H a (ns.map V.int) ∧ 0 < ns.length ∧ ∀ m, m ∈ ns → (∀ y, y ∈ ns → y ≤ m) → Q (.int m) H
theorem cr_maxS {X : Cx} (hc : X.calm = true) : CallR X (.builtin "max") (rMaxS X.K) := by
  intro pins s σ H vs us Q I r h
  obtain ⟨a, ns, rfl, hs, hne, q⟩ := h
  rcases hs with hs | hs
  · exact cr_max hc pins s σ H [.ref a] us Q I r ⟨a, ns, rfl, hs, hne, q⟩
  · obtain ⟨its, rv, hl, _⟩ := I.tuple hs
    rw [Vals.ref1 r]
    exact max_tupI (I.ok.hd hc) hl rv.ints hne fun h' tk m t' hk h1 h2 => ⟨.int _, H, I.kept hk, ⟨_, rfl⟩, q m h1 h2⟩
end Fp

namespace Fp
open PySem PySem.Spec PyProof.Rows L2 PySem.W
section
variable {X : Cx}
/-! ### sorted, in whatever heap the items are read -/
def SrR2 {α : Type} (all : List V) (L : List α) (v : Value) (b : α) : Prop := ∃ x, x ∈ all ∧ RelV x v ∧ ∀ S : V → α → Prop, A2 S all L → S x b
theorem srt_in2 {α : Type} {all : List V} {L : List α} : ∀ {vs : List V} {its : List Value} {xs : List α}, (∀ v ∈ vs, v ∈ all) → (∀ S : V → α → Prop, A2 S all L → A2 S vs xs) → Vals vs its → vs.length = xs.length → EachIs (SrR2 all L) its xs
  | [], _, [], _, _, r, _ => by cases r; exact .nil
  | [], _, _ :: _, _, _, _, h => by cases h
  | _ :: _, _, [], _, _, _, h => by cases h
  | v :: vs, _, x :: xs, m, t, r, h => by
    cases r with
    | cons r1 r2 =>
      exact .cons ⟨v, m v List.mem_cons_self, r1, fun S g => (t S g).tail.1⟩ (srt_in2 (fun u hu => m u (List.mem_cons_of_mem _ hu)) (fun S g => (t S g).tail.2) r2 (by simpa using h))
theorem srt_out2 {α : Type} {all : List V} {L : List α} : ∀ {its : List Value} {xs : List α}, EachIs (SrR2 all L) its xs → ∃ ws, Vals ws its ∧ (∀ S : V → α → Prop, A2 S all L → A2 S ws xs) ∧ ∀ w ∈ ws, w ∈ all
  | _, _, .nil => ⟨[], .nil, fun _ _ => .nil, fun w h => by cases h⟩
  | _, _, .cons h r => by
    obtain ⟨x, m, rx, hx⟩ := h
    obtain ⟨ws, r1, r2, r3⟩ := srt_out2 r
    exact ⟨x :: ws, .cons rx r1, fun S g => .cons (hx S g) (r2 S g), fun w hw => by
      rcases List.mem_cons.mp hw with e | e
      · rw [e]; exact m
      · exact r3 w e⟩
theorem hs_a2 {α : Type} [DecidableEq α] [Datum α] {K : PySem.W.Frag} {H : Hp} {vs : List V} {L : List α} (h : Hs K H vs L) : A2 (Hd K H) vs L := ⟨h.len, fun _ _ e => h.at e⟩
def rSortH2 (α : Type) [DecidableEq α] [Datum α] (K : PySem.W.Frag) : List V → Hp → VK → Prop := fun vs H Q => ∃ (a : Addr) (xs : List V) (L : List α), vs = [V.ref a] ∧ SqL K H a xs ∧ Hs K H xs L ∧
  ∀ p ws, (∀ w ∈ ws, w ∈ xs) → (∀ S : V → α → Prop, A2 S xs L → A2 S ws (L.mergeSort leH)) → H p = none → Q (.ref p) (upd H p (.lst ws))
theorem cr_sortH2 (α : Type) [DecidableEq α] [Datum α] [Srt1 α] (hu : X.A.units + 2 + Datum.depth α < cLine) : CallR X (.builtin "sorted") (rSortH2 α X.K) := by
  intro pins s σ H vs us Q I r h
  obtain ⟨a, xs, L, rfl, hs, hL, q⟩ := h
  obtain ⟨its, rv, hl, hz⟩ := I.list hs
  rw [Vals.ref1 r]
  have el := srt_in2 (all := xs) (L := L) (fun _ m => m) (fun _ g => g) rv hL.len
  have n1 : L.length = xs.length := hL.len.symm
  have er : EachIs (fun v (b : α) => ∃ as, Reads s.heap v (Datum.toD b) as) its L := el.mono fun v b ⟨x, _, rx, hx⟩ => Dp.reads I _ x v (hx _ (hs_a2 hL)) rx
  refine sorted_data (enc := Datum.toD) hl.isList el er (AllAlike.of Srt1.like) (Sortable.others Srt1.other) (by rw [n1]; exact hz) (fun b _ => Nat.lt_of_le_of_lt (Nat.add_le_add_left (Datum.depth_le b) _) hu) fun out ho eo => ?_
  obtain ⟨ws, r1, r2, r3⟩ := srt_out2 eo
  obtain ⟨ep, he'⟩ := PyProof.Rows.sortedAll_at s.heap its out.toArray
  have hlen : ws.length ≤ sizeLine := by rw [r1.length, ho, n1]; exact hz
  exact ⟨.ref _, upd H (s.heap.objs.size + 1) (.lst ws), I.laid (t' := s.toks) (fun _ _ => PyProof.Rows.sortedAll_old) (Nat.le_succ _) ⟨hlen, out, ep, r1, he'⟩, rfl, q _ _ r3 r2 (I.hok.fresh (Nat.le_succ _))⟩
end
end Fp

namespace Fp
open PySem PySem.Spec PyProof.Rows L2
/-! ### zip of three lists or tuples -/
def YTrip (xs ys zs : Nat → Option V) : Nat → Hp → V → Hp → Prop := fun i H v H' => ∃ T x y z, v = .ref T ∧ H T = none ∧ H' = upd H T (.tup [x, y, z]) ∧ xs i = some x ∧ ys i = some y ∧ zs i = some z
def ItZ3 (K : PySem.W.Frag) (κ1 κ2 κ3 : Bool) (a b c : Addr) (xs ys zs : List V) : It :=
  ⟨fun i H => SqK κ1 K H a xs ∧ SqK κ2 K H b ys ∧ SqK κ3 K H c zs ∧ i < xs.length ∧ i < ys.length ∧ i < zs.length,
    YTrip (fun i => xs[i]?) (fun i => ys[i]?) (fun i => zs[i]?),
    fun i H => SqK κ1 K H a xs ∧ SqK κ2 K H b ys ∧ SqK κ3 K H c zs ∧ i ≤ xs.length ∧ i ≤ ys.length ∧ i ≤ zs.length ∧ (i = xs.length ∨ i = ys.length ∨ i = zs.length)⟩
def TnZ3 (κ1 κ2 κ3 : Bool) (z TI TO i1 i2 i3 a b c : Addr) (i : Nat) (h : Heap) : Prop :=
  IsZip h z TI TO .none ∧ IsTupOf3 h TI (.ref i1) (.ref i2) (.ref i3) ∧ (∃ x y u, IsTupOf3 h TO x y u) ∧ ItAtK κ1 h i1 a i ∧ ItAtK κ2 h i2 b i ∧ ItAtK κ3 h i3 c i
theorem zip3_apart (I a b c : Nat) (la : a < I) (lb : b < I) (lc : c < I) : ZipSep3 (I + 5) (I + 3) (I + 4) I (I + 1) (I + 2) [I, a] [I + 1, b] [I + 2, c] := by
  constructor <;> (try simp only [List.mem_cons, List.not_mem_nil, or_false, not_or, true_or, or_true]) <;> (try refine ⟨?_, ?_⟩) <;> refine PySem.W.neN ?_ <;> omega
theorem zip3_turns {P : Program} {w : World} {K : PySem.W.Frag} {elts : List Expr} {kk : Nat} {tpos : Pos} {κ1 κ2 κ3 : Bool} {a b c I : Addr} {xs ys zs : List V} (la : a < I) (lb : b < I) (lc : c < I) :
    Turn P w K (.Tuple elts kk tpos) (ItZ3 K κ1 κ2 κ3 a b c xs ys zs) [I + 5, I + 3, I + 4, I, I + 1, I + 2] (I + 5) (TnZ3 κ1 κ2 κ3 (I + 5) (I + 3) (I + 4) I (I + 1) (I + 2) a b c) := by
  have S := zip3_apart I a b c la lb lc
  refine ⟨by simp, ?_, ?_, ?_, ?_, ?_⟩
  · rintro i h ⟨hz, hTI, ⟨x, y, u, hTO⟩, h1, h2, h3⟩ c hc
    have e' : c = I + 5 ∨ c = I + 3 ∨ c = I + 4 ∨ c = I ∨ c = I + 1 ∨ c = I + 2 := by simpa using hc
    rcases e' with q | q | q | q | q | q <;> subst q
    · exact ⟨_, hz, fun v q => nomatch q⟩
    · exact ⟨_, hTI, fun v q => nomatch q⟩
    · exact ⟨_, hTO, fun v q => nomatch q⟩
    · exact h1.obj
    · exact h2.obj
    · exact h3.obj
  · rintro i h h' ⟨hz, hTI, ⟨x, y, u, hTO⟩, h1, h2, h3⟩ k
    exact ⟨k (I + 5) (by simp) _ hz, k (I + 3) (by simp) _ hTI, ⟨x, y, u, k (I + 4) (by simp) _ hTO⟩, h1.at fun o q => k I (by simp) o q, h2.at fun o q => k (I + 1) (by simp) o q, h3.at fun o q => k (I + 2) (by simp) o q⟩
  · intro X hP hw hK hc i pins s σ H E Iv hf st hg
    subst hP hw hK
    obtain ⟨hz, hTI, ⟨x0, y0, u0, hTO⟩, h1, h2, h3⟩ := st
    obtain ⟨qx, qy, qz, l1, l2, l3⟩ := hg
    obtain ⟨its, rv, p, _⟩ := Inv.seqK Iv qx
    obtain ⟨its2, rv2, p2, _⟩ := Inv.seqK Iv qy
    obtain ⟨its3, rv3, p3, _⟩ := Inv.seqK Iv qz
    have hA : X.A.in1.handled = none := by
      have q := Iv.ok.hd hc
      simpa using q
    have zl : I + 5 < s.heap.objs.size := Heap.lt_size hz
    have n1 := rv.length
    have n2 := rv2.length
    have n3 := rv3.length
    refine wpAny_pyNext_zipD3_item S (draws_k κ1 hA I a (PySem.W.neN (Nat.ne_of_lt la)) its.toArray) (draws_k κ2 hA (I + 1) b (PySem.W.neN (Nat.ne_of_lt (Nat.lt_succ_of_lt lb))) its2.toArray) (draws_k κ3 hA (I + 2) c (PySem.W.neN (Nat.ne_of_lt (Nat.lt_succ_of_lt (Nat.lt_succ_of_lt lc)))) its3.toArray) hz hTI hTO ⟨h1, p⟩ ⟨h2, p2⟩ ⟨h3, p3⟩ (by simp; omega) (by simp; omega) (by simp; omega) ?_
    intro u u2 u3 h' tk hu hu2 hu3 z' TO' st1 st2 st3 hT hsz hk
    obtain ⟨x, hx, ru⟩ : ∃ x, xs[i]? = some x ∧ RelV x u := by
      obtain ⟨u', e1, e2⟩ := rv.get (List.getElem?_eq_getElem l1)
      have e3 : its[i]? = some u := by simpa using hu
      rw [e1] at e3
      obtain rfl := Option.some.inj e3
      exact ⟨_, List.getElem?_eq_getElem l1, e2⟩
    obtain ⟨y, hy, ru2⟩ : ∃ y, ys[i]? = some y ∧ RelV y u2 := by
      obtain ⟨u', e1, e2⟩ := rv2.get (List.getElem?_eq_getElem l2)
      have e3 : its2[i]? = some u2 := by simpa using hu2
      rw [e1] at e3
      obtain rfl := Option.some.inj e3
      exact ⟨_, List.getElem?_eq_getElem l2, e2⟩
    obtain ⟨y3, hy3, ru3⟩ : ∃ y, zs[i]? = some y ∧ RelV y u3 := by
      obtain ⟨u', e1, e2⟩ := rv3.get (List.getElem?_eq_getElem l3)
      have e3 : its3[i]? = some u3 := by simpa using hu3
      rw [e1] at e3
      obtain rfl := Option.some.inj e3
      exact ⟨_, List.getElem?_eq_getElem l3, e2⟩
    refine ⟨_, rfl, wpAny_letOwnedTupleGo_zip (s := { s with heap := h', toks := tk }) z' fun h'' z'' sb => ?_⟩
    have T2 : h''.get? s.heap.objs.size = some { cls := .type "tuple", data := .seq #[u, u2, u3] } := (sb.2 _ (Nat.ne_of_gt zl)).trans hT
    have far : ∀ c o, c ∉ [I + 5, I + 3, I + 4, I, I + 1, I + 2] → s.heap.get? c = some o → h''.get? c = some o := fun c o hb q => by
      simp only [List.mem_cons, List.not_mem_nil, or_false, not_or] at hb
      exact (sb.2 c hb.1).trans (hk c o hb.1 hb.2.2.1 hb.2.2.2.1 hb.2.2.2.2.1 hb.2.2.2.2.2 q)
    have I1 : L2.Inv X pins σ (upd H s.heap.objs.size (.tup [x, y, y3])) { s with heap := h'', toks := tk } :=
      Iv.turnedNew (t' := tk) (ch := [I + 5, I + 3, I + 4, I, I + 1, I + 2]) far hf (Nat.le_refl _) ⟨by show 3 ≤ sizeLine; decide, [u, u2, u3], .cons ru (.cons ru2 (.cons ru3 .nil)), ⟨_, T2, rfl, _, rfl⟩⟩
    refine ⟨.ref s.heap.objs.size, _, I1, rfl, ⟨_, x, y, y3, rfl, Iv.hok.fresh (Nat.le_refl _), rfl, hx, hy, hy3⟩, ⟨z'', ?_, ⟨u, u2, u3, ?_⟩, ?_, ?_, ?_⟩, fun c hcm => ?_⟩
    · exact (sb.2 _ S.TIz).trans (hk _ _ S.TIz S.TITO S.TIi1 S.TIi2 S.TIi3 hTI)
    · exact (sb.2 _ S.TOz).trans TO'
    · exact st1.1.at fun o q => (sb.2 _ S.zi1.symm).trans q
    · exact st2.1.at fun o q => (sb.2 _ S.zi2.symm).trans q
    · exact st3.1.at fun o q => (sb.2 _ S.zi3.symm).trans q
    · have lt : c < s.heap.objs.size := by
        have e' : c = I + 5 ∨ c = I + 3 ∨ c = I + 4 ∨ c = I ∨ c = I + 1 ∨ c = I + 2 := by simpa using hcm
        have zl' : (I : Nat) + 5 < s.heap.objs.size := zl
        rcases e' with q | q | q | q | q | q <;> subst q
        · exact zl
        · exact Heap.lt_size hTI
        · exact Heap.lt_size hTO
        · obtain ⟨_, e1, _⟩ := h1.obj; exact Heap.lt_size e1
        · obtain ⟨_, e2, _⟩ := h2.obj; exact Heap.lt_size e2
        · obtain ⟨_, e2, _⟩ := h3.obj; exact Heap.lt_size e2
      rw [upd_ne (Nat.ne_of_lt lt)]
      exact (hf c hcm).1
  · intro X hP hw hK hc i pins s σ H E Iv hf st hg
    subst hP hw hK
    obtain ⟨hz, hTI, ⟨x0, y0, u0, hTO⟩, h1, h2, h3⟩ := st
    obtain ⟨qx, qy, qz, l1, l2, l3, l4⟩ := hg
    obtain ⟨its, rv, p, _⟩ := Inv.seqK Iv qx
    obtain ⟨its2, rv2, p2, _⟩ := Inv.seqK Iv qy
    obtain ⟨its3, rv3, p3, _⟩ := Inv.seqK Iv qz
    have hA : X.A.in1.handled = none := by
      have q := Iv.ok.hd hc
      simpa using q
    have n1 := rv.length
    have n2 := rv2.length
    have n3 := rv3.length
    refine wpAny_pyNext_zipD3_end S (draws_k κ1 hA I a (PySem.W.neN (Nat.ne_of_lt la)) its.toArray) (draws_k κ2 hA (I + 1) b (PySem.W.neN (Nat.ne_of_lt (Nat.lt_succ_of_lt lb))) its2.toArray) (draws_k κ3 hA (I + 2) c (PySem.W.neN (Nat.ne_of_lt (Nat.lt_succ_of_lt (Nat.lt_succ_of_lt lc)))) its3.toArray) hz hTI hTO ⟨h1, p⟩ ⟨h2, p2⟩ ⟨h3, p3⟩ (by simp; omega) (by simp; omega) (by simp; omega) (by simp; omega) fun h' tk hk => ?_
    refine ⟨rfl, Iv.turnedL (t' := tk) (ch := [I + 5, I + 3, I + 4, I, I + 1, I + 2]) (fun c o hb q => ?_) hf⟩
    simp only [List.mem_cons, List.not_mem_nil, or_false, not_or] at hb
    exact hk c o hb.1 hb.2.2.1 hb.2.2.2.1 hb.2.2.2.2.1 hb.2.2.2.2.2 q
  · intro A i s Q E st h
    exact wpAny_pyIter_zip st.1 h
def iZip3 (K : PySem.W.Frag) (ta : TA) : TI := fun σ H R => ta σ H fun vs H1 => ∃ a b c xs ys zs κ1 κ2 κ3, vs = [.ref a, .ref b, .ref c] ∧ SqK κ1 K H1 a xs ∧ SqK κ2 K H1 b ys ∧ SqK κ3 K H1 c zs ∧ R (ItZ3 K κ1 κ2 κ3 a b c xs ys zs) H1
def begK (κ : Bool) (l : Addr) : Obj := if κ = true then { cls := .type "tuple_iterator", data := .fields #[.ref l, .int 0 0] } else { cls := .type "list_iterator", data := .fields #[.ref l, .int 0 0] }
theorem begins_k (κ : Bool) (l : Addr) (its : Array Value) : Begins (.ref l) (begK κ l) fun h => SqAtK κ h l its := by
  cases κ with
  | false => exact begins_list l its
  | true => exact begins_tuple l its
theorem begK_at {κ : Bool} {h : Heap} {i l : Addr} (e : h.get? i = some (begK κ l)) : ItAtK κ h i l 0 := by
  cases κ with
  | false => exact ⟨_, e, rfl, rfl⟩
  | true => exact ⟨_, e, rfl, rfl⟩
theorem pi_zip3 {X : Cx} {e e2 e3 : Expr} {ta : TA} {p pos tpos : Pos} {elts : List Expr} {kk : Nat} (hg : Gl X "zip") (hm : X.mg "zip" = none) (ha : PA X [e, e2, e3] ta)
    (hs : starEach [e, e2, e3] X.env = (false, eval e X.env) :: starEach [e2, e3] X.env := by rfl) (hpl : (backTo pos (starEach [e2, e3] X.env)).any (·.1) = false := by rfl) :
    PI X (.Tuple elts kk tpos) (.Call (.Name "zip" p) [e, e2, e3] [] pos) (iZip3 X.K ta) := by
  refine ⟨fun pins s σ H R I h => Call_ (ld_blt I hg hm PyProof.Rows.boot_zip (PyProof.Rows.callWith_type1 (thn (ha.run pos pins s σ H _ I h) ?_) hs hpl))⟩
  rintro us s1 ⟨vs, H1, I1, r1, a, b, c, xs, ys, zs, κ1, κ2, κ3, rfl, kx, ky, kz, q⟩
  cases r1 with
  | cons ra r1 => cases r1 with
  | cons rb r1 => cases r1 with
  | cons rc r1 =>
  cases r1
  cases ra
  cases rb
  cases rc
  obtain ⟨its, rv, p1, la⟩ := Inv.seqK I1 kx
  obtain ⟨its2, rv2, p2, lb⟩ := Inv.seqK I1 ky
  obtain ⟨its3, rv3, p3, lc⟩ := Inv.seqK I1 kz
  refine zip_begins3 (begins_k κ1 a its.toArray) (begins_k κ2 b its2.toArray) (begins_k κ3 c its3.toArray) p1 p2 p3 fun h' hz hTI hTO h1 h2 h3 _ hk => wpAny_pyIter_zip hz ?_
  refine ⟨s1.heap.objs.size + 5, _, _, _, H1, rfl, I1.kept (t' := s1.toks) hk, zip3_turns la lb lc, ⟨hz, hTI, ⟨_, _, _, hTO⟩, begK_at h1, begK_at h2, begK_at h3⟩, fun c hcm => ?_, q⟩
  have le : s1.heap.objs.size ≤ c := by
    have e' : c = s1.heap.objs.size + 5 ∨ c = s1.heap.objs.size + 3 ∨ c = s1.heap.objs.size + 4 ∨ c = s1.heap.objs.size ∨ c = s1.heap.objs.size + 1 ∨ c = s1.heap.objs.size + 2 := by simpa using hcm
    rcases e' with z | z | z | z | z | z <;> rw [z] <;> first | exact Nat.le_refl _ | exact Nat.le_add_right _ _
  exact I1.fpOk le (I1.hok.fresh le)
theorem walk_zip3 {K : PySem.W.Frag} {κ1 κ2 κ3 : Bool} {a b c : Addr} {xs ys zs : List V} {n : Nat} (hn : n = min xs.length (min ys.length zs.length)) :
    Walk (ItZ3 K κ1 κ2 κ3 a b c xs ys zs) n (fun H => SqK κ1 K H a xs ∧ SqK κ2 K H b ys ∧ SqK κ3 K H c zs) (YTrip (fun i => xs[i]?) (fun i => ys[i]?) (fun i => zs[i]?)) := by
  subst hn
  exact ⟨fun i _ hi q => ⟨q.1, q.2.1, q.2.2, by omega, by omega, by omega⟩, fun _ q => ⟨q.1, q.2.1, q.2.2, by omega, by omega, by omega, by omega⟩, fun i H v H' _ q y => y⟩
end Fp

namespace Fp
open PySem PySem.Spec PyProof.Rows L2
open Builtin
open Builtin.List
/-! ### repr(..) where own instances stand within -/
theorem sub_guard {X : Cx} {n : Nat} {A : Around} (sb : L2.Sub X (n + 1) A) {id : String} {args : Args} (hd : (A.under (.builtin id args)).depth = A.depth + 1) (hu : (A.under (.builtin id args)).units = A.units + 1) (hf : (A.under (.builtin id args)).frames = A.frames) : L2.Sub X n (A.under (.builtin id args)) :=
  ⟨⟨sb.room.hd, by have := sb.room.dp; rw [hd]; omega, by have := sb.room.un; rw [hu]; omega⟩, by rw [hf]; exact sb.fr⟩
theorem depth_list_loop (A : Around) (args : Args) : (A.under (.builtin "list.__repr__.loop" args)).depth = A.depth + 1 := by
  first | rfl | simp [Around.under, Code.weight, Code.isCreation, Code.isGuard, Code.isCaller, Code.frames, Code.isFrame, guardIds]
theorem frames_list_loop (A : Around) (args : Args) : (A.under (.builtin "list.__repr__.loop" args)).frames = A.frames := by
  first | rfl | simp [Around.under, Code.envs, pushEnvs]
theorem depth_tuple_repr (A : Around) (args : Args) : (A.under (.builtin "tuple.__repr__" args)).depth = A.depth + 1 := by
  first | rfl | simp [Around.under, Code.weight, Code.isCreation, Code.isGuard, Code.isCaller, Code.frames, Code.isFrame, guardIds]
theorem frames_tuple_repr (A : Around) (args : Args) : (A.under (.builtin "tuple.__repr__" args)).frames = A.frames := by
  first | rfl | simp [Around.under, Code.envs, pushEnvs]
theorem depth_tuple_under (A : Around) (args : Args) : (A.under (.builtin "tuple.__repr__.under" args)).depth = A.depth + 1 := by
  first | rfl | simp [Around.under, Code.weight, Code.isCreation, Code.isGuard, Code.isCaller, Code.frames, Code.isFrame, guardIds]
theorem frames_tuple_under (A : Around) (args : Args) : (A.under (.builtin "tuple.__repr__.under" args)).frames = A.frames := by
  first | rfl | simp [Around.under, Code.envs, pushEnvs]

/-- which containers have how long a text -/
abbrev ClT := Addr → Nat → Prop
abbrev Grd (Cl : ClT) (g : List Code) (m : Nat) : Prop := ∀ b k, Cl b k → k ≤ m → Clear g b
/-- x is shown as t, where H0 stands -/
def RpG (X : Cx) (n : Nat) (H0 : Hp) (Cl : ClT) (x : V) (t : Str) : Prop :=
  ∀ (A : Around) (pins : List (Addr × Obj)) (s : Shared) (σ : L2.St) (H : Hp) (u : Value) (g : List Code) (base : Nat), L2.Sub X n A → A.guards = some g → Grd Cl g t.length → base + t.length ≤ sizeLine → L2.Inv X pins σ H s → Same H0 H → RelV x u →
    wpAny (model X.prog X.w) A (pyReprUnder base u) (fun r s' => r = t ∧ ∃ H', L2.Inv X pins σ H' s' ∧ Same H H') X.xe s
theorem RpG.mono {X : Cx} {n m : Nat} {H0 : Hp} {Cl : ClT} {x : V} {t : Str} (h : RpG X n H0 Cl x t) (e : n ≤ m) : RpG X m H0 Cl x t :=
  fun A pins s σ H u g base sb => h A pins s σ H u g base (sb.mono e)
theorem RpG.is {X : Cx} {n : Nat} {H0 : Hp} {Cl : ClT} {x : V} {t : Str} (h : ∀ u, RelV x u → ReprIs X.prog X.w u t) : RpG X n H0 Cl x t :=
  fun A pins s σ H u g base sb hg hcl hb I sm r => h u r base hb A X.xe s _ fun tk => ⟨rfl, H, I.tok tk, Same.refl _⟩
/-- the loop over a list's items -/
theorem rp_list_loop {X : Cx} {n : Nat} {H0 : Hp} {Cl : ClT} {a P : Addr} {xs : List V} {ts : List Str} {A : Around} {g : List Code} {base : Nat} {pins : List (Addr × Obj)} {σ : L2.St} {R : Result → Shared → Prop} (hR2 : ∀ e s, X.xe e s → R (.error e) s)
    (fn : ∀ b k k', Cl b k → Cl b k' → k = k') (ha : H0 a = some (.lst xs)) (hca : Cl a (listText ts).length) (sb : L2.Sub X (n + 1) A) (hg : A.guards = some g) (hcl : Grd Cl g (listText ts).length) (hlen : ts.length = xs.length)
    (hT : ∀ (i : Nat) x t, xs[i]? = some x → ts[i]? = some t → RpG X n H0 Cl x t) (hsz : base + (listText ts).length ≤ sizeLine) :
    ∀ (k i : Nat) (s : Shared) (H : Hp) (acc : Array Value) (c : Nat) (done : List (Str × Tok)), xs.length - i = k → i ≤ xs.length → L2.Inv X pins σ H s → Same H0 H → FpOk X pins H P →
    s.heap.get? P = some { cls := .type "list", dict := none, data := .seq acc c, slots := #[] } → acc.toList = strValues done → done.map (·.1) = ts.take i →
    (∀ s' H' u, L2.Inv X pins σ H' s' → Same H H' → R (.ok (.ret (.str (listText ts) u))) s') →
    codeAny (model X.prog X.w) A (.builtin "list.__repr__.loop" ⟨[.ref a, rawInt i, .ref P, rawInt ((base + piled (ts.take i) : Nat) : Int)], []⟩) R s := by
  have hX : (listText ts).length = (textFrom 0 "[" ts).length + 1 := by
    show (textFrom 0 "[" ts ++ "]").length = _
    rw [strLen_append]; rfl
  have hL := textFrom_len ts 0 "["
  have hsz1 : xs.length ≤ sizeLine := by
    have h1 := hL.1
    rw [if_neg (Nat.lt_irrefl 0)] at h1
    omega
  have hsz2 : ∀ t ∈ ts, t.length ≤ sizeLine := fun t ht => by
    have h2 := hL.2.1 t ht
    omega
  have hsz3 : (listText ts).length ≤ sizeLine := by omega
  have hp3 := piled_le_listText ts
  intro k
  induction k with
  | zero =>
    intro i s H acc c done hk hi I sm hf hP hacc hdone hR
    have hin : i = xs.length := by omega
    obtain ⟨_, its, na, rv, hl, he⟩ := I.lstM (sm _ _ ha)
    refine codeAny_builtin F.entry_list_repr_loop ?_
    show wpAny _ _ («list.__repr__.loop» ⟨[.ref a, .int i 0, .ref P, .int ((base + piled (ts.take i) : Nat) : Int) 0], []⟩) _ _ s
    rw [repr_loop_tree]
    refine wpAny_bind (wpAny_listItems he rfl ?_)
    have hnone : its.toArray[(i : Int).toNat]? = none := by simp [hin, hl]
    simp only [hnone]
    unfold reprEnd
    refine wpAny_bind (wpAny_listItems hP rfl ?_)
    rw [hacc, repr_fold]
    refine wpAny_bind (wpAny_pure ?_)
    have hall : done.map (·.1) = ts := by rw [hdone, hin, ← hlen, List.take_length]
    rw [hall]
    refine wpAny_bind (wpAny_mkStr (wpAny_pure ?_) hsz3)
    exact hR _ H _ (I.tok _) (Same.refl _)
  | succ k ih =>
    intro i s H acc c done hk hi I sm hf hP hacc hdone hR
    have hlt : i < xs.length := by omega
    obtain ⟨t, ht⟩ : ∃ t, ts[i]? = some t := ⟨_, List.getElem?_eq_getElem (by omega)⟩
    have hx := List.getElem?_eq_getElem hlt
    have hrep := hT i _ t hx ht
    obtain ⟨_, its, na, rv, hl, he⟩ := I.lstM (sm _ _ ha)
    obtain ⟨u, hu, ru⟩ := rv.get hx
    have hp1 := piled_take_succ ht
    have hp2 := piled_take_le ts (i + 1)
    have lt : t.length < (listText ts).length := by omega
    refine codeAny_builtin F.entry_list_repr_loop ?_
    show wpAny _ _ («list.__repr__.loop» ⟨[.ref a, .int i 0, .ref P, .int ((base + piled (ts.take i) : Nat) : Int) 0], []⟩) _ _ s
    rw [repr_loop_tree]
    refine wpAny_bind (wpAny_listItems he rfl ?_)
    have hsome : its.toArray[(i : Int).toNat]? = some u := by simpa using hu
    simp only [hsome]
    rw [Int.toNat_natCast]
    have I1 : L2.Inv X (pins ++ [(P, ({ cls := .type "list", dict := none, data := .seq acc c, slots := #[] } : Obj))]) σ H s := I.pins_of fun p hp => by
      rcases List.mem_append.mp hp with z | z
      · exact I.pin p (List.mem_append_right _ z)
      · rw [List.mem_singleton.mp z]
        exact ⟨hP, hf.1, hf.2.1, hf.2.2.1, fun v q => nomatch q⟩
    refine wpAny_bind (wpAny_holding (wpAny_mono (hrep _ (pins ++ [(P, ({ cls := .type "list", dict := none, data := .seq acc c, slots := #[] } : Obj))]) s σ H u _ (base + piled (ts.take i) + 1) (sub_guard sb (depth_list_loop _ _) (units_under_list_loop _ _) (frames_list_loop _ _)) (guards_under_guard (isGuard_list_loop _) hg)
      (fun b m hb hm => (hcl b m hb (by omega)).cons (a := a) fun e => by
        subst e
        have := fn _ _ _ hca hb
        omega) (by omega) I1 sm ru) (fun r s1 hr => ?_) (fun e s' he => hR2 e s' he)))
    obtain ⟨rfl, H1, I2, s01⟩ := hr
    have hpn := I2.pin (P, ({ cls := .type "list", dict := none, data := .seq acc c, slots := #[] } : Obj)) (List.mem_append_right _ (List.mem_append_right _ List.mem_cons_self))
    have hP1 := hpn.1
    have hP0 := hpn.2.1
    have I3 := I2.unpinned
    refine wpAny_bind (wpAny_mkStr ?_ (hsz2 _ (List.mem_of_getElem? ht)))
    refine wpAny_bind ?_
    show wpAny _ _ (updateSeq P _) _ _ _
    have hasz : acc.size ≤ sizeLine := by
      have e1 : acc.toList.length = acc.size := by simp
      have e2 : (strValues done).length = done.length := by simp [strValues]
      have e3 : done.length = (ts.take i).length := by rw [← hdone, List.length_map]
      have e4 : (ts.take i).length ≤ i := by rw [List.length_take]; omega
      rw [hacc] at e1; omega
    refine wpAny_updateSeq hP1 rfl (wpAny_pure ⟨F.quiet_list_repr_loop _, ?_⟩) hasz
    have e1 : ((i : Int) + 1) = ((i + 1 : Nat) : Int) := by omega
    have e2 : base + piled (ts.take i) + (r.length + 2) = base + piled (ts.take (i + 1)) := by omega
    rw [e1, e2]
    have hf1 : FpOk X pins H1 P := ⟨hP0, hf.2.1, hf.2.2.1, hf.2.2.2.1, hf.2.2.2.2.1, hf.2.2.2.2.2⟩
    refine ih (i + 1) _ H1 (acc.push (.str r s1.toks)) _ (done ++ [(r, s1.toks)]) (by omega) hlt ((I3.tok (s1.toks + 1)).turnedL (t' := s1.toks + 1) (ch := [P]) (fun b o hb e => (Heap.get?_update_other _ _ (fun h : P = b => hb (by simp [h]))).trans e) (fun b hb => by rw [List.mem_singleton.mp hb]; exact hf1)) (sm.trans s01) hf1
      (Heap.get?_update_self _ hP1 rfl) (by simp [hacc, strValues]) (by simp [List.take_add_one, ht, hdone]) fun s' H' u' I' sm' => ?_
    exact hR s' H' u' I' (s01.trans sm')
/-- what a call of repr's parts gives -/
abbrev RpEnd (X : Cx) (pins : List (Addr × Obj)) (σ : L2.St) (H : Hp) (t : Str) : Value → Shared → Prop := fun v s' => ∃ u, v = .str t u ∧ ∃ H', L2.Inv X pins σ H' s' ∧ Same H H'
section
variable {X : Cx} {n : Nat} {H0 : Hp} {Cl : ClT} {a : Addr} {xs : List V} {ts : List Str}
theorem rp_listAt (fn : ∀ b k k', Cl b k → Cl b k' → k = k') (ha : H0 a = some (.lst xs)) (hne : xs ≠ []) (hca : Cl a (listText ts).length) (hlen : ts.length = xs.length) (hT : ∀ (i : Nat) x t, xs[i]? = some x → ts[i]? = some t → RpG X n H0 Cl x t)
    {A : Around} {g : List Code} {base : Nat} {pins : List (Addr × Obj)} {σ : L2.St} {H : Hp} {s : Shared} (sb : L2.Sub X (n + 1) A) (hg : A.guards = some g) (hcl : Grd Cl g (listText ts).length) (hsz : base + (listText ts).length ≤ sizeLine) (I : L2.Inv X pins σ H s) (sm : Same H0 H) :
    wpAny (model X.prog X.w) A.in1 (Builtin.listReprAt base ⟨[.ref a], []⟩) (fun fin s' => match fin with | .done f => callEnd (RpEnd X pins σ H (listText ts)) X.xe (.ok f) s' | .again c' => c'.quiet = true ∧ codeAny (model X.prog X.w) A c' (callEnd (RpEnd X pins σ H (listText ts)) X.xe) s') (fun e s' => callEnd (RpEnd X pins σ H (listText ts)) X.xe (.error e) s') s := by
  obtain ⟨_, its, na, rv, hl, he⟩ := I.lstM (sm _ _ ha)
  have hc0 : Clear g a := hcl a _ hca (Nat.le_refl _)
  cases its with
  | nil => exact absurd (List.length_eq_zero_iff.mp (by simpa using hl)) hne
  | cons x l =>
    refine wpAny_list_repr_head (A := A.in1) hg (fun v rest kw hm => listSameRef_of_ne (hc0 _ _ _ _ hm)) he rfl ?_
    refine wpAny_bind (m := newList []) (wpAny_newObj_type ?_)
    refine wpAny_pure ⟨F.quiet_list_repr_loop _, ?_⟩
    have I1 := I.kept (t' := s.toks) (h' := s.heap.push { cls := .type "list", dict := none, data := .seq #[] 0, slots := #[] }) fun b o e => Heap.get?_push_of_some _ e
    refine rp_list_loop (P := s.heap.objs.size) (R := callEnd (RpEnd X pins σ H (listText ts)) X.xe) (fun e s h => h) fn ha hca sb hg hcl hlen hT hsz _ 0 _ H #[] _ [] rfl (Nat.zero_le _) I1 sm (I.fpOk (Nat.le_refl _) (I.hok.fresh (Nat.le_refl _))) (Heap.get?_push_size _ rfl) rfl (by simp) fun s' H' u I' sm' => ?_
    exact ⟨u, rfl, H', I', sm'⟩
theorem call_list_reprG (fn : ∀ b k k', Cl b k → Cl b k' → k = k') (ha : H0 a = some (.lst xs)) (hne : xs ≠ []) (hca : Cl a (listText ts).length) (hlen : ts.length = xs.length) (hT : ∀ (i : Nat) x t, xs[i]? = some x → ts[i]? = some t → RpG X n H0 Cl x t)
    {A : Around} {g : List Code} {pins : List (Addr × Obj)} {σ : L2.St} {H : Hp} {s : Shared} (sb : L2.Sub X (n + 1) A) (hg : A.guards = some g) (hcl : Grd Cl g (listText ts).length) (hsz : (listText ts).length ≤ sizeLine) (I : L2.Inv X pins σ H s) (sm : Same H0 H) :
    wpAny (model X.prog X.w) A (call (.builtin "list.__repr__") [.ref a]) (RpEnd X pins σ H (listText ts)) X.xe s := by
  obtain ⟨_, its, na, rv, hl, he⟩ := I.lstM (sm _ _ ha)
  exact wpAny_call (codeAny_call_builtin F.slot_list_repr.plain F.entry_list_repr (F.slot_list_repr.check _ _ _ _ _ _ _ _ ⟨_, he, rfl⟩ (F.args_list_repr_1 _)
    (rp_listAt (base := 0) fn ha hne hca hlen hT sb hg hcl (by omega) I sm)))
theorem RpG.list (fn : ∀ b k k', Cl b k → Cl b k' → k = k') (ha : H0 a = some (.lst xs)) (hca : Cl a (listText ts).length) (hlen : ts.length = xs.length) (hT : ∀ (i : Nat) x t, xs[i]? = some x → ts[i]? = some t → RpG X n H0 Cl x t) : RpG X (n + 1) H0 Cl (.ref a) (listText ts) := by
  intro A pins s σ H u g base sb hg hcl hsz I sm r
  cases r
  obtain ⟨_, its, na, rv, hl, he⟩ := I.lstM (sm _ _ ha)
  by_cases hne : xs = []
  · subst hne
    have e1 : ts = [] := List.length_eq_zero_iff.mp hlen
    have e2 : its = [] := List.length_eq_zero_iff.mp (by simpa using hl.symm)
    subst e1 e2
    refine wpAny_pyReprUnder_ref (by omega) (wpAny_pyReprObjUnder_list_empty ⟨_, he, rfl⟩ sb.room.units0 he rfl ⟨_, _, rfl, rfl, H, I.tok _, Same.refl _⟩)
  · refine wpAny_pyReprUnder_ref (by omega) (wpAny_pyReprObjUnder_twin (twin := "list.__repr__.under") ⟨_, he, rfl⟩ F.slot_list_repr.toG rfl sb.room.units0
      (wpAny_mono (call_twin_plain F.plain_list_repr_under F.entry_list_repr_under F.check_list_repr_under ⟨_, he, rfl⟩ F.slot_list_repr.toG (F.args_list_repr_1 _)
        (rp_listAt fn ha hne hca hlen hT sb hg hcl hsz I sm)) (fun v s' hv => ?_) fun e s' h => h))
    obtain ⟨u, rfl, q⟩ := hv
    exact ⟨⟨_, u, rfl⟩, _, u, rfl, rfl, q⟩
end
/-- an own instance -/
def spRp (Rel : Addr → Hp → Str → Prop) : Sp := fun vs H Q _ => ∃ a t, vs = [.ref a] ∧ Rel a H t ∧ ∀ H', Same H H' → Q (.str t) H'
theorem ifBoundBy_K {M : Model} {A : Around} {E : Value → Shared → Prop} {s : Shared} {K : PySem.W.Frag} {x C f : Addr} {ox : Obj} {od : Option Obj} {name : Str} {last : Value → List Value → Sem Value} {Q : Option Value → Shared → Prop} (X : K.In s.heap) (I : PySem.W.InstAt s.heap x ox C od) (hs : PySem.W.findIn K (.ref C) name = some (some (.ref f))) (hf : PySem.W.isFn K (.ref f) = true)
    (h : wpAny M A (last (.ref f) [.ref x]) (fun v => Q (some v)) E s) : wpAny M A (callSpecialIfBoundBy? last (.ref x) name) Q E s := by
  simp only [callSpecialIfBoundBy?, bindSpecialIfBound?]
  refine wpAny_holding (wpAny_bind (wpAny_bind (wpAny_bind (I.type.here ((PySem.W.looks_findIn X hs).here ?_)))))
  refine wpAny_bind (wpAny_askSetting (wpAny_ite ?_))
  have fin : wpAny M A (last (.ref f) [.ref x] >>= fun v => pure (some v)) Q E s := wpAny_bind (wpAny_mono h (fun v s' h' => wpAny_pure h') fun _ _ h' => h')
  split
  · exact wpAny_bind ((PySem.W.bind_fn X _ (beq_iff_eq.mp hf)).here (wpAny_pure (by exact fin)))
  · exact wpAny_tryCatch (wpAny_bind ((PySem.W.bind_fn X _ (beq_iff_eq.mp hf)).here (wpAny_pure (by exact fin))))
theorem call_own {X : Cx} {CX : CXT} {k : Nat} {f a : Addr} {fd : FuncData} {ps : List Str} {Rel : Addr → Hp → Str → Prop} {E : XK} {t : Str} (F : FnOk X.prog X.w X.K X.mg X.base CX k f fd ps (spRp Rel))
    (hb : Binds X.K fd ps []) (hx : Passes CX X E) {A : Around} (sb : L2.Sub X k A) {pins : List (Addr × Obj)} {σ : L2.St} {H : Hp} {s : Shared} (I : L2.Inv X pins σ H s) (hr : Rel a H t) :
    wpAny (model X.prog X.w) A (call (.ref f) [.ref a]) (RpEnd X pins σ H t) X.xe s := by
  have hsp : spRp Rel [.ref a] H (fun v H' => v = .str t ∧ Same H H') E := ⟨a, t, rfl, hr, fun H' e => ⟨rfl, e⟩⟩
  have e0 : Env0 X.prog X.w X.K X.mg X.base A X.stack s H := by
    have e := I.env0
    exact ⟨by rw [sb.fr]; exact e.frames, e.mod, e.bs, e.bsz, e.funs, e.frf, e.hok, e.bare⟩
  have hl := F.len _ _ _ _ hsp
  have r2 : Vals [V.ref a] [Value.ref a] := .cons rfl .nil
  refine wpAny_call (codeAny_mono (F.run A X.stack s H ⟨[.ref a], []⟩ [.ref a] [.ref a] _ E sb.room e0 (by
    have := hb s [.ref a] I.kIn (by simpa using hl)
    simpa using this) r2 hsp) fun r s' hq => ?_)
  cases r with
  | error e => exact hx pins σ H s e s' I hq
  | ok fl =>
    cases fl with
    | ret w =>
      obtain ⟨z, H', I', rz, ez, ex⟩ := I.after hq
      subst ez
      obtain ⟨u, rfl⟩ := rz
      exact ⟨u, rfl, H', I', ex⟩
    | next => exact False.elim hq
    | brk => exact False.elim hq
    | cont => exact False.elim hq
theorem RpG.ins {X : Cx} {CX : CXT} {k : Nat} {H0 : Hp} {Cl : ClT} {C f a dx : Addr} {fs : List (Str × V)} {fd : FuncData} {ps : List Str} {Rel : Addr → Hp → Str → Prop} {E : XK} {t : Str} (F : FnOk X.prog X.w X.K X.mg X.base CX k f fd ps (spRp Rel))
    (hs : PySem.W.findIn X.K (.ref C) "__repr__" = some (some (.ref f))) (hf : PySem.W.isFn X.K (.ref f) = true) (hb : Binds X.K fd ps []) (hx : Passes CX X E) (ha : H0 a = some (.ins C dx fs)) (hr : ∀ H, Same H0 H → Rel a H t) : RpG X k H0 Cl (.ref a) t := by
  intro A pins s σ H u g base sb hg hcl hsz I sm r
  cases r
  obtain ⟨mA, J, _⟩ := ins_get I.hok (sm _ _ ha)
  obtain ⟨od, J, _⟩ := J.look
  have KX := I.kIn
  refine wpAny_pyReprUnder_ref (by omega) ?_
  unfold pyReprObjUnder pyReprObjBy
  refine wpAny_bind (wpAny_cRoomFor sb.room.units0 ?_)
  refine wpAny_bind (wpAny_bind (J.type.here ((PySem.W.looks_findIn KX hs).here ?_)))
  show wpAny _ _ (if (some (Value.ref f)).isNone = true then _ else _) _ _ _
  rw [if_neg (by simp)]
  refine wpAny_bind (m := callSpecialIfBoundBy? _ (.ref a) (Str.ofString "__repr__")) (ifBoundBy_K KX J hs hf (wpAny_mono (call_own F hb hx sb I (hr H sm)) (fun v s' hv => ?_) fun _ _ y => y))
  obtain ⟨u, rfl, H', I', ex⟩ := hv
  refine wpAny_bind (wpAny_isInstance (T := "str") (b := true) rfl isSubtype_str_str (wpAny_pure ?_))
  exact ⟨_, u, rfl, rfl, H', I', ex⟩
theorem top_own {X : Cx} {CX : CXT} {k : Nat} {C f a dx : Addr} {fs : List (Str × V)} {fd : FuncData} {ps : List Str} {Rel : Addr → Hp → Str → Prop} {E : XK} {t : Str} (F : FnOk X.prog X.w X.K X.mg X.base CX k f fd ps (spRp Rel))
    (hs : PySem.W.findIn X.K (.ref C) "__repr__" = some (some (.ref f))) (hf : PySem.W.isFn X.K (.ref f) = true) (hb : Binds X.K fd ps []) (hx : Passes CX X E) (hroom : Room (k + 1) X.A) {pins : List (Addr × Obj)} {σ : L2.St} {H : Hp} {s : Shared} (I : L2.Inv X pins σ H s) (ha : H a = some (.ins C dx fs)) (hr : Rel a H t) :
    wpAny (model X.prog X.w) X.A (call (.builtin "repr") [.ref a]) (RpEnd X pins σ H t) X.xe s := by
  obtain ⟨mA, J, _⟩ := ins_get I.hok ha
  obtain ⟨od, J, _⟩ := J.look
  obtain ⟨m, hF⟩ := I.fr
  refine PySem.W.repr_K (by have := hroom.un; show X.A.units + 1 < cLine; omega) hF I.ok.mod.kin J hs hf (wpAny_mono (call_own F hb hx ⟨hroom.in1, rfl⟩ I hr) (fun v s' hv => ?_) fun _ _ y => y)
  obtain ⟨u, rfl, H', I', ex⟩ := hv
  exact ⟨u, rfl, H', I', ex⟩
/-! tuples -/
section
variable {X : Cx} {n : Nat} {H0 : Hp} {Cl : ClT} {a : Addr}
theorem rp_tupFold {A : Around} {g : List Code} {pins : List (Addr × Obj)} {σ : L2.St} {m : Nat} (sb : L2.Sub X n A) (hg : A.guards = some g) (hcl : Grd Cl g m) : ∀ (l : List Value) (xs : List V) (ts : List Str) (acc : Array Str) (k : Nat) (s : Shared) (H : Hp) (Q : (Array Str × Nat) → Shared → Prop), Vals xs l → ts.length = xs.length →
    (∀ (i : Nat) x t, xs[i]? = some x → ts[i]? = some t → RpG X n H0 Cl x t) → (∀ t ∈ ts, t.length ≤ m) → k + piled ts ≤ sizeLine → L2.Inv X pins σ H s → Same H0 H →
    (∀ s' H', L2.Inv X pins σ H' s' → Same H H' → Q ⟨acc ++ ts.toArray, k + piled ts⟩ s') →
    wpAny (model X.prog X.w) A (forIn l (⟨acc, k⟩ : (Array Str × Nat)) tupBody) Q X.xe s := by
  intro l
  induction l with
  | nil =>
    intro xs ts acc k s H Q rv hlen hT hm hz I sm h
    cases rv
    have e1 : ts = [] := List.length_eq_zero_iff.mp (by simpa using hlen)
    subst e1
    have h0 := h s H I (Same.refl _)
    simp only [List.forIn_nil]
    exact wpAny_pure (by simpa [piled] using h0)
  | cons u l ih =>
    intro xs ts acc k s H Q rv hlen hT hm hz I sm h
    cases rv with
    | cons ru rv =>
      rename_i x xs
      cases ts with
      | nil => simp at hlen
      | cons t ts =>
        rw [piled_cons] at hz
        rw [List.forIn_cons]
        have hlt := hm t List.mem_cons_self
        refine wpAny_bind (wpAny_bind (wpAny_mono (hT 0 x t rfl rfl A pins s σ H u g (k + 1) sb hg (fun b q hb hq => hcl b q hb (by omega)) (by omega) I sm ru) (fun r s1 hr => ?_) fun _ _ e => e))
        obtain ⟨rfl, H1, I1, s01⟩ := hr
        refine wpAny_pure ?_
        refine ih xs ts (acc.push r) (k + (r.length + 2)) s1 H1 Q rv (by simpa using hlen) (fun i x t h1 h2 => hT (i + 1) x t (by simpa using h1) (by simpa using h2)) (fun t ht => hm t (List.mem_cons_of_mem _ ht)) (by omega) I1 (sm.trans s01) fun s' H' I' sm' => ?_
        have h1 := h s' H' I' (s01.trans sm')
        have e : k + piled (r :: ts) = k + (r.length + 2) + piled ts := by rw [piled_cons]; omega
        rw [e] at h1
        simpa using h1
theorem rp_tupAt (fn : ∀ b k k', Cl b k → Cl b k' → k = k') {xs : List V} {ts : List Str} (ha : H0 a = some (.tup xs)) (hca : Cl a (tupleText ts).length) (hlen : ts.length = xs.length) (hT : ∀ (i : Nat) x t, xs[i]? = some x → ts[i]? = some t → RpG X n H0 Cl x t)
    {A : Around} {g : List Code} {base : Nat} {pins : List (Addr × Obj)} {σ : L2.St} {H : Hp} {s : Shared} {id : String} {rest : List Value} (sb : L2.Sub X n (A.under (.builtin id ⟨.ref a :: rest, []⟩))) (hcg : (Code.builtin id ⟨.ref a :: rest, []⟩).isGuard = true) (hg : A.guards = some g) (hcl : Grd Cl g (tupleText ts).length) (hsz : base + (tupleText ts).length ≤ sizeLine) (I : L2.Inv X pins σ H s) (sm : Same H0 H) :
    wpOwn (model X.prog X.w) A (.builtin id ⟨.ref a :: rest, []⟩) (Builtin.tupleReprAt base ⟨[.ref a], []⟩) (fun fin s' => match fin with | .done f => callEnd (RpEnd X pins σ H (tupleText ts)) X.xe (.ok f) s' | .again c' => c'.quiet = true ∧ codeAny (model X.prog X.w) A c' (callEnd (RpEnd X pins σ H (tupleText ts)) X.xe) s') (fun e s' => callEnd (RpEnd X pins σ H (tupleText ts)) X.xe (.error e) s') s := by
  have hc0 : Clear g a := hcl a _ hca (Nat.le_refl _)
  have hp := piled_le_tupleText ts
  have hsz0 : (tupleText ts).length ≤ sizeLine := by omega
  obtain ⟨its, rv, he, hz⟩ := I.tuple (.inl (.inl (sm _ _ ha)) : SqT X.K H a xs)
  have he' := he
  obtain ⟨o, ho, hoc, nn, hod⟩ := he'
  rw [tuple_repr_tree, tupleReprUnderWay_eq]
  refine wpOwn_bind (wpOwn_stackTailAny hg (tupGuardF_off _) (tupGuardF_pos _) ?_)
  have hn : (g.any fun c => tupGuardF (.ref a) (c, default)) = false := by
    rw [List.any_eq_false]
    intro c hcm
    rw [tupGuardF_of_clear hc0 c hcm]
    exact Bool.false_ne_true
  rw [hn]
  refine wpOwn_of_wpAny ?_
  show wpAny _ _ (tupleReprRest base (.ref a)) _ _ s
  unfold tupleReprRest Builtin.Tuple.tupleItemsOf
  refine wpAny_bind (wpAny_bind (wpAny_seqItems ho hod (wpAny_pure ?_)))
  rw [← Array.forIn_toList]
  have pm : ∀ {ts : List Str} {t : Str}, t ∈ ts → t.length + 2 ≤ piled ts := fun {ts t} ht => by
    induction ts with
    | nil => cases ht
    | cons y r ih =>
      rw [piled_cons]
      rcases List.mem_cons.mp ht with e | e
      · rw [e]; omega
      · have := ih e; omega
  refine wpAny_bind (rp_tupFold (m := (tupleText ts).length - 1) (g := .builtin id ⟨.ref a :: rest, []⟩ :: g) sb (guards_under_guard hcg hg) (fun b q hb hq => ?_) its xs ts _ _ s H _ (by simpa using rv) hlen hT (fun t ht => by have := pm ht; omega) (by omega) I sm fun s' H' I' sm' => ?_)
  · have lpos : 1 ≤ (tupleText ts).length := by
      unfold tupleText
      rw [strLen_append, strLen_append]
      have e1 : ((("(" : String) : Str)).length = 1 := rfl
      omega
    exact (hcl b q hb (by omega)).cons (a := a) fun e => by
      subst e
      have := fn _ _ _ hca hb
      omega
  refine wpAny_bind (wpAny_mkStr (wpAny_pure ?_) ?_)
  · refine ⟨s'.toks, ?_, H', I'.tok _, sm'⟩
    have lz : its.length = ts.length := by rw [hlen, rv.length]
    simp [tupleText, lz]
  · have lz : its.length = ts.length := by rw [hlen, rv.length]
    have e : (tupleText ts) = (("(" : Str) ++ Str.join ", " ts ++ (if ts.length == 1 then ",)" else ")" : String)) := rfl
    rw [e] at hsz0
    simpa [lz] using hsz0
theorem RpG.tup (fn : ∀ b k k', Cl b k → Cl b k' → k = k') {xs : List V} {ts : List Str} (ha : H0 a = some (.tup xs)) (hca : Cl a (tupleText ts).length) (hlen : ts.length = xs.length) (hT : ∀ (i : Nat) x t, xs[i]? = some x → ts[i]? = some t → RpG X n H0 Cl x t) : RpG X (n + 1) H0 Cl (.ref a) (tupleText ts) := by
  intro A pins s σ H u g base sb hg hcl hsz I sm r
  cases r
  obtain ⟨its, rv, he, hz⟩ := I.tuple (.inl (.inl (sm _ _ ha)) : SqT X.K H a xs)
  obtain ⟨o, ho, hoc, nn, hod⟩ := he
  refine wpAny_pyReprUnder_ref (by omega) (wpAny_pyReprObjUnder_twin (twin := "tuple.__repr__.under") ⟨o, ho, hoc⟩ F.slot_tuple_repr rfl sb.room.units0
    (wpAny_mono (call_twin_own (F.quiet_tuple_repr_under _) F.entry_tuple_repr_under F.check_tuple_repr_under ⟨o, ho, hoc⟩ F.slot_tuple_repr (F.args_tuple_repr_1 _)
      (rp_tupAt fn ha hca hlen hT (sub_guard sb (depth_tuple_under _ _) (units_under_tuple_repr_under _ _) (frames_tuple_under _ _)) (isGuard_tuple_repr_under _) hg hcl hsz I sm)) (fun v s' hv => ?_) fun e s' h => h))
  obtain ⟨u, rfl, q⟩ := hv
  exact ⟨⟨_, u, rfl⟩, _, u, rfl, rfl, q⟩
theorem call_tuple_reprG (fn : ∀ b k k', Cl b k → Cl b k' → k = k') {xs : List V} {ts : List Str} (ha : H0 a = some (.tup xs)) (hca : Cl a (tupleText ts).length) (hlen : ts.length = xs.length) (hT : ∀ (i : Nat) x t, xs[i]? = some x → ts[i]? = some t → RpG X n H0 Cl x t)
    {A : Around} {g : List Code} {pins : List (Addr × Obj)} {σ : L2.St} {H : Hp} {s : Shared} (sb : L2.Sub X (n + 1) A) (hg : A.guards = some g) (hcl : Grd Cl g (tupleText ts).length) (hsz : (tupleText ts).length ≤ sizeLine) (I : L2.Inv X pins σ H s) (sm : Same H0 H) :
    wpAny (model X.prog X.w) A (call (.builtin "tuple.__repr__") [.ref a]) (RpEnd X pins σ H (tupleText ts)) X.xe s := by
  obtain ⟨its, rv, he, hz⟩ := I.tuple (.inl (.inl (sm _ _ ha)) : SqT X.K H a xs)
  obtain ⟨o, ho, hoc, nn, hod⟩ := he
  exact wpAny_call (codeAny_call_builtin_own (Code.quiet_builtin _ (by decide +kernel)) F.entry_tuple_repr (F.slot_tuple_repr.check _ _ _ _ _ _ _ _ ⟨o, ho, hoc⟩ (F.args_tuple_repr_1 _)
    (rp_tupAt (base := 0) fn ha hca hlen hT (sub_guard sb (depth_tuple_repr _ _) (units_under_tuple_repr _ _) (frames_tuple_repr _ _)) (isGuard_tuple_repr _) hg hcl (by omega) I sm)))
end
/-! what is shown how -/
/-- a ratio: an instance of the class at C with these two numbers -/
def Rat2 (C : Addr) (H : Hp) (a : Addr) (p q : Int) : Prop := ∃ dx, H a = some (.ins C dx [("_top", .int p), ("_bottom", .int q)])
theorem Rat2.same {C : Addr} {H H' : Hp} {a : Addr} {p q : Int} (h : Rat2 C H a p q) (e : Same H H') : Rat2 C H' a p q := let ⟨dx, h⟩ := h; ⟨dx, e _ _ h⟩
def ratText (p q : Int) : Str := Str.ofString "Ratio(" ++ Str.ofString (toString p) ++ Str.ofString ", " ++ Str.ofString (toString q) ++ Str.ofString ")"
def dEnt (p : Int × Int) : Str := Str.ofString (toString p.1) ++ ": " ++ Str.ofString (toString p.2)
abbrev okI (i : Int) : Prop := i.natAbs.log2 < 1920
abbrev okS (i : Int) : Prop := i.natAbs < 10 ^ 50
theorem okS.ok {i : Int} (h : okS i) : okI i := by
  show i.natAbs.log2 < 1920
  by_cases z : i.natAbs = 0
  · rw [z]; decide
  · refine (Nat.log2_lt z).mpr (Nat.lt_of_lt_of_le h ?_)
    exact Nat.le_trans (by decide : 10 ^ 50 ≤ 2 ^ 167) (Nat.pow_le_pow_right (by omega) (by omega))
/-- lowest terms -/
def RdI (p q : Int) : Prop := 0 < q ∧ Nat.gcd p.natAbs q.natAbs = 1
theorem rdI_one (p : Int) : RdI p 1 := ⟨by decide, by show Nat.gcd p.natAbs 1 = 1; exact Nat.gcd_one_right _⟩
inductive Sh (C : Addr) (H : Hp) : Nat → V → Str → Prop
  | int {d : Nat} {i : Int} (h : okS i) : Sh C H d (.int i) (Str.ofString (toString i))
  | bl {d : Nat} (b : Bool) : Sh C H d (.bl b) (if b = true then Str.ofString "True" else Str.ofString "False")
  | non {d : Nat} : Sh C H d .non "None"
  | str {d : Nat} (x : Str) (h : (reprText x).length ≤ 3900) : Sh C H d (.str x) (reprText x)
  | own {d : Nat} {a : Addr} {p q : Int} : Rat2 C H a p q → okS p → okS q → RdI p q → Sh C H d (.ref a) (ratText p q)
  | lst {d : Nat} {a : Addr} {xs : List V} {ts : List Str} : H a = some (.lst xs) → xs.length ≤ 61 → ts.length = xs.length → (∀ (i : Nat) x t, xs[i]? = some x → ts[i]? = some t → Sh C H d x t) → Sh C H (d + 1) (.ref a) (listText ts)
  | tup {d : Nat} {a : Addr} {xs : List V} {ts : List Str} : H a = some (.tup xs) → xs.length ≤ 61 → ts.length = xs.length → (∀ (i : Nat) x t, xs[i]? = some x → ts[i]? = some t → Sh C H d x t) → Sh C H (d + 1) (.ref a) (tupleText ts)
  | dct {d : Nat} {a : Addr} {ds : List (Int × Int)} : H a = some (.dK (ds.map fun p => (.inl p.1, .int p.2))) → ds.length ≤ 61 → (∀ p ∈ ds, okI p.1 ∧ okI p.2) → Sh C H (d + 1) (.ref a) (dictText (ds.map dEnt))
  | dcl {d : Nat} {a b : Addr} {k : Int} {ns : List Int} : H a = some (.dK [(.inl k, .ref b)]) → H b = some (.lst (ns.map V.int)) → ns.length ≤ 61 → okI k → (∀ x ∈ ns, okS x) →
      Sh C H (d + 2) (.ref a) (dictText [Str.ofString (toString k) ++ ": " ++ listText (ns.map fun x => Str.ofString (toString x))])
theorem Sh.same {C : Addr} {H H' : Hp} {d : Nat} {x : V} {t : Str} (h : Sh C H d x t) (e : Same H H') : Sh C H' d x t := by
  induction h with
  | int h => exact .int h
  | bl b => exact .bl b
  | non => exact .non
  | str x h => exact .str x h
  | own r h1 h2 h3 => exact .own (r.same e) h1 h2 h3
  | lst h1 h0 h2 _ ih => exact .lst (e _ _ h1) h0 h2 ih
  | tup h1 h0 h2 _ ih => exact .tup (e _ _ h1) h0 h2 ih
  | dct h1 h0 h2 => exact .dct (e _ _ h1) h0 h2
  | dcl h1 h2 h3 h4 h5 => exact .dcl (e _ _ h1) (e _ _ h2) h3 h4 h5
theorem dk_inj : ∀ {ds es : List (Int × Int)}, (ds.map fun p => ((.inl p.1 : Key), V.int p.2)) = es.map (fun p => ((.inl p.1 : Key), V.int p.2)) → ds = es
  | [], [], _ => rfl
  | [], _ :: _, h => by cases h
  | _ :: _, [], h => by cases h
  | (a, b) :: ds, (c, d) :: es, h => by
    rw [List.map_cons, List.map_cons] at h
    injection h with h1 h2
    injection h1 with h3 h4
    injection h3 with h5
    injection h4 with h6
    rw [show a = c from h5, show b = d from h6, dk_inj h2]
theorem dk_ne {ds : List (Int × Int)} {k : Int} {b : Addr} (h : (ds.map fun p => ((.inl p.1 : Key), V.int p.2)) = [((.inl k : Key), V.ref b)]) : False := by
  cases ds with
  | nil => cases h
  | cons p r =>
    rw [List.map_cons] at h
    injection h with h1 _
    injection h1 with _ h2
    cases h2
theorem vint_inj : ∀ {ns ms : List Int}, ns.map V.int = ms.map V.int → ns = ms
  | [], [], _ => rfl
  | [], _ :: _, h => by cases h
  | _ :: _, [], h => by cases h
  | n :: ns, m :: ms, h => by
    rw [List.map_cons, List.map_cons] at h
    injection h with h1 h2
    injection h1 with h3
    rw [h3, vint_inj h2]
theorem Sh.fn {C : Addr} {H : Hp} {d : Nat} {x : V} {t : Str} (h : Sh C H d x t) : ∀ {d' : Nat} {t' : Str}, Sh C H d' x t' → t = t' := by
  induction h with
  | int h => intro d' t' g; cases g; rfl
  | bl b => intro d' t' g; cases g; rfl
  | non => intro d' t' g; cases g; rfl
  | str x _ => intro d' t' g; cases g; rfl
  | own r _ _ _ =>
    intro d' t' g
    obtain ⟨dx, r⟩ := r
    cases g with
    | own r2 =>
      obtain ⟨dx2, r2⟩ := r2
      rw [r] at r2
      injection r2 with r2
      injection r2 with _ _ z
      injection z with z1 z2
      injection z1 with _ z3
      injection z3 with z3
      injection z2 with z2 _
      injection z2 with _ z4
      injection z4 with z4
      rw [z3, z4]
    | lst h1 => rw [r] at h1; cases h1
    | tup h1 => rw [r] at h1; cases h1
    | dct h1 => rw [r] at h1; cases h1
    | dcl h1 => rw [r] at h1; cases h1
  | lst h1 h0 h2 h3 ih =>
    intro d' t' g
    cases g with
    | own r2 => obtain ⟨dx2, r2⟩ := r2; rw [h1] at r2; cases r2
    | lst g1 g0 g2 g3 =>
      rw [h1] at g1; cases g1
      congr 1
      refine List.ext_getElem (by rw [h2, g2]) fun i a b => ?_
      have hx := List.getElem?_eq_getElem (show i < _ from h2 ▸ a)
      exact ih i _ _ hx (List.getElem?_eq_getElem a) (g3 i _ _ hx (List.getElem?_eq_getElem b))
    | tup g1 => rw [h1] at g1; cases g1
    | dct g1 => rw [h1] at g1; cases g1
    | dcl g1 => rw [h1] at g1; cases g1
  | tup h1 h0 h2 h3 ih =>
    intro d' t' g
    cases g with
    | own r2 => obtain ⟨dx2, r2⟩ := r2; rw [h1] at r2; cases r2
    | tup g1 g0 g2 g3 =>
      rw [h1] at g1; cases g1
      congr 1
      refine List.ext_getElem (by rw [h2, g2]) fun i a b => ?_
      have hx := List.getElem?_eq_getElem (show i < _ from h2 ▸ a)
      exact ih i _ _ hx (List.getElem?_eq_getElem a) (g3 i _ _ hx (List.getElem?_eq_getElem b))
    | lst g1 => rw [h1] at g1; cases g1
    | dct g1 => rw [h1] at g1; cases g1
    | dcl g1 => rw [h1] at g1; cases g1
  | dct h1 h0 h2 =>
    intro d' t' g
    cases g with
    | own r2 => obtain ⟨dx2, r2⟩ := r2; rw [h1] at r2; cases r2
    | lst g1 => rw [h1] at g1; cases g1
    | tup g1 => rw [h1] at g1; cases g1
    | dct g1 =>
      rw [h1] at g1
      injection g1 with g1
      injection g1 with g1
      rw [dk_inj g1]
    | dcl g1 =>
      rw [h1] at g1
      injection g1 with g1
      injection g1 with g1
      exact (dk_ne g1).elim
  | dcl h1 h2 h3 h4 h5 =>
    intro d' t' g
    cases g with
    | own r2 => obtain ⟨dx2, r2⟩ := r2; rw [h1] at r2; cases r2
    | lst g1 => rw [h1] at g1; cases g1
    | tup g1 => rw [h1] at g1; cases g1
    | dct g1 =>
      rw [h1] at g1
      injection g1 with g1
      injection g1 with g1
      exact (dk_ne g1.symm).elim
    | dcl g1 g2 g3 g4 g5 =>
      rw [h1] at g1
      injection g1 with g1
      injection g1 with g1
      injection g1 with g1 _
      injection g1 with ga gb
      injection ga with ga
      injection gb with gb
      subst gb
      rw [h2] at g2
      injection g2 with g2
      injection g2 with g2
      rw [show _ = _ from ga, vint_inj g2]
def ShCl (C : Addr) (H : Hp) : ClT := fun a m => ∃ d t, Sh C H d (.ref a) t ∧ t.length = m
theorem shcl_fn (C : Addr) (H : Hp) : ∀ b k k', ShCl C H b k → ShCl C H b k' → k = k' := fun b k k' ⟨d, t, h, e⟩ ⟨d', t', h', e'⟩ => by rw [← e, ← e', h.fn h']
/-! a dict of ints -/
theorem ents_of {P : Program} {w : World} {h₀ : Heap} : ∀ {ds : List (Int × Int)} {es : List DictEntry} {vs : List (Key × Value)}, Pairs (mixKind P w) es vs → KV (ds.map fun p => ((.inl p.1 : Key), V.int p.2)) vs → (∀ p ∈ ds, okI p.1 ∧ okI p.2) →
    ReprEntriesK P w [] h₀ 0 es (ds.map dEnt)
  | [], _, _, hp, hk, _ => by
    cases hk
    cases hp
    exact .nil
  | p :: ds, _, _, hp, hk, hb => by
    cases hk with
    | cons r hk =>
      cases hp with
      | cons k1 k2 hp =>
        obtain ⟨r1, r2⟩ := r
        obtain ⟨b1, b2⟩ := hb p List.mem_cons_self
        have k1' : keyIs _ _ = true := k1
        rw [← r1] at k1'
        rcases keyIs_shape k1' with ⟨i, t, e, e2⟩ | ⟨x, t, e, _⟩
        · obtain rfl : p.1 = i := by injection e
          obtain ⟨u, hu⟩ := (show ∃ u, _ = Value.int p.2 u from r2)
          refine .cons (k := Str.ofString (toString p.1)) (v := Str.ofString (toString p.2)) ?_ ?_ (ents_of hp hk fun q hq => hb q (List.mem_cons_of_mem _ hq))
          · rw [e2]; exact .of_is (ReprIs.int t b1) _ _ _
          · rw [k2, hu]; exact .of_is (ReprIs.int u b2) _ _ _
        · cases e
section
variable {X : Cx} {n : Nat} {H0 : Hp} {Cl : ClT} {a : Addr} {ds : List (Int × Int)}
theorem RpG.dict (ha : H0 a = some (.dK (ds.map fun p => (.inl p.1, .int p.2)))) (hca : Cl a (dictText (ds.map dEnt)).length) (hb : ∀ p ∈ ds, okI p.1 ∧ okI p.2) : RpG X (n + 1) H0 Cl (.ref a) (dictText (ds.map dEnt)) := by
  intro A pins s σ H u g base sb hg hcl hsz I sm r
  cases r
  obtain ⟨_, hsys, vs, kv, o, es, ep, he, hex, hd, _, hp, _⟩ := I.hok a _ (sm _ _ ha)
  refine wpAny_pyReprUnder_ref (by omega) (wpAny_pyReprObjUnder_dictK (as := []) (h₀ := s.heap) (d := 0) he hex.1 hd hsys (by simp) (ents_of hp kv hb) hg (fun b hb => ?_) (by have := sb.room.un; omega) (fun _ _ e => e) (fun h' u tk hk => ⟨_, u, rfl, rfl, H, I.kept (t' := tk) hk, Same.refl _⟩) hsz)
  rw [List.mem_singleton.mp hb]
  exact hcl a _ hca (Nat.le_refl _)
theorem call_dict_reprG (ha : H0 a = some (.dK (ds.map fun p => (.inl p.1, .int p.2)))) (hca : Cl a (dictText (ds.map dEnt)).length) (hb : ∀ p ∈ ds, okI p.1 ∧ okI p.2)
    {A : Around} {g : List Code} {pins : List (Addr × Obj)} {σ : L2.St} {H : Hp} {s : Shared} (sb : L2.Sub X (n + 1) A) (hg : A.guards = some g) (hcl : Grd Cl g (dictText (ds.map dEnt)).length) (hsz : (dictText (ds.map dEnt)).length ≤ sizeLine) (I : L2.Inv X pins σ H s) (sm : Same H0 H) :
    wpAny (model X.prog X.w) A (call (.builtin "dict.__repr__") [.ref a]) (RpEnd X pins σ H (dictText (ds.map dEnt))) X.xe s := by
  obtain ⟨_, hsys, vs, kv, o, es, ep, he, hex, hd, _, hp, _⟩ := I.hok a _ (sm _ _ ha)
  refine call_dict_reprK (as := []) (h₀ := s.heap) (d := 0) he hex.1 hd hsys (by simp) (ents_of hp kv hb) hg (fun b hb => ?_) (by have := sb.room.un; omega) (fun _ _ e => e) (fun h' u tk hk => ⟨u, rfl, H, I.kept (t' := tk) hk, Same.refl _⟩) hsz
  rw [List.mem_singleton.mp hb]
  exact hcl a _ hca (Nat.le_refl _)
end
/-! a dict of one list of ints -/
theorem dl_le {k : Int} {ns : List Int} : (listText (ns.map fun x => Str.ofString (toString x))).length ≤ (dictText [Str.ofString (toString k) ++ ": " ++ listText (ns.map fun x => Str.ofString (toString x))]).length := by
  unfold dictText
  rw [strLen_append, strLen_append]
  have : (Str.join ", " [Str.ofString (toString k) ++ ": " ++ listText (ns.map fun x => Str.ofString (toString x))]) = Str.ofString (toString k) ++ ": " ++ listText (ns.map fun x => Str.ofString (toString x)) := rfl
  rw [this, strLen_append, strLen_append]
  omega
section
variable {X : Cx} {n : Nat} {H0 : Hp} {Cl : ClT} {a b : Addr} {k : Int} {ns : List Int}
abbrev dlTxt (ns : List Int) : Str := listText (ns.map fun x => Str.ofString (toString x))
abbrev dlText (k : Int) (ns : List Int) : Str := dictText [Str.ofString (toString k) ++ ": " ++ dlTxt ns]
theorem dl_ents {pins : List (Addr × Obj)} {σ : L2.St} {H : Hp} {s : Shared} (I : L2.Inv X pins σ H s) (hb : H b = some (.lst (ns.map V.int))) (ok : okI k) (on : ∀ x ∈ ns, okI x) {es : List DictEntry} {vs : List (Key × Value)}
    (hp : Pairs (mixKind X.prog X.w) es vs) (hk : KV [((.inl k : Key), V.ref b)] vs) : ReprEntriesK X.prog X.w [b] s.heap 1 es [Str.ofString (toString k) ++ ": " ++ dlTxt ns] := by
  obtain ⟨_, its, na, rv, hl, he⟩ := I.lstM hb
  cases hk with
  | cons r hk =>
    cases hk
    cases hp with
    | cons k1 k2 hp =>
      cases hp
      obtain ⟨r1, r2⟩ := r
      have k1' : keyIs _ _ = true := k1
      rw [← r1] at k1'
      have kb : ReprK X.prog X.w [b] s.heap 1 (.ref b) (dlTxt ns) := by
        have l0 : its.length = ns.length := by rw [← hl]; simp
        have at_ : ∀ (i : Nat) (y : Value), its[i]? = some y → ∃ z u, ns[i]? = some z ∧ y = .int z u := fun i y hy => by
          have li := (List.getElem?_eq_some_iff.mp hy).1
          obtain ⟨z, hz⟩ : ∃ z, ns[i]? = some z := ⟨_, List.getElem?_eq_getElem (l0 ▸ li)⟩
          obtain ⟨u, hu, ru⟩ := rv.get (i := i) (x := V.int z) (by rw [List.getElem?_map, hz]; rfl)
          rw [hu] at hy
          obtain ⟨u2, e⟩ := (show ∃ t, u = Value.int z t from ru)
          exact ⟨z, u2, hz, by rw [← Option.some.inj hy]; exact e⟩
        cases its with
        | nil =>
          have e0 : ns = [] := List.length_eq_zero_iff.mp (by simpa using l0.symm)
          subst e0
          exact ReprK.listEmpty he rfl rfl
        | cons x l =>
          refine ReprK.list (as := []) (d := 0) he rfl rfl (by simp) (by rw [List.length_map, List.size_toArray]; exact l0.symm) fun i y hy => ?_
          obtain ⟨z, u, hz, rfl⟩ := at_ i y (by simpa using hy)
          exact ⟨_, by rw [List.getElem?_map, hz]; rfl, .of_is (ReprIs.int u (on z (List.mem_of_getElem? hz))) _ _ _⟩
      rcases keyIs_shape k1' with ⟨i, t, e, e2⟩ | ⟨x, t, e, _⟩
      · obtain rfl : k = i := by injection e
        refine .cons (k := Str.ofString (toString k)) (v := dlTxt ns) ?_ ?_ .nil
        · rw [e2]; exact .of_is (ReprIs.int t ok) _ _ _
        · rw [k2, show _ = Value.ref b from r2]; exact kb
      · cases e
theorem RpG.dictL (ha : H0 a = some (.dK [(.inl k, .ref b)])) (hb : H0 b = some (.lst (ns.map V.int))) (hca : Cl a (dlText k ns).length) (hcb : Cl b (dlTxt ns).length) (ok : okI k) (on : ∀ x ∈ ns, okI x) : RpG X (n + 2) H0 Cl (.ref a) (dlText k ns) := by
  intro A pins s σ H u g base sb hg hcl hsz I sm r
  cases r
  obtain ⟨_, hsys, vs, kv, o, es, ep, he, hex, hd, _, hp, _⟩ := I.hok a _ (sm _ _ ha)
  have ne : a ≠ b := fun z => by rw [z, hb] at ha; cases ha
  have lt : (dlTxt ns).length ≤ (dlText k ns).length := dl_le
  refine wpAny_pyReprUnder_ref (by omega) (wpAny_pyReprObjUnder_dictK (as := [b]) (h₀ := s.heap) (d := 1) he hex.1 hd hsys (by simp [ne]) (dl_ents I (sm _ _ hb) ok on hp kv) hg (fun c hc => ?_) (by have := sb.room.un; omega) (fun _ _ e => e) (fun h' u tk hk => ⟨_, u, rfl, rfl, H, I.kept (t' := tk) hk, Same.refl _⟩) hsz)
  rcases List.mem_cons.mp hc with z | z
  · rw [z]; exact hcl a _ hca (Nat.le_refl _)
  · rw [List.mem_singleton.mp z]; exact hcl b _ hcb lt
theorem call_dictL (ha : H0 a = some (.dK [(.inl k, .ref b)])) (hb : H0 b = some (.lst (ns.map V.int))) (hca : Cl a (dlText k ns).length) (hcb : Cl b (dlTxt ns).length) (ok : okI k) (on : ∀ x ∈ ns, okI x)
    {A : Around} {g : List Code} {pins : List (Addr × Obj)} {σ : L2.St} {H : Hp} {s : Shared} (sb : L2.Sub X (n + 2) A) (hg : A.guards = some g) (hcl : Grd Cl g (dlText k ns).length) (hsz : (dlText k ns).length ≤ sizeLine) (I : L2.Inv X pins σ H s) (sm : Same H0 H) :
    wpAny (model X.prog X.w) A (call (.builtin "dict.__repr__") [.ref a]) (RpEnd X pins σ H (dlText k ns)) X.xe s := by
  obtain ⟨_, hsys, vs, kv, o, es, ep, he, hex, hd, _, hp, _⟩ := I.hok a _ (sm _ _ ha)
  have ne : a ≠ b := fun z => by rw [z, hb] at ha; cases ha
  have lt : (dlTxt ns).length ≤ (dlText k ns).length := dl_le
  refine call_dict_reprK (as := [b]) (h₀ := s.heap) (d := 1) he hex.1 hd hsys (by simp [ne]) (dl_ents I (sm _ _ hb) ok on hp kv) hg (fun c hc => ?_) (by have := sb.room.un; omega) (fun _ _ e => e) (fun h' u tk hk => ⟨u, rfl, H, I.kept (t' := tk) hk, Same.refl _⟩) hsz
  rcases List.mem_cons.mp hc with z | z
  · rw [z]; exact hcl a _ hca (Nat.le_refl _)
  · rw [List.mem_singleton.mp z]; exact hcl b _ hcb lt
end
/-- how the own class is shown -/
structure OwnRp (X : Cx) (C : Addr) (k : Nat) : Prop where
  go : ∀ (H0 : Hp) (Cl : ClT) (a : Addr) (p q : Int), Rat2 C H0 a p q → okI p → okI q → RpG X k H0 Cl (.ref a) (ratText p q)
  top : ∀ (pins : List (Addr × Obj)) (s : Shared) (σ : L2.St) (H : Hp) (a : Addr) (p q : Int), L2.Inv X pins σ H s → Rat2 C H a p q → okI p → okI q → wpAny (model X.prog X.w) X.A (call (.builtin "repr") [.ref a]) (RpEnd X pins σ H (ratText p q)) X.xe s
theorem Sh.ints {C : Addr} {H : Hp} {d : Nat} {a : Addr} {ns : List Int} (h : H a = some (.lst (ns.map V.int))) (l : ns.length ≤ 61) (ok : ∀ x ∈ ns, okS x) : Sh C H (d + 1) (.ref a) (listText (ns.map fun x => Str.ofString (toString x))) :=
  .lst h (by rw [List.length_map]; exact l) (by rw [List.length_map, List.length_map]) fun i x t e1 e2 => by
    rw [List.getElem?_map] at e1 e2
    obtain ⟨z, hz, rfl⟩ := Option.map_eq_some_iff.mp e1
    rw [hz] at e2
    cases e2
    exact .int (ok z (List.mem_of_getElem? hz))
theorem Sh.rp {X : Cx} {C : Addr} {k : Nat} (O : OwnRp X C k) {H0 : Hp} {d : Nat} {x : V} {t : Str} (h : Sh C H0 d x t) : t.length ≤ sizeLine → RpG X (k + d) H0 (ShCl C H0) x t := by
  induction h with
  | @int d i h =>
    intro _
    refine RpG.is fun u r => ?_
    obtain ⟨t, rfl⟩ := r
    exact ReprIs.int t h.ok
  | bl b =>
    intro _
    refine RpG.is fun u r => ?_
    cases r
    exact ReprIs.bool b
  | non =>
    intro _
    refine RpG.is fun u r => ?_
    cases r
    exact ReprIs.none
  | str x _ =>
    intro hz
    refine RpG.is fun u r => ?_
    obtain ⟨t, rfl⟩ := r
    exact ReprIs.str x t hz
  | own r b1 b2 _ => exact fun hz => (O.go _ _ _ _ _ r b1.ok b2.ok).mono (Nat.le_add_right _ _)
  | @lst d a xs ts h1 h0 h2 h3 ih =>
    intro hz
    have hp := piled_le_listText ts
    refine RpG.list (shcl_fn C H0) h1 ⟨_, _, Sh.lst h1 h0 h2 h3, rfl⟩ h2 fun i x t e1 e2 => ih i x t e1 e2 ?_
    have : t.length + 2 ≤ piled ts := by
      have := piled_take_succ e2
      have := piled_take_le ts (i + 1)
      omega
    omega
  | @tup d a xs ts h1 h0 h2 h3 ih =>
    intro hz
    have hp := piled_le_tupleText ts
    refine RpG.tup (shcl_fn C H0) h1 ⟨_, _, Sh.tup h1 h0 h2 h3, rfl⟩ h2 fun i x t e1 e2 => ih i x t e1 e2 ?_
    have : t.length + 2 ≤ piled ts := by
      have := piled_take_succ e2
      have := piled_take_le ts (i + 1)
      omega
    omega
  | @dct d a ds h1 h0 h2 => exact fun _ => RpG.dict h1 ⟨d + 1, _, Sh.dct h1 h0 h2, rfl⟩ h2
  | @dcl d a b k ns h1 h2 h3 h4 h5 => exact fun _ => RpG.dictL h1 h2 ⟨d + 2, _, Sh.dcl h1 h2 h3 h4 h5, rfl⟩ ⟨d + 1, _, Sh.ints h2 h3 h5, rfl⟩ h4 fun x hx => (h5 x hx).ok
theorem listText_le (ts : List Str) : (listText ts).length ≤ piled ts + 2 := by
  cases ts with
  | nil => decide
  | cons t r =>
    have h := textFrom_length_pos r 1 (("[" : Str) ++ (if (0 : Nat) > 0 then ", " else "" : String) ++ t) (Nat.succ_pos 0)
    have e : ((("[" : Str) ++ (if (0 : Nat) > 0 then ", " else "" : String) ++ t)).length = 1 + t.length := by
      rw [strLen_append, strLen_append]; rfl
    have hX : (listText (t :: r)).length = (textFrom 0 "[" (t :: r)).length + 1 := by
      show (textFrom 0 "[" (t :: r) ++ "]").length = _
      rw [strLen_append]; rfl
    have hY : (textFrom 0 "[" (t :: r)).length = (textFrom 1 (("[" : Str) ++ (if (0 : Nat) > 0 then ", " else "" : String) ++ t) r).length := rfl
    rw [hX, hY, h, e, piled_cons]; omega
theorem join_le (ts : List Str) : (Str.join ", " ts).length ≤ piled ts := by
  cases ts with
  | nil => decide
  | cons t r => have := join_length_add (t :: r) (by simp); omega
theorem tupleText_le (ts : List Str) : (tupleText ts).length ≤ piled ts + 3 := by
  have := join_le ts
  unfold tupleText
  rw [strLen_append, strLen_append]
  have e1 : ((("(" : String) : Str)).length = 1 := rfl
  have e3 : (((if ts.length == 1 then ",)" else ")" : String) : Str)).length ≤ 2 := by split <;> decide
  omega
theorem dictText_le (ts : List Str) : (dictText ts).length ≤ piled ts + 2 := by
  have := join_le ts
  unfold dictText
  rw [strLen_append, strLen_append]
  have e1 : ((("{" : String) : Str)).length = 1 := rfl
  have e2 : ((("}" : String) : Str)).length = 1 := rfl
  omega
theorem piled_all {ts : List Str} {L : Nat} (h : ∀ t ∈ ts, t.length ≤ L) : piled ts ≤ ts.length * (L + 2) := by
  induction ts with
  | nil => simp [piled]
  | cons t r ih =>
    rw [piled_cons, List.length_cons, Nat.succ_mul]
    have := h t List.mem_cons_self
    have := ih fun t ht => h t (List.mem_cons_of_mem _ ht)
    omega
def Lb : Nat → Nat
  | 0 => 3900
  | d + 1 => 61 * (Lb d + 2) + 3
theorem Lb_ge : ∀ d, 3900 ≤ Lb d
  | 0 => Nat.le_refl _
  | d + 1 => by have := Lb_ge d; show 3900 ≤ 61 * (Lb d + 2) + 3; omega
theorem int_len {i : Int} (h : okI i) : (Str.ofString (toString i)).length ≤ 1921 := int_text_len_1921 h
theorem ratText_len {p q : Int} (h1 : okI p) (h2 : okI q) : (ratText p q).length ≤ 3900 := by
  have := int_len h1
  have := int_len h2
  unfold ratText
  rw [strLen_append, strLen_append, strLen_append, strLen_append]
  have e1 : (Str.ofString "Ratio(").length = 6 := rfl
  have e2 : (Str.ofString ", ").length = 2 := rfl
  have e3 : (Str.ofString ")").length = 1 := rfl
  omega
theorem at_all {ts : List Str} {xs : List V} {L : Nat} (h2 : ts.length = xs.length) (h : ∀ (i : Nat) (x : V) (t : Str), xs[i]? = some x → ts[i]? = some t → t.length ≤ L) : ∀ t ∈ ts, t.length ≤ L := fun t ht => by
  obtain ⟨i, hi⟩ := List.getElem?_of_mem ht
  have l := (List.getElem?_eq_some_iff.mp hi).1
  exact h i _ t (List.getElem?_eq_getElem (h2 ▸ l)) hi
theorem Sh.len {C : Addr} {H : Hp} {d : Nat} {x : V} {t : Str} (h : Sh C H d x t) : t.length ≤ Lb d := by
  induction h with
  | @int d i h => exact Nat.le_trans (int_len h.ok) (Nat.le_trans (by decide) (Lb_ge d))
  | @bl d b => exact Nat.le_trans (by cases b <;> decide) (Lb_ge d)
  | @non d => exact Nat.le_trans (by decide) (Lb_ge d)
  | @str d x h => exact Nat.le_trans h (Lb_ge d)
  | @own d a p q r h1 h2 _ => exact Nat.le_trans (ratText_len h1.ok h2.ok) (Lb_ge d)
  | @lst d a xs ts h1 h0 h2 h3 ih =>
    have := listText_le ts
    have p := piled_all (at_all h2 ih)
    have : ts.length * (Lb d + 2) ≤ 61 * (Lb d + 2) := Nat.mul_le_mul_right _ (by omega)
    show _ ≤ 61 * (Lb d + 2) + 3
    omega
  | @tup d a xs ts h1 h0 h2 h3 ih =>
    have := tupleText_le ts
    have p := piled_all (at_all h2 ih)
    have : ts.length * (Lb d + 2) ≤ 61 * (Lb d + 2) := Nat.mul_le_mul_right _ (by omega)
    show _ ≤ 61 * (Lb d + 2) + 3
    omega
  | @dct d a ds h1 h0 h2 =>
    have := dictText_le (ds.map dEnt)
    have p := piled_all (ts := ds.map dEnt) (L := 3900) fun t ht => by
      obtain ⟨p, hp, rfl⟩ := List.mem_map.mp ht
      have := int_len (h2 p hp).1
      have := int_len (h2 p hp).2
      unfold dEnt
      rw [strLen_append, strLen_append]
      have e1 : (((": " : String) : Str)).length = 2 := rfl
      omega
    rw [List.length_map] at p
    have b := Lb_ge d
    have : ds.length * (3900 + 2) ≤ 61 * (Lb d + 2) := Nat.mul_le_mul h0 (by omega)
    show _ ≤ 61 * (Lb d + 2) + 3
    omega
  | @dcl d a b k ns h1 h2 h3 h4 h5 =>
    have l1 := int_len h4
    have l2 : (dlTxt ns).length ≤ _ := listText_le (ns.map fun x => Str.ofString (toString x))
    have l3 : (dlText k ns).length ≤ _ := dictText_le [Str.ofString (toString k) ++ ": " ++ dlTxt ns]
    have p := piled_all (ts := ns.map fun x => Str.ofString (toString x)) (L := 3900) fun t ht => by
      obtain ⟨p, hp, rfl⟩ := List.mem_map.mp ht
      have := int_len (h5 p hp).ok
      omega
    rw [List.length_map] at p
    have q : piled [Str.ofString (toString k) ++ ": " ++ dlTxt ns] = (Str.ofString (toString k) ++ ": " ++ dlTxt ns).length + 2 := by rw [piled_cons]; rfl
    rw [strLen_append, strLen_append] at q
    have e1 : (((": " : String) : Str)).length = 2 := rfl
    have b0 := Lb_ge d
    have : ns.length * (3900 + 2) ≤ 61 * (Lb d + 2) := Nat.mul_le_mul h3 (by omega)
    show (dlText k ns).length ≤ 61 * ((61 * (Lb d + 2) + 3) + 2) + 3
    omega
theorem Sh.size {C : Addr} {H : Hp} {d : Nat} {x : V} {t : Str} (h : Sh C H d x t) (hd : d ≤ 2) : t.length ≤ sizeLine := by
  have := h.len
  have e : Lb d ≤ Lb 2 := by
    have : d = 0 ∨ d = 1 ∨ d = 2 := by omega
    rcases this with rfl | rfl | rfl <;> decide
  have : Lb 2 ≤ sizeLine := by decide
  omega
/-- repr(..) of such a value, where nothing is being shown -/
def rSh (C : Addr) : List V → Hp → VK → Prop := fun vs H Q => ∃ (x : V) (t : Str) (d : Nat), vs = [x] ∧ Sh C H d x t ∧ t.length ≤ sizeLine ∧ d ≤ 6 ∧ ∀ H', Same H H' → Q (.str t) H'
theorem cr_sh {X : Cx} {C : Addr} {k : Nat} (O : OwnRp X C k) (hr : Room (k + 8) X.A) (hg : X.A.guards = some []) : CallR X (.builtin "repr") (rSh C) := by
  intro pins s σ H xs us Q I r h
  obtain ⟨x, t, d, rfl, hsh, hz, hd, q⟩ := h
  obtain ⟨u, rfl, ru⟩ := r.one
  have fin : ∀ v s', RpEnd X pins σ H t v s' → EP X pins σ Q v s' := fun v s' ⟨u, e, H', I', sm⟩ => by
    subst e
    exact ⟨.str t, H', I', ⟨u, rfl⟩, q H' sm⟩
  have gr : ∀ m, Grd (ShCl C H) [] m := fun m b k _ _ => Clear.nil b
  have sb : ∀ m, m ≤ k + 7 → L2.Sub X m X.A.in1 := fun m hm => ⟨(hr.mono (show m + 1 ≤ k + 8 by omega)).in1, rfl⟩
  cases hsh with
  | @int d i h =>
    obtain ⟨t, rfl⟩ := ru
    exact PySem.P.repr_of_int h.ok (fin _ _ ⟨_, rfl, H, I.tok _, Same.refl _⟩)
  | bl b =>
    cases ru
    exact PySem.P.repr_of_bool (fin _ _ ⟨_, rfl, H, I.tok _, Same.refl _⟩)
  | non =>
    cases ru
    exact PySem.P.repr_of_none (fin _ _ ⟨_, rfl, H, I.tok _, Same.refl _⟩)
  | str x _ =>
    obtain ⟨t, rfl⟩ := ru
    exact PySem.P.repr_of_str (fin _ _ ⟨_, rfl, H, I.tok _, Same.refl _⟩) hz
  | own r2 b1 b2 _ =>
    cases ru
    exact wpAny_mono (O.top pins s σ H _ _ _ I r2 b1.ok b2.ok) fin fun _ _ e => e
  | @lst d a xs ts h1 h0 h2 h3 =>
    cases ru
    obtain ⟨_, its, na, rv, hl, he⟩ := I.lstM h1
    have hp := piled_le_listText ts
    have tl : ∀ (i : Nat) (t : Str), ts[i]? = some t → t.length ≤ sizeLine := fun i t e2 => by
      have := piled_take_succ e2
      have := piled_take_le ts (i + 1)
      omega
    refine call_repr_slot (by have := hr.un; omega) ⟨_, he, rfl⟩ F.slot_list_repr.toG ?_
    by_cases hne : xs = []
    · subst hne
      have e1 : ts = [] := List.length_eq_zero_iff.mp h2
      have e2 : its = [] := List.length_eq_zero_iff.mp (by simpa using hl.symm)
      subst e1 e2
      exact call_list_repr_empty ⟨_, he, rfl⟩ he rfl ⟨_, _, rfl, fin _ _ ⟨_, rfl, H, I.tok _, Same.refl _⟩⟩
    · refine wpAny_mono (call_list_reprG (n := k + d) (shcl_fn C H) h1 hne ⟨d + 1, _, Sh.lst h1 h0 h2 h3, rfl⟩ h2 (fun i x t e1 e2 => (h3 i x t e1 e2).rp O (tl i t e2)) (sb _ (by omega)) hg (gr _) hz I (Same.refl _)) (fun v s' hv => ?_) fun _ _ e => e
      obtain ⟨u, e, q⟩ := hv
      exact ⟨_, u, e, fin v s' ⟨u, e, q⟩⟩
  | @tup d a xs ts h1 h0 h2 h3 =>
    cases ru
    obtain ⟨its, rv, he, _⟩ := I.tuple (.inl (.inl h1) : SqT X.K H a xs)
    obtain ⟨o, ho, hoc, nn, hod⟩ := he
    have hp := piled_le_tupleText ts
    have tl : ∀ (i : Nat) (t : Str), ts[i]? = some t → t.length ≤ sizeLine := fun i t e2 => by
      have := piled_take_succ e2
      have := piled_take_le ts (i + 1)
      omega
    refine call_repr_slot (by have := hr.un; omega) ⟨o, ho, hoc⟩ F.slot_tuple_repr ?_
    refine wpAny_mono (call_tuple_reprG (n := k + d) (shcl_fn C H) h1 ⟨d + 1, _, Sh.tup h1 h0 h2 h3, rfl⟩ h2 (fun i x t e1 e2 => (h3 i x t e1 e2).rp O (tl i t e2)) (sb _ (by omega)) hg (gr _) hz I (Same.refl _)) (fun v s' hv => ?_) fun _ _ e => e
    obtain ⟨u, e, q⟩ := hv
    exact ⟨_, u, e, fin v s' ⟨u, e, q⟩⟩
  | @dct d a ds h1 h0 h2 =>
    cases ru
    obtain ⟨_, hsys, vs, kv, o, es, ep, he, hex, hd, _, hp, _⟩ := I.hok a _ h1
    refine call_repr_slot (by have := hr.un; omega) ⟨o, he, hex.1⟩ F.slot_dict_repr ?_
    refine wpAny_mono (call_dict_reprG (n := k + d) h1 ⟨d + 1, _, Sh.dct h1 h0 h2, rfl⟩ h2 (sb _ (by omega)) hg (gr _) hz I (Same.refl _)) (fun v s' hv => ?_) fun _ _ e => e
    obtain ⟨u, e, q⟩ := hv
    exact ⟨_, u, e, fin v s' ⟨u, e, q⟩⟩
  | @dcl d a b kk ns h1 h2 h3 h4 h5 =>
    cases ru
    obtain ⟨_, hsys, vs, kv, o, es, ep, he, hex, hd2, _, hp, _⟩ := I.hok a _ h1
    refine call_repr_slot (by have := hr.un; omega) ⟨o, he, hex.1⟩ F.slot_dict_repr ?_
    refine wpAny_mono (call_dictL (n := 0) h1 h2 ⟨d + 2, _, Sh.dcl h1 h2 h3 h4 h5, rfl⟩ ⟨d + 1, _, Sh.ints h2 h3 h5, rfl⟩ h4 (fun x hx => (h5 x hx).ok) (sb _ (by omega)) hg (gr _) hz I (Same.refl _)) (fun v s' hv => ?_) fun _ _ e => e
    obtain ⟨u, e, q⟩ := hv
    exact ⟨_, u, e, fin v s' ⟨u, e, q⟩⟩
end Fp

namespace K21
/-- the numbers that are sums of the ints that P tells -/
inductive Rch (P : Int → Prop) : Int → Prop
  | zero : Rch P 0
  | step {n c : Int} (h : P c) (r : Rch P n) : Rch P (n + c)
theorem Rch.add {P : Int → Prop} {a b : Int} (ha : Rch P a) (hb : Rch P b) : Rch P (a + b) := by
  induction hb with
  | zero => rw [Int.add_zero]; exact ha
  | step h r ih => rw [← Int.add_assoc]; exact .step h ih
theorem Rch.one {P : Int → Prop} {c : Int} (h : P c) : Rch P c := by
  have q := Rch.step h (.zero (P := P))
  rw [Int.zero_add] at q
  exact q
theorem Rch.trans {P Q : Int → Prop} (h : ∀ c, P c → Rch Q c) {n : Int} (r : Rch P n) : Rch Q n := by
  induction r with
  | zero => exact .zero
  | step hc _ ih => exact ih.add (h _ hc)
theorem Rch.mono {P Q : Int → Prop} (h : ∀ c, P c → Q c) {n : Int} (r : Rch P n) : Rch Q n := r.trans fun c hc => .one (h c hc)
theorem Rch.nonneg {P : Int → Prop} (h : ∀ c, P c → 0 < c) {n : Int} (r : Rch P n) : 0 ≤ n := by
  induction r with
  | zero => exact Int.le_refl 0
  | step hc _ ih => have := h _ hc; omega
theorem Rch.le {P : Int → Prop} (h : ∀ c, P c → 0 < c) {n : Int} (r : Rch P n) : Rch (fun c => P c ∧ c ≤ n) n := by
  induction r with
  | zero => exact .zero
  | @step n c hc r ih =>
    have h0 := Rch.nonneg h r
    have h1 := h _ hc
    exact .step ⟨hc, by omega⟩ (ih.mono fun d hd => ⟨hd.1, by omega⟩)
theorem rch_next {P : Int → Prop} (h : ∀ c, P c → 0 < c) {n : Int} (hn : 0 < n) : Rch P n ↔ ∃ c, P c ∧ c ≤ n ∧ Rch P (n - c) := by
  constructor
  · intro r
    cases r with
    | zero => omega
    | @step m c hc r =>
      have h0 := Rch.nonneg h r
      refine ⟨c, hc, by omega, ?_⟩
      rw [Int.add_sub_cancel]
      exact r
  · rintro ⟨c, hc, _, r⟩
    have q := Rch.step hc r
    rw [Int.sub_add_cancel] at q
    exact q
/-- met, as a bool -/
noncomputable def mb (cs : List Int) (n : Int) : Bool := @decide (Rch (· ∈ cs) n) (Classical.propDecidable _)
theorem mb_iff {cs : List Int} {n : Int} : mb cs n = true ↔ Rch (· ∈ cs) n := by
  unfold mb
  exact @decide_eq_true_iff _ (Classical.propDecidable _)
theorem mb_false {cs : List Int} {n : Int} : mb cs n = false ↔ ¬ Rch (· ∈ cs) n := by
  rw [← mb_iff]
  cases mb cs n <;> simp
theorem mb_congr {cs ds : List Int} {n : Int} (h : Rch (· ∈ cs) n ↔ Rch (· ∈ ds) n) : mb cs n = mb ds n := by
  cases e : mb ds n with
  | true => exact mb_iff.mpr (h.mpr (mb_iff.mp e))
  | false => exact mb_false.mpr fun z => mb_false.mp e (h.mp z)
theorem mb_zero {cs : List Int} : mb cs 0 = true := mb_iff.mpr .zero
def Pos (cs : List Int) : Prop := ∀ c ∈ cs, 0 < c
theorem mb_next {cs : List Int} (h : Pos cs) {n : Int} (hn : 0 < n) : mb cs n = cs.any fun c => decide (c ≤ n) && mb cs (n - c) := by
  cases e : (cs.any fun c => decide (c ≤ n) && mb cs (n - c)) with
  | true =>
    obtain ⟨c, hc, q⟩ := List.any_eq_true.mp e
    rw [Bool.and_eq_true, decide_eq_true_eq] at q
    exact mb_iff.mpr ((rch_next h hn).mpr ⟨c, hc, q.1, mb_iff.mp q.2⟩)
  | false =>
    refine mb_false.mpr fun r => ?_
    obtain ⟨c, hc, hl, r⟩ := (rch_next h hn).mp r
    have q := List.any_eq_false.mp e c hc
    rw [mb_iff.mpr r, decide_eq_true hl] at q
    exact q rfl
/-- the table of what is met -/
noncomputable def tb (cs : List Int) (m : Nat) : List Bool := (List.range m).map fun i : Nat => mb cs ((i : Nat) : Int)
theorem tb_len (cs : List Int) (m : Nat) : (tb cs m).length = m := by unfold tb; rw [List.length_map, List.length_range]
theorem tb_at {cs : List Int} {m i : Nat} (h : i < m) : (tb cs m)[i]? = some (mb cs (i : Int)) := by
  unfold tb
  rw [List.getElem?_map, List.getElem?_range h]; rfl
theorem tb_succ (cs : List Int) (m : Nat) : tb cs (m + 1) = tb cs m ++ [mb cs (m : Int)] := by
  unfold tb
  rw [List.range_succ, List.map_append]; rfl
theorem tb_one (cs : List Int) : tb cs 1 = [true] := by
  rw [tb_succ]
  show [] ++ [mb cs ((0 : Nat) : Int)] = [true]
  rw [show ((0 : Nat) : Int) = 0 from rfl, mb_zero]; rfl
/-! ### least counts -/
def stepL (f : List Int → Int → Bool) (found : List Int) (x : Int) : List Int := if f found x = true then found else found ++ [x]
noncomputable def lst (s : List Int) : List Int := s.foldl (stepL mb) []
structure IsL (cs R : List Int) : Prop where
  srt : R.Pairwise (· < ·)
  mem : ∀ x, x ∈ R ↔ x ∈ cs ∧ ¬ Rch (fun c => c ∈ cs ∧ c < x) x
theorem sorted_ext : ∀ {R S : List Int}, R.Pairwise (· < ·) → S.Pairwise (· < ·) → (∀ x, x ∈ R ↔ x ∈ S) → R = S
  | [], [], _, _, _ => rfl
  | [], y :: _, _, _, h => absurd ((h y).mpr List.mem_cons_self) (by simp)
  | x :: _, [], _, _, h => absurd ((h x).mp List.mem_cons_self) (by simp)
  | x :: R, y :: S, hR, hS, h => by
    obtain ⟨h1, h2⟩ := List.pairwise_cons.mp hR
    obtain ⟨h3, h4⟩ := List.pairwise_cons.mp hS
    have exy : x = y := by
      rcases List.mem_cons.mp ((h x).mp List.mem_cons_self) with e | e
      · exact e
      · rcases List.mem_cons.mp ((h y).mpr List.mem_cons_self) with e' | e'
        · exact e'.symm
        · have a := h1 _ e'
          have b := h3 _ e
          omega
    subst exy
    rw [sorted_ext h2 h4 fun z => ?_]
    constructor
    · intro hz
      rcases List.mem_cons.mp ((h z).mp (List.mem_cons_of_mem _ hz)) with e | e
      · have := h1 _ hz; omega
      · exact e
    · intro hz
      rcases List.mem_cons.mp ((h z).mpr (List.mem_cons_of_mem _ hz)) with e | e
      · have := h3 _ hz; omega
      · exact e
theorem IsL.uniq {cs R S : List Int} (a : IsL cs R) (b : IsL cs S) : R = S := sorted_ext a.srt b.srt fun x => (a.mem x).trans (b.mem x).symm
theorem IsL.congr {cs ds R : List Int} (a : IsL cs R) (h : ∀ x, x ∈ cs ↔ x ∈ ds) : IsL ds R :=
  ⟨a.srt, fun x => by
    have e : (fun c => c ∈ cs ∧ c < x) = fun c => c ∈ ds ∧ c < x := funext fun c => propext (by rw [h])
    rw [a.mem x, h, e]⟩
/-- the state of the search behind a part p of the sorted counts -/
structure Sch (cs p f : List Int) : Prop where
  srt : f.Pairwise (· < ·)
  mem : ∀ x, x ∈ f ↔ x ∈ p ∧ ¬ Rch (fun c => c ∈ cs ∧ c < x) x
  rch : ∀ n, Rch (· ∈ f) n ↔ Rch (· ∈ p) n
theorem Sch.nil {cs : List Int} : Sch cs [] [] := ⟨List.Pairwise.nil, fun x => by simp, fun n => Iff.rfl⟩
theorem Sch.turn {cs p f r : List Int} {x : Int} (hs : (p ++ x :: r).Pairwise (· ≤ ·)) (hm : ∀ c, c ∈ cs ↔ c ∈ p ++ x :: r) (S : Sch cs p f) : Sch cs (p ++ [x]) (stepL mb f x) := by
  have hp : ∀ c ∈ p, c ≤ x := fun c hc => (List.pairwise_append.mp hs).2.2 c hc x List.mem_cons_self
  have hr : ∀ c ∈ r, x ≤ c := fun c hc => (List.pairwise_cons.mp (List.pairwise_append.mp hs).2.1).1 c hc
  have hpc : ∀ c ∈ p, c ∈ cs := fun c hc => (hm c).mpr (List.mem_append_left _ hc)
  have hlow : ∀ c, c ∈ cs → c < x → c ∈ p := fun c hc hl => by
    rcases List.mem_append.mp ((hm c).mp hc) with h | h
    · exact h
    · rcases List.mem_cons.mp h with h | h
      · omega
      · have := hr c h; omega
  have hfp : ∀ c ∈ f, c ∈ p := fun c hc => ((S.mem c).mp hc).1
  have mem1 : ∀ c, c ∈ p ++ [x] ↔ c ∈ p ∨ c = x := fun c => by simp
  unfold stepL
  cases e : mb f x with
  | true =>
    rw [if_pos rfl]
    have rx : Rch (· ∈ p) x := (S.rch x).mp (mb_iff.mp e)
    refine ⟨S.srt, fun y => ?_, fun n => ?_⟩
    · rw [S.mem y, mem1]
      constructor
      · exact fun h => ⟨.inl h.1, h.2⟩
      · rintro ⟨h | h, h2⟩
        · exact ⟨h, h2⟩
        · subst h
          by_cases hy : y ∈ p
          · exact ⟨hy, h2⟩
          · refine absurd (rx.mono fun c hc => ⟨hpc c hc, ?_⟩) h2
            have := hp c hc
            have hne : c ≠ y := fun z => hy (z ▸ hc)
            omega
    · rw [S.rch n]
      constructor
      · exact fun q => q.mono fun c hc => (mem1 c).mpr (.inl hc)
      · refine fun q => q.trans fun c hc => ?_
        rcases (mem1 c).mp hc with h | h
        · exact .one h
        · rw [h]; exact rx
  | false =>
    rw [if_neg Bool.false_ne_true]
    have nx : ¬ Rch (· ∈ p) x := fun z => mb_false.mp e ((S.rch x).mpr z)
    have hxp : x ∉ p := fun z => nx (.one z)
    have mem2 : ∀ c, c ∈ f ++ [x] ↔ c ∈ f ∨ c = x := fun c => by simp
    refine ⟨?_, fun y => ?_, fun n => ?_⟩
    · refine List.pairwise_append.mpr ⟨S.srt, List.pairwise_singleton _ _, fun a ha b hb => ?_⟩
      rw [List.mem_singleton.mp hb]
      have := hp a (hfp a ha)
      have hne : a ≠ x := fun z => hxp (z ▸ hfp a ha)
      omega
    · rw [mem2, S.mem y, mem1]
      constructor
      · rintro (h | h)
        · exact ⟨.inl h.1, h.2⟩
        · subst h
          exact ⟨.inr rfl, fun z => nx (z.mono fun c hc => hlow c hc.1 hc.2)⟩
      · rintro ⟨h | h, h2⟩
        · exact .inl ⟨h, h2⟩
        · exact .inr h
    · constructor
      · refine fun q => q.mono fun c hc => (mem1 c).mpr ?_
        rcases (mem2 c).mp hc with h | h
        · exact .inl (hfp c h)
        · exact .inr h
      · refine fun q => q.trans fun c hc => ?_
        rcases (mem1 c).mp hc with h | h
        · exact ((S.rch c).mpr (.one h)).mono fun d hd => (mem2 d).mpr (.inl hd)
        · exact .one ((mem2 c).mpr (.inr h))
theorem take_split {α : Type} {l : List α} {i : Nat} {x : α} (h : l[i]? = some x) : l = l.take i ++ x :: l.drop (i + 1) := by
  obtain ⟨hi, e⟩ := List.getElem?_eq_some_iff.mp h
  subst e
  rw [← List.drop_eq_getElem_cons hi, List.take_append_drop]
theorem take_one {α : Type} {l : List α} {i : Nat} {x : α} (h : l[i]? = some x) : l.take (i + 1) = l.take i ++ [x] := by
  rw [List.take_add_one, h]; rfl
theorem lst_take {s : List Int} {i : Nat} {x : Int} (h : s[i]? = some x) : lst (s.take (i + 1)) = stepL mb (lst (s.take i)) x := by
  unfold lst
  rw [take_one h, List.foldl_append]; rfl
theorem sch_take {cs s : List Int} (hs : s.Pairwise (· ≤ ·)) (hm : ∀ c, c ∈ cs ↔ c ∈ s) : ∀ i, i ≤ s.length → Sch cs (s.take i) (lst (s.take i))
  | 0, _ => by rw [List.take_zero]; exact Sch.nil
  | i + 1, h => by
    have hx : s[i]? = some s[i] := List.getElem?_eq_getElem h
    have e := take_split hx
    rw [lst_take hx, take_one hx]
    refine Sch.turn (r := s.drop (i + 1)) ?_ ?_ (sch_take hs hm i (Nat.le_of_lt h))
    · rw [← e]; exact hs
    · rw [← e]; exact hm
theorem lst_len_le (s : List Int) : ∀ i, (lst (s.take i)).length ≤ i
  | 0 => by simp [lst]
  | i + 1 => by
    cases e : s[i]? with
    | none =>
      have h : s.length ≤ i := List.getElem?_eq_none_iff.mp e
      have q := lst_len_le s i
      rw [List.take_of_length_le h] at q
      rw [List.take_of_length_le (Nat.le_succ_of_le h)]
      omega
    | some x =>
      have q := lst_len_le s i
      rw [lst_take e]
      unfold stepL
      split
      · omega
      · rw [List.length_append, List.length_singleton]; omega
theorem lst_mem {s : List Int} : ∀ i, ∀ x ∈ lst (s.take i), x ∈ s
  | 0, x, h => by simp [lst] at h
  | i + 1, x, h => by
    cases e : s[i]? with
    | none =>
      have hl : s.length ≤ i := List.getElem?_eq_none_iff.mp e
      rw [List.take_of_length_le (Nat.le_succ_of_le hl), ← List.take_of_length_le hl] at h
      exact lst_mem i x h
    | some y =>
      rw [lst_take e] at h
      unfold stepL at h
      split at h
      · exact lst_mem i x h
      · rcases List.mem_append.mp h with h | h
        · exact lst_mem i x h
        · rw [List.mem_singleton.mp h]; exact List.mem_of_getElem? e
/-- what least counts are -/
structure IsLst (cs R : List Int) : Prop where
  isL : IsL cs R
  rch : ∀ n, Rch (· ∈ R) n ↔ Rch (· ∈ cs) n
theorem lst_is {cs s : List Int} (hs : s.Pairwise (· ≤ ·)) (hm : ∀ c, c ∈ cs ↔ c ∈ s) : IsLst cs (lst s) := by
  have S := sch_take hs hm s.length (Nat.le_refl _)
  rw [List.take_length] at S
  refine ⟨⟨S.srt, fun x => (S.mem x).trans (by rw [hm])⟩, fun n => (S.rch n).trans ?_⟩
  have e : (· ∈ s) = (· ∈ cs) := funext fun c => propext (hm c).symm
  rw [e]
theorem IsLst.self {cs R : List Int} (a : IsLst cs R) : IsL R R :=
  ⟨a.isL.srt, fun x => ⟨fun h => ⟨h, fun z => ((a.isL.mem x).mp h).2 (z.mono fun c hc => ⟨((a.isL.mem c).mp hc.1).1, hc.2⟩)⟩, fun h => h.1⟩⟩
theorem IsLst.more {cs ds R : List Int} {b : Int} (hp : Pos cs) (hb : Rch (· ∈ cs) b) (hm : ∀ x, x ∈ ds ↔ x ∈ cs ∨ x = b) (a : IsLst cs R) : IsL ds R := by
  refine ⟨a.isL.srt, fun x => ?_⟩
  rw [a.isL.mem x, hm]
  have hb' := Rch.le hp hb
  constructor
  · rintro ⟨h1, h2⟩
    refine ⟨.inl h1, fun z => h2 (z.trans fun c hc => ?_)⟩
    rcases (hm c).mp hc.1 with h | h
    · exact .one ⟨h, hc.2⟩
    · subst h
      exact hb'.mono fun d hd => ⟨hd.1, by have := hc.2; have := hd.2; omega⟩
  · rintro ⟨h1, h2⟩
    rcases h1 with h1 | h1
    · exact ⟨h1, fun z => h2 (z.mono fun c hc => ⟨(hm c).mpr (.inl hc.1), hc.2⟩)⟩
    · subst h1
      by_cases hx : x ∈ cs
      · exact ⟨hx, fun z => h2 (z.mono fun c hc => ⟨(hm c).mpr (.inl hc.1), hc.2⟩)⟩
      · refine absurd (hb'.mono fun c hc => ⟨(hm c).mpr (.inl hc.1), ?_⟩) h2
        have hne : c ≠ x := fun z => hx (z ▸ hc.1)
        have := hc.2
        omega
theorem rch_more {cs ds : List Int} {b : Int} (hb : Rch (· ∈ cs) b) (hm : ∀ x, x ∈ ds ↔ x ∈ cs ∨ x = b) (n : Int) : Rch (· ∈ ds) n ↔ Rch (· ∈ cs) n :=
  ⟨fun q => q.trans fun c hc => by
    rcases (hm c).mp hc with h | h
    · exact .one h
    · rw [h]; exact hb, fun q => q.mono fun c hc => (hm c).mpr (.inl hc)⟩
theorem rch_congr {cs ds : List Int} (hm : ∀ x, x ∈ ds ↔ x ∈ cs) (n : Int) : Rch (· ∈ ds) n ↔ Rch (· ∈ cs) n := by
  have e : (· ∈ ds) = (· ∈ cs) := funext fun c => propext (hm c)
  rw [e]
/-! ### common counts -/
def gstep (g c : Int) : Int := ((Nat.gcd g.natAbs c.natAbs : Nat) : Int)
def gl (cs : List Int) : Int := cs.foldl gstep 0
theorem gl_take {s : List Int} {i : Nat} {x : Int} (h : s[i]? = some x) : gl (s.take (i + 1)) = gstep (gl (s.take i)) x := by
  unfold gl
  rw [take_one h, List.foldl_append]; rfl
theorem gfold_nonneg : ∀ (cs : List Int) (g : Int), 0 ≤ g → 0 ≤ cs.foldl gstep g
  | [], g, h => h
  | c :: r, g, _ => gfold_nonneg r (gstep g c) (Int.natCast_nonneg _)
theorem gl_nonneg (cs : List Int) : 0 ≤ gl cs := gfold_nonneg cs 0 (Int.le_refl 0)
theorem gfold_dvd : ∀ (cs : List Int) (g : Int) (d : Nat), d ∣ (cs.foldl gstep g).natAbs ↔ d ∣ g.natAbs ∧ ∀ c ∈ cs, d ∣ c.natAbs
  | [], g, d => by simp
  | c :: r, g, d => by
    rw [List.foldl_cons, gfold_dvd r (gstep g c) d]
    unfold gstep
    rw [Int.natAbs_natCast, Nat.dvd_gcd_iff]
    constructor
    · rintro ⟨⟨h1, h2⟩, h3⟩
      exact ⟨h1, fun x hx => (List.mem_cons.mp hx).elim (fun e => e ▸ h2) (h3 x)⟩
    · rintro ⟨h1, h2⟩
      exact ⟨⟨h1, h2 c List.mem_cons_self⟩, fun x hx => h2 x (List.mem_cons_of_mem _ hx)⟩
theorem gl_dvd (cs : List Int) (d : Nat) : d ∣ (gl cs).natAbs ↔ ∀ c ∈ cs, d ∣ c.natAbs := by
  unfold gl
  rw [gfold_dvd]
  simp
theorem gl_eq {cs ds : List Int} (h : ∀ d : Nat, (∀ c ∈ cs, d ∣ c.natAbs) ↔ ∀ c ∈ ds, d ∣ c.natAbs) : gl cs = gl ds := by
  have e : (gl cs).natAbs = (gl ds).natAbs := Nat.dvd_antisymm ((gl_dvd ds _).mpr ((h _).mp ((gl_dvd cs _).mp (Nat.dvd_refl _)))) ((gl_dvd cs _).mpr ((h _).mpr ((gl_dvd ds _).mp (Nat.dvd_refl _))))
  have h1 := gl_nonneg cs
  have h2 := gl_nonneg ds
  omega
theorem rch_dvd {cs : List Int} {d : Nat} (h : ∀ c ∈ cs, d ∣ c.natAbs) {n : Int} (r : Rch (· ∈ cs) n) : d ∣ n.natAbs := by
  rw [← Int.ofNat_dvd_left] at *
  induction r with
  | zero => exact Int.dvd_zero _
  | step hc _ ih => exact Int.dvd_add ih (Int.ofNat_dvd_left.mpr (h _ hc))
theorem gl_more {cs ds : List Int} {b : Int} (hb : Rch (· ∈ cs) b) (hm : ∀ x, x ∈ ds ↔ x ∈ cs ∨ x = b) : gl ds = gl cs :=
  gl_eq fun d => ⟨fun h c hc => h c ((hm c).mpr (.inl hc)), fun h c hc => by
    rcases (hm c).mp hc with q | q
    · exact h c q
    · rw [q]; exact rch_dvd h hb⟩
theorem gl_congr {cs ds : List Int} (hm : ∀ x, x ∈ ds ↔ x ∈ cs) : gl ds = gl cs := gl_eq fun d => ⟨fun h c hc => h c ((hm c).mpr hc), fun h c hc => h c ((hm c).mp hc)⟩
end K21

namespace K21
open PySem PySem.Spec PyProof.Rows L2 Fp
def top (i : Nat) : Stmt := PySem.Challenge.pw_fromplaces_k15_whole_parts_with_others.main.body.getD i (.Pass ⟨0, 0, 0, 0⟩)
abbrev sInteger : Stmt := top 10
abbrev sList : Stmt := top 11
/-- what the module's names hold -/
structure Mg (mg : Str → Option Value) : Prop where
  isi : mg "isinstance" = none
  int : mg "int" = none
  bool : mg "bool" = none
  list : mg "list" = none
  tuple : mg "tuple" = none
  len : mg "len" = none
  all : mg "all" = none
  any : mg "any" = none
  range : mg "range" = none
  enum : mg "enumerate" = none
  sorted : mg "sorted" = none
  set : mg "set" = none
  repr : mg "repr" = none
  abs : mg "abs" = none
  max : mg "max" = none
  divmod : mg "divmod" = none
  zip : mg "zip" = none
  sum : mg "sum" = none
  min : mg "min" = none
  str : mg "str" = none
  lcm : mg "lcm" = some (.builtin "math.lcm")
  gcd : mg "gcd" = some (.builtin "math.gcd")
/-- a value is handed back, what is tracked is as it was -/
abbrev Ret (H : Hp) (Q : VK) (v : V) : Prop := ∀ H', Same H H' → Q v H'
theorem ifF {c A B : Prop} [Decidable c] (h : ¬ c) (b : B) : if decide c = true then A else B := by rw [decide_eq_false h]; exact iteF b
theorem ifT {c A B : Prop} [Decidable c] (h : c) (a : A) : if decide c = true then A else B := by rw [decide_eq_true h]; exact iteT a
abbrev VI (ns : List Int) : List V := ns.map V.int
theorem vi_at {ns : List Int} {i : Nat} {x : V} (h : (VI ns)[i]? = some x) : ∃ n, ns[i]? = some n ∧ x = .int n := by
  rw [List.getElem?_map] at h
  cases e : ns[i]? with
  | none => rw [e] at h; cases h
  | some n => rw [e] at h; exact ⟨n, rfl, (Option.some.inj h).symm⟩
section
variable {P : Program} {w : World} {K : PySem.W.Frag} {mg : Str → Option Value} {base : Heap} {k : Nat}
/-! ### whole numbers and lists -/
def spInteger : Sp := fun vs H Q _ => ∃ i : Int, vs = [.int i] ∧ Ret H Q (.bl true)
theorem sc6 : FnScope ["value"] ["value"] (defScope sInteger) := ⟨rfl, rfl, rfl, by decide +kernel, rfl, by decide +kernel, by decide +kernel⟩
theorem d_integer (B : Bnd K mg "is_integer" sInteger) (M : Mg mg) : Def P w K mg base (k + 1) "is_integer" sInteger ["value"] spInteger := by
  refine def_of B sc6 (by rintro _ _ _ _ ⟨i, rfl, _⟩; rfl) (fun _ _ _ _ _ _ us hl => match us, hl with | [_], _ => rfl) fun f cdv A outer s H vs Q E hr h => ?_
  obtain ⟨i, rfl, q⟩ := h
  refine ⟨_, pss_one (ps_ret (pe_and (pe_callB call_isi (by rfl) M.isi (by decide +kernel) (pa_cons (pv 0) (pa_cons (pe_bltn (v := .ty "int") (by rfl) M.int (by decide +kernel) rfl) pa_nil)))
    (pe_one (pe_not (pe_callB call_isi (by rfl) M.isi (by decide +kernel) (pa_cons (pv 0) (pa_cons (pe_bltn (v := .ty "bool") (by rfl) M.bool (by decide +kernel) rfl) pa_nil))))))), ?_⟩
  refine ⟨_, rfl, _, _, _, _, true, rfl, .ty _, .base (.int i), kit_int, true, rfl, iteT ?_⟩
  exact ⟨_, rfl, _, _, _, _, false, rfl, .ty _, .base (.int i), kit_int_bool, false, rfl, q H (Same.refl H)⟩
end
theorem all_true {n : Nat} : ((List.range n).filterMap fun _ => some (V.bl true)) = (List.replicate n true).map V.bl := by
  induction n with
  | zero => rfl
  | succ n ih => rw [fm_succ, ih, List.replicate_succ', List.map_append]; rfl
theorem all_rep : ∀ n : Nat, (List.replicate n true).all id = true
  | 0 => rfl
  | n + 1 => by rw [List.replicate_succ, List.all_cons, all_rep n]; rfl
theorem vi_len (ns : List Int) : (VI ns).length = ns.length := List.length_map _
theorem small {n : Nat} (h : n ≤ 1000) : n < sizeLine := small1000 h
abbrev sPot : Stmt := top 45
abbrev sDraw : Stmt := top 46
abbrev sPick : Stmt := top 47
/-- a pot: two numbers, none below 0, the second one small -/
def PotOk (H : Hp) (p : Addr) : Prop := ∃ u v : Int, H p = some (.lst [.int u, .int v]) ∧ 0 ≤ u ∧ 0 ≤ v ∧ v ≤ 2147483587
theorem PotOk.same {H H' : Hp} {p : Addr} (h : PotOk H p) (e : Same H H') : PotOk H' p := let ⟨u, v, a, b⟩ := h; ⟨u, v, e _ _ a, b⟩
section
variable {P : Program} {w : World} {K : PySem.W.Frag} {mg : Str → Option Value} {base : Heap} {k : Nat}
def spPot (K : PySem.W.Frag) : Sp := fun vs H Q _ => ∃ (a : Addr) (ns : List Int) (k : Int), vs = [.ref a, .int k] ∧ SqL K H a (VI ns) ∧ 0 ≤ k ∧ k ≤ 100 ∧ ∀ p H', Same H H' → H p = none → PotOk H' p → Q (.ref p) H'
theorem sc23 : FnScope ["_law_script", "_law_k", "_law_cell"] ["_law_script", "_law_k"] (defScope sPot) := ⟨rfl, rfl, rfl, by decide +kernel, rfl, by decide +kernel, by decide +kernel⟩
theorem d_pot (B : Bnd K mg "_law_pot" sPot) (M : Mg mg) : Def P w K mg base (k + 1) "_law_pot" sPot ["_law_script", "_law_k"] (spPot K) := by
  refine def_of B sc23 (by rintro _ _ _ _ ⟨a, ns, n, rfl, _⟩; rfl) (fun _ _ _ _ _ _ us hl => match us, hl with | [_, _], _ => rfl) fun f cdv A outer s H vs Q E hr h => ?_
  obtain ⟨a, ns, n, rfl, hS, h0, h1, q⟩ := h
  refine ⟨_, pss_cons (ps_set (i := 2) sc23.nd rfl (.inl rfl) (pe_op op_add (pe_op op_mul pe_int (pv 1)) pe_int))
    (C8.pss_cut (ps_if (pt_cmpR op_lt (pv 1) (pe_callB call_len_seq (by rfl) M.len boot_len (pa_cons (pv 0) pa_nil)) (nomark _)) (pss_one (ps_set (i := 2) sc23.nd rfl (.inl rfl) (pe_callB call_abs (by rfl) M.abs (by decide +kernel) (pa_cons (pe_ix ix_list (pv 0) (pv 1) (fun _ _ => rfl)) pa_nil)))) pss_nil)
    (pss_one (ps_ret (pe_lst (pa_cons (pe_callB (call_max2 rfl) (by rfl) M.max (by decide +kernel) (pa_cons pe_int (pa_cons (pe_op op_sub (pv 2) (pe_op op_pow pe_int pe_int)) pa_nil)))
      (pa_cons (pe_op op_add (pe_op op_mod (pe_callTy call_int1 (by rfl) M.int (by decide +kernel) (pa_cons (pe_op op_add (pe_op op_add (pe_op op_mul (pe_op op_mod (pe_callTy call_int1 (by rfl) M.int (by decide +kernel) (pa_cons (pv 2) pa_nil)) pe_int) pe_int) (pe_op op_mul pe_int (pv 1))) pe_int) pa_nil)) pe_int) pe_int) pa_nil)))))), ?_⟩
  have l0 := vi_len ns
  refine ⟨_, rfl, _, _, rfl, rfl, .inl ⟨by omega, by omega⟩, _, _, rfl, rfl, ?_⟩
  refine ⟨fun σ' H' => ∃ c : Int, σ' = [some (.ref a), some (.int n), some (.int c)] ∧ H' = H, ?_, ?_⟩
  · refine ⟨_, rfl, _, rfl, a, _, rfl, .inl hS, _, _, rfl, rfl, _, rfl, ite2 (fun c => ?_) (fun c => ?_)⟩
    · have c' := of_decide_eq_true c
      rw [l0] at c'
      have hz : ns[n.toNat]? = some ns[n.toNat] := List.getElem?_eq_getElem (by omega)
      exact ⟨_, rfl, _, rfl, a, _, n, .int ns[n.toNat], rfl, rfl, hS, at_of (j := n.toNat) (by omega) (by rw [List.getElem?_map, hz]; rfl), _, rfl, _, rfl, rfl⟩
    · exact ⟨_, rfl, rfl⟩
  rintro _ _ ⟨c, rfl, rfl⟩
  refine ⟨_, rfl, 10, 18, rfl, rfl, ⟨by omega, by omega, by decide⟩, _, _, rfl, rfl, _, _, rfl, ?_⟩
  refine ⟨_, rfl, Or.inl ⟨_, rfl, ?_⟩⟩
  refine ⟨_, _, rfl, rfl, (by omega), _, _, rfl, rfl, .inl ⟨by omega, by omega⟩, _, rfl, _, _, rfl, rfl, .inl ⟨by omega, by omega⟩, _, _, rfl, rfl, _, _, rfl, rfl, ?_⟩
  refine Or.inl ⟨_, rfl, ?_⟩
  refine ⟨_, _, rfl, rfl, (by omega), _, _, rfl, rfl, (by show 2 ≤ sizeLine; decide), fun p hp => ?_⟩
  refine q p _ (same_new hp) hp ⟨_, _, upd_same, ?_, ?_, ?_⟩
  · split <;> omega
  · omega
  · omega
/-! ### draws -/
def spDraw : Sp := fun vs H Q _ => ∃ (p : Addr) (m : Int), vs = [.ref p, .int m] ∧ PotOk H p ∧ 1 ≤ m ∧ m ≤ 1000000 ∧ ∀ d H', 0 ≤ d → d < m → PotOk H' p → Keep p H H' → Q (.int d) H'
theorem sc24 : FnScope ["_law_pot_here", "_law_size", "_law_digit"] ["_law_pot_here", "_law_size"] (defScope sDraw) := ⟨rfl, rfl, rfl, by decide +kernel, rfl, by decide +kernel, by decide +kernel⟩
theorem d_draw (B : Bnd K mg "_law_draw" sDraw) (M : Mg mg) : Def P w K mg base (k + 1) "_law_draw" sDraw ["_law_pot_here", "_law_size"] spDraw := by
  refine def_of B sc24 (by rintro _ _ _ _ ⟨a, n, rfl, _⟩; rfl) (fun _ _ _ _ _ _ us hl => match us, hl with | [_, _], _ => rfl) fun f cdv A outer s H vs Q E hr h => ?_
  obtain ⟨p, m, rfl, ⟨u, v, hp, hu, hv, hv2⟩, h1, h2, q⟩ := h
  refine ⟨_, pss_cons (ps_if (pt_cmpR op_gt (pe_ix ix_list (pv 0) pe_int (fun _ _ => rfl)) pe_int (nomark _))
      (pss_cons (ps_asg (pe_callB call_divmod (by rfl) M.divmod (by decide +kernel) (pa_cons (pe_ix ix_list (pv 0) pe_int (fun _ _ => rfl)) (pa_cons (pv 1) pa_nil))) (pg_tup rfl (pgs_cons (pg_sub (pv 0) pe_int set_list) (pgs_cons (pg_name (i := 2) sc24.nd rfl (.inl rfl)) pgs_nil))))
        (pss_one (ps_ret (pv 2)))) pss_nil)
    (pss_cons (ps_asg (pe_op op_mod (pe_callTy call_int1 (by rfl) M.int (by decide +kernel) (pa_cons (pe_op op_add (pe_op op_mul (pe_ix ix_list (pv 0) pe_int (fun _ _ => rfl)) pe_int) pe_int) pa_nil)) pe_int) (pg_sub (pv 0) pe_int set_list))
    (pss_one (ps_ret (pe_op op_mod (pe_callTy call_int1 (by rfl) M.int (by decide +kernel) (pa_cons (pe_op op_fdiv (pe_op op_mod (pe_callTy call_int1 (by rfl) M.int (by decide +kernel) (pa_cons (pe_op op_mul (pe_ix ix_list (pv 0) pe_int (fun _ _ => rfl)) (pe_ix ix_list (pv 0) pe_int (fun _ _ => rfl))) pa_nil)) pe_int) pe_int) pa_nil)) (pv 1))))), ?_⟩
  refine ⟨_, rfl, p, _, 0, .int u, rfl, rfl, SqL.of hp, rfl, u, 0, rfl, rfl, _, rfl, ite2 (fun c => ?_) (fun c => ?_)⟩
  · have c' := of_decide_eq_true c
    refine ⟨_, rfl, p, _, 0, .int u, rfl, rfl, SqL.of hp, rfl, _, rfl, u, m, rfl, ⟨by omega, by omega⟩, fun t nt => ?_⟩
    have ne : p ≠ t := ne_of_none hp nt
    refine ⟨t, _, rfl, SqT.of upd_same, rfl, _, _, rfl, _, rfl, p, _, 0, 0, rfl, rfl, by rw [upd_ne ne]; exact hp, rfl, _, _, rfl, rfl, _, rfl, ?_⟩
    refine q _ _ (Int.emod_nonneg _ (by omega)) (Int.emod_lt_of_pos _ (by omega)) ⟨u / m, v, upd_same, Int.ediv_nonneg hu (by omega), hv, hv2⟩ ?_
    exact (Keep.of (same_new nt)).trans keep_upd
  · refine ⟨_, rfl, p, _, 1, .int v, rfl, rfl, SqL.of hp, rfl, v, _, rfl, rfl, .inl ⟨by omega, by omega⟩, _, _, rfl, rfl, Or.inl ⟨_, rfl, _, _, rfl, rfl, by omega, ?_⟩⟩
    refine ⟨_, rfl, p, _, 1, 1, rfl, rfl, hp, rfl, ?_⟩
    have b0 : 0 ≤ (v * 40433 + 2287) % 2147483587 := Int.emod_nonneg _ (by omega)
    have b1 : (v * 40433 + 2287) % 2147483587 < 2147483587 := Int.emod_lt_of_pos _ (by omega)
    have hp' : (upd H p (.lst ([V.int u, V.int v].set 1 (.int ((v * 40433 + 2287) % 2147483587))))) p = some (.lst [.int u, .int ((v * 40433 + 2287) % 2147483587)]) := upd_same
    refine ⟨_, rfl, p, _, 1, _, rfl, rfl, SqL.of hp', rfl, _, rfl, p, _, 1, _, rfl, rfl, SqL.of hp', rfl, _, _, rfl, rfl, .inl ⟨by omega, by omega⟩, Or.inl ⟨_, rfl, _, _, rfl, rfl, by omega, _, _, rfl, rfl, ⟨by omega, by omega⟩, Or.inl ⟨_, rfl, ?_⟩⟩⟩
    refine ⟨_, rfl, _, m, rfl, rfl, by omega, ?_⟩
    exact q _ _ (Int.emod_nonneg _ (by omega)) (Int.emod_lt_of_pos _ (by omega)) ⟨u, _, hp', hu, b0, by omega⟩ keep_upd
def spPick : Sp := fun vs H Q _ => ∃ (p b : Addr) (xs : List V), vs = [.ref p, .ref b] ∧ PotOk H p ∧ H b = some (.lst xs) ∧ b ≠ p ∧ 1 ≤ xs.length ∧ xs.length ≤ 1000 ∧ ∀ x H', x ∈ xs → PotOk H' p → Keep p H H' → Q x H'
theorem sc25 : FnScope ["_law_pot_here", "_law_some"] ["_law_pot_here", "_law_some"] (defScope sPick) := ⟨rfl, rfl, rfl, by decide +kernel, rfl, by decide +kernel, by decide +kernel⟩
theorem d_pick (B : Bnd K mg "_law_pick" sPick) (M : Mg mg) (D : Def P w K mg base k "_law_draw" sDraw ["_law_pot_here", "_law_size"] spDraw) : Def P w K mg base (k + 1) "_law_pick" sPick ["_law_pot_here", "_law_some"] spPick := by
  refine def_of B sc25 (by rintro _ _ _ _ ⟨a, n, x, rfl, _⟩; rfl) (fun _ _ _ _ _ _ us hl => match us, hl with | [_, _], _ => rfl) fun f cdv A outer s H vs Q E hr h => ?_
  obtain ⟨p, b, xs, rfl, hp, hb, ne, l1, l2, q⟩ := h
  refine ⟨_, pss_one (ps_ret (pe_ix ix_list (pv 1) (pe_d D hr (by rfl) (pa_cons (pv 0) (pa_cons (pe_callB call_len_seq (by rfl) M.len boot_len (pa_cons (pv 1) pa_nil)) pa_nil))) (fun _ _ => rfl))), ?_⟩
  refine ⟨_, rfl, _, rfl, _, rfl, b, xs, rfl, .inl (SqL.of hb), p, _, rfl, hp, by omega, by omega, fun d H' d0 d1 hp' kp => ?_⟩
  have hd : d.toNat < xs.length := by omega
  exact ⟨b, xs, d, xs[d.toNat], rfl, rfl, SqL.of (kp _ _ ne hb), at_of (j := d.toNat) (by omega) (List.getElem?_eq_getElem hd), q _ _ (List.getElem_mem hd) hp' kp⟩
end
/-! ### lists of ints as data -/
abbrev DI (ns : List Int) : PyData := .list (ns.map PyData.int)
theorem dpAll_ints {K : PySem.W.Frag} {H : Hp} : ∀ ns : List Int, DpAll K H (VI ns) (ns.map PyData.int)
  | [] => .nil
  | n :: r => .cons (.int n) (dpAll_ints r)
theorem dp_ints {K : PySem.W.Frag} {H : Hp} {a : Addr} {ns : List Int} (h : SqL K H a (VI ns)) : Dp K H (.ref a) (DI ns) := .lst h (dpAll_ints ns)
theorem di_lay : ∀ ns : List Int, PyData.canLayAll0 (ns.map PyData.int) = true
  | [] => rfl
  | n :: r => by rw [List.map_cons, PyData.canLayAll0, di_lay r]; rfl
theorem di_depthAll : ∀ ns : List Int, PyData.depthAll (ns.map PyData.int) ≤ 1
  | [] => by simp [PyData.depthAll]
  | n :: r => by
    have := di_depthAll r
    rw [List.map_cons, PyData.depthAll]
    simp only [PyData.depth]
    omega
theorem di_depth (ns : List Int) : (DI ns).depth ≤ 8 := by
  have := di_depthAll ns
  simp only [PyData.depth]
  omega
theorem di_shaped (ns : List Int) : SeqAt.shaped (DI ns) = true := by
  unfold SeqAt.shaped
  have h1 : (DI ns).canLay0 = true := by rw [PyData.canLay0]; exact di_lay ns
  have h2 := di_depth ns
  rw [h1, decide_eq_true (by omega)]; rfl
theorem di_refl (ns : List Int) : PyData.eqv (DI ns) (DI ns) = true := SeqAt.eqv_refl _ (by rw [PyData.canLay0]; exact di_lay ns)
theorem di_nil : ∀ ns : List Int, PyData.eqv (DI ns) (DI []) = ns.isEmpty
  | [] => di_refl []
  | n :: r => by rw [PyData.eqv, List.map_cons, List.map_nil]; rfl
theorem int_short : ∀ n : Nat, n < 1000 → (PyData.shown (.int (n : Int))).length ≤ 8 := by decide +kernel
theorem int_log : ∀ n : Nat, n < 1000 → n.log2 < 1920 := fun n h => by
  have h1 : n < 2 ^ 10 := by omega
  by_cases h0 : n = 0
  · subst h0; decide
  · have := (Nat.log2_lt h0).mpr h1
    omega
abbrev Sm (ns : List Int) : Prop := ∀ n ∈ ns, 0 ≤ n ∧ n < 1000
theorem di_leaves : ∀ ns : List Int, Sm ns → PyData.leavesShortAll 8 (ns.map PyData.int) = true
  | [], _ => rfl
  | n :: r, h => by
    have h1 := h n List.mem_cons_self
    rw [List.map_cons, PyData.leavesShortAll, di_leaves r fun x hx => h x (List.mem_cons_of_mem _ hx), Bool.and_true, PyData.leavesShort]
    have h2 := int_short n.toNat (by omega)
    rw [show ((n.toNat : Nat) : Int) = n by omega] at h2
    exact decide_eq_true h2
theorem di_showAll : ∀ ns : List Int, Sm ns → PyData.showableAll (ns.map PyData.int) = true
  | [], _ => rfl
  | n :: r, h => by
    have h1 := h n List.mem_cons_self
    rw [List.map_cons, PyData.showableAll, di_showAll r fun x hx => h x (List.mem_cons_of_mem _ hx), Bool.and_true, PyData.showable]
    exact decide_eq_true (int_log n.natAbs (by omega))
theorem di_dictAll : ∀ ns : List Int, PyData.hasDictAll (ns.map PyData.int) = false
  | [] => rfl
  | n :: r => by rw [List.map_cons, PyData.hasDictAll, di_dictAll r]; rfl
theorem di_bulk : ∀ ns : List Int, PyData.bulkAll (ns.map PyData.int) = ns.length
  | [] => rfl
  | n :: r => by rw [List.map_cons, PyData.bulkAll, di_bulk r, PyData.bulk, List.length_cons]; omega
/-- what repr asks of a list of small ints -/
theorem di_repr {ns : List Int} (h : Sm ns) (hz : ns.length ≤ 1000) : (DI ns).showable = true ∧ (DI ns).hasDict = false ∧ (DI ns).depth ≤ 8 ∧ (DI ns).shown.length ≤ sizeLine := by
  refine ⟨by rw [PyData.showable]; exact di_showAll ns h, by rw [PyData.hasDict]; exact di_dictAll ns, di_depth ns, PyData.shown_fits_bulk (B := 8) (by omega) (by omega) (by rw [PyData.leavesShort]; exact di_leaves ns h) ?_⟩
  rw [PyData.bulk, di_bulk]
  omega
/-- a pair of bools -/
theorem db_repr (b c : Bool) : (PyData.list [.bool b, .bool c]).showable = true ∧ (PyData.list [.bool b, .bool c]).hasDict = false ∧ (PyData.list [.bool b, .bool c]).depth ≤ 8 ∧ (PyData.list [.bool b, .bool c]).shown.length ≤ sizeLine := by
  cases b <;> cases c <;> refine ⟨by decide +kernel, by decide +kernel, by decide +kernel, ?_⟩ <;> exact Nat.le_trans (show _ ≤ 100 by decide +kernel) (by decide)
/-! ### slices -/
theorem cut_last (L : List V) (x : V) : cutV (L ++ [x]) none (some (-1)) = L := by
  have e : HT.sIx (L ++ [x]).length (L ++ [x]).length (some (-1)) = L.length := by
    show (if (-1 : Int) < 0 then ((-1 : Int) + ((L ++ [x]).length : Int)).toNat else min (-1 : Int).toNat (L ++ [x]).length) = L.length
    rw [if_pos (by decide), List.length_append, List.length_singleton]
    omega
  unfold cutV
  rw [e, HT.sIx_none, List.drop_zero, Nat.sub_zero]
  simp
/-! ### comprehensions over a list -/
section
variable {K : PySem.W.Frag} {a : Addr} {xs : List V} {g : TG} {tt : TT} {te : TE} {vs : List Nat} {σ : L2.St} {H : Hp}
theorem lc_l {Dd : Addr} {Qd : Hp → Prop} (f : Nat → Option V) (hS : SqL K H a xs) (hD : H Dd = none) (hz : xs.length ≤ sizeLine)
    (hs : ∀ i x H1, xs[i]? = some x → Same H H1 → LcTurn f g tt te vs σ i x H1 H1)
    (hd : ∀ H1, Same H H1 → H1 Dd = some (.lst ((List.range xs.length).filterMap f)) → Qd H1) : ∃ W : Nat → Nat → Hp → Prop, (∃ m, W 0 m (upd H Dd (.lst []))) ∧ ∀ i m H, W i m H →
      ((Itl K a).stop i H ∧ Qd H) ∨ ((Itl K a).go i H ∧ ∃ Nx : Hp → Prop, (∀ H', Nx H' → ∃ m', m' < m ∧ W (i + 1) m' H') ∧ ∀ x H', (Itl K a).yld i H x H' → g x (wipe σ vs) H' fun σ2 H2 => wipe σ2 vs = wipe σ vs ∧ tt σ2 H2 fun b H3 =>
        if b = true then te σ2 H3 fun y H4 => ∃ acc, H4 Dd = some (.lst acc) ∧ acc.length < sizeLine ∧ Nx (upd H4 Dd (.lst (acc ++ [y]))) else Nx H3) :=
  lc_list (xs := xs) (LcInv f H Dd) (LcInv.start hD) (fun i H1 _ p => p.1.seq hS) (fun i x H1 hx p => p.turn hD (Nat.lt_of_lt_of_le (List.getElem?_eq_some_iff.mp hx).1 hz) (Same.refl _) (hs i x H1 hx p.1)) fun H1 p => hd H1 p.1 p.2
end
end K21

namespace Fp
open PySem PySem.Spec PyProof.Rows L2
/-! ### the class Ratio -/
structure RCls (K : PySem.W.Frag) (mg : Str → Option Value) (C fI fR : Addr) : Prop where
  cl : Cls K C
  nT : NoAttr K C "_top"
  nB : NoAttr K C "_bottom"
  mgC : mg "Ratio" = some (.ref C)
  make : Mk K C fI
  rpA : PySem.W.findIn K (.ref C) "__repr__" = some (some (.ref fR))
  rpF : PySem.W.isFn K (.ref fR) = true
  isA : PySem.W.findIn K (.ref C) "__class__" = some (some (.builtin "object.__class__"))
  isN : PySem.W.specialIn K (.builtin "object.__class__") "__get__" = some (some (.builtin "getset_descriptor.__get__"))
  isT : PySem.W.takesIn K (.builtin "object.__class__") = some true
  isM : PySem.W.mroIn K C (.type "object") = some true
  kI : PySem.W.kitOne K (.ref C) (.type "int") = some false
  kB : PySem.W.kitOne K (.ref C) (.type "bool") = some false
  kL : PySem.W.kitOne K (.ref C) (.type "list") = some false
  kT : PySem.W.kitOne K (.ref C) (.type "tuple") = some false
/-- behind __init__: the instance at p holds top and bottom -/
def spRI (C : Addr) : Sp := fun vs H Q _ => ∃ (p dx : Addr) (t b : Int), vs = [.ref p, .int t, .int b] ∧ RdI t b ∧ H p = some (.ins C dx []) ∧ ∀ H', (∀ b o, b ≠ p → H b = some o → H' b = some o) → H' p = some (.ins C dx [("_top", .int t), ("_bottom", .int b)]) → Q .non H'
def spRR (C : Addr) : Sp := spRp fun a H t => ∃ p q, Rat2 C H a p q ∧ okI p ∧ okI q ∧ t = ratText p q
/-- a def's facts, with defaults -/
structure RDef (P : Program) (w : World) (K : PySem.W.Frag) (mg : Str → Option Value) (base : Heap) (k : Nat) (C : Addr) : Prop where
  ex : ∃ (fI fR : Addr) (fdI fdR : FuncData), RCls K mg C fI fR ∧ FnOk P w K mg base CX0 k fI fdI ["self", "top", "bottom"] (spRI C) ∧ (∃ ds, Vals [V.int 1] ds ∧ Binds K fdI ["self", "top", "bottom"] ds) ∧ Binds K fdI ["self", "top", "bottom"] [] ∧
    FnOk P w K mg base CX0 k fR fdR ["self"] (spRR C) ∧ Binds K fdR ["self"] []
section
variable {X : Cx} {C : Addr} {k : Nat}
theorem RDef.own (D : RDef X.prog X.w X.K X.mg X.base k C) (hr : Room (k + 1) X.A) : OwnRp X C k := by
  obtain ⟨fI, fR, fdI, fdR, R, _, _, _, FR, bR⟩ := D.ex
  constructor
  · intro H0 Cl a p q r b1 b2
    obtain ⟨dx, e⟩ := id r
    exact RpG.ins FR R.rpA R.rpF bR (pass0 (X := X)) e fun H sm => ⟨p, q, r.same sm, b1, b2, rfl⟩
  · intro pins s σ H a p q I r b1 b2
    obtain ⟨dx, e⟩ := id r
    exact top_own FR R.rpA R.rpF bR (pass0 (X := X)) hr I e ⟨p, q, r, b1, b2, rfl⟩
/-- Ratio(e) -/
def tRat (C : Addr) (t : TA) : TE := fun σ H Q => t σ H fun vs H1 => ∃ i : Int, vs = [.int i] ∧ ∀ a H', H1 a = none → Same H1 H' → Rat2 C H' a i 1 → Q (.ref a) H'
theorem pe_rat (D : RDef X.prog X.w X.K X.mg X.base k C) (hr : Room (k + 1) X.A) {p pos : Pos} {e : Expr} {es : List Expr} {t : TA} (hg : Gl X "Ratio") (ha : PA X (e :: es) t)
    (he : starEach (e :: es) X.env = (false, eval e X.env) :: starEach es X.env := by rfl) (hpl : (backTo pos (starEach es X.env)).any (·.1) = false := by rfl) : PE X (.Call (.Name "Ratio" p) (e :: es) [] pos) (tRat C t) := by
  obtain ⟨fI, fR, fdI, fdR, R, FI, ⟨ds, hds, bI⟩, _⟩ := D.ex
  refine ⟨fun pins s σ H Q I h => ?_⟩
  refine wpAny_Call_Name_kw (ld_glob I hg R.mgC ?_ (by decide))
  refine PySem.W.callWith_K (h₀ := X.base) I.ok.mod.kin R.make.kp (thn (ha.run pos pins s σ H _ I h) fun us s1 ⟨vs, H1, I1, r, q⟩ => ⟨I1.kIn, ?_⟩) he hpl
  refine run_make R.make FI hr bI hds (pass0 (X := X)) I1 r fun x dx nx ndx ne => ?_
  obtain ⟨i, rfl, q⟩ := q
  refine ⟨x, dx, i, 1, rfl, rdI_one i, upd_same, fun H' kp hx => ⟨rfl, q x H' nx (fun b o e => ?_) ⟨dx, hx⟩⟩⟩
  have n1 := ne_of_none e nx
  exact kp b o n1 (by rw [upd_ne n1, upd_ne (ne_of_none e ndx)]; exact e)
/-- Ratio(e, f) in lowest terms -/
def tRat2 (C : Addr) (t : TA) : TE := fun σ H Q => t σ H fun vs H1 => ∃ i j : Int, vs = [.int i, .int j] ∧ RdI i j ∧ ∀ a H', H1 a = none → Same H1 H' → Rat2 C H' a i j → Q (.ref a) H'
theorem pe_rat2 (D : RDef X.prog X.w X.K X.mg X.base k C) (hr : Room (k + 1) X.A) {p pos : Pos} {e : Expr} {es : List Expr} {t : TA} (hg : Gl X "Ratio") (ha : PA X (e :: es) t)
    (he : starEach (e :: es) X.env = (false, eval e X.env) :: starEach es X.env := by rfl) (hpl : (backTo pos (starEach es X.env)).any (·.1) = false := by rfl) : PE X (.Call (.Name "Ratio" p) (e :: es) [] pos) (tRat2 C t) := by
  obtain ⟨fI, fR, fdI, fdR, R, FI, _, bI, _⟩ := D.ex
  refine ⟨fun pins s σ H Q I h => ?_⟩
  refine wpAny_Call_Name_kw (ld_glob I hg R.mgC ?_ (by decide))
  refine PySem.W.callWith_K (h₀ := X.base) I.ok.mod.kin R.make.kp (thn (ha.run pos pins s σ H _ I h) fun us s1 ⟨vs, H1, I1, r, q⟩ => ⟨I1.kIn, ?_⟩) he hpl
  refine run_make (dvs := []) R.make FI hr bI .nil (pass0 (X := X)) I1 r fun x dx nx ndx ne => ?_
  obtain ⟨i, j, rfl, rd, q⟩ := q
  refine ⟨x, dx, i, j, rfl, rd, upd_same, fun H' kp hx => ⟨rfl, q x H' nx (fun b o e => ?_) ⟨dx, hx⟩⟩⟩
  have n1 := ne_of_none e nx
  exact kp b o n1 (by rw [upd_ne n1, upd_ne (ne_of_none e ndx)]; exact e)
end
end Fp

namespace Fp
open PySem PySem.Spec PyProof.Rows L2
/-! ### any value -/
def isI : V → Bool
  | .int _ => true
  | _ => false
def isB : V → Bool
  | .bl _ => true
  | _ => false
def isCnt : V → Bool
  | .int i => decide (0 ≤ i)
  | _ => false
def toZ : V → Int
  | .int i => i
  | _ => 0
/-- the items of a list or a tuple -/
def itemsOf (H : Hp) : V → Option (List V)
  | .ref a => match H a with
    | some (.lst xs) => some xs
    | some (.tup xs) => some xs
    | _ => none
  | _ => none
/-- how long a text may be -/
def Bz (d : Nat) : Nat := if d = 0 then 600 else if d = 1 then 36800 else if d = 2 then 2250000 else 16000000
theorem Bz_mono {d e : Nat} (h : d ≤ e) : Bz d ≤ Bz e := by unfold Bz; (repeat' split) <;> omega
theorem Bz_size (d : Nat) : Bz d ≤ sizeLine := by rw [sizeLine_eq]; unfold Bz; (repeat' split) <;> omega
theorem Bz_ge (d : Nat) : 600 ≤ Bz d := by unfold Bz; (repeat' split) <;> omega
def Sk (C : Addr) (H : Hp) (d : Nat) (x : V) : Prop := ∃ t, Sh C H d x t ∧ t.length ≤ Bz d
theorem okI_small {i : Int} (h : i.natAbs < 10 ^ 50) : okS i := h
theorem int_short {i : Int} (h : okS i) : (Str.ofString (toString i)).length ≤ 51 := by
  have := PySem.int_text_length_le10 (a := i) (k := 50) (by omega) h
  have e : (Str.ofString (toString i)).length = (toString i).length := by
    rw [congrFun Str.ofString_eq_byList]
    unfold Str.ofStringByList Str.length
    simp
    try first | rfl | exact String.length_toList
  omega
theorem Sh.more {C : Addr} {H : Hp} {d : Nat} {x : V} {t : Str} (h : Sh C H d x t) : ∀ {e : Nat}, d ≤ e → Sh C H e x t := by
  induction h with
  | int h => exact fun _ => .int h
  | bl b => exact fun _ => .bl b
  | non => exact fun _ => .non
  | str x h => exact fun _ => .str x h
  | own r h1 h2 h3 => exact fun _ => .own r h1 h2 h3
  | lst h1 h0 h2 _ ih =>
    intro e le
    cases e with
    | zero => omega
    | succ e => exact .lst h1 h0 h2 fun i x t a b => ih i x t a b (by omega)
  | tup h1 h0 h2 _ ih =>
    intro e le
    cases e with
    | zero => omega
    | succ e => exact .tup h1 h0 h2 fun i x t a b => ih i x t a b (by omega)
  | dct h1 h0 h2 =>
    intro e le
    cases e with
    | zero => omega
    | succ e => exact .dct h1 h0 h2
  | dcl h1 h2 h3 h4 h5 =>
    intro e le
    match e, le with
    | e + 2, le => exact .dcl h1 h2 h3 h4 h5
    | 0, le => omega
    | 1, le => omega
section
variable {C : Addr} {H H' : Hp} {d : Nat} {x : V}
theorem Sk.same (h : Sk C H d x) (e : Same H H') : Sk C H' d x := let ⟨t, h, l⟩ := h; ⟨t, h.same e, l⟩
theorem Sk.more {e : Nat} (h : Sk C H d x) (le : d ≤ e) : Sk C H e x := let ⟨t, h, l⟩ := h; ⟨t, h.more le, Nat.le_trans l (Bz_mono le)⟩
theorem Sk.int {i : Int} (h : okS i) : Sk C H d (.int i) := ⟨_, .int h, by have := int_short h; have := Bz_ge d; omega⟩
theorem Sk.bl (b : Bool) : Sk C H d (.bl b) := ⟨_, .bl b, by have := Bz_ge d; cases b <;> exact Nat.le_trans (by decide) this⟩
theorem Sk.non : Sk C H d .non := ⟨_, .non, Nat.le_trans (by decide) (Bz_ge d)⟩
theorem Sk.str {x : Str} (h : (reprText x).length ≤ 600) : Sk C H d (.str x) := ⟨_, .str x (by omega), Nat.le_trans h (Bz_ge d)⟩
theorem Sk.own {a : Addr} {p q : Int} (r : Rat2 C H a p q) (h1 : okS p) (h2 : okS q) (h3 : RdI p q) : Sk C H d (.ref a) := ⟨_, .own r h1 h2 h3, by
  have := int_short h1
  have := int_short h2
  have := Bz_ge d
  unfold ratText
  rw [strLen_append, strLen_append, strLen_append, strLen_append]
  have e1 : (Str.ofString "Ratio(").length = 6 := rfl
  have e2 : (Str.ofString ", ").length = 2 := rfl
  have e3 : (Str.ofString ")").length = 1 := rfl
  omega⟩
theorem texts {xs : List V} (h : ∀ x ∈ xs, Sk C H d x) : ∃ ts : List Str, ts.length = xs.length ∧ (∀ t ∈ ts, t.length ≤ Bz d) ∧ ∀ (i : Nat) x t, xs[i]? = some x → ts[i]? = some t → Sh C H d x t := by
  induction xs with
  | nil => exact ⟨[], rfl, (fun t h => by cases h), fun i x t h => by simp at h⟩
  | cons x xs ih =>
    obtain ⟨t, ht, l0⟩ := h x List.mem_cons_self
    obtain ⟨ts, l, bs, hs⟩ := ih fun y hy => h y (List.mem_cons_of_mem _ hy)
    refine ⟨t :: ts, by rw [List.length_cons, List.length_cons, l], fun u hu => ?_, fun i y u h1 h2 => ?_⟩
    · rcases List.mem_cons.mp hu with z | z
      · rw [z]; exact l0
      · exact bs u z
    cases i with
    | zero =>
      simp at h1 h2
      subst h1 h2
      exact ht
    | succ i => exact hs i y u (by simpa using h1) (by simpa using h2)
/-- how many items a list of depth d + 1 may have -/
def Nz (d : Nat) : Nat := if d ≤ 1 then 61 else if d = 2 then 7 else 0
theorem Nz_60 (d : Nat) : Nz d ≤ 61 := by unfold Nz; (repeat' split) <;> omega
theorem Nz_le (h : d ≤ 1) : Nz d = 61 := if_pos h
theorem Bz_up : ∀ {d n : Nat}, n ≤ Nz d → n * (Bz d + 2) + 3 ≤ Bz (d + 1)
  | 0, n, h => by
    have h2 : n ≤ 61 := h
    show n * (600 + 2) + 3 ≤ 36800
    omega
  | 1, n, h => by
    have h2 : n ≤ 61 := h
    show n * (36800 + 2) + 3 ≤ 2250000
    omega
  | 2, n, h => by
    have h2 : n ≤ 7 := h
    show n * (2250000 + 2) + 3 ≤ 16000000
    omega
  | d + 3, n, h => by
    have h2 : n ≤ 0 := by unfold Nz at h; rw [if_neg (by omega), if_neg (by omega)] at h; exact h
    obtain rfl := Nat.le_zero.mp h2
    have := Bz_ge (d + 3 + 1)
    omega
theorem Sk.lstN {a : Addr} {xs : List V} (h : H a = some (.lst xs)) (l : xs.length ≤ Nz d) (hx : ∀ x ∈ xs, Sk C H d x) : Sk C H (d + 1) (.ref a) := by
  obtain ⟨ts, h1, b, h2⟩ := texts hx
  refine ⟨_, .lst h (Nat.le_trans l (Nz_60 d)) h1 h2, ?_⟩
  have := listText_le ts
  have := piled_all b
  have := Bz_up (n := ts.length) (h1 ▸ l)
  omega
theorem Sk.tupN {a : Addr} {xs : List V} (h : H a = some (.tup xs)) (l : xs.length ≤ Nz d) (hx : ∀ x ∈ xs, Sk C H d x) : Sk C H (d + 1) (.ref a) := by
  obtain ⟨ts, h1, b, h2⟩ := texts hx
  refine ⟨_, .tup h (Nat.le_trans l (Nz_60 d)) h1 h2, ?_⟩
  have := tupleText_le ts
  have := piled_all b
  have := Bz_up (n := ts.length) (h1 ▸ l)
  omega
theorem Sk.lst {a : Addr} {xs : List V} (h : H a = some (.lst xs)) (l : xs.length ≤ 61) (hx : ∀ x ∈ xs, Sk C H d x) (hd : d ≤ 1 := by omega) : Sk C H (d + 1) (.ref a) := Sk.lstN h (by rw [Nz_le hd]; exact l) hx
theorem Sk.tup {a : Addr} {xs : List V} (h : H a = some (.tup xs)) (l : xs.length ≤ 61) (hx : ∀ x ∈ xs, Sk C H d x) (hd : d ≤ 1 := by omega) : Sk C H (d + 1) (.ref a) := Sk.tupN h (by rw [Nz_le hd]; exact l) hx
theorem Sk.sh (h : Sk C H d x) : ∃ t, Sh C H d x t ∧ t.length ≤ sizeLine := let ⟨t, h, l⟩ := h; ⟨t, h, Nat.le_trans l (Bz_size d)⟩
theorem itemsOf_same (h : Sk C H d x) (e : Same H H') : itemsOf H' x = itemsOf H x := by
  obtain ⟨t, h, _⟩ := h
  cases h with
  | int h => rfl
  | bl b => rfl
  | non => rfl
  | str x h => rfl
  | own r h1 h2 =>
    obtain ⟨dx, r⟩ := r
    unfold itemsOf
    simp only [r, e _ _ r]
  | lst h1 => unfold itemsOf; simp only [h1, e _ _ h1]
  | tup h1 => unfold itemsOf; simp only [h1, e _ _ h1]
  | dct h1 => unfold itemsOf; simp only [h1, e _ _ h1]
  | dcl h1 => unfold itemsOf; simp only [h1, e _ _ h1]
/-- a list or a tuple, or neither -/
theorem Sk.items (h : Sk C H d x) {xs : List V} (e : itemsOf H x = some xs) : ∃ a, x = .ref a ∧ (H a = some (.lst xs) ∨ H a = some (.tup xs)) ∧ xs.length ≤ 61 ∧ ∀ y ∈ xs, Sk C H d y := by
  obtain ⟨t, h, lt⟩ := h
  cases h with
  | int h => cases e
  | bl b => cases e
  | non => cases e
  | str x h => cases e
  | own r h1 h2 =>
    obtain ⟨dx, r⟩ := r
    unfold itemsOf at e
    simp only [r] at e
    cases e
  | @lst d a ys ts h1 h0 h2 h3 =>
    unfold itemsOf at e
    simp only [h1] at e
    obtain rfl := Option.some.inj e
    refine ⟨a, rfl, .inl h1, h0, fun y hy => ?_⟩
    obtain ⟨i, hi⟩ := List.getElem?_of_mem hy
    have l := (List.getElem?_eq_some_iff.mp hi).1
    have e2 := List.getElem?_eq_getElem (h2 ▸ l : i < ts.length)
    have p0 := piled_le_listText ts
    have p1 := piled_take_succ e2
    have p2 := piled_take_le ts (i + 1)
    exact ⟨_, (h3 i y _ hi e2).more (Nat.le_succ d), by omega⟩
  | @tup d a ys ts h1 h0 h2 h3 =>
    unfold itemsOf at e
    simp only [h1] at e
    obtain rfl := Option.some.inj e
    refine ⟨a, rfl, .inr h1, h0, fun y hy => ?_⟩
    obtain ⟨i, hi⟩ := List.getElem?_of_mem hy
    have l := (List.getElem?_eq_some_iff.mp hi).1
    have e2 := List.getElem?_eq_getElem (h2 ▸ l : i < ts.length)
    have p0 := piled_le_tupleText ts
    have p1 := piled_take_succ e2
    have p2 := piled_take_le ts (i + 1)
    exact ⟨_, (h3 i y _ hi e2).more (Nat.le_succ d), by omega⟩
  | dct h1 =>
    unfold itemsOf at e
    simp only [h1] at e
    cases e
  | dcl h1 =>
    unfold itemsOf at e
    simp only [h1] at e
    cases e
theorem kit_seqs {K : PySem.W.Frag} {t : String} (h1 : kitB t "list" = some false) (h2 : kitB t "tuple" = some false) : PySem.W.kitAny K (.type t) [.type "list", .type "tuple"] = some false :=
  kitAny_cons (kit_ty (r := false) h1) (fun _ => kitAny_cons (kit_ty (r := false) h2) (fun _ => rfl) (fun z => nomatch z)) (fun z => nomatch z)
/-- its type, and what isinstance says -/
theorem Sk.kit {K : PySem.W.Frag} {mg : Str → Option Value} {fI fR : Addr} (h : Sk C H d x) (R : RCls K mg C fI fR) :
    ∃ ty, TyX K H x ty ∧ PySem.W.kitOne K ty (.type "int") = some (isI x || isB x) ∧ PySem.W.kitOne K ty (.type "bool") = some (isB x) ∧ PySem.W.kitAny K ty [.type "list", .type "tuple"] = some (itemsOf H x).isSome := by
  obtain ⟨t, h, lt⟩ := h
  cases h with
  | int h => exact ⟨_, .base (.int _), kit_ty (r := true) (by decide +kernel), kit_ty (r := false) (by decide +kernel), kit_seqs (by decide +kernel) (by decide +kernel)⟩
  | bl b => exact ⟨_, .base (.bl _), kit_ty (r := true) (by decide +kernel), kit_ty (r := true) (by decide +kernel), kit_seqs (by decide +kernel) (by decide +kernel)⟩
  | non => exact ⟨_, .base .non, kit_ty (r := false) (by decide +kernel), kit_ty (r := false) (by decide +kernel), kit_seqs (by decide +kernel) (by decide +kernel)⟩
  | str x h => exact ⟨_, .base (.str _), kit_ty (r := false) (by decide +kernel), kit_ty (r := false) (by decide +kernel), kit_seqs (by decide +kernel) (by decide +kernel)⟩
  | @own d a p q r h1 h2 _ =>
    obtain ⟨dx, r⟩ := r
    refine ⟨_, .base (.ins r R.cl R.isA R.isN R.isT R.isM), R.kI, R.kB, ?_⟩
    have e : (itemsOf H (.ref a)).isSome = false := by unfold itemsOf; simp only [r]; rfl
    rw [e]
    exact kitAny_cons R.kL (fun _ => kitAny_cons R.kT (fun _ => rfl) (fun z => nomatch z)) (fun z => nomatch z)
  | @lst d a xs ts h1 h0 h2 h3 =>
    refine ⟨_, .base (.lst h1), kit_ty (r := false) (by decide +kernel), kit_ty (r := false) (by decide +kernel), ?_⟩
    have e : (itemsOf H (.ref a)).isSome = true := by unfold itemsOf; simp only [h1]; rfl
    rw [e]
    exact kit_lt.1
  | @tup d a xs ts h1 h0 h2 h3 =>
    refine ⟨_, .base (.tup h1), kit_ty (r := false) (by decide +kernel), kit_ty (r := false) (by decide +kernel), ?_⟩
    have e : (itemsOf H (.ref a)).isSome = true := by unfold itemsOf; simp only [h1]; rfl
    rw [e]
    exact kit_lt.2
  | @dct d a ds h1 h0 h2 =>
    refine ⟨_, .base (.dK h1), kit_ty (r := false) (by decide +kernel), kit_ty (r := false) (by decide +kernel), ?_⟩
    have e : (itemsOf H (.ref a)).isSome = false := by unfold itemsOf; simp only [h1]; rfl
    rw [e]
    exact kit_seqs (by decide +kernel) (by decide +kernel)
  | @dcl d a b k ns h1 h2 =>
    refine ⟨_, .base (.dK h1), kit_ty (r := false) (by decide +kernel), kit_ty (r := false) (by decide +kernel), ?_⟩
    have e : (itemsOf H (.ref a)).isSome = false := by unfold itemsOf; simp only [h1]; rfl
    rw [e]
    exact kit_seqs (by decide +kernel) (by decide +kernel)
end
end Fp

namespace Fp
open PySem PySem.Spec PyProof.Rows L2
/-- the heap without some objects -/
def wos (S : List Addr) (H : Hp) : Hp := fun b => if b ∈ S then none else H b
theorem wos_ne {S : List Addr} {b : Addr} {H : Hp} (h : b ∉ S) : wos S H b = H b := if_neg h
theorem wos_some {S : List Addr} {b : Addr} {H : Hp} {o : HO} : wos S H b = some o ↔ b ∉ S ∧ H b = some o := by
  unfold wos
  by_cases h : b ∈ S
  · rw [if_pos h]; exact ⟨fun z => (by cases z), fun z => absurd h z.1⟩
  · rw [if_neg h]; exact ⟨fun z => ⟨h, z⟩, fun z => z.2⟩
theorem wos_same {S : List Addr} {H H' : Hp} (e : Same H H') : Same (wos S H) (wos S H') := fun b o q => by
  obtain ⟨h1, h2⟩ := wos_some.mp q
  exact wos_some.mpr ⟨h1, e _ _ h2⟩
theorem wos_le {S : List Addr} {H : Hp} : Same (wos S H) H := fun b o q => (wos_some.mp q).2
def Kn (S : List Addr) (H : Hp) : Prop := ∀ s ∈ S, H s ≠ none
theorem Kn.same {S : List Addr} {H H' : Hp} (h : Kn S H) (e : Same H H') : Kn S H' := fun s hs z => by
  cases q : H s with
  | none => exact h s hs q
  | some o => rw [e _ _ q] at z; cases z
theorem Kn.new {S : List Addr} {H : Hp} {a : Addr} (h : Kn S H) (na : H a = none) : a ∉ S := fun hs => h a hs na
theorem wos_sub {S T : List Addr} {H : Hp} (h : ∀ b, b ∈ T → b ∈ S ∨ H b = none) : Same (wos S H) (wos T H) := fun b o q => by
  obtain ⟨h1, h2⟩ := wos_some.mp q
  exact wos_some.mpr ⟨fun z => (h b z).elim h1 fun e => (by rw [e] at h2; cases h2), h2⟩
/-! ### what an expression makes, if it only makes -/
def Gv (t : TE) (σ : L2.St) (H : Hp) (φ : V → Hp → Prop) : Prop := ∀ Q : VK, (∀ v H', Same H H' → φ v H' → Q v H') → t σ H Q
def GvA (t : TA) (σ : L2.St) (H : Hp) (φ : List V → Hp → Prop) : Prop := ∀ Q : List V → Hp → Prop, (∀ vs H', Same H H' → φ vs H' → Q vs H') → t σ H Q
section
variable {C : Addr} {S : List Addr} {K : PySem.W.Frag} {σ : L2.St} {H : Hp} {d e n m : Nat} {t t1 t2 : TE} {ts : TA}
abbrev GvS (C : Addr) (S : List Addr) (d : Nat) (t : TE) (σ : L2.St) (H : Hp) : Prop := Gv t σ H fun v H' => Sk C (wos S H') d v
abbrev GvSA (C : Addr) (S : List Addr) (d n : Nat) (t : TA) (σ : L2.St) (H : Hp) : Prop := GvA t σ H fun vs H' => vs.length = n ∧ ∀ v ∈ vs, Sk C (wos S H') d v
def LsV (C : Addr) (S : List Addr) (d n : Nat) (v : V) (H : Hp) : Prop := ∃ a ys, v = .ref a ∧ a ∉ S ∧ H a = some (.lst ys) ∧ ys.length ≤ n ∧ ∀ y ∈ ys, Sk C (wos S H) d y
abbrev GvL (C : Addr) (S : List Addr) (d n : Nat) (t : TE) (σ : L2.St) (H : Hp) : Prop := Gv t σ H fun v H' => LsV C S d n v H'
theorem LsV.same {v : V} {H' : Hp} (h : LsV C S d n v H) (s : Same H H') : LsV C S d n v H' := let ⟨a, ys, e1, e2, e3, e4, e5⟩ := h; ⟨a, ys, e1, e2, s _ _ e3, e4, fun y hy => (e5 y hy).same (wos_same s)⟩
theorem LsV.skN {v : V} (h : LsV C S d n v H) (hn : n ≤ Nz d) : Sk C (wos S H) (d + 1) v := by
  obtain ⟨a, ys, rfl, e2, e3, e4, e5⟩ := h
  exact Sk.lstN (by rw [wos_ne e2]; exact e3) (Nat.le_trans e4 hn) e5
theorem LsV.sk {v : V} (h : LsV C S d n v H) (hn : n ≤ 60) (hd : d ≤ 1 := by omega) : Sk C (wos S H) (d + 1) v := h.skN (by rw [Nz_le hd]; omega)
theorem LsV.more {v : V} (h : LsV C S d n v H) (hd : d ≤ e) (hn : n ≤ m) : LsV C S e m v H := let ⟨a, ys, e1, e2, e3, e4, e5⟩ := h; ⟨a, ys, e1, e2, e3, by omega, fun y hy => (e5 y hy).more hd⟩
theorem Gv.imp {φ ψ : V → Hp → Prop} (h : Gv t σ H φ) (k : ∀ v H', Same H H' → φ v H' → ψ v H') : Gv t σ H ψ := fun Q q => h Q fun v H' s f => q v H' s (k v H' s f)
theorem GvL.sN (h : GvL C S d n t σ H) (hn : n ≤ Nz d) : GvS C S (d + 1) t σ H := Gv.imp h fun v H' s f => f.skN hn
theorem GvL.s (h : GvL C S d n t σ H) (hn : n ≤ 60) (hd : d ≤ 1 := by omega) : GvS C S (d + 1) t σ H := Gv.imp h fun v H' s f => f.sk hn hd
theorem gvs_c {v : V} (h : ∀ H', Sk C H' d v) : GvS C S d (tC v) σ H := fun Q q => q v H (Same.refl _) (h _)
theorem gv_nil : GvSA C S d 0 tNil σ H := fun Q q => q [] H (Same.refl _) ⟨rfl, fun v h => by cases h⟩
theorem gv_cons (h1 : GvS C S d t σ H) (h2 : ∀ H1, Same H H1 → GvSA C S d n ts σ H1) : GvSA C S d (n + 1) (tCons t ts) σ H := fun Q q =>
  h1 _ fun v H1 s1 f1 => h2 H1 s1 _ fun vs H2 s2 f2 => q (v :: vs) H2 (s1.trans s2) ⟨by rw [List.length_cons, f2.1], fun x hx => by
    rcases List.mem_cons.mp hx with z | z
    · rw [z]; exact f1.same (wos_same s2)
    · exact f2.2 x z⟩
theorem gvl_lst (hp : Kn S H) (hn : n ≤ 1000) (h : GvSA C S d n ts σ H) : GvL C S d n (tLst ts) σ H := fun Q q =>
  h _ fun vs H1 s1 f1 => ⟨by rw [f1.1, sizeLine_eq]; omega, fun a na => by
    have np : a ∉ S := (hp.same s1).new na
    exact q _ _ (s1.trans (same_new na)) ⟨a, vs, rfl, np, upd_same, by rw [f1.1]; exact Nat.le_refl _, fun y hy => (f1.2 y hy).same (wos_same (same_new na))⟩⟩
theorem gvl_cat (hp : Kn S H) (hn : n + m ≤ 1000) (h1 : GvL C S d n t1 σ H) (h2 : ∀ H1, Same H H1 → GvL C S d m t2 σ H1) : GvL C S d (n + m) (tOp rCat t1 t2) σ H := fun Q q =>
  h1 _ fun v H1 s1 f1 => h2 H1 s1 _ fun u H2 s2 f2 => by
    obtain ⟨a, ys, rfl, e2, e3, e4, e5⟩ := f1.same s2
    obtain ⟨b, zs, rfl, g2, g3, g4, g5⟩ := f2
    refine ⟨a, b, ys, zs, rfl, rfl, e3, g3, by rw [sizeLine_eq]; omega, fun c nc => ?_⟩
    have s12 := s1.trans s2
    have np : c ∉ S := (hp.same s12).new nc
    exact q _ _ (s12.trans (same_new nc)) ⟨c, ys ++ zs, rfl, np, upd_same, by rw [List.length_append]; omega, fun y hy => by
      rcases List.mem_append.mp hy with z | z
      · exact (e5 y z).same (wos_same (same_new nc))
      · exact (g5 y z).same (wos_same (same_new nc))⟩
/-- a slice of a list that stands at the slot i -/
theorem gvl_sl {i : Nat} {W : Addr} {xs : List V} {lo hi : Option Int} {tlo thi : TO} (hv : ∀ H Q, Q (.ref W) H → tVar i σ H Q) (hlo : ∀ H (Q : Option Int → Hp → Prop), Q lo H → tlo σ H Q) (hhi : ∀ H (Q : Option Int → Hp → Prop), Q hi H → thi σ H Q) (hW : H W = some (.lst xs)) (hp : Kn S H)
    (hx : ∀ x ∈ xs, Sk C (wos S H) d x) (hn : xs.length ≤ n) : GvL C S d n (tSl (rSlL K) (tVar i) tlo thi) σ H := fun Q q =>
  hv _ _ (hlo _ _ (hhi _ _ ⟨W, xs, rfl, SqL.of hW, fun c nc => by
    have np : c ∉ S := hp.new nc
    refine q _ _ (same_new nc) ⟨c, _, rfl, np, upd_same, ?_, fun y hy => (hx y ?_).same (wos_same (same_new nc))⟩
    · exact Nat.le_trans (cutV_length _ _ _) hn
    · unfold cutV at hy
      exact List.mem_of_mem_drop (List.mem_of_mem_take hy)⟩))
theorem hv_of {i : Nat} {v : V} (h : σ[i]? = some (some v)) : ∀ H Q, Q v H → tVar i σ H Q := fun H Q q => ⟨v, h, q⟩
theorem hno : ∀ H (Q : Option Int → Hp → Prop), Q none H → tNoPart σ H Q := fun H Q q => q
theorem hpart {j : Nat} {s : Int} (h : σ[j]? = some (some (.int s))) : ∀ H (Q : Option Int → Hp → Prop), Q (some s) H → tPart (tVar j) σ H Q := fun H Q q => ⟨_, h, s, rfl, q⟩
theorem hpart1 {j : Nat} {s : Int} (h : σ[j]? = some (some (.int s))) : ∀ H (Q : Option Int → Hp → Prop), Q (some (s + 1)) H → tPart (tOp (rI0 fun i j => V.int (i + j)) (tVar j) (tC (V.int 1))) σ H Q := fun H Q q => ⟨_, h, s, 1, rfl, rfl, s + 1, rfl, q⟩
theorem gvs_var {i : Nat} {v : V} (h : σ[i]? = some (some v)) (hs : Sk C (wos S H) d v) : GvS C S d (tVar i) σ H := fun Q q => ⟨v, h, q v H (Same.refl _) hs⟩
theorem gvs_tup1 (hp : Kn S H) (h : GvS C S d t σ H) (hd : d ≤ 1 := by omega) : GvS C S (d + 1) (tTup (tCons t tNil)) σ H := fun Q q =>
  h _ fun v H1 s1 f1 => ⟨by show 1 ≤ sizeLine; decide, fun a na => by
    have np : a ∉ S := (hp.same s1).new na
    refine q _ _ (s1.trans (same_new na)) (Sk.tup (xs := [v]) (by rw [wos_ne np]; exact upd_same) (by simp) (fun y hy => ?_) hd)
    rw [List.mem_singleton.mp hy]
    exact f1.same (wos_same (same_new na))⟩
/-- a new list, its items shown without it -/
theorem gvl_lstW (hp : Kn S H) (hn : n ≤ 1000) (h : GvSA C S d n ts σ H) : Gv (tLst ts) σ H fun v H' => ∃ a ys, v = .ref a ∧ H a = none ∧ a ∉ S ∧ H' a = some (.lst ys) ∧ ys.length = n ∧ ∀ y ∈ ys, Sk C (wos (a :: S) H') d y := fun Q q =>
  h _ fun vs H1 s1 f1 => ⟨by rw [f1.1, sizeLine_eq]; omega, fun a na => by
    have np : a ∉ S := (hp.same s1).new na
    refine q _ _ (s1.trans (same_new na)) ⟨a, vs, rfl, s1.free na, np, upd_same, f1.1, fun y hy => (f1.2 y hy).same ?_⟩
    refine (wos_sub (T := a :: S) fun b hb => ?_).trans (wos_same (same_new na))
    rcases List.mem_cons.mp hb with z | z
    · exact .inr (z ▸ na)
    · exact .inl z⟩
/-- a comprehension over a list of ints, its elements ints or bools -/
theorem gvl_lc {g : TG} {te : TE} {vs : List Nat} {W : Addr} {ns : List Int} {i : Nat} (hv : σ[i]? = some (some (.ref W))) (hW : H W = some (.lst (ns.map V.int))) (hp : Kn S H) (hn : ns.length ≤ n) (h60 : n ≤ 60)
    (hs : ∀ (j : Nat) (x : Int) (H1 : Hp) (Yc : VK) (Nc : Hp → Prop), ns[j]? = some x → (∀ y, (∀ G, Sk C G d y) → Yc y H1) → g (.int x) (wipe σ vs) H1 fun σ2 H2 => wipe σ2 vs = wipe σ vs ∧ tYes σ2 H2 fun b H3 => if b = true then te σ2 H3 Yc else Nc H3) :
    GvL C S d n (tLc (iList K (tVar i)) g tYes te vs) σ H := fun Q q =>
  ⟨_, hv, W, rfl, ⟨_, SqL.of hW⟩, fun D hD => by
    refine lc_rel (walk_list (K := K) (a := W) (xs := ns.map V.int)) (fun i acc Hh => acc.length ≤ i ∧ ∀ y ∈ acc, ∀ G, Sk C G d y) hD (by rw [List.length_map, sizeLine_eq]; omega) (fun Hh sh => SqL.of (sh _ _ hW)) ⟨Nat.le_refl _, fun y hy => by cases hy⟩ (fun i acc A B e r => r)
      (fun j v acc Ha Hb hj sa ha hr hy Yc Nc yc nc => ?_) (fun acc H1 s1 hD1 hr => ?_)
    · obtain ⟨rfl, hx⟩ := hy
      rw [List.getElem?_map] at hx
      obtain ⟨x, hx', rfl⟩ := Option.map_eq_some_iff.mp hx
      exact hs j x Hb Yc Nc hx' fun y hy => yc y Hb (Same.refl _) ⟨by rw [List.length_append]; have := hr.1; simp only [List.length_cons, List.length_nil]; omega, fun u hu => by
        rcases List.mem_append.mp hu with w | w
        · exact hr.2 u w
        · rw [List.mem_singleton.mp w]; exact hy⟩
    · rw [List.length_map] at hr
      exact q _ _ s1 ⟨D, acc, rfl, hp.new hD, hD1, by omega, fun y hy => hr.2 y hy _⟩⟩
theorem ch_ofString (s : String) : ∀ c ∈ (Str.ofString s).cps.toList, c < 16 ^ 8 := fun c hc => by
  rw [congrFun Str.ofString_eq_byList s] at hc
  unfold Str.ofStringByList at hc
  simp only [List.mem_map] at hc
  obtain ⟨ch, _, rfl⟩ := hc
  have := ch.val.toNat_lt
  show ch.val.toNat < 16 ^ 8
  omega
theorem rt_int {i : Int} (h : i.natAbs < 10 ^ 50) : (reprText (Str.ofString (toString i))).length ≤ 600 := by
  have l := StrLaws.reprText_len (Str.ofString (toString i)) (ch_ofString _)
  have := int_short (i := i) h
  omega
theorem wos_upd {a : Addr} {o : HO} (h : a ∈ S) : wos S (upd H a o) = wos S H := by
  funext b
  unfold wos
  by_cases z : b ∈ S
  · rw [if_pos z, if_pos z]
  · rw [if_neg z, if_neg z, upd_ne (fun (e : b = a) => z (e ▸ h))]
theorem seq_asg {g : TG} {B : TS} {D : Ends} {φ : V → Hp → Prop} (h : Gv t σ H φ) (k : ∀ v H', Same H H' → φ v H' → g v σ H' fun σ2 H2 => B D σ2 H2) : tSeq (tAsg t g) B D σ H := h _ fun v H' s f => k v H' s f
theorem ret_gv {D : Ends} {φ : V → Hp → Prop} (h : Gv t σ H φ) (k : ∀ v H', Same H H' → φ v H' → D.rt v H') : tRet t D σ H := h _ fun v H' s f => k v H' s f
theorem seq_ext {B : TS} {D : Ends} {φ : V → Hp → Prop} {i : Nat} {f : Addr} {fs : List V} (hi : σ[i]? = some (some (.ref f))) (hf : H f = some (.lst fs)) (h : Gv t σ H φ)
    (k : ∀ v H', Same H H' → φ v H' → ∃ g gs, v = .ref g ∧ H' g = some (.lst gs) ∧ fs.length + gs.length ≤ 1000 ∧ B D σ (upd H' f (.lst (fs ++ gs)))) : tSeq (tDrop (tBM K "list" rExtend (tVar i) (tCons t tNil))) B D σ H :=
  ⟨_, hi, Or.inl ⟨rfl, _, SqL.of hf⟩, h _ fun v H' s ph => by
    obtain ⟨g, gs, rfl, hg, hz, q⟩ := k v H' s ph
    exact ⟨f, g, fs, gs, rfl, rfl, s _ _ hf, hg, by rw [sizeLine_eq]; omega, q⟩⟩
end
end Fp

namespace Fp
open PySem PySem.Spec PyProof.Rows L2
/-! ### str(..) of data, and more that only makes -/
theorem cr_strD {X : Cx} (hu : X.A.units + 64 < cLine) (hg : X.A.guards = some []) : CallR X (.type "str") (rRepr X.K) := by
  intro pins s σ H xs us Q I r h
  obtain ⟨a, d, rfl, hd, h1, h2, h3, h4, q⟩ := h
  rw [Vals.ref1 r]
  obtain ⟨as, hr⟩ := Dp.reads I d _ (.ref a) hd rfl
  refine str_of_reads hr h1 (fun z => by rw [h2] at z; cases z) hg (by omega) (fun _ _ e => e) (fun h' u tk k => ?_) h4
  exact ⟨.str d.shown, H, I.kept (t' := tk) k, ⟨u, rfl⟩, q⟩
def ChOk (x : Str) : Prop := ∀ c ∈ x.cps.toList, c < 16 ^ 8
theorem ChOk.app {x y : Str} (h1 : ChOk x) (h2 : ChOk y) : ChOk (x ++ y) := fun c hc => by
  have e : (x ++ y).cps.toList = x.cps.toList ++ y.cps.toList := by
    show (x.cps ++ y.cps).toList = _
    exact Array.toList_append
  rw [e] at hc
  exact (List.mem_append.mp hc).elim (h1 c) (h2 c)
theorem ChOk.of (s : String) : ChOk (Str.ofString s) := ch_ofString s
theorem ChOk.from : ∀ (ts : List Str) (k : Nat) (acc : Str), ChOk acc → (∀ t ∈ ts, ChOk t) → ChOk (textFrom k acc ts)
  | [], _, acc, h, _ => h
  | t :: ts, k, acc, h, g => ChOk.from ts (k + 1) _ ((h.app (ChOk.of _)).app (g t List.mem_cons_self)) fun x hx => g x (List.mem_cons_of_mem _ hx)
theorem ChOk.list {ts : List Str} (h : ∀ t ∈ ts, ChOk t) : ChOk (listText ts) := (ChOk.from ts 0 _ (ChOk.of "[") h).app (ChOk.of "]")
theorem ChOk.ints : ∀ ns : List Int, ∀ t ∈ PyData.shownAll (ns.map PyData.int), ChOk t
  | [], t, h => by simp only [List.map_nil, PyData.shownAll] at h; exact nomatch h
  | n :: r, t, h => by
    simp only [List.map_cons, PyData.shownAll] at h
    rcases List.mem_cons.mp h with z | z
    · rw [z]; simp only [PyData.shown]; exact ChOk.of _
    · exact ChOk.ints r t z
theorem shown_ints (ns : List Int) : ChOk (PyData.shown (.list (ns.map PyData.int))) := by
  simp only [PyData.shown]
  exact ChOk.list (ChOk.ints ns)
section
variable {C : Addr} {S : List Addr} {K : PySem.W.Frag} {σ : L2.St} {H : Hp} {d e n m : Nat} {t t1 t2 : TE} {ts : TA}
theorem gvl_rev {i : Nat} {W : Addr} {xs : List V} (hv : σ[i]? = some (some (.ref W))) (hW : SqL K H W xs) (hp : Kn S H) (hx : ∀ x ∈ xs, Sk C (wos S H) d x) (hn : xs.length ≤ n) : GvL C S d n (tRevL K (tVar i)) σ H := fun Q q =>
  ⟨_, hv, W, xs, rfl, hW, fun c nc => by
    have np : c ∉ S := hp.new nc
    exact q _ _ (same_new nc) ⟨c, _, rfl, np, upd_same, by rw [List.length_reverse]; exact hn, fun y hy => (hx y (List.mem_reverse.mp hy)).same (wos_same (same_new nc))⟩⟩
abbrev Hi (t : TE) (σ : L2.St) (H : Hp) (z : Int) : Prop := ∀ Q : VK, Q (.int z) H → t σ H Q
theorem gvl_rep {z : Nat} (hp : Kn S H) (h1 : GvL C S d 1 t1 σ H) (h2 : ∀ H1, Same H H1 → Hi t2 σ H1 (z : Int)) (hz : z ≤ n) (hn : n ≤ 60) : GvL C S d n (tOp rRep t1 t2) σ H := fun Q q =>
  h1 _ fun v H1 s1 f1 => h2 H1 s1 _ (by
    obtain ⟨a, ys, rfl, e2, e3, e4, e5⟩ := f1
    refine ⟨a, (z : Int), ys, rfl, rfl, e3, by omega, by omega, ?_, fun c nc => ?_⟩
    · rw [Int.toNat_natCast, sizeLine_eq]
      have := Nat.mul_le_mul e4 hz
      omega
    have np : c ∉ S := (hp.same s1).new nc
    refine q _ _ (s1.trans (same_new nc)) ⟨c, _, rfl, np, upd_same, ?_, fun y hy => ?_⟩
    · rw [Int.toNat_natCast, List.length_flatten, List.map_replicate, List.sum_replicate_nat]
      have := Nat.mul_le_mul hz e4
      omega
    · obtain ⟨l, hl, hy2⟩ := List.mem_flatten.mp hy
      rw [(List.mem_replicate.mp hl).2] at hy2
      exact (e5 y hy2).same (wos_same (same_new nc)))
theorem gvs_dict0 (hp : Kn S H) : GvS C S (d + 1) tDNewK σ H := fun Q q => fun c nc => by
  have np : c ∉ S := hp.new nc
  exact q _ _ (same_new nc) ⟨_, Sh.dct (ds := []) (by rw [wos_ne np]; exact upd_same) (by simp) (fun p hp => by cases hp), Nat.le_trans (by decide) (Bz_ge (d + 1))⟩
theorem gvs_disp1 {tk tv : TE} {k v : Int} (hp : Kn S H) (hk : ∀ H1, Same H H1 → Hi tk σ H1 k) (hv : ∀ H1, Same H H1 → Hi tv σ H1 v) (ok : okS k) (ov : okS v) : GvS C S (d + 1) (tDisp [(tk, tv)]) σ H := fun Q q => fun c nc => by
  have np : c ∉ S := hp.new nc
  have s1 := same_new (o := .dK []) nc
  refine hk _ s1 _ (hv _ s1 _ ⟨upd_same, [(.inl k, .int v)], rfl, by simp, ?_⟩)
  rw [show mergeK [] [((Sum.inl k : L2.Key), V.int v)] = [((Sum.inl k : L2.Key), V.int v)] from rfl]
  refine q _ _ (fun b o e => ?_) ⟨_, Sh.dct (ds := [(k, v)]) (by rw [wos_ne np]; exact upd_same) (by simp) (fun p hp => by rw [List.mem_singleton.mp hp]; exact ⟨ok.ok, ov.ok⟩), by
    have l1 := int_short ok
    have l2 := int_short ov
    have l3 := dictText_le [dEnt (k, v)]
    have q : piled [dEnt (k, v)] = (dEnt (k, v)).length + 2 := by rw [piled_cons]; rfl
    have q2 : (dEnt (k, v)).length = (Str.ofString (toString k)).length + 2 + (Str.ofString (toString v)).length := by
      unfold dEnt
      rw [strLen_append, strLen_append]; rfl
    have b0 := Bz_ge (d + 1)
    show (dictText [dEnt (k, v)]).length ≤ _
    omega⟩
  have nb := ne_of_none e nc
  rw [upd_ne nb, upd_ne nb]; exact e
theorem gvs_rat {z : Int} (hp : Kn S H) (ht : Hi t σ H z) (oz : okS z) : GvS C S d (tRat C (tCons t tNil)) σ H := fun Q q =>
  ht _ ⟨z, rfl, fun a H' na sm r => q _ H' sm (Sk.own (by
    obtain ⟨dx, r⟩ := r
    exact ⟨dx, by rw [wos_ne (hp.new na)]; exact r⟩) oz (by decide) (rdI_one z))⟩
theorem gvs_int {z : Int} (ht : Hi t σ H z) (oz : okS z) : GvS C S d t σ H := fun Q q => ht _ (q _ _ (Same.refl _) (Sk.int oz))
theorem gvs_tup {n : Nat} (hp : Kn S H) (hn : n ≤ 60) (h : GvSA C S d n ts σ H) (hd : d ≤ 1 := by omega) : GvS C S (d + 1) (tTup ts) σ H := fun Q q =>
  h _ fun vs H1 s1 f1 => ⟨by rw [f1.1, sizeLine_eq]; omega, fun a na => by
    have np : a ∉ S := (hp.same s1).new na
    exact q _ _ (s1.trans (same_new na)) (Sk.tup (xs := vs) (by rw [wos_ne np]; exact upd_same) (by rw [f1.1]; omega) (fun y hy => (f1.2 y hy).same (wos_same (same_new na))) hd)⟩
theorem gvs_more (h : GvS C S d t σ H) (le : d ≤ e) : GvS C S e t σ H := Gv.imp h fun v H' _ z => z.more le
/-! ### lists whose items need no heap -/
abbrev GvP (P : V → Prop) (S : List Addr) (n : Nat) (t : TE) (σ : L2.St) (H : Hp) : Prop := Gv t σ H fun v H' => ∃ a ys, v = .ref a ∧ a ∉ S ∧ H' a = some (.lst ys) ∧ ys.length ≤ n ∧ ∀ y ∈ ys, P y
variable {P : V → Prop}
theorem gvp_cat (hp : Kn S H) (hn : n + m ≤ 1000) (h1 : GvP P S n t1 σ H) (h2 : ∀ H1, Same H H1 → GvP P S m t2 σ H1) : GvP P S (n + m) (tOp rCat t1 t2) σ H := fun Q q =>
  h1 _ fun v H1 s1 f1 => h2 H1 s1 _ fun u H2 s2 f2 => by
    obtain ⟨a, ys, rfl, e2, e3, e4, e5⟩ := f1
    obtain ⟨b, zs, rfl, g2, g3, g4, g5⟩ := f2
    refine ⟨a, b, ys, zs, rfl, rfl, s2 _ _ e3, g3, by rw [sizeLine_eq]; omega, fun c nc => ?_⟩
    have s12 := s1.trans s2
    have np : c ∉ S := (hp.same s12).new nc
    exact q _ _ (s12.trans (same_new nc)) ⟨c, ys ++ zs, rfl, np, upd_same, by rw [List.length_append]; omega, fun y hy => by
      rcases List.mem_append.mp hy with z | z
      · exact e5 y z
      · exact g5 y z⟩
theorem gvp_sl {i : Nat} {W : Addr} {xs : List V} {lo hi : Option Int} {tlo thi : TO} (hv : ∀ H Q, Q (.ref W) H → tVar i σ H Q) (hlo : ∀ H (Q : Option Int → Hp → Prop), Q lo H → tlo σ H Q) (hhi : ∀ H (Q : Option Int → Hp → Prop), Q hi H → thi σ H Q) (hW : H W = some (.lst xs)) (hp : Kn S H)
    (hx : ∀ x ∈ xs, P x) (hn : xs.length ≤ n) : GvP P S n (tSl (rSlL K) (tVar i) tlo thi) σ H := fun Q q =>
  hv _ _ (hlo _ _ (hhi _ _ ⟨W, xs, rfl, SqL.of hW, fun c nc => by
    have np : c ∉ S := hp.new nc
    refine q _ _ (same_new nc) ⟨c, _, rfl, np, upd_same, ?_, fun y hy => hx y ?_⟩
    · exact Nat.le_trans (cutV_length _ _ _) hn
    · unfold cutV at hy
      exact List.mem_of_mem_drop (List.mem_of_mem_take hy)⟩))
theorem gvp_lst2 {z1 z2 : Int} (hp : Kn S H) (h1 : Hi t1 σ H z1) (h2 : Hi t2 σ H z2) (p1 : P (.int z1)) (p2 : P (.int z2)) : GvP P S 2 (tLst (tCons t1 (tCons t2 tNil))) σ H := fun Q q =>
  h1 _ (h2 _ ⟨by show 2 ≤ sizeLine; decide, fun a na => q _ _ (same_new na) ⟨a, _, rfl, hp.new na, upd_same, Nat.le_refl 2, fun y hy => by
    simp only [List.mem_cons, List.not_mem_nil, or_false] at hy
    rcases hy with z | z <;> rw [z] <;> assumption⟩⟩)
theorem ext_one {D : Ends} {φ : V → Hp → Prop} {i : Nat} {f : Addr} {fs : List V} (hi : σ[i]? = some (some (.ref f))) (hf : H f = some (.lst fs)) (h : Gv t σ H φ)
    (k : ∀ v H', Same H H' → φ v H' → ∃ g gs, v = .ref g ∧ H' g = some (.lst gs) ∧ fs.length + gs.length ≤ 1000 ∧ D.nx σ (upd H' f (.lst (fs ++ gs)))) : tDrop (tBM K "list" rExtend (tVar i) (tCons t tNil)) D σ H :=
  ⟨_, hi, Or.inl ⟨rfl, _, SqL.of hf⟩, h _ fun v H' s ph => by
    obtain ⟨g, gs, rfl, hg, hz, q⟩ := k v H' s ph
    exact ⟨f, g, fs, gs, rfl, rfl, s _ _ hf, hg, by rw [sizeLine_eq]; omega, q⟩⟩
end
end Fp

namespace Fp
open PySem PySem.Spec PyProof.Rows L2
/-! ### own operators -/
structure BinF (K : PySem.W.Frag) (C f : Addr) (op : Operator) : Prop where
  sf : PySem.W.selfFirst K C = true
  hs : PySem.W.findIn K (.ref C) (PySem.dunder op.info.2) = some (some (.ref f))
  hf : PySem.W.isFn K (.ref f) = true
  hr : ∃ g : Addr, PySem.W.findIn K (.ref C) (PySem.dunderR op.info.2) = some (some (.ref g))
  h1 : ∃ fo, PySem.W.findIn K (.type "int") (PySem.dunder op.info.2) = some fo
  h2 : ∃ ro, PySem.W.findIn K (.type "int") (PySem.dunderR op.info.2) = some ro
  hsub : PySem.W.subIn K (.type "int") (.ref C) = some false
def rOwn (C : Addr) (sp : Sp) : R2 := fun x y H Q => ∃ a dx fs, x = .ref a ∧ H a = some (.ins C dx fs) ∧ ((∃ i, y = .int i) ∨ ∃ b dy gs, y = .ref b ∧ H b = some (.ins C dy gs)) ∧ sp [x, y] H (fun v H' => (∃ r, v = .ref r) ∧ Q v H') E0
theorem op_own {X : Cx} {C f : Addr} {op : Operator} {n : Nat} {fd : FuncData} {sp : Sp} (B : BinF X.K C f op) (F : FnOk X.prog X.w X.K X.mg X.base CX0 n f fd ["self", "other"] sp) (hb : Binds X.K fd ["self", "other"] []) (hr : Room n X.A) : OpR X (binaryOp op) (rOwn C sp) := by
  intro pins s σ H x y v u Q I rx ry hq
  obtain ⟨a, dx, fs, rfl, ha, hy, hsp⟩ := hq
  cases rx
  obtain ⟨mA, J, _⟩ := ins_get I.hok ha
  obtain ⟨od, J, _⟩ := J.look
  obtain ⟨m, hF⟩ := I.fr
  obtain ⟨g, hr1⟩ := B.hr
  obtain ⟨fo, h1⟩ := B.h1
  obtain ⟨ro, h2⟩ := B.h2
  have main : wpAny (model X.prog X.w) X.A (call (.ref f) [.ref a, u]) (PySem.W.CmpBack (EP X pins σ Q)) X.xe s := by
    have hl := F.len _ _ _ _ hsp
    have r2 : Vals [V.ref a, y] [Value.ref a, u] := .cons rfl (.cons ry .nil)
    refine wpAny_call (codeAny_mono (F.run X.A X.stack s H ⟨[.ref a, u], []⟩ [.ref a, u] [.ref a, y] _ E0 hr I.env0 (by
      have := hb s [.ref a, u] I.kIn (by simpa using hl)
      simpa using this) r2 hsp) fun r s' hq => ?_)
    cases r with
    | error e => exact pass0 (X := X) pins σ H s e s' I hq
    | ok fl =>
      cases fl with
      | ret w =>
        obtain ⟨z, H', I', rz, ⟨r, ez⟩, q⟩ := I.after hq
        subst ez
        cases rz
        exact ⟨.ref r, H', I', rfl, q⟩
      | next => exact False.elim hq
      | brk => exact False.elim hq
      | cont => exact False.elim hq
  rcases hy with ⟨i, rfl⟩ | ⟨b, dy, gs, rfl, hb2⟩
  · obtain ⟨t, rfl⟩ := ry
    exact PySem.W.ksp_binT (T := "int") hF I.ok.mod.kin J rfl B.sf B.hs B.hf hr1 (.inr ⟨g, rfl⟩) h1 h2 B.hsub main
  · cases ry
    obtain ⟨mB, J', _⟩ := ins_get I.hok hb2
    obtain ⟨od', J', _⟩ := J'.look
    exact PySem.W.binop_K hF I.ok.mod.kin J J'.type B.sf B.hs B.hf main
/-! ### isinstance(x, Ratio) -/
def isOwn (H : Hp) : V → Bool
  | .ref a => match H a with
    | some (.ins _ _ _) => true
    | _ => false
  | _ => false
structure RIsi (K : PySem.W.Frag) (C : Addr) : Prop where
  i : PySem.W.kitOne K (.type "int") (.ref C) = some false
  b : PySem.W.kitOne K (.type "bool") (.ref C) = some false
  n : PySem.W.kitOne K (.type "NoneType") (.ref C) = some false
  s : PySem.W.kitOne K (.type "str") (.ref C) = some false
  l : PySem.W.kitOne K (.type "list") (.ref C) = some false
  t : PySem.W.kitOne K (.type "tuple") (.ref C) = some false
  d : PySem.W.kitOne K (.type "dict") (.ref C) = some false
  c : PySem.W.kitOne K (.ref C) (.ref C) = some true
section
variable {C : Addr} {H H' : Hp} {d : Nat} {x : V} {K : PySem.W.Frag} {mg : Str → Option Value} {fI fR : Addr}
theorem Sk.kitC (h : Sk C H d x) (R : RCls K mg C fI fR) (I : RIsi K C) : ∃ ty, TyX K H x ty ∧ PySem.W.kitOne K ty (.ref C) = some (isOwn H x) := by
  obtain ⟨t, h, _⟩ := h
  cases h with
  | int h => exact ⟨_, .base (.int _), I.i⟩
  | bl b => exact ⟨_, .base (.bl _), I.b⟩
  | non => exact ⟨_, .base .non, I.n⟩
  | str x h => exact ⟨_, .base (.str _), I.s⟩
  | @own d a p q r h1 h2 =>
    obtain ⟨dx, r⟩ := r
    have e : isOwn H (.ref a) = true := by unfold isOwn; simp only [r]
    rw [e]
    exact ⟨_, .base (.ins r R.cl R.isA R.isN R.isT R.isM), I.c⟩
  | @lst d a xs ts h1 h0 h2 h3 =>
    have e : isOwn H (.ref a) = false := by unfold isOwn; simp only [h1]
    rw [e]
    exact ⟨_, .base (.lst h1), I.l⟩
  | @tup d a xs ts h1 h0 h2 h3 =>
    have e : isOwn H (.ref a) = false := by unfold isOwn; simp only [h1]
    rw [e]
    exact ⟨_, .base (.tup h1), I.t⟩
  | @dct d a ds h1 h0 h2 =>
    have e : isOwn H (.ref a) = false := by unfold isOwn; simp only [h1]
    rw [e]
    exact ⟨_, .base (.dK h1), I.d⟩
  | @dcl d a b k ns h1 h2 =>
    have e : isOwn H (.ref a) = false := by unfold isOwn; simp only [h1]
    rw [e]
    exact ⟨_, .base (.dK h1), I.d⟩
theorem isOwn_same (h : Sk C H d x) (e : Same H H') : isOwn H' x = isOwn H x := by
  obtain ⟨t, h, _⟩ := h
  cases h with
  | int h => rfl
  | bl b => rfl
  | non => rfl
  | str x h => rfl
  | own r h1 h2 =>
    obtain ⟨dx, r⟩ := r
    unfold isOwn
    simp only [r, e _ _ r]
  | lst h1 => unfold isOwn; simp only [h1, e _ _ h1]
  | tup h1 => unfold isOwn; simp only [h1, e _ _ h1]
  | dct h1 => unfold isOwn; simp only [h1, e _ _ h1]
  | dcl h1 => unfold isOwn; simp only [h1, e _ _ h1]
/-! ### numbers -/
def isNum (H : Hp) (x : V) : Bool := isI x || isOwn H x
theorem isNum_same (h : Sk C H d x) (e : Same H H') : isNum H' x = isNum H x := by unfold isNum; rw [isOwn_same h e]
/-- top and bottom -/
def numOf (H : Hp) : V → Int × Int
  | .int i => (i, 1)
  | .ref a => match H a with
    | some (.ins _ _ [(_, .int p), (_, .int q)]) => (p, q)
    | _ => (0, 1)
  | _ => (0, 1)
def NumV (C : Addr) (H : Hp) (x : V) (p q : Int) : Prop := (x = .int p ∧ q = 1) ∨ ∃ a, x = .ref a ∧ Rat2 C H a p q
theorem NumV.same {p q : Int} (h : NumV C H x p q) (e : Same H H') : NumV C H' x p q := h.elim .inl fun ⟨a, h1, h2⟩ => .inr ⟨a, h1, h2.same e⟩
theorem Sk.num (h : Sk C H d x) (n : isNum H x = true) : NumV C H x (numOf H x).1 (numOf H x).2 ∧ okS (numOf H x).1 ∧ okS (numOf H x).2 ∧ RdI (numOf H x).1 (numOf H x).2 := by
  obtain ⟨t, h, _⟩ := h
  cases h with
  | @int d i h => exact ⟨.inl ⟨rfl, rfl⟩, h, (by decide : okS 1), rdI_one _⟩
  | bl b => cases n
  | non => cases n
  | str x h => cases n
  | @own d a p q r h1 h2 h3 =>
    obtain ⟨dx, r⟩ := r
    have e : numOf H (.ref a) = (p, q) := by unfold numOf; simp only [r]
    rw [e]
    exact ⟨.inr ⟨a, rfl, dx, r⟩, h1, h2, h3⟩
  | lst h1 => unfold isNum isOwn at n; simp only [h1] at n; cases n
  | tup h1 => unfold isNum isOwn at n; simp only [h1] at n; cases n
  | dct h1 => unfold isNum isOwn at n; simp only [h1] at n; cases n
  | dcl h1 => unfold isNum isOwn at n; simp only [h1] at n; cases n
theorem NumV.kitC {p q : Int} (h : NumV C H x p q) (R : RCls K mg C fI fR) (I : RIsi K C) : ∃ ty, TyX K H x ty ∧ PySem.W.kitOne K ty (.ref C) = some (isOwn H x) := by
  rcases h with ⟨rfl, _⟩ | ⟨a, rfl, dx, r⟩
  · exact ⟨_, .base (.int _), I.i⟩
  · have e : isOwn H (.ref a) = true := by unfold isOwn; simp only [r]
    rw [e]
    exact ⟨_, .base (.ins r R.cl R.isA R.isN R.isT R.isM), I.c⟩
theorem numOf_same (h : Sk C H d x) (e : Same H H') : numOf H' x = numOf H x := by
  obtain ⟨t, h, _⟩ := h
  cases h with
  | int h => rfl
  | bl b => rfl
  | non => rfl
  | str x h => rfl
  | own r h1 h2 =>
    obtain ⟨dx, r⟩ := r
    unfold numOf
    simp only [r, e _ _ r]
  | lst h1 => unfold numOf; simp only [h1, e _ _ h1]
  | tup h1 => unfold numOf; simp only [h1, e _ _ h1]
  | dct h1 => unfold numOf; simp only [h1, e _ _ h1]
  | dcl h1 => unfold numOf; simp only [h1, e _ _ h1]
end
/-! ### properties, own + and == in a text -/
structure PropX (P : Program) (w : World) (K : PySem.W.Frag) (mg : Str → Option Value) (base : Heap) (k : Nat) (C : Addr) (f : Str) (sp : Sp) : Prop where
  ex : ∃ (p g : Addr) (fd : FuncData), PropOf K C f p g ∧ FnOk P w K mg base CX0 k g fd ["self"] sp ∧ Binds K fd ["self"] []
structure BinX (P : Program) (w : World) (K : PySem.W.Frag) (mg : Str → Option Value) (base : Heap) (k : Nat) (C : Addr) (op : Operator) (sp : Sp) : Prop where
  ex : ∃ (f : Addr) (fd : FuncData), BinF K C f op ∧ FnOk P w K mg base CX0 k f fd ["self", "other"] sp ∧ Binds K fd ["self", "other"] []
/-- the same number -/
def SameR (C : Addr) (a b : Addr) (H : Hp) : Prop := ∃ p q, Rat2 C H a p q ∧ Rat2 C H b p q
structure EqX (P : Program) (w : World) (K : PySem.W.Frag) (mg : Str → Option Value) (base : Heap) (k : Nat) (C : Addr) : Prop where
  ex : ∃ (f : Addr) (fd : FuncData), PySem.W.findIn K (.ref C) "__eq__" = some (some (.ref f)) ∧ PySem.W.isFn K (.ref f) = true ∧ FnOk P w K mg base CX0 k f fd ["self", "other"] (spEq (SameR C)) ∧ Binds K fd ["self", "other"] []
def spTopR (C : Addr) : Sp := fun vs H Q _ => ∃ a p q, vs = [.ref a] ∧ Rat2 C H a p q ∧ Q (.int p) H
def spBotR (C : Addr) : Sp := fun vs H Q _ => ∃ a p q, vs = [.ref a] ∧ Rat2 C H a p q ∧ Q (.int q) H
def sgnI (p : Int) : Int := if p < 0 then -1 else if 0 < p then 1 else 0
def spSgnR (C : Addr) : Sp := fun vs H Q _ => ∃ a p q, vs = [.ref a] ∧ Rat2 C H a p q ∧ Q (.int (sgnI p)) H
def spAddR (C : Addr) : Sp := fun vs H Q _ => ∃ a y p q, vs = [.ref a, y] ∧ Rat2 C H a 0 1 ∧ NumV C H y p q ∧ RdI p q ∧ ∀ m H', Same H H' → Rat2 C H' m p q → Q (.ref m) H'
section
variable {X : Cx} {k : Nat} {C : Addr} {f : Str} {sp : Sp} {op : Operator} {e : Expr} {pos : Pos} {ta : TE}
theorem pe_propX (D : PropX X.prog X.w X.K X.mg X.base k C f sp) (hr : Room (k + 1) X.A) (c : Cls X.K C) (he : PE X e ta) (hab : attributeBase e f X.env (eval e X.env) = eval e X.env) : PE X (.Attribute e f pos) (tProp C sp [] E0 ta) := by
  obtain ⟨p, g, fd, h1, F, hb⟩ := D.ex
  exact pe_prop he c h1 F hr hb .nil (pass0 (X := X.nox)) hab
theorem op_ownX (D : BinX X.prog X.w X.K X.mg X.base k C op sp) (hr : Room k X.A) : OpR X (binaryOp op) (rOwn C sp) := by
  obtain ⟨f, fd, B, F, hb⟩ := D.ex
  exact op_own B F hb hr
theorem EqX.eqG (D : EqX X.prog X.w X.K X.mg X.base k C) : EqG X k (DIns C (SameR C)) := by
  obtain ⟨f, fd, h1, h2, F, hb⟩ := D.ex
  exact eqG_ins F h1 h2 hb (pass0 (X := X))
theorem mon_rat : Mon (DIns C (SameR C)) := mon_ins fun a b H H' e ⟨p, q, ⟨d1, h1⟩, ⟨d2, h2⟩⟩ => ⟨p, q, ⟨d1, e _ _ h1⟩, ⟨d2, e _ _ h2⟩⟩
/-- == of two lists of lists of own numbers, the same -/
theorem op_eq2 (D : EqX X.prog X.w X.K X.mg X.base k C) (hr : Room (k + 2) X.A) : OpR X (compareOp .Eq) (rEqG (DList (DList (DIns C (SameR C))))) :=
  op_eqG (rcG_list (mon_list mon_rat) (eqG_list mon_rat D.eqG)) hr
end
end Fp

namespace Fp
open PySem PySem.Spec PyProof.Rows L2
/-! ### a comprehension over a list or a tuple, what is kept of its items -/
section
variable {K : PySem.W.Frag} {a : Addr} {xs : List V} {g : TG} {tt : TT} {te : TE} {vs : List Nat} {σ : L2.St} {H : Hp} {tl : TE} {Q : VK}
theorem lc_relS (Rel : Nat → List V → Hp → Prop) (hv : ∀ R : V → Hp → Prop, R (.ref a) H → tl σ H R) (hS : Sq K H a xs) (hz : xs.length ≤ sizeLine) (h0 : Rel 0 [] H) (hm : ∀ i acc A B, Same A B → Rel i acc A → Rel i acc B)
    (hs : ∀ (D : Addr) (i : Nat) (x : V) (acc : List V) (Ha : Hp), H D = none → xs[i]? = some x → Same H Ha → Ha D = some (.lst acc) → Rel i acc (wo D Ha) → ∀ (Yc : V → Hp → Prop) (Nc : Hp → Prop), (∀ y H4, Same Ha H4 → Rel (i + 1) (acc ++ [y]) (wo D H4) → Yc y H4) → (∀ H3, Same Ha H3 → Rel (i + 1) acc (wo D H3) → Nc H3) →
      g x (wipe σ vs) Ha fun σ2 H2 => wipe σ2 vs = wipe σ vs ∧ tt σ2 H2 fun b H3 => if b = true then te σ2 H3 Yc else Nc H3)
    (hd : ∀ (D : Addr) (acc : List V) (H' : Hp), H D = none → Same H H' → H' D = some (.lst acc) → Rel xs.length acc (wo D H') → Q (.ref D) H') : tLc (iSq K tl) g tt te vs σ H Q := by
  rcases hS with hS | hS
  · refine Or.inl (hv _ ⟨a, rfl, ⟨xs, hS⟩, fun D hD => ?_⟩)
    exact lc_rel (walk_list (K := K) (a := a) (xs := xs)) Rel hD hz (fun Hh sh => hS.ext sh) h0 hm (fun i x acc Ha Hb hi sa ha hr hy Yc Nc yc nc => by
      obtain ⟨rfl, hx⟩ := hy
      exact hs D i x acc _ hD hx sa ha hr Yc Nc yc nc) (fun acc H' s1 ha hr => hd D acc H' hD s1 ha hr)
  · refine Or.inr (hv _ ⟨a, rfl, ⟨xs, hS⟩, fun D hD => ?_⟩)
    exact lc_rel (walk_tup (K := K) (a := a) (xs := xs)) Rel hD hz (fun Hh sh => same_sqT sh hS) h0 hm (fun i x acc Ha Hb hi sa ha hr hy Yc Nc yc nc => by
      obtain ⟨rfl, hx⟩ := hy
      exact hs D i x acc _ hD hx sa ha hr Yc Nc yc nc) (fun acc H' s1 ha hr => hd D acc H' hD s1 ha hr)
end
/-! ### numbers of a list -/
structure RatL (C : Addr) (H : Hp) (vs : List V) (ps : List (Int × Int)) : Prop where
  len : vs.length = ps.length
  at_ : ∀ (i : Nat) (v : V), vs[i]? = some v → ∃ (pq : Int × Int) (a : Addr), ps[i]? = some pq ∧ v = .ref a ∧ Rat2 C H a pq.1 pq.2
section
variable {C : Addr} {H H' : Hp} {vs : List V} {ps : List (Int × Int)} {d : Nat} {x : V}
theorem RatL.same (h : RatL C H vs ps) (e : Same H H') : RatL C H' vs ps := ⟨h.len, fun i v hv => let ⟨pq, a, h1, h2, h3⟩ := h.at_ i v hv; ⟨pq, a, h1, h2, h3.same e⟩⟩
theorem RatL.nil : RatL C H [] [] := ⟨rfl, fun i v h => by cases h⟩
theorem RatL.snoc (h : RatL C H vs ps) {a : Addr} {p q : Int} (r : Rat2 C H a p q) : RatL C H (vs ++ [.ref a]) (ps ++ [(p, q)]) := ⟨by rw [List.length_append, List.length_append, h.len]; rfl, fun i v hv => by
  rcases Nat.lt_trichotomy i vs.length with l | l | l
  · rw [List.getElem?_append_left l] at hv
    obtain ⟨pq, b, h1, h2, h3⟩ := h.at_ i v hv
    exact ⟨pq, b, by rw [List.getElem?_append_left (h.len ▸ l)]; exact h1, h2, h3⟩
  · subst l
    rw [List.getElem?_append_right (Nat.le_refl _), Nat.sub_self] at hv
    obtain rfl := Option.some.inj hv
    exact ⟨(p, q), a, by rw [h.len, List.getElem?_append_right (Nat.le_refl _), Nat.sub_self]; rfl, rfl, r⟩
  · rw [List.getElem?_eq_none (by rw [List.length_append]; simp; omega)] at hv; cases hv⟩
theorem RatL.take (h : RatL C H vs ps) (n : Nat) : RatL C H (vs.take n) (ps.take n) := ⟨by rw [List.length_take, List.length_take, h.len], fun i v hv => by
  rw [List.getElem?_take] at hv ⊢
  split at hv
  · rename_i l
    rw [if_pos l]
    exact h.at_ i v hv
  · cases hv⟩
/-- without the noughts at the end -/
def trimP (ps : List (Int × Int)) : List (Int × Int) := (ps.reverse.dropWhile fun x => x.1 == 0).reverse
theorem trimP_nil : trimP [] = [] := rfl
theorem trimP_zero {A : List (Int × Int)} {x : Int × Int} (h : x.1 = 0) : trimP (A ++ [x]) = trimP A := by
  unfold trimP
  rw [List.reverse_append, List.reverse_singleton, List.singleton_append, List.dropWhile_cons, if_pos (by simp [h])]
theorem trimP_nz {A : List (Int × Int)} {x : Int × Int} (h : x.1 ≠ 0) : trimP (A ++ [x]) = A ++ [x] := by
  unfold trimP
  rw [List.reverse_append, List.reverse_singleton, List.singleton_append, List.dropWhile_cons, if_neg (by simp [h])]
  simp
theorem snoc_of {α : Type} {l : List α} (h : l ≠ []) : ∃ A x, l = A ++ [x] := by
  rcases List.eq_nil_or_concat l with e | ⟨A, x, e⟩
  · exact absurd e h
  · exact ⟨A, x, by rw [e, List.concat_eq_append]⟩
theorem trimP_len (ps : List (Int × Int)) : (trimP ps).length ≤ ps.length := by
  unfold trimP
  rw [List.length_reverse]
  have := (List.dropWhile_suffix (fun x : Int × Int => x.1 == 0) (l := ps.reverse)).length_le
  rw [List.length_reverse] at this
  exact this
/-! ### polynomials and makers among any values -/
def isPolyV (H : Hp) (x : V) : Bool := match itemsOf H x with
  | none => false
  | some xs => decide (xs.length ≤ 49) && xs.all (isNum H)
def itemsD (H : Hp) (x : V) : List V := (itemsOf H x).getD []
def toldP (H : Hp) (x : V) : List (Int × Int) := trimP ((itemsD H x).map (numOf H))
def isMakerV (H : Hp) (y : V) : Bool := isPolyV H y && (decide (2 ≤ (toldP H y).length) && decide ((toldP H y).length ≤ 8))
def isMakersV (H : Hp) (x : V) : Bool := match itemsOf H x with
  | none => false
  | some ys => decide (1 ≤ ys.length) && (decide (ys.length ≤ 4) && ys.all (isMakerV H))
def toldsP (H : Hp) (x : V) : List (List (Int × Int)) := (itemsD H x).map (toldP H)
theorem all_same {f g : V → Bool} : ∀ {xs : List V}, (∀ x ∈ xs, f x = g x) → xs.all f = xs.all g
  | [], _ => rfl
  | x :: xs, h => by
    rw [List.all_cons, List.all_cons, h x List.mem_cons_self, all_same fun y hy => h y (List.mem_cons_of_mem _ hy)]
theorem map_same {β : Type} {f g : V → β} : ∀ {xs : List V}, (∀ x ∈ xs, f x = g x) → xs.map f = xs.map g
  | [], _ => rfl
  | x :: xs, h => by
    rw [List.map_cons, List.map_cons, h x List.mem_cons_self, map_same fun y hy => h y (List.mem_cons_of_mem _ hy)]
theorem isPolyV_same (h : Sk C H d x) (e : Same H H') : isPolyV H' x = isPolyV H x := by
  unfold isPolyV
  rw [itemsOf_same h e]
  cases q : itemsOf H x with
  | none => rfl
  | some xs =>
    obtain ⟨a, _, _, _, hy⟩ := h.items q
    dsimp only
    rw [all_same fun y m => isNum_same (hy y m) e]
theorem itemsD_same (h : Sk C H d x) (e : Same H H') : itemsD H' x = itemsD H x := by unfold itemsD; rw [itemsOf_same h e]
theorem Sk.itemsD (h : Sk C H d x) : ∀ y ∈ itemsD H x, Sk C H d y := fun y m => by
  unfold Fp.itemsD at m
  cases q : itemsOf H x with
  | none => rw [q] at m; cases m
  | some xs =>
    obtain ⟨a, _, _, _, hy⟩ := h.items q
    rw [q] at m
    exact hy y m
theorem toldP_same (h : Sk C H d x) (e : Same H H') : toldP H' x = toldP H x := by
  unfold toldP
  rw [itemsD_same h e, map_same fun y m => numOf_same (h.itemsD y m) e]
theorem isMakerV_same (h : Sk C H d x) (e : Same H H') : isMakerV H' x = isMakerV H x := by
  unfold isMakerV
  rw [isPolyV_same h e, toldP_same h e]
theorem isMakersV_same (h : Sk C H d x) (e : Same H H') : isMakersV H' x = isMakersV H x := by
  unfold isMakersV
  rw [itemsOf_same h e]
  cases q : itemsOf H x with
  | none => rfl
  | some xs =>
    obtain ⟨a, _, _, _, hy⟩ := h.items q
    dsimp only
    rw [all_same fun y m => isMakerV_same (hy y m) e]
theorem toldsP_same (h : Sk C H d x) (e : Same H H') : toldsP H' x = toldsP H x := by
  unfold toldsP
  rw [itemsD_same h e, map_same fun y m => toldP_same (h.itemsD y m) e]
theorem poly_items (h : isPolyV H x = true) : ∃ xs, itemsOf H x = some xs ∧ itemsD H x = xs ∧ xs.length ≤ 49 ∧ ∀ y ∈ xs, isNum H y = true := by
  unfold isPolyV at h
  cases q : itemsOf H x with
  | none => rw [q] at h; cases h
  | some xs =>
    rw [q] at h
    simp only [Bool.and_eq_true, decide_eq_true_eq, List.all_eq_true] at h
    exact ⟨xs, rfl, by unfold itemsD; rw [q]; rfl, h.1, h.2⟩
theorem Rat2.wo {D a : Addr} {p q : Int} {acc : List V} (r : Rat2 C H a p q) (hD : H D = some (.lst acc)) : Rat2 C (wo D H) a p q := by
  obtain ⟨dx, r⟩ := r
  refine ⟨dx, ?_⟩
  rw [wo_ne (fun z => by rw [z, hD] at r; cases r)]
  exact r
theorem wo_mono {D : Addr} (e : Same H H') : Same (wo D H) (wo D H') := fun b o q => by
  have nb : b ≠ D := fun w => by rw [w] at q; unfold wo at q; rw [if_pos rfl] at q; cases q
  rw [wo_ne nb] at q ⊢
  exact e _ _ q
theorem takeS {α : Type} {l : List α} {i : Nat} {x : α} (h : l[i]? = some x) : l.take (i + 1) = l.take i ++ [x] := by
  rw [List.take_add_one, h]; rfl
theorem RatL.step {D m : Addr} {xs : List V} {f : V → Int × Int} {i : Nat} {y : V} {acc : List V} {Ha H4 : Hp} (r : RatL C (wo D Ha) acc ((xs.map f).take i)) (hy : xs[i]? = some y) (s : Same Ha H4) (ha : Ha D = some (.lst acc)) (rm : Rat2 C H4 m (f y).1 (f y).2) :
    RatL C (wo D H4) (acc ++ [.ref m]) ((xs.map f).take (i + 1)) := by
  rw [takeS (show (xs.map f)[i]? = some (f y) by rw [List.getElem?_map, hy]; rfl)]
  exact (r.same (wo_mono s)).snoc (rm.wo (s _ _ ha))
end
/-! ### a list is not empty -/
def rNeNil : R2 := fun x y H Q => ∃ a b us, x = .ref a ∧ y = .ref b ∧ H a = some (.lst us) ∧ H b = some (.lst []) ∧ Q (.bl (!us.isEmpty)) H
theorem op_neNil {X : Cx} (hu : X.A.units + 64 < cLine) : OpR X (compareOp .NotEq) rNeNil := by
  intro pins s σ H x y v u Q I rx ry hq
  obtain ⟨a, b, us, rfl, rfl, ha, hb, q⟩ := hq
  cases rx
  cases ry
  obtain ⟨_, its, na, rv, hl, he⟩ := I.lstM ha
  obtain ⟨_, it2, nb, rv2, hl2, he2⟩ := I.lstM hb
  have e2 : it2 = [] := List.length_eq_zero_iff.mp (by simpa using hl2.symm)
  subst e2
  show wpAny (model X.prog X.w) X.A (richCompare .NotEq (.ref a) (.ref b)) (EP X pins σ Q) X.xe s
  have fin : ∀ k : Bool, k = (!us.isEmpty) → EP X pins σ Q (.bool k) s := fun k hk => ⟨.bl k, H, I, rfl, by rw [hk]; exact q⟩
  cases us with
  | nil =>
    have e1 : its = [] := List.length_eq_zero_iff.mp (by simpa using hl.symm)
    subst e1
    exact SeqAt.RcNeAt.lists (e := fun _ => true) ⟨_, he, rfl, na, rfl⟩ ⟨_, he2, rfl, nb, rfl⟩ rfl (by omega) (fun j h1 => absurd h1 (by simp)) X.prog X.w X.xe _ (fin _ rfl)
  | cons z r =>
    refine SeqAt.RcNeAt.lists_lengths ⟨_, he, rfl, na, rfl⟩ ⟨_, he2, rfl, nb, rfl⟩ ?_ (by omega) X.prog X.w X.xe _ (fin _ rfl)
    have : its.length = r.length + 1 := by rw [← hl]; simp
    simp
    intro e
    rw [e] at this
    simp at this
/-- len of a list or a tuple -/
def rLenS (K : PySem.W.Frag) : List V → Hp → VK → Prop := fun xs H Q => ∃ p ys, xs = [.ref p] ∧ (SqL K H p ys ∨ SqT K H p ys) ∧ Q (.int ys.length) H
end Fp

namespace Fp
/-! ### fractions: top and bottom of a quotient, sizes -/
theorem gcd_cast (t b : Int) : ((t.natAbs.gcd b.natAbs : Nat) : Int) = (Int.gcd b t : Int) := by
  rw [Nat.gcd_comm]; rfl
theorem fdiv_exact {t g : Int} (h : g ∣ t) : t.fdiv g = t / g := Int.fdiv_eq_ediv_of_dvd h
theorem divInt_top {t b : Int} (h : b ≠ 0) : t.fdiv (if b < 0 then -((t.natAbs.gcd b.natAbs : Nat) : Int) else ((t.natAbs.gcd b.natAbs : Nat) : Int)) = (Rat.divInt t b).num := by
  rw [Rat.num_divInt, gcd_cast]
  have d : (Int.gcd b t : Int) ∣ t := Int.gcd_dvd_right ..
  by_cases hb : b < 0
  · rw [if_pos hb, Int.sign_eq_neg_one_of_neg hb, fdiv_exact (Int.neg_dvd.mpr d), Int.ediv_neg]
    obtain ⟨c, e⟩ := d
    have g0 : (Int.gcd b t : Int) ≠ 0 := fun z => by
      have := Int.gcd_eq_zero_iff.mp (by omega : Int.gcd b t = 0)
      omega
    have e2 : -1 * t = (Int.gcd b t : Int) * (-c) := by rw [Int.mul_neg, ← e]; omega
    rw [e2, Int.mul_ediv_cancel_left _ g0]
    have e3 : t / (Int.gcd b t : Int) = c := by
      conv => lhs; lhs; rw [e]
      exact Int.mul_ediv_cancel_left _ g0
    rw [e3]
  · rw [if_neg hb, Int.sign_eq_one_of_pos (by omega), fdiv_exact d, Int.one_mul]
theorem divInt_bot {t b : Int} (h : b ≠ 0) : b.fdiv (if b < 0 then -((t.natAbs.gcd b.natAbs : Nat) : Int) else ((t.natAbs.gcd b.natAbs : Nat) : Int)) = ((Rat.divInt t b).den : Int) := by
  rw [Rat.den_divInt, if_neg h, gcd_cast]
  have d : (Int.gcd b t : Int) ∣ b := Int.gcd_dvd_left ..
  have g0 : (Int.gcd b t : Int) ≠ 0 := fun z => by
      have := Int.gcd_eq_zero_iff.mp (by omega : Int.gcd b t = 0)
      omega
  obtain ⟨c, e⟩ := d
  have e3 : b / (Int.gcd b t : Int) = c := by
      conv => lhs; lhs; rw [e]
      exact Int.mul_ediv_cancel_left _ g0
  by_cases hb : b < 0
  · rw [if_pos hb, fdiv_exact (Int.neg_dvd.mpr (Int.gcd_dvd_left ..)), Int.ediv_neg, e3]
    have : (b.natAbs : Int) = -b := by omega
    rw [Int.natCast_ediv, this]
    have e4 : -b = (Int.gcd b t : Int) * (-c) := by rw [Int.mul_neg, ← e]
    rw [e4, Int.mul_ediv_cancel_left _ g0]
  · rw [if_neg hb, fdiv_exact (Int.gcd_dvd_left ..), e3]
    have : (b.natAbs : Int) = b := by omega
    rw [Int.natCast_ediv, this, e3]
/-- a number of at most n bits -/
def LbI (n : Nat) (z : Int) : Prop := z.natAbs < 2 ^ n
def Bits (n : Nat) (x : Rat) : Prop := LbI n x.num ∧ LbI n x.den
theorem LbI.mono {n m : Nat} {z : Int} (h : LbI n z) (l : n ≤ m) : LbI m z := Nat.lt_of_lt_of_le h (Nat.pow_le_pow_right (by decide) l)
theorem Bits.mono {n m : Nat} {x : Rat} (h : Bits n x) (l : n ≤ m) : Bits m x := ⟨h.1.mono l, h.2.mono l⟩
theorem LbI.mul {n m : Nat} {a b : Int} (h : LbI n a) (g : LbI m b) : LbI (n + m) (a * b) := by
  unfold LbI at *
  rw [Int.natAbs_mul, Nat.pow_add]
  exact Nat.mul_lt_mul'' h g
theorem LbI.neg {n : Nat} {a : Int} (h : LbI n a) : LbI n (-a) := by unfold LbI at *; rw [Int.natAbs_neg]; exact h
theorem LbI.add {n : Nat} {a b : Int} (h : LbI n a) (g : LbI n b) : LbI (n + 1) (a + b) := by
  unfold LbI at *
  have := Int.natAbs_add_le a b
  rw [Nat.pow_succ]; omega
theorem LbI.sub {n : Nat} {a b : Int} (h : LbI n a) (g : LbI n b) : LbI (n + 1) (a - b) := by
  rw [Int.sub_eq_add_neg]; exact h.add g.neg
theorem LbI.of_le {n : Nat} {a b : Int} (h : LbI n a) (l : b.natAbs ≤ a.natAbs) : LbI n b := Nat.lt_of_le_of_lt l h
theorem LbI.nat {n k : Nat} (h : k < 2 ^ n) : LbI n (k : Int) := h
theorem natAbs_div_le (a b : Int) : (a / b).natAbs ≤ a.natAbs := by
  by_cases h : b = 0
  · subst h; simp
  exact Int.natAbs_ediv_le_natAbs a b
theorem Bits.divInt {n : Nat} {t b : Int} (h : LbI n t) (g : LbI n b) (b0 : b ≠ 0) : Bits n (Rat.divInt t b) := by
  constructor
  · rw [Rat.num_divInt]
    refine h.of_le (Nat.le_trans (natAbs_div_le _ _) ?_)
    rw [Int.natAbs_mul]
    have : b.sign.natAbs ≤ 1 := by
      rcases Int.lt_trichotomy b 0 with z | z | z
      · rw [Int.sign_eq_neg_one_of_neg z]; decide
      · rw [z]; decide
      · rw [Int.sign_eq_one_of_pos z]; decide
    have := Nat.mul_le_mul_right t.natAbs this
    omega
  · rw [Rat.den_divInt, if_neg b0]
    exact g.of_le (Nat.div_le_self _ _)
theorem divInt_mul (x y : Rat) : Rat.divInt (x.num * y.num) (x.den * y.den) = x * y := by
  rw [← Rat.divInt_mul_divInt, Rat.num_divInt_den, Rat.num_divInt_den]
theorem divInt_sub (x y : Rat) : Rat.divInt (x.num * y.den - y.num * x.den) (x.den * y.den) = x - y := by
  have h := Rat.sub_def' x y
  rw [h, ← Rat.divInt_ofNat, Int.natCast_mul]
theorem divInt_add (x y : Rat) : Rat.divInt (x.num * y.den + y.num * x.den) (x.den * y.den) = x + y := by
  have h := Rat.add_def' x y
  rw [h, ← Rat.divInt_ofNat, Int.natCast_mul]
theorem divInt_over (x y : Rat) : Rat.divInt (x.num * y.den) (x.den * y.num) = x / y := by
  rw [← Rat.divInt_mul_divInt, Rat.num_divInt_den, Rat.div_def, Rat.inv_def]
theorem divInt_self (x : Rat) : Rat.divInt x.num x.den = x := Rat.num_divInt_den x
theorem divInt_frac (z b : Int) : Rat.divInt z b = (z : Rat) / b := Rat.divInt_eq_div z b
theorem num_ne {x : Rat} (h : x ≠ 0) : x.num ≠ 0 := fun z => h (Rat.num_eq_zero.mp z)
theorem den_pos (x : Rat) : (0 : Int) < x.den := by have := x.den_pos; omega
theorem rat_red (x : Rat) : Int.gcd x.num x.den = 1 := x.reduced
theorem red_rat {p q : Int} (h0 : 0 < q) (h : Int.gcd p q = 1) : (Rat.divInt p q).num = p ∧ ((Rat.divInt p q).den : Int) = q := by
  have g : Int.gcd q p = 1 := by rw [Int.gcd_comm]; exact h
  rw [Rat.num_divInt, Rat.den_divInt, if_neg (by omega), g, Int.sign_eq_one_of_pos h0]
  constructor
  · simp
  · simp; omega
/-! ### polynomials by their coefficients -/
def co (xs : List Rat) (i : Nat) : Rat := xs.getD i 0
def sumN (f : Nat → Rat) : Nat → Rat
  | 0 => 0
  | n + 1 => sumN f n + f n
def sh (i : Nat) (g : Nat → Rat) (n : Nat) : Rat := if n < i then 0 else g (n - i)
def prodc (xs : List Rat) (g : Nat → Rat) (n : Nat) : Rat := sumN (fun i => co xs i * sh i g n) xs.length
def single (m : Nat) (c : Rat) (n : Nat) : Rat := if n = m then c else 0
/-- told: no nought at the end -/
def Told (xs : List Rat) : Prop := ∀ z, xs.getLast? = some z → z ≠ 0
theorem sumN_congr {f g : Nat → Rat} : ∀ {n : Nat}, (∀ i, i < n → f i = g i) → sumN f n = sumN g n
  | 0, _ => rfl
  | n + 1, h => by
    show sumN f n + f n = sumN g n + g n
    rw [sumN_congr fun i hi => h i (by omega), h n (by omega)]
theorem sumN_zero {f : Nat → Rat} : ∀ {n : Nat}, (∀ i, i < n → f i = 0) → sumN f n = 0
  | 0, _ => rfl
  | n + 1, h => by
    show sumN f n + f n = 0
    rw [sumN_zero fun i hi => h i (by omega), h n (by omega)]; grind
theorem sumN_add {f g : Nat → Rat} : ∀ n : Nat, sumN (fun i => f i + g i) n = sumN f n + sumN g n
  | 0 => by show (0 : Rat) = 0 + 0; grind
  | n + 1 => by
    show sumN (fun i => f i + g i) n + (f n + g n) = (sumN f n + f n) + (sumN g n + g n)
    rw [sumN_add n]; grind
theorem sumN_mul {f : Nat → Rat} (c : Rat) : ∀ n : Nat, sumN (fun i => c * f i) n = c * sumN f n
  | 0 => by show (0 : Rat) = c * 0; grind
  | n + 1 => by
    show sumN (fun i => c * f i) n + c * f n = c * (sumN f n + f n)
    rw [sumN_mul c n]; grind
theorem sumN_one {f : Nat → Rat} {m : Nat} : ∀ {n : Nat}, m < n → (∀ i, i < n → i ≠ m → f i = 0) → sumN f n = f m
  | 0, h, _ => absurd h (Nat.not_lt_zero _)
  | n + 1, h, h0 => by
    show sumN f n + f n = f m
    by_cases e : n = m
    · subst e
      rw [sumN_zero fun i hi => h0 i (by omega) (by omega)]; grind
    · rw [sumN_one (by omega) fun i hi => h0 i (by omega), h0 n (by omega) e]; grind
theorem co_out {xs : List Rat} {i : Nat} (h : xs.length ≤ i) : co xs i = 0 := by
  unfold co; rw [List.getD_eq_getElem?_getD, List.getElem?_eq_none h]; rfl
theorem co_at {xs : List Rat} {i : Nat} {x : Rat} (h : xs[i]? = some x) : co xs i = x := by
  unfold co; rw [List.getD_eq_getElem?_getD, h]; rfl
theorem co_nil (i : Nat) : co [] i = 0 := rfl
theorem prodc_add (xs : List Rat) (g h : Nat → Rat) (n : Nat) : prodc xs (fun i => g i + h i) n = prodc xs g n + prodc xs h n := by
  unfold prodc
  rw [← sumN_add]
  refine sumN_congr fun i _ => ?_
  unfold sh; split <;> grind
theorem prodc_sub (xs : List Rat) (g h : Nat → Rat) (n : Nat) : prodc xs (fun i => g i - h i) n = prodc xs g n - prodc xs h n := by
  have e := prodc_add xs (fun i => g i - h i) h n
  have e2 : (fun i => g i - h i + h i) = g := funext fun i => by grind
  rw [e2] at e
  grind
theorem prodc_single (xs : List Rat) (m : Nat) (c : Rat) (n : Nat) : prodc xs (single m c) n = if n < m then 0 else c * co xs (n - m) := by
  unfold prodc
  by_cases h : n < m
  · rw [if_pos h]
    refine sumN_zero fun i hi => ?_
    unfold sh single
    split
    · grind
    · rw [if_neg (by omega)]; grind
  · rw [if_neg h]
    by_cases l : n - m < xs.length
    · rw [sumN_one l fun i hi ne => ?_]
      · unfold sh single
        rw [if_neg (by omega), if_pos (by omega)]; grind
      · unfold sh single
        split
        · grind
        · rw [if_neg (by omega)]; grind
    · rw [co_out (by omega), sumN_zero fun i hi => ?_]
      · grind
      · unfold sh single
        split
        · grind
        · rw [if_neg (by omega)]; grind
theorem prodc_congr {xs : List Rat} {g h : Nat → Rat} (e : ∀ i, g i = h i) (n : Nat) : prodc xs g n = prodc xs h n := by rw [funext e]
/-- the highest one -/
theorem prodc_top {xs : List Rat} {g : Nat → Rat} {m s : Nat} (hs : xs.length = s + 1) (hg : ∀ i, m < i → g i = 0) : prodc xs g (s + m) = co xs s * g m := by
  unfold prodc
  rw [hs, sumN_one (m := s) (by omega) fun i hi ne => ?_]
  · unfold sh; rw [if_neg (by omega)]; congr 2; omega
  · unfold sh
    rw [if_neg (by omega), hg _ (by omega)]; grind
theorem told_top {xs : List Rat} (t : Told xs) (h : xs ≠ []) : co xs (xs.length - 1) ≠ 0 := by
  have e : xs.getLast? = some (xs.getLast h) := List.getLast?_eq_some_getLast h
  rw [List.getLast?_eq_getElem?] at e
  rw [co_at e]
  exact t _ (by rw [List.getLast?_eq_getElem?]; exact e)
theorem told_of_top {xs : List Rat} (h : xs ≠ [] → co xs (xs.length - 1) ≠ 0) : Told xs := fun z hz => by
  have n : xs ≠ [] := fun e => by rw [e] at hz; cases hz
  rw [List.getLast?_eq_getElem?] at hz
  have := h n
  rw [co_at hz] at this
  exact this
theorem told_nil : Told [] := fun z h => by cases h
/-- told lists with the same coefficients are the same -/
theorem told_ext {xs ys : List Rat} (tx : Told xs) (ty : Told ys) (e : ∀ i, co xs i = co ys i) : xs = ys := by
  have l : ∀ {as bs : List Rat}, Told as → (∀ i, co as i = co bs i) → as.length ≤ bs.length := fun {as bs} ta e => by
    by_cases n : as = []
    · rw [n]; exact Nat.zero_le _
    · have t := told_top ta n
      have : 0 < as.length := List.length_pos_iff.mpr n
      by_cases h : as.length ≤ bs.length
      · exact h
      · rw [e, co_out (by omega)] at t
        exact absurd rfl t
  have le := Nat.le_antisymm (l tx e) (l ty fun i => (e i).symm)
  refine List.ext_getElem le fun i h1 h2 => ?_
  have := e i
  rw [co_at (List.getElem?_eq_getElem h1), co_at (List.getElem?_eq_getElem h2)] at this
  exact this
/-- quotient and rest are the only ones -/
theorem div_unique {S : List Rat} {Q1 Q2 R1 R2 : List Rat} (hS : S ≠ []) (tS : Told S) (q1 : Told Q1) (q2 : Told Q2) (r1 : Told R1) (r2 : Told R2) (l1 : R1.length < S.length) (l2 : R2.length < S.length)
    (h : ∀ n, prodc S (co Q1) n + co R1 n = prodc S (co Q2) n + co R2 n) : Q1 = Q2 ∧ R1 = R2 := by
  have top := told_top tS hS
  have ls : S.length = (S.length - 1) + 1 := by omega
  have D : ∀ k m, m + k = max Q1.length Q2.length → ∀ i, m ≤ i → co Q1 i - co Q2 i = 0 := by
    intro k
    induction k with
    | zero =>
      intro m hm i hi
      rw [co_out (by omega), co_out (by omega)]; grind
    | succ k ih =>
      intro m hm i hi
      have above := ih (m + 1) (by omega)
      by_cases e : i = m
      · subst e
        have t := prodc_top (g := fun i => co Q1 i - co Q2 i) (m := i) ls (fun j hj => above j (by omega))
        rw [prodc_sub] at t
        have hn := h (S.length - 1 + i)
        rw [co_out (xs := R1) (by omega), co_out (xs := R2) (by omega)] at hn
        have z : co S (S.length - 1) * (co Q1 i - co Q2 i) = 0 := by grind
        rcases Rat.mul_eq_zero.mp z with y | y
        · exact absurd y top
        · exact y
      · exact above i (by omega)
  have eQ : ∀ i, co Q1 i = co Q2 i := fun i => by
    have := D (max Q1.length Q2.length) 0 (by omega) i (Nat.zero_le _)
    grind
  refine ⟨told_ext q1 q2 eQ, told_ext r1 r2 fun n => ?_⟩
  have := h n
  rw [prodc_congr eQ] at this
  grind
/-! ### one step of the division -/
theorem co_take {xs : List Rat} {k n : Nat} (h : n < k) : co (xs.take k) n = co xs n := by
  unfold co; rw [List.getD_eq_getElem?_getD, List.getD_eq_getElem?_getD, List.getElem?_take_of_lt h]
theorem co_append_left {xs ys : List Rat} {n : Nat} (h : n < xs.length) : co (xs ++ ys) n = co xs n := by
  unfold co; rw [List.getD_eq_getElem?_getD, List.getD_eq_getElem?_getD, List.getElem?_append_left h]
theorem co_append_right {xs ys : List Rat} {n : Nat} (h : xs.length ≤ n) : co (xs ++ ys) n = co ys (n - xs.length) := by
  unfold co; rw [List.getD_eq_getElem?_getD, List.getD_eq_getElem?_getD, List.getElem?_append_right h]
/-- what is left behind a part c -/
def restOf (c : Rat) (S xs : List Rat) : List Rat := xs.take (xs.length - S.length) ++ (List.zipWith (fun a b => a - c * b) (xs.drop (xs.length - S.length)) S).dropLast
theorem restOf_len {c : Rat} {S xs : List Rat} (hS : 0 < S.length) (h : S.length ≤ xs.length) : (restOf c S xs).length = xs.length - 1 := by
  unfold restOf
  rw [List.length_append, List.length_take, List.length_dropLast, List.length_zipWith, List.length_drop]
  omega
theorem restOf_co {c : Rat} {S xs : List Rat} (hS : 0 < S.length) (h : S.length ≤ xs.length) (hc : co xs (xs.length - 1) = c * co S (S.length - 1)) (n : Nat) :
    co xs n = prodc S (single (xs.length - S.length) c) n + co (restOf c S xs) n := by
  rw [prodc_single]
  by_cases h1 : n < xs.length - S.length
  · rw [if_pos h1]
    unfold restOf
    rw [co_append_left (by rw [List.length_take]; omega), co_take h1]; grind
  · rw [if_neg h1]
    by_cases h2 : n < xs.length - 1
    · unfold restOf
      rw [co_append_right (by rw [List.length_take]; omega), List.length_take, Nat.min_eq_left (by omega)]
      have l : n - (xs.length - S.length) < (List.zipWith (fun a b => a - c * b) (xs.drop (xs.length - S.length)) S).dropLast.length := by
        rw [List.length_dropLast, List.length_zipWith, List.length_drop]; omega
      have e : (List.zipWith (fun a b => a - c * b) (xs.drop (xs.length - S.length)) S).dropLast[n - (xs.length - S.length)]? = some (co xs n - c * co S (n - (xs.length - S.length))) := by
        rw [List.getElem?_eq_getElem l, List.getElem_dropLast, List.getElem_zipWith, List.getElem_drop]
        congr 2
        · rw [co_at (x := xs[xs.length - S.length + (n - (xs.length - S.length))]'(by omega))]
          rw [List.getElem?_eq_some_iff]
          refine ⟨by omega, ?_⟩
          congr 1; omega
        · congr 1
          rw [co_at (List.getElem?_eq_getElem _)]
      rw [co_at e]; grind
    · rw [co_out (xs := restOf c S xs) (by rw [restOf_len hS h]; omega)]
      by_cases h3 : n = xs.length - 1
      · rw [h3, hc, show xs.length - 1 - (xs.length - S.length) = S.length - 1 by omega]; grind
      · rw [co_out (by omega), co_out (xs := S) (by omega)]; grind
/-- the parts so far, by their places -/
def qf (L : Nat) (qs : List Rat) (i : Nat) : Rat := if i ≤ L ∧ L - i < qs.length then co qs (L - i) else 0
theorem qf_nil (L i : Nat) : qf L [] i = 0 := by
  unfold qf; rw [if_neg]; simp
theorem qf_snoc {L : Nat} {qs : List Rat} {c : Rat} (h : qs.length ≤ L) (i : Nat) : qf L (qs ++ [c]) i = qf L qs i + single (L - qs.length) c i := by
  unfold qf single
  rw [List.length_append, List.length_singleton]
  by_cases h1 : i ≤ L ∧ L - i < qs.length
  · rw [if_pos h1, if_pos (by omega), co_append_left h1.2, if_neg (by omega)]; grind
  · rw [if_neg h1]
    by_cases h2 : i = L - qs.length
    · rw [if_pos (by omega), if_pos h2, co_append_right (by omega), show L - i - qs.length = 0 by omega]
      show c = 0 + c
      grind
    · rw [if_neg h2]
      by_cases h3 : i ≤ L ∧ L - i < qs.length + 1
      · omega
      · rw [if_neg h3]; grind
theorem qf_rev {L : Nat} {qs : List Rat} (h : qs.length = L + 1) (i : Nat) : qf L qs i = co qs.reverse i := by
  unfold qf
  by_cases h1 : i ≤ L
  · rw [if_pos ⟨h1, by omega⟩]
    have : qs.reverse[i]? = qs[L - i]? := by
      rw [List.getElem?_reverse (by omega)]; congr 1; omega
    unfold co
    rw [List.getD_eq_getElem?_getD, List.getD_eq_getElem?_getD, this]
  · rw [if_neg (by omega), co_out (by rw [List.length_reverse]; omega)]
end Fp
namespace Fp
/-- without the noughts at the end -/
def trimQ (xs : List Rat) : List Rat := (xs.reverse.dropWhile fun x => x == 0).reverse
theorem trimQ_nil : trimQ [] = [] := rfl
theorem trimQ_zero {A : List Rat} {x : Rat} (h : x = 0) : trimQ (A ++ [x]) = trimQ A := by
  unfold trimQ
  rw [List.reverse_append, List.reverse_singleton, List.singleton_append, List.dropWhile_cons, if_pos (by simp [h])]
theorem trimQ_nz {A : List Rat} {x : Rat} (h : x ≠ 0) : trimQ (A ++ [x]) = A ++ [x] := by
  unfold trimQ
  rw [List.reverse_append, List.reverse_singleton, List.singleton_append, List.dropWhile_cons, if_neg (by simp [h])]
  simp
theorem snoc_cases {α : Type} (l : List α) : l = [] ∨ ∃ A x, l = A ++ [x] := by
  rcases List.eq_nil_or_concat l with e | ⟨A, x, e⟩
  · exact .inl e
  · exact .inr ⟨A, x, by rw [e, List.concat_eq_append]⟩
/-- by the last one -/
theorem snoc_ind {α : Type} {φ : List α → Prop} (h0 : φ []) (h1 : ∀ A x, φ A → φ (A ++ [x])) : ∀ l, φ l := fun l => by
  have : ∀ n (l : List α), l.length = n → φ l := by
    intro n
    induction n with
    | zero => intro l e; rw [List.length_eq_zero_iff.mp e]; exact h0
    | succ n ih =>
      intro l e
      rcases snoc_cases l with z | ⟨A, x, rfl⟩
      · rw [z] at e; cases e
      · exact h1 A x (ih A (by rw [List.length_append] at e; simpa using e))
  exact this _ l rfl
theorem trimQ_told (xs : List Rat) : Told (trimQ xs) := by
  induction xs using snoc_ind with
  | h0 => exact told_nil
  | h1 A x ih =>
    by_cases h : x = 0
    · rw [trimQ_zero h]; exact ih
    · rw [trimQ_nz h]; intro z hz
      rw [List.getLast?_concat] at hz
      obtain rfl := Option.some.inj hz
      exact h
theorem trimQ_co (xs : List Rat) (n : Nat) : co (trimQ xs) n = co xs n := by
  induction xs using snoc_ind with
  | h0 => rfl
  | h1 A x ih =>
    by_cases h : x = 0
    · rw [trimQ_zero h, ih]
      by_cases l : n < A.length
      · rw [co_append_left l]
      · rw [co_append_right (by omega), co_out (by omega)]
        cases hh : n - A.length with
        | zero => exact h.symm
        | succ k => rfl
    · rw [trimQ_nz h]
theorem trimQ_len (xs : List Rat) : (trimQ xs).length ≤ xs.length := by
  unfold trimQ
  rw [List.length_reverse]
  have := (List.dropWhile_suffix (fun x : Rat => x == 0) (l := xs.reverse)).length_le
  rw [List.length_reverse] at this
  exact this
theorem trimQ_mem {xs : List Rat} {x : Rat} (h : x ∈ trimQ xs) : x ∈ xs := by
  unfold trimQ at h
  have h2 := (List.dropWhile_sublist _).mem (List.mem_reverse.mp h)
  exact List.mem_reverse.mp h2
theorem trimQ_id {xs : List Rat} (h : Told xs) : trimQ xs = xs := told_ext (trimQ_told xs) h (trimQ_co xs)
/-- top and bottom of a number -/
def nd (x : Rat) : Int × Int := (x.num, x.den)
theorem nd_zero {x : Rat} : ((nd x).1 = 0) ↔ x = 0 := Rat.num_eq_zero
theorem nd_inj {x y : Rat} (h : nd x = nd y) : x = y := by
  have h1 : x.num = y.num := congrArg Prod.fst h
  have h2 : (x.den : Int) = y.den := congrArg Prod.snd h
  exact Rat.ext h1 (by omega)
end Fp

namespace Fp
open PySem PySem.Spec PyProof.Rows L2
/-! ### // by any number but 0, sizes -/
def CDivNW (_ j : Int) : Prop := j ≠ 0 ∧ j.natAbs.log2 < 9000
theorem op_fdivNW {X : Cx} : OpR X (binaryOp .FloorDiv) (rI CDivNW fun i j => .int (i.fdiv j)) := opI fun _ _ _ _ _ _ _ hc q => floordiv_int hc.1 q (.inl (PyProof.noPylong_of_log2 hc.2))
theorem LbI.log {n : Nat} {z : Int} (h : LbI n z) : z.natAbs.log2 ≤ n := by
  by_cases e : z.natAbs = 0
  · rw [e]; exact Nat.zero_le _
  · exact Nat.le_of_lt ((Nat.log2_lt e).mpr h)
theorem LbI.div {n : Nat} {i z : Int} (h : LbI n z) (l : n ≤ 8990) (h0 : z ≠ 0) : CDivNW i z := ⟨h0, by have := h.log; omega⟩
theorem LbI.cm {n m : Nat} {a b : Int} (h : LbI n a) (g : LbI m b) (l : n + m ≤ 999990) : CMulW a b := by
  have := h.log
  have := g.log
  unfold CMulW
  omega
theorem LbI.small {a : Int} {k : Nat} (h : a.natAbs < 2 ^ k) : LbI k a := h
theorem LbI.zero {n : Nat} : LbI n 0 := Nat.two_pow_pos n
/-! ### Ratios -/
def RQ (C : Addr) (H : Hp) (a : Addr) (x : Rat) : Prop := Rat2 C H a x.num x.den
theorem RQ.same {C : Addr} {H H' : Hp} {a : Addr} {x : Rat} (h : RQ C H a x) (e : Same H H') : RQ C H' a x := Rat2.same h e
abbrev QL (C : Addr) (H : Hp) (us : List V) (xs : List Rat) : Prop := RatL C H us (xs.map nd)
def NumQ (C : Addr) (H : Hp) (v : V) (x : Rat) : Prop := NumV C H v x.num x.den
theorem NumQ.same {C : Addr} {H H' : Hp} {v : V} {x : Rat} (h : NumQ C H v x) (e : Same H H') : NumQ C H' v x := NumV.same h e
theorem RQ.nq {C : Addr} {H : Hp} {a : Addr} {x : Rat} (h : RQ C H a x) : NumQ C H (.ref a) x := .inr ⟨a, rfl, h⟩
theorem NumQ.int {C : Addr} {H : Hp} {i : Int} : NumQ C H (.int i) (i : Rat) := .inl ⟨rfl, rfl⟩
theorem RQ.red {x : Rat} : RdI x.num x.den := ⟨den_pos x, x.reduced⟩
theorem NumQ.own {C : Addr} {H : Hp} {v : V} {x : Rat} (h : NumQ C H v x) : (∃ i, v = .int i) ∨ ∃ b dy gs, v = .ref b ∧ H b = some (.ins C dy gs) := by
  rcases h with ⟨h1, _⟩ | ⟨c, h1, dy, h2⟩
  · exact .inl ⟨_, h1⟩
  · exact .inr ⟨c, dy, _, h1, h2⟩
theorem QL.at {C : Addr} {H : Hp} {us : List V} {xs : List Rat} (h : QL C H us xs) {i : Nat} {v : V} (hv : us[i]? = some v) : ∃ x a, xs[i]? = some x ∧ v = .ref a ∧ RQ C H a x := by
  obtain ⟨pq, a, h1, h2, h3⟩ := h.at_ i v hv
  rw [List.getElem?_map] at h1
  cases e : xs[i]? with
  | none => rw [e] at h1; cases h1
  | some x => rw [e] at h1; obtain rfl := Option.some.inj h1; exact ⟨x, a, rfl, h2, h3⟩
theorem QL.len {C : Addr} {H : Hp} {us : List V} {xs : List Rat} (h : QL C H us xs) : us.length = xs.length := by rw [RatL.len h, List.length_map]
theorem QL.nil {C : Addr} {H : Hp} : QL C H [] [] := RatL.nil
theorem QL.mk {C : Addr} {H : Hp} {us : List V} {xs : List Rat} (l : us.length = xs.length) (h : ∀ (i : Nat) v x, us[i]? = some v → xs[i]? = some x → ∃ a, v = .ref a ∧ RQ C H a x) : QL C H us xs :=
  ⟨by rw [List.length_map]; exact l, fun i v hv => by
    have li := (List.getElem?_eq_some_iff.mp hv).1
    have hx : xs[i]? = some xs[i] := List.getElem?_eq_getElem (by omega)
    obtain ⟨a, h1, h2⟩ := h i v _ hv hx
    exact ⟨nd xs[i], a, by rw [List.getElem?_map, hx]; rfl, h1, h2⟩⟩
theorem QL.snoc {C : Addr} {H : Hp} {us : List V} {xs : List Rat} (h : QL C H us xs) {a : Addr} {x : Rat} (r : RQ C H a x) : QL C H (us ++ [.ref a]) (xs ++ [x]) := by
  have := RatL.snoc h r
  show RatL C H _ ((xs ++ [x]).map nd)
  rw [List.map_append]; exact this
theorem QL.take {C : Addr} {H : Hp} {us : List V} {xs : List Rat} (h : QL C H us xs) (n : Nat) : QL C H (us.take n) (xs.take n) := by
  have := RatL.take h n
  show RatL C H _ ((xs.take n).map nd)
  rw [List.map_take]; exact this
theorem QL.drop {C : Addr} {H : Hp} {us : List V} {xs : List Rat} (h : QL C H us xs) (n : Nat) : QL C H (us.drop n) (xs.drop n) :=
  QL.mk (by rw [List.length_drop, List.length_drop, h.len]) fun i v x hv hx => by
    rw [List.getElem?_drop] at hv hx
    obtain ⟨y, a, h1, h2, h3⟩ := h.at hv
    rw [hx] at h1
    obtain rfl := Option.some.inj h1
    exact ⟨a, h2, h3⟩
theorem QL.app {C : Addr} {H : Hp} {us ws : List V} {xs ys : List Rat} (h : QL C H us xs) (g : QL C H ws ys) : QL C H (us ++ ws) (xs ++ ys) :=
  QL.mk (by rw [List.length_append, List.length_append, h.len, g.len]) fun i v x hv hx => by
    have l := h.len
    by_cases z : i < us.length
    · rw [List.getElem?_append_left z] at hv
      rw [List.getElem?_append_left (by omega)] at hx
      obtain ⟨y, a, h1, h2, h3⟩ := h.at hv
      rw [hx] at h1
      obtain rfl := Option.some.inj h1
      exact ⟨a, h2, h3⟩
    · rw [List.getElem?_append_right (by omega)] at hv hx
      rw [l] at hv
      obtain ⟨y, a, h1, h2, h3⟩ := g.at hv
      rw [hx] at h1
      obtain rfl := Option.some.inj h1
      exact ⟨a, h2, h3⟩
theorem QL.dropLast {C : Addr} {H : Hp} {us : List V} {xs : List Rat} (h : QL C H us xs) : QL C H us.dropLast xs.dropLast := by
  rw [List.dropLast_eq_take, List.dropLast_eq_take, h.len]; exact h.take _
theorem QL.rev {C : Addr} {H : Hp} {us : List V} {xs : List Rat} (h : QL C H us xs) : QL C H us.reverse xs.reverse :=
  QL.mk (by rw [List.length_reverse, List.length_reverse, h.len]) fun i v x hv hx => by
    have li := (List.getElem?_eq_some_iff.mp hv).1
    rw [List.length_reverse] at li
    have l := h.len
    rw [List.getElem?_reverse (by omega)] at hv hx
    rw [l] at hv
    obtain ⟨y, a, h1, h2, h3⟩ := h.at hv
    rw [hx] at h1
    obtain rfl := Option.some.inj h1
    exact ⟨a, h2, h3⟩
theorem trimP_nd (xs : List Rat) : trimP (xs.map nd) = (trimQ xs).map nd := by
  induction xs using snoc_ind with
  | h0 => rfl
  | h1 A x ih =>
    rw [List.map_append]
    by_cases h : x = 0
    · rw [trimQ_zero h, ← ih]
      exact trimP_zero (nd_zero.mpr h)
    · rw [trimQ_nz h, List.map_append]
      exact trimP_nz fun z => h (nd_zero.mp z)
/-! ### Ratio(t, b), its methods -/
def spRQ (C : Addr) : Sp := fun vs H Q _ => ∃ (p dx : Addr) (t b : Int), vs = [.ref p, .int t, .int b] ∧ b ≠ 0 ∧ LbI 8990 b ∧ H p = some (.ins C dx []) ∧ ∀ H', (∀ b o, b ≠ p → H b = some o → H' b = some o) → H' p = some (.ins C dx [("_top", .int (Rat.divInt t b).num), ("_bottom", .int (Rat.divInt t b).den)]) → Q .non H'
structure RDefQ (P : Program) (w : World) (K : PySem.W.Frag) (mg : Str → Option Value) (base : Heap) (k : Nat) (C : Addr) : Prop where
  ex : ∃ (fI fR : Addr) (fdI : FuncData), RCls K mg C fI fR ∧ FnOk P w K mg base CX0 k fI fdI ["self", "top", "bottom"] (spRQ C) ∧ Binds K fdI ["self", "top", "bottom"] []
def tRatQ (C : Addr) (t : TA) : TE := fun σ H Q => t σ H fun vs H1 => ∃ i j : Int, vs = [.int i, .int j] ∧ j ≠ 0 ∧ LbI 8990 j ∧ ∀ a H', H1 a = none → Same H1 H' → RQ C H' a (Rat.divInt i j) → Q (.ref a) H'
theorem pe_ratQ {X : Cx} {C : Addr} {k : Nat} (D : RDefQ X.prog X.w X.K X.mg X.base k C) (hr : Room (k + 1) X.A) {p pos : Pos} {e : Expr} {es : List Expr} {t : TA} (hg : Gl X "Ratio") (ha : PA X (e :: es) t)
    (he : starEach (e :: es) X.env = (false, eval e X.env) :: starEach es X.env := by rfl) (hpl : (backTo pos (starEach es X.env)).any (·.1) = false := by rfl) : PE X (.Call (.Name "Ratio" p) (e :: es) [] pos) (tRatQ C t) := by
  obtain ⟨fI, fR, fdI, R, FI, bI⟩ := D.ex
  refine ⟨fun pins s σ H Q I h => ?_⟩
  refine wpAny_Call_Name_kw (ld_glob I hg R.mgC ?_ (by decide))
  refine PySem.W.callWith_K (h₀ := X.base) I.ok.mod.kin R.make.kp (thn (ha.run pos pins s σ H _ I h) fun us s1 ⟨vs, H1, I1, r, q⟩ => ⟨I1.kIn, ?_⟩) he hpl
  refine run_make (dvs := []) R.make FI hr bI .nil (pass0 (X := X)) I1 r fun x dx nx ndx ne => ?_
  obtain ⟨i, j, rfl, j0, jb, q⟩ := q
  refine ⟨x, dx, i, j, rfl, j0, jb, upd_same, fun H' kp hx => ⟨rfl, q x H' nx (fun b o e => ?_) ⟨dx, hx⟩⟩⟩
  have n1 := ne_of_none e nx
  exact kp b o n1 (by rw [upd_ne n1, upd_ne (ne_of_none e ndx)]; exact e)
def spMulQ (C : Addr) : Sp := fun vs H Q _ => ∃ (a : Addr) (y : V) (x z : Rat) (n m : Nat), vs = [.ref a, y] ∧ RQ C H a x ∧ NumQ C H y z ∧ Bits n x ∧ Bits m z ∧ n + m ≤ 8900 ∧ ∀ r H', Same H H' → RQ C H' r (x * z) → Q (.ref r) H'
def spSubQ (C : Addr) : Sp := fun vs H Q _ => ∃ (a : Addr) (y : V) (x z : Rat) (n m : Nat), vs = [.ref a, y] ∧ RQ C H a x ∧ NumQ C H y z ∧ Bits n x ∧ Bits m z ∧ n + m ≤ 8900 ∧ ∀ r H', Same H H' → RQ C H' r (x - z) → Q (.ref r) H'
def spAddQ (C : Addr) : Sp := fun vs H Q _ => ∃ (a : Addr) (y : V) (x z : Rat) (n m : Nat), vs = [.ref a, y] ∧ RQ C H a x ∧ NumQ C H y z ∧ Bits n x ∧ Bits m z ∧ n + m ≤ 8900 ∧ ∀ r H', Same H H' → RQ C H' r (x + z) → Q (.ref r) H'
def spOverQ (C : Addr) : Sp := fun vs H Q _ => ∃ (a : Addr) (y : V) (x z : Rat) (n m : Nat), vs = [.ref a, y] ∧ RQ C H a x ∧ NumQ C H y z ∧ Bits n x ∧ Bits m z ∧ n + m ≤ 8900 ∧ z ≠ 0 ∧ ∀ r H', Same H H' → RQ C H' r (x / z) → Q (.ref r) H'
theorem Bits.mul {n m : Nat} {x y : Rat} (h : Bits n x) (g : Bits m y) : Bits (n + m) (x * y) := by
  rw [← divInt_mul]
  exact Bits.divInt (h.1.mul g.1) (h.2.mul g.2) (by have := Int.mul_pos (den_pos x) (den_pos y); omega)
theorem Bits.sub {n m : Nat} {x y : Rat} (h : Bits n x) (g : Bits m y) : Bits (n + m + 1) (x - y) := by
  rw [← divInt_sub]
  refine Bits.divInt ((h.1.mul g.2).sub ?_) ((h.2.mul g.2).mono (by omega)) (by have := Int.mul_pos (den_pos x) (den_pos y); omega)
  have := g.1.mul h.2
  rw [Nat.add_comm m n] at this
  exact this
theorem Bits.add {n m : Nat} {x y : Rat} (h : Bits n x) (g : Bits m y) : Bits (n + m + 1) (x + y) := by
  rw [← divInt_add]
  refine Bits.divInt ((h.1.mul g.2).add ?_) ((h.2.mul g.2).mono (by omega)) (by have := Int.mul_pos (den_pos x) (den_pos y); omega)
  have := g.1.mul h.2
  rw [Nat.add_comm m n] at this
  exact this
theorem Bits.over {n m : Nat} {x y : Rat} (h : Bits n x) (g : Bits m y) (h0 : y ≠ 0) : Bits (n + m) (x / y) := by
  rw [← divInt_over]
  refine Bits.divInt (h.1.mul g.2) (h.2.mul g.1) fun z => ?_
  rcases Int.mul_eq_zero.mp z with e | e
  · have := den_pos x; omega
  · exact num_ne h0 e
end Fp

namespace K21
open PySem PySem.Spec PyProof.Rows L2 Fp
section
variable {P : Program} {w : World} {K : PySem.W.Frag} {mg : Str → Option Value} {base : Heap} {k : Nat}
/-! ### the class Ratio -/
-- slots: self 0, top 1, bottom 2, shared 3
abbrev s_Ratio___init__ : Stmt := inClass (top 13) 0
abbrev N_Ratio___init__ : List Str := ["self", "top", "bottom", "shared"]
theorem sc_Ratio___init__ : FnScope N_Ratio___init__ ["self", "top", "bottom"] (defScope s_Ratio___init__) := ⟨rfl, rfl, rfl, by decide +kernel, rfl, by decide +kernel, by decide +kernel⟩
-- slots: self 0
abbrev s_Ratio___repr__ : Stmt := inClass (top 13) 19
abbrev N_Ratio___repr__ : List Str := ["self"]
theorem sc_Ratio___repr__ : FnScope N_Ratio___repr__ ["self"] (defScope s_Ratio___repr__) := ⟨rfl, rfl, rfl, by decide +kernel, rfl, by decide +kernel, by decide +kernel⟩
theorem d_rinit {C fI fR f : Addr} {fd : FuncData} (F : FunD K "__init__" "Ratio.__init__" (defArgs s_Ratio___init__) (defBody s_Ratio___init__) (defScope s_Ratio___init__) [V.int 1] [] f fd) (R : RCls K mg C fI fR) (M : Mg mg) (D_is_integer : Def P w K mg base k "is_integer" sInteger ["value"] spInteger) :
    FnOk P w K mg base CX0 (k + 1) f fd ["self", "top", "bottom"] (spRI C) := by
  refine F.ok sc_Ratio___init__ (by rintro _ _ _ _ ⟨p, dx, t, b, rfl, _⟩; rfl) fun cdv A outer s H vs Q E hr h => ?_
  obtain ⟨p, dx, t, b, rfl, rd, hp, q⟩ := h
  refine ⟨_, pss_cons (ps_if (pt_not (pt_val (pe_d D_is_integer hr (by rfl) (pa_cons (pv 1) pa_nil)))) pss_never pss_nil)
    (pss_cons (ps_if (PW.pt (pw_or (pt_not (pt_val (pe_d D_is_integer hr (by rfl) (pa_cons (pv 2) pa_nil)))) (pw_or1 (pt_cmpR op_eq (pv 2) pe_int (nomark _))))) pss_never pss_nil)
    (pss_cons (ps_set (i := 3) sc_Ratio___init__.nd rfl (.inl rfl) (pe_callBfun cr_gcd (by rfl) M.gcd  (pa_cons (pv 1) (pa_cons (pv 2) pa_nil))))
    (C8.pss_cut (ps_if (pt_cmpR op_lt (pv 2) pe_int (nomark _))
      (pss_one (ps_set (i := 3) sc_Ratio___init__.nd rfl (.inl rfl) (pe_un un_neg (pv 3))))
      (pss_nil))
    (pss_cons (ps_fld (pv 0) (pe_op op_fdivNW (pv 1) (pv 3)) rfl)
    (pss_one (ps_fld (pv 0) (pe_op op_fdivNW (pv 2) (pv 3)) rfl)))))), ?_⟩
  have b0 := rd.1
  refine ⟨_, rfl, t, rfl, fun H1 s1 => ⟨true, rfl, iteF ⟨_, rfl, b, rfl, fun H2 s2 => ⟨true, rfl, iteF ⟨_, rfl, rfl, _, rfl, iteF2 (decide_eq_false fun z => by injection z with z; omega) ?_⟩⟩⟩⟩⟩
  have hp2 := (s1.trans s2) _ _ hp
  have g1 : ((t.natAbs.gcd (Int.natAbs b) : Nat) : Int) = 1 := by rw [rd.2]; rfl
  refine ⟨_, rfl, _, rfl, t, b, rfl, ?_⟩
  rw [g1]
  refine ⟨fun σ' H' => σ' = [some (.ref p), some (.int t), some (.int b), some (.int 1)] ∧ H' = H2, ⟨_, rfl, b, 0, rfl, rfl, _, rfl, iteF2 (decide_eq_false (by omega)) ⟨rfl, rfl⟩⟩, ?_⟩
  rintro _ _ ⟨rfl, rfl⟩
  rename_i H2
  have f1 : putF "_top" (V.int (t.fdiv 1)) [] = ([("_top", V.int t)] : List (Str × V)) := by rw [Int.fdiv_one]; rfl
  have f2 : putF "_bottom" (V.int (Int.fdiv b 1)) ([("_top", V.int t)] : List (Str × V)) = ([("_top", V.int t), ("_bottom", V.int b)] : List (Str × V)) := by
    show (if ("_top" : Str) = "_bottom" then [(("_top" : Str), V.int (Int.fdiv b 1))] else (("_top" : Str), V.int t) :: putF "_bottom" (V.int (Int.fdiv b 1)) []) = _
    rw [if_neg (by decide +kernel), Int.fdiv_one]; rfl
  refine ⟨_, rfl, _, rfl, t, 1, rfl, rfl, ⟨by omega, by decide⟩, _, rfl, p, C, dx, [], rfl, hp2, R.cl, R.nT, (by show 0 < 1000; decide), ?_⟩
  refine ⟨_, rfl, _, rfl, b, 1, rfl, rfl, ⟨by omega, by decide⟩, _, rfl, p, C, dx, _, rfl, upd_same, R.cl, R.nB, (by rw [f1]; show 1 < 1000; decide), ?_⟩
  rw [f1, f2]
  refine q _ (fun b o nb e => ?_) upd_same
  rw [upd_ne nb, upd_ne nb]
  exact (s1.trans s2) _ _ e
theorem d_rinitQ {C fI fR f : Addr} {fd : FuncData} (F : FunD K "__init__" "Ratio.__init__" (defArgs s_Ratio___init__) (defBody s_Ratio___init__) (defScope s_Ratio___init__) [V.int 1] [] f fd) (R : RCls K mg C fI fR) (M : Mg mg) (D_is_integer : Def P w K mg base k "is_integer" sInteger ["value"] spInteger) :
    FnOk P w K mg base CX0 (k + 1) f fd ["self", "top", "bottom"] (spRQ C) := by
  refine F.ok sc_Ratio___init__ (by rintro _ _ _ _ ⟨p, dx, t, b, rfl, _⟩; rfl) fun cdv A outer s H vs Q E hr h => ?_
  obtain ⟨p, dx, t, b, rfl, b0, bl, hp, q⟩ := h
  refine ⟨_, pss_cons (ps_if (pt_not (pt_val (pe_d D_is_integer hr (by rfl) (pa_cons (pv 1) pa_nil)))) pss_never pss_nil)
    (pss_cons (ps_if (PW.pt (pw_or (pt_not (pt_val (pe_d D_is_integer hr (by rfl) (pa_cons (pv 2) pa_nil)))) (pw_or1 (pt_cmpR op_eq (pv 2) pe_int (nomark _))))) pss_never pss_nil)
    (pss_cons (ps_set (i := 3) sc_Ratio___init__.nd rfl (.inl rfl) (pe_callBfun cr_gcd (by rfl) M.gcd  (pa_cons (pv 1) (pa_cons (pv 2) pa_nil))))
    (C8.pss_cut (ps_if (pt_cmpR op_lt (pv 2) pe_int (nomark _))
      (pss_one (ps_set (i := 3) sc_Ratio___init__.nd rfl (.inl rfl) (pe_un un_neg (pv 3))))
      (pss_nil))
    (pss_cons (ps_fld (pv 0) (pe_op op_fdivNW (pv 1) (pv 3)) rfl)
    (pss_one (ps_fld (pv 0) (pe_op op_fdivNW (pv 2) (pv 3)) rfl)))))), ?_⟩
  refine ⟨_, rfl, t, rfl, fun H1 s1 => ⟨true, rfl, iteF ⟨_, rfl, b, rfl, fun H2 s2 => ⟨true, rfl, iteF ⟨_, rfl, rfl, _, rfl, iteF2 (decide_eq_false fun z => by injection z with z; omega) ?_⟩⟩⟩⟩⟩
  have hp2 := (s1.trans s2) _ _ hp
  have eT := divInt_top (t := t) b0
  have eB := divInt_bot (t := t) b0
  have gl : LbI 8990 ((t.natAbs.gcd b.natAbs : Nat) : Int) := Nat.lt_of_le_of_lt (Nat.gcd_le_right _ (by omega)) bl
  have g0 : ((t.natAbs.gcd b.natAbs : Nat) : Int) ≠ 0 := by
    have := Nat.gcd_pos_of_pos_right t.natAbs (show 0 < b.natAbs by omega)
    omega
  refine ⟨_, rfl, _, rfl, t, b, rfl, ?_⟩
  generalize hg : ((t.natAbs.gcd b.natAbs : Nat) : Int) = g at *
  refine ⟨fun σ' H' => σ' = [some (.ref p), some (.int t), some (.int b), some (.int (if b < 0 then -g else g))] ∧ H' = H2, ⟨_, rfl, b, 0, rfl, rfl, _, rfl, ite2 (fun z => ?_) (fun z => ?_)⟩, ?_⟩
  · have z2 := of_decide_eq_true z
    rw [if_pos z2]
    exact ⟨_, rfl, _, rfl, rfl, rfl⟩
  · have z2 : ¬ b < 0 := fun y => z (decide_eq_true y)
    rw [if_neg z2]
    exact ⟨rfl, rfl⟩
  rintro _ _ ⟨rfl, rfl⟩
  rename_i H2
  have hs : CDivNW t (if b < 0 then -g else g) := by
    split
    · exact gl.neg.div (by omega) (by omega)
    · exact gl.div (by omega) g0
  generalize (if b < 0 then -g else g) = h at *
  have f1 : putF "_top" (V.int (t.fdiv h)) [] = ([("_top", V.int (Rat.divInt t b).num)] : List (Str × V)) := by rw [eT]; rfl
  have f2 : putF "_bottom" (V.int (Int.fdiv b h)) ([("_top", V.int (Rat.divInt t b).num)] : List (Str × V)) = ([("_top", V.int (Rat.divInt t b).num), ("_bottom", V.int (Rat.divInt t b).den)] : List (Str × V)) := by
    show (if ("_top" : Str) = "_bottom" then [(("_top" : Str), V.int (Int.fdiv b h))] else (("_top" : Str), V.int (Rat.divInt t b).num) :: putF "_bottom" (V.int (Int.fdiv b h)) []) = _
    rw [if_neg (by decide +kernel), eB]; rfl
  refine ⟨_, rfl, _, rfl, t, h, rfl, rfl, hs, _, rfl, p, C, dx, [], rfl, hp2, R.cl, R.nT, (by show 0 < 1000; decide), ?_⟩
  refine ⟨_, rfl, _, rfl, b, h, rfl, rfl, hs, _, rfl, p, C, dx, _, rfl, upd_same, R.cl, R.nB, (by rw [f1]; show 1 < 1000; decide), ?_⟩
  rw [f1, f2]
  refine q _ (fun b o nb e => ?_) upd_same
  rw [upd_ne nb, upd_ne nb]
  exact (s1.trans s2) _ _ e
theorem d_rrepr {C fI fR f : Addr} {fd : FuncData} (F : Fun K "__repr__" "Ratio.__repr__" s_Ratio___repr__ f fd) (R : RCls K mg C fI fR) : FnOk P w K mg base CX0 (k + 1) f fd ["self"] (spRR C) := by
  refine F.ok sc_Ratio___repr__ (by rintro _ _ _ _ ⟨p, t, rfl, _⟩; rfl) fun cdv A outer s H vs Q E hr h => ?_
  obtain ⟨a, t, rfl, ⟨p, q, r, b1, b2, rfl⟩, hq⟩ := h
  refine ⟨_, pss_one (ps_ret (pe_joined (.cons pe_str (.cons (pe_fmt (pe_fld (pv 0) rfl)) (.cons pe_str (.cons (pe_fmt (pe_fld (pv 0) rfl)) (.cons pe_str .nil))))))), ?_⟩
  obtain ⟨dx, e⟩ := id r
  have l1 := int_len b1
  have l2 := int_len b2
  have e1 : (Str.ofString "Ratio(").length = 6 := rfl
  have e2 : (Str.ofString ", ").length = 2 := rfl
  have e3 : (Str.ofString ")").length = 1 := rfl
  have e0 : Str.empty ++ Str.ofString "Ratio(" = Str.ofString "Ratio(" := rfl
  have big : 3900 ≤ sizeLine := by decide
  refine ⟨_, rfl, by rw [e0, e1]; omega, _, rfl, a, C, dx, _, .int p, rfl, e, R.cl, R.nT, rfl, .inr ⟨p, rfl, b1, _, rfl, ?_, _, rfl, ?_, _, rfl, a, C, dx, _, .int q, rfl, e, R.cl, R.nB, rfl, .inr ⟨q, rfl, b2, _, rfl, ?_, _, rfl, ?_, ?_⟩⟩⟩
  · rw [e0, strLen_append, e1]; omega
  · rw [e0, strLen_append, strLen_append, e1, e2]; omega
  · rw [e0, strLen_append, strLen_append, strLen_append, e1, e2]; omega
  · rw [e0, strLen_append, strLen_append, strLen_append, strLen_append, e1, e2, e3]; omega
  · exact hq H (Same.refl H)
-- slots: self 0
abbrev s_Ratio_top : Stmt := inClass (top 13) 1
abbrev N_Ratio_top : List Str := ["self"]
theorem sc_Ratio_top : FnScope N_Ratio_top ["self"] (defScope s_Ratio_top) := ⟨rfl, rfl, rfl, by decide +kernel, rfl, by decide +kernel, by decide +kernel⟩
-- slots: self 0
abbrev s_Ratio_bottom : Stmt := inClass (top 13) 2
abbrev N_Ratio_bottom : List Str := ["self"]
theorem sc_Ratio_bottom : FnScope N_Ratio_bottom ["self"] (defScope s_Ratio_bottom) := ⟨rfl, rfl, rfl, by decide +kernel, rfl, by decide +kernel, by decide +kernel⟩
-- slots: self 0
abbrev s_Ratio_sign : Stmt := inClass (top 13) 3
abbrev N_Ratio_sign : List Str := ["self"]
theorem sc_Ratio_sign : FnScope N_Ratio_sign ["self"] (defScope s_Ratio_sign) := ⟨rfl, rfl, rfl, by decide +kernel, rfl, by decide +kernel, by decide +kernel⟩
-- slots: self 0, other 1, less 2
abbrev s_Ratio___sub__ : Stmt := inClass (top 13) 7
abbrev N_Ratio___sub__ : List Str := ["self", "other", "less"]
theorem sc_Ratio___sub__ : FnScope N_Ratio___sub__ ["self", "other"] (defScope s_Ratio___sub__) := ⟨rfl, rfl, rfl, by decide +kernel, rfl, by decide +kernel, by decide +kernel⟩
-- slots: self 0, other 1, by 2
abbrev s_Ratio___mul__ : Stmt := inClass (top 13) 9
abbrev N_Ratio___mul__ : List Str := ["self", "other", "by"]
theorem sc_Ratio___mul__ : FnScope N_Ratio___mul__ ["self", "other"] (defScope s_Ratio___mul__) := ⟨rfl, rfl, rfl, by decide +kernel, rfl, by decide +kernel, by decide +kernel⟩
-- slots: self 0, other 1, by 2
abbrev s_Ratio_over : Stmt := inClass (top 13) 12
abbrev N_Ratio_over : List Str := ["self", "other", "by"]
theorem sc_Ratio_over : FnScope N_Ratio_over ["self", "other"] (defScope s_Ratio_over) := ⟨rfl, rfl, rfl, by decide +kernel, rfl, by decide +kernel, by decide +kernel⟩
-- slots: self 0, other 1
abbrev s_Ratio___eq__ : Stmt := inClass (top 13) 17
abbrev N_Ratio___eq__ : List Str := ["self", "other"]
theorem sc_Ratio___eq__ : FnScope N_Ratio___eq__ ["self", "other"] (defScope s_Ratio___eq__) := ⟨rfl, rfl, rfl, by decide +kernel, rfl, by decide +kernel, by decide +kernel⟩
theorem d_rtop {C fI fR f : Addr} {fd : FuncData} (F : Fun K "top" "Ratio.top" s_Ratio_top f fd) (R : RCls K mg C fI fR) : FnOk P w K mg base CX0 (k + 1) f fd ["self"] (spTopR C) := by
  refine F.ok sc_Ratio_top (by rintro _ _ _ _ ⟨a, p, q, rfl, _⟩; rfl) fun cdv A outer s H vs Q E hr h => ?_
  obtain ⟨a, p, q, rfl, ⟨dx, r⟩, hq⟩ := h
  refine ⟨_, pss_one (ps_ret (pe_fld (pv 0) rfl)), ?_⟩
  exact ⟨_, rfl, a, C, dx, _, .int p, rfl, r, R.cl, R.nT, rfl, hq⟩
theorem d_rbot {C fI fR f : Addr} {fd : FuncData} (F : Fun K "bottom" "Ratio.bottom" s_Ratio_bottom f fd) (R : RCls K mg C fI fR) : FnOk P w K mg base CX0 (k + 1) f fd ["self"] (spBotR C) := by
  refine F.ok sc_Ratio_bottom (by rintro _ _ _ _ ⟨a, p, q, rfl, _⟩; rfl) fun cdv A outer s H vs Q E hr h => ?_
  obtain ⟨a, p, q, rfl, ⟨dx, r⟩, hq⟩ := h
  refine ⟨_, pss_one (ps_ret (pe_fld (pv 0) rfl)), ?_⟩
  exact ⟨_, rfl, a, C, dx, _, .int q, rfl, r, R.cl, R.nB, rfl, hq⟩
theorem d_rsgn {C fI fR f : Addr} {fd : FuncData} (F : Fun K "sign" "Ratio.sign" s_Ratio_sign f fd) (R : RCls K mg C fI fR) : FnOk P w K mg base CX0 (k + 1) f fd ["self"] (spSgnR C) := by
  refine F.ok sc_Ratio_sign (by rintro _ _ _ _ ⟨a, p, q, rfl, _⟩; rfl) fun cdv A outer s H vs Q E hr h => ?_
  obtain ⟨a, p, q, rfl, ⟨dx, r⟩, hq⟩ := h
  refine ⟨_, C8.pss_cut (ps_if (pt_cmpR op_lt (pe_fld (pv 0) rfl) pe_int (nomark _))
      (pss_one (ps_ret (pe_un un_neg pe_int)))
      (pss_nil))
    (pss_one (ps_ret (pe_ifExp (pt_cmpR op_gt (pe_fld (pv 0) rfl) pe_int (nomark _)) pe_int pe_int))), ?_⟩
  refine ⟨fun σ' H' => σ' = [some (.ref a)] ∧ H' = H ∧ 0 ≤ p, ⟨_, rfl, a, C, dx, _, .int p, rfl, r, R.cl, R.nT, rfl, p, 0, rfl, rfl, _, rfl, ite2 (fun z => ?_) (fun z => ?_)⟩, ?_⟩
  · have z2 := of_decide_eq_true z
    have e : sgnI p = -1 := if_pos z2
    rw [e] at hq
    exact ⟨1, rfl, hq⟩
  · exact ⟨rfl, rfl, by simpa using z⟩
  rintro _ _ ⟨rfl, rfl, h0⟩
  refine ⟨_, rfl, a, C, dx, _, .int p, rfl, r, R.cl, R.nT, rfl, p, 0, rfl, rfl, _, rfl, ite2 (fun z => ?_) (fun z => ?_)⟩
  · have z2 := of_decide_eq_true z
    have e : sgnI p = 1 := by unfold sgnI; rw [if_neg (by omega), if_pos z2]
    rw [e] at hq
    exact hq
  · have z2 : ¬ 0 < p := by simpa using z
    have e : sgnI p = 0 := by unfold sgnI; rw [if_neg (by omega), if_neg z2]
    rw [e] at hq
    exact hq
def spAs (C : Addr) : Sp := fun vs H Q _ => ∃ x p q, vs = [x] ∧ NumV C H x p q ∧ ∀ m H', Same H H' → Rat2 C H' m p q → Q (.ref m) H'
variable {C fI fR : Addr}
-- slots: number 0; cells: 
abbrev s_as_ratio : Stmt := top 15
abbrev N_as_ratio : List Str := ["number"]
theorem sc_as_ratio : FnScope N_as_ratio ["number"] (defScope s_as_ratio) := ⟨rfl, rfl, rfl, by decide +kernel, rfl, by decide +kernel, by decide +kernel⟩
theorem d_as_ratio (B : Bnd K mg "as_ratio" s_as_ratio) (M : Mg mg) (R : RCls K mg C fI fR) (J : RIsi K C) {kr : Nat} (RD : RDef P w K mg base kr C) (hk : kr + 8 ≤ k)  : Def P w K mg base (k + 1) "as_ratio" s_as_ratio ["number"] (spAs C) := by
  refine def_of B sc_as_ratio (by rintro _ _ _ _ ⟨x, p, q, rfl, _⟩; rfl) (fun _ _ _ _ _ _ us hl => match us, hl with | [_], _ => rfl) fun f cdv A outer s H vs Q E hr h => ?_
  obtain ⟨x, p, q, rfl, nv, hq⟩ := h
  have hu := hr.units
  refine ⟨_, C8.pss_cut (ps_if (pt_val (pe_callB call_isi (by rfl) M.isi (by decide +kernel) (pa_cons (pv 0) (pa_cons (pe_glob (v := .ref C) (by rfl) R.mgC rfl) pa_nil))))
      (pss_one (ps_ret (pv 0)))
      (pss_nil))
    (pss_one (ps_ret (pe_rat RD (hr.mono (by omega)) (by rfl) (pa_cons (pv 0) pa_nil)))), ?_⟩
  obtain ⟨ty, t1, t2⟩ := nv.kitC R J
  refine ⟨fun σ' H' => σ' = [some x] ∧ H' = H ∧ x = .int p ∧ q = 1, ⟨_, rfl, x, .ref C, ty, .ref C, isOwn H x, rfl, .own C, t1, t2, isOwn H x, rfl, ?_⟩, ?_⟩
  · rcases nv with ⟨rfl, rfl⟩ | ⟨a, rfl, r⟩
    · exact iteF ⟨rfl, rfl, rfl, rfl⟩
    · obtain ⟨dx, r1⟩ := id r
      exact iteT2 (by unfold isOwn; simp only [r1]) ⟨_, rfl, hq a H (Same.refl H) r⟩
  · rintro _ _ ⟨rfl, rfl, rfl, rfl⟩
    exact ⟨_, rfl, p, rfl, fun a H' na sm r => hq a H' sm r⟩
theorem d_rsub {C fI fR f : Addr} {fd : FuncData} (F : Fun K "__sub__" "Ratio.__sub__" s_Ratio___sub__ f fd) (R : RCls K mg C fI fR) {kr : Nat} (DQ : RDefQ P w K mg base kr C) (PT : PropX P w K mg base kr C "top" (spTopR C)) (PB : PropX P w K mg base kr C "bottom" (spBotR C)) (hk : kr + 8 ≤ k)
    (D_as_ratio : Def P w K mg base k "as_ratio" s_as_ratio ["number"] (spAs C)) : FnOk P w K mg base CX0 (k + 1) f fd ["self", "other"] (spSubQ C) := by
  refine F.ok sc_Ratio___sub__ (by rintro _ _ _ _ ⟨a, y, p, q, n, m, rfl, _⟩; rfl) fun cdv A outer s H vs Q E hr h => ?_
  obtain ⟨a, y, p, q, n, m, rfl, ra, nv, bx, by_, nm, hq⟩ := h
  refine ⟨_, pss_cons (ps_set (i := 2) sc_Ratio___sub__.nd rfl (.inl rfl) (pe_d D_as_ratio hr (by rfl) (pa_cons (pv 1) pa_nil)))
    (pss_one (ps_ret (pe_ratQ DQ (hr.mono (by omega)) (by rfl) (pa_cons (pe_op op_sub (pe_op op_mulW (pe_fld (pv 0) rfl) (pe_propX PB (hr.mono (by omega)) R.cl (pv 2) (by rfl))) (pe_op op_mulW (pe_propX PT (hr.mono (by omega)) R.cl (pv 2) (by rfl)) (pe_fld (pv 0) rfl))) (pa_cons (pe_op op_mulW (pe_fld (pv 0) rfl) (pe_propX PB (hr.mono (by omega)) R.cl (pv 2) (by rfl))) pa_nil))))), ?_⟩
  refine ⟨_, rfl, y, _, _, rfl, nv, fun m' H1 s1 rm => ?_⟩
  obtain ⟨dx, r⟩ := RQ.same ra s1
  obtain ⟨dm, rm1⟩ := id rm
  refine ⟨_, rfl, a, C, dx, _, .int p.num, rfl, r, R.cl, R.nT, rfl, _, rfl, m', dm, _, rfl, rm1, m', _, _, rfl, rm, p.num, q.den, rfl, rfl, bx.1.cm by_.2 (by omega), ?_⟩
  refine ⟨_, rfl, m', dm, _, rfl, rm1, m', _, _, rfl, rm, _, rfl, a, C, dx, _, .int p.den, rfl, r, R.cl, R.nB, rfl, q.num, p.den, rfl, rfl, by_.1.cm bx.2 (by omega), _, _, rfl, rfl, ?_⟩
  refine ⟨_, rfl, a, C, dx, _, .int p.den, rfl, r, R.cl, R.nB, rfl, _, rfl, m', dm, _, rfl, rm1, m', _, _, rfl, rm, p.den, q.den, rfl, rfl, bx.2.cm by_.2 (by omega), ?_⟩
  refine ⟨_, _, rfl, by have := Int.mul_pos (den_pos p) (den_pos q); omega, (bx.2.mul by_.2).mono (by omega), fun b H2 nb s2 rb => hq b H2 (s1.trans s2) ?_⟩
  rw [divInt_sub] at rb
  exact rb
theorem d_rmul {C fI fR f : Addr} {fd : FuncData} (F : Fun K "__mul__" "Ratio.__mul__" s_Ratio___mul__ f fd) (R : RCls K mg C fI fR) {kr : Nat} (DQ : RDefQ P w K mg base kr C) (PT : PropX P w K mg base kr C "top" (spTopR C)) (PB : PropX P w K mg base kr C "bottom" (spBotR C)) (hk : kr + 8 ≤ k)
    (D_as_ratio : Def P w K mg base k "as_ratio" s_as_ratio ["number"] (spAs C)) : FnOk P w K mg base CX0 (k + 1) f fd ["self", "other"] (spMulQ C) := by
  refine F.ok sc_Ratio___mul__ (by rintro _ _ _ _ ⟨a, y, p, q, n, m, rfl, _⟩; rfl) fun cdv A outer s H vs Q E hr h => ?_
  obtain ⟨a, y, p, q, n, m, rfl, ra, nv, bx, by_, nm, hq⟩ := h
  refine ⟨_, pss_cons (ps_set (i := 2) sc_Ratio___mul__.nd rfl (.inl rfl) (pe_d D_as_ratio hr (by rfl) (pa_cons (pv 1) pa_nil)))
    (pss_one (ps_ret (pe_ratQ DQ (hr.mono (by omega)) (by rfl) (pa_cons (pe_op op_mulW (pe_fld (pv 0) rfl) (pe_propX PT (hr.mono (by omega)) R.cl (pv 2) (by rfl))) (pa_cons (pe_op op_mulW (pe_fld (pv 0) rfl) (pe_propX PB (hr.mono (by omega)) R.cl (pv 2) (by rfl))) pa_nil))))), ?_⟩
  refine ⟨_, rfl, y, _, _, rfl, nv, fun m' H1 s1 rm => ?_⟩
  obtain ⟨dx, r⟩ := RQ.same ra s1
  obtain ⟨dm, rm1⟩ := id rm
  refine ⟨_, rfl, a, C, dx, _, .int p.num, rfl, r, R.cl, R.nT, rfl, _, rfl, m', dm, _, rfl, rm1, m', _, _, rfl, rm, p.num, q.num, rfl, rfl, bx.1.cm by_.1 (by omega), ?_⟩
  refine ⟨_, rfl, a, C, dx, _, .int p.den, rfl, r, R.cl, R.nB, rfl, _, rfl, m', dm, _, rfl, rm1, m', _, _, rfl, rm, p.den, q.den, rfl, rfl, bx.2.cm by_.2 (by omega), ?_⟩
  refine ⟨_, _, rfl, by have := Int.mul_pos (den_pos p) (den_pos q); omega, (bx.2.mul by_.2).mono (by omega), fun b H2 nb s2 rb => hq b H2 (s1.trans s2) ?_⟩
  rw [divInt_mul] at rb
  exact rb
theorem d_rover {C fI fR f : Addr} {fd : FuncData} (F : Fun K "over" "Ratio.over" s_Ratio_over f fd) (R : RCls K mg C fI fR) {kr : Nat} (DQ : RDefQ P w K mg base kr C) (PT : PropX P w K mg base kr C "top" (spTopR C)) (PB : PropX P w K mg base kr C "bottom" (spBotR C)) (PS : PropX P w K mg base kr C "sign" (spSgnR C)) (hk : kr + 8 ≤ k)
    (D_as_ratio : Def P w K mg base k "as_ratio" s_as_ratio ["number"] (spAs C)) : FnOk P w K mg base CX0 (k + 1) f fd ["self", "other"] (spOverQ C) := by
  refine F.ok sc_Ratio_over (by rintro _ _ _ _ ⟨a, y, p, q, n, m, rfl, _⟩; rfl) fun cdv A outer s H vs Q E hr h => ?_
  obtain ⟨a, y, p, q, n, m, rfl, ra, nv, bx, by_, nm, q0, hq⟩ := h
  refine ⟨_, pss_cons (ps_set (i := 2) sc_Ratio_over.nd rfl (.inl rfl) (pe_d D_as_ratio hr (by rfl) (pa_cons (pv 1) pa_nil)))
    (pss_cons (ps_if (pt_cmpR op_eq (pe_propX PS (hr.mono (by omega)) R.cl (pv 2) (by rfl)) pe_int (nomark _)) pss_never pss_nil)
    (pss_one (ps_ret (pe_ratQ DQ (hr.mono (by omega)) (by rfl) (pa_cons (pe_op op_mulW (pe_fld (pv 0) rfl) (pe_propX PB (hr.mono (by omega)) R.cl (pv 2) (by rfl))) (pa_cons (pe_op op_mulW (pe_fld (pv 0) rfl) (pe_propX PT (hr.mono (by omega)) R.cl (pv 2) (by rfl))) pa_nil)))))), ?_⟩
  refine ⟨_, rfl, y, _, _, rfl, nv, fun m' H1 s1 rm => ?_⟩
  obtain ⟨dx, r⟩ := RQ.same ra s1
  obtain ⟨dm, rm1⟩ := id rm
  have sg : sgnI q.num ≠ 0 := by
    have := num_ne q0
    unfold sgnI
    by_cases h : q.num < 0
    · rw [if_pos h]; decide
    · rw [if_neg h, if_pos (by omega)]; decide
  refine ⟨_, rfl, m', dm, _, rfl, rm1, m', _, _, rfl, rm, rfl, _, rfl, iteF2 (decide_eq_false fun z => by injection z with z; exact sg z) ?_⟩
  refine ⟨_, rfl, a, C, dx, _, .int p.num, rfl, r, R.cl, R.nT, rfl, _, rfl, m', dm, _, rfl, rm1, m', _, _, rfl, rm, p.num, q.den, rfl, rfl, bx.1.cm by_.2 (by omega), ?_⟩
  refine ⟨_, rfl, a, C, dx, _, .int p.den, rfl, r, R.cl, R.nB, rfl, _, rfl, m', dm, _, rfl, rm1, m', _, _, rfl, rm, p.den, q.num, rfl, rfl, bx.2.cm by_.1 (by omega), ?_⟩
  refine ⟨_, _, rfl, fun z => ?_, (bx.2.mul by_.1).mono (by omega), fun b H2 nb s2 rb => hq b H2 (s1.trans s2) ?_⟩
  · rcases Int.mul_eq_zero.mp z with e | e
    · have := den_pos p; omega
    · exact num_ne q0 e
  rw [divInt_over] at rb
  exact rb
theorem d_req {C fI fR f : Addr} {fd : FuncData} (F : Fun K "__eq__" "Ratio.__eq__" s_Ratio___eq__ f fd) (R : RCls K mg C fI fR) (J : RIsi K C) (M : Mg mg) : FnOk P w K mg base CX0 (k + 1) f fd ["self", "other"] (spEq (SameR C)) := by
  refine F.ok sc_Ratio___eq__ (by rintro _ _ _ _ ⟨a, b, rfl, _⟩; rfl) fun cdv A outer s H vs Q E hr h => ?_
  obtain ⟨a, b, rfl, ⟨p, q, ⟨dx, r1⟩, ⟨dy, r2⟩⟩, hq⟩ := h
  refine ⟨_, pss_one (ps_ret (pe_and (pe_callB call_isi (by rfl) M.isi (by decide +kernel) (pa_cons (pv 1) (pa_cons (pe_glob (v := .ref C) (by rfl) R.mgC rfl) pa_nil))) (pe_and (pe_cmpR op_eq (pe_fld (pv 0) rfl) (pe_fld (pv 1) rfl) (nomark _)) (pe_one (pe_cmpR op_eq (pe_fld (pv 0) rfl) (pe_fld (pv 1) rfl) (nomark _)))))), ?_⟩
  refine ⟨_, rfl, .ref b, .ref C, .ref C, .ref C, true, rfl, .own C, .base (.ins r2 R.cl R.isA R.isN R.isT R.isM), J.c, true, rfl, iteT ?_⟩
  refine ⟨_, rfl, a, C, dx, _, .int p, rfl, r1, R.cl, R.nT, rfl, _, rfl, b, C, dy, _, .int p, rfl, r2, R.cl, R.nT, rfl, rfl, _, rfl, iteT2 (decide_eq_true rfl) ?_⟩
  refine ⟨_, rfl, a, C, dx, _, .int q, rfl, r1, R.cl, R.nB, rfl, _, rfl, b, C, dy, _, .int q, rfl, r2, R.cl, R.nB, rfl, rfl, ?_⟩
  rw [show decide (V.int q = V.int q) = true from decide_eq_true rfl]
  exact hq H Ext.rfl'
end
end K21

namespace K21
open PySem PySem.Spec PyProof.Rows L2 Fp
structure Mg2 (mg : Str → Option Value) : Prop extends Mg mg where
  MOST_DEGREE : ∃ t, mg "MOST_DEGREE" = some (.int 48 t)
  isqrt : mg "isqrt" = some (.builtin "math.isqrt")
section
variable {P : Program} {w : World} {K : PySem.W.Frag} {mg : Str → Option Value} {base : Heap} {k : Nat} {C fI fR : Addr}
def spIntegerX (C : Addr) : Sp := fun vs H Q _ => ∃ x d, vs = [x] ∧ Sk C H d x ∧ Ret H Q (.bl (isI x))
def spListX (C : Addr) : Sp := fun vs H Q _ => ∃ x d, vs = [x] ∧ Sk C H d x ∧ Ret H Q (.bl (itemsOf H x).isSome)
def spNumberX (C : Addr) : Sp := fun vs H Q _ => ∃ x d, vs = [x] ∧ Sk C H d x ∧ Ret H Q (.bl (isNum H x))
def spPolyX (C : Addr) : Sp := fun vs H Q _ => ∃ x d, vs = [x] ∧ Sk C H d x ∧ Ret H Q (.bl (isPolyV H x))
def sp_trimmed (C : Addr) : Sp := fun vs H Q _ => ∃ l us ps, vs = [.ref l] ∧ H l = some (.lst us) ∧ RatL C H us ps ∧ us.length ≤ 1000 ∧ ∀ a H' ws, Same H H' → H a = none → H' a = some (.lst ws) → RatL C H' ws (trimP ps) → Q (.ref a) H'
def sp_told (C : Addr) : Sp := fun vs H Q _ => ∃ x d, vs = [x] ∧ Sk C H d x ∧ isPolyV H x = true ∧ ∀ a H' us, Same H H' → H a = none → H' a = some (.lst us) → RatL C H' us (toldP H x) → Q (.ref a) H'
theorem fm_idxn {xs : List V} (g : V → V) : ∀ n, n ≤ xs.length → (List.range n).filterMap (fun i => (xs[i]?).map g) = (xs.take n).map g
  | 0, _ => by simp
  | n + 1, h => by
    have hn := List.getElem?_eq_getElem (show n < xs.length by omega)
    rw [fm_succ, fm_idxn g n (by omega), takeS hn, List.map_append, hn]; rfl
theorem fm_bl (xs : List V) (g : V → Bool) : (List.range xs.length).filterMap (fun i => (xs[i]?).map fun v => V.bl (g v)) = (xs.map g).map V.bl := by
  rw [fm_idxn _ xs.length (Nat.le_refl _), List.take_length, List.map_map]; rfl
-- slots: value 0; cells: 
abbrev N_is_integer : List Str := ["value"]
theorem sc_is_integer : FnScope N_is_integer ["value"] (defScope sInteger) := ⟨rfl, rfl, rfl, by decide +kernel, rfl, by decide +kernel, by decide +kernel⟩
theorem d_is_integer (B : Bnd K mg "is_integer" sInteger) (M : Mg2 mg) (R : RCls K mg C fI fR)  : Def P w K mg base (k + 1) "is_integer" sInteger ["value"] (spIntegerX C) := by
  refine def_of B sc_is_integer (by rintro _ _ _ _ ⟨x, d, rfl, _⟩; rfl) (fun _ _ _ _ _ _ us hl => match us, hl with | [_], _ => rfl) fun f cdv A outer s H vs Q E hr h => ?_
  obtain ⟨x, d, rfl, hx, q⟩ := h
  have hu := hr.units
  refine ⟨_, pss_one (ps_ret (pe_and (pe_callB call_isi (by rfl) M.isi (by decide +kernel) (pa_cons (pv 0) (pa_cons (pe_bltn (v := .ty "int") (by rfl) M.int (by decide +kernel) rfl) pa_nil))) (pe_one (pe_not (pe_callB call_isi (by rfl) M.isi (by decide +kernel) (pa_cons (pv 0) (pa_cons (pe_bltn (v := .ty "bool") (by rfl) M.bool (by decide +kernel) rfl) pa_nil))))))), ?_⟩
  obtain ⟨ty, t1, t2, t3, _⟩ := hx.kit R
  refine ⟨_, rfl, x, _, ty, _, isI x || isB x, rfl, .ty _, t1, t2, (isI x || isB x), rfl, ?_⟩
  cases e : (isI x || isB x) with
  | false =>
    have e1 : isI x = false := (Bool.or_eq_false_iff.mp e).1
    rw [e1] at q
    exact iteF (q H (Same.refl H))
  | true =>
    refine iteT ⟨_, rfl, x, _, ty, _, isB x, rfl, .ty _, t1, t3, isB x, rfl, ?_⟩
    have e2 : (!isB x) = isI x := by cases x <;> simp_all [isI, isB]
    rw [e2]
    exact q H (Same.refl H)
-- slots: value 0; cells: 
abbrev N_is_list : List Str := ["value"]
theorem sc_is_list : FnScope N_is_list ["value"] (defScope sList) := ⟨rfl, rfl, rfl, by decide +kernel, rfl, by decide +kernel, by decide +kernel⟩
theorem d_is_list (B : Bnd K mg "is_list" sList) (M : Mg2 mg) (R : RCls K mg C fI fR)  : Def P w K mg base (k + 1) "is_list" sList ["value"] (spListX C) := by
  refine def_of B sc_is_list (by rintro _ _ _ _ ⟨x, d, rfl, _⟩; rfl) (fun _ _ _ _ _ _ us hl => match us, hl with | [_], _ => rfl) fun f cdv A outer s H vs Q E hr h => ?_
  obtain ⟨x, d, rfl, hx, q⟩ := h
  have hu := hr.units
  refine ⟨_, pss_one (ps_ret (pe_callB call_isiT (by rfl) M.isi (by decide +kernel) (pa_cons (pv 0) (pa_cons (pe_tup (pa_cons (pe_bltn (v := .ty "list") (by rfl) M.list (by decide +kernel) rfl) (pa_cons (pe_bltn (v := .ty "tuple") (by rfl) M.tuple (by decide +kernel) rfl) pa_nil))) pa_nil)))), ?_⟩
  refine ⟨_, rfl, (by show 2 ≤ sizeLine; decide), fun p np => ?_⟩
  have sp := same_new (o := .tup [V.ty "list", V.ty "tuple"]) np
  obtain ⟨ty, t1, _, _, t4⟩ := (hx.same sp).kit R
  rw [itemsOf_same hx sp] at t4
  exact ⟨x, p, _, ty, _, _, rfl, upd_same, .cons (.ty _) (.cons (.ty _) .nil), t1, t4, q _ sp⟩
-- slots: value 0; cells: 
abbrev s_is_number : Stmt := top 14
abbrev N_is_number : List Str := ["value"]
theorem sc_is_number : FnScope N_is_number ["value"] (defScope s_is_number) := ⟨rfl, rfl, rfl, by decide +kernel, rfl, by decide +kernel, by decide +kernel⟩
theorem d_is_number (B : Bnd K mg "is_number" s_is_number) (M : Mg2 mg) (R : RCls K mg C fI fR) (J : RIsi K C) (D_is_integer : Def P w K mg base k "is_integer" sInteger ["value"] (spIntegerX C)) : Def P w K mg base (k + 1) "is_number" s_is_number ["value"] (spNumberX C) := by
  refine def_of B sc_is_number (by rintro _ _ _ _ ⟨x, d, rfl, _⟩; rfl) (fun _ _ _ _ _ _ us hl => match us, hl with | [_], _ => rfl) fun f cdv A outer s H vs Q E hr h => ?_
  obtain ⟨x, d, rfl, hx, q⟩ := h
  have hu := hr.units
  refine ⟨_, pss_one (ps_ret (pe_or (pe_d D_is_integer hr (by rfl) (pa_cons (pv 0) pa_nil)) (pe_one (pe_callB call_isi (by rfl) M.isi (by decide +kernel) (pa_cons (pv 0) (pa_cons (pe_glob (v := .ref C) (by rfl) R.mgC rfl) pa_nil)))))), ?_⟩
  refine ⟨_, rfl, x, d, rfl, hx, fun H1 s1 => ⟨isI x, rfl, ?_⟩⟩
  obtain ⟨ty, t1, t2⟩ := (hx.same s1).kitC R J
  unfold isNum at q
  cases e : isI x with
  | true => rw [e] at q; exact iteT (q H1 s1)
  | false =>
    rw [e] at q
    refine iteF ⟨_, rfl, x, .ref C, ty, .ref C, isOwn H1 x, rfl, .own C, t1, t2, ?_⟩
    rw [isOwn_same hx s1]
    exact q H1 s1
-- slots: value 0, one 1; cells: 
abbrev s_is_poly : Stmt := top 34
abbrev N_is_poly : List Str := ["value", "one"]
theorem sc_is_poly : FnScope N_is_poly ["value"] (defScope s_is_poly) := ⟨rfl, rfl, rfl, by decide +kernel, rfl, by decide +kernel, by decide +kernel⟩
theorem d_is_poly (B : Bnd K mg "is_poly" s_is_poly) (M : Mg2 mg) (R : RCls K mg C fI fR) (D_is_list : Def P w K mg base k "is_list" sList ["value"] (spListX C)) (D_is_number : Def P w K mg base k "is_number" s_is_number ["value"] (spNumberX C)) : Def P w K mg base (k + 1) "is_poly" s_is_poly ["value"] (spPolyX C) := by
  refine def_of B sc_is_poly (by rintro _ _ _ _ ⟨x, d, rfl, _⟩; rfl) (fun _ _ _ _ _ _ us hl => match us, hl with | [_], _ => rfl) fun f cdv A outer s H vs Q E hr h => ?_
  obtain ⟨x, d, rfl, hx, q⟩ := h
  have hu := hr.units
  obtain ⟨t_MOST_DEGREE, m_MOST_DEGREE⟩ := M.MOST_DEGREE
  refine ⟨_, pss_one (ps_ret (pe_and (pe_d D_is_list hr (by rfl) (pa_cons (pv 0) pa_nil)) (pe_and (pe_cmpR op_le (pe_callB call_len_seq (by rfl) M.len boot_len (pa_cons (pv 0) pa_nil)) (pe_op op_add (pe_glob (v := .int 48) (by rfl) m_MOST_DEGREE ⟨_, rfl⟩) pe_int) (nomark _)) (pe_one (pe_callB (cr_all rfl) (by rfl) M.all boot_all (pa_cons (pe_lc (own := [("one", 1)]) (g := (gName 1)) (tt := tYes) (te := (tD _ (tCons (tVar 1) tNil))) rfl sc_is_poly.nd (pi_sq (pv 0)) (blkOk_by (own := [("one", 1)]) (N := N_is_poly) (sc := defScope s_is_poly) (by decide +kernel)) (fun _ _ _ _ _ => pg_name (i := 1) sc_is_poly.nd rfl (.inl rfl)) (fun _ _ _ _ _ => pts_nil) (fun _ _ _ _ _ => pe_d D_is_number hr (by rfl) (pa_cons (pv 1) pa_nil))) pa_nil)))))), ?_⟩
  refine ⟨_, rfl, x, d, rfl, hx, fun H1 s1 => ⟨(itemsOf H x).isSome, rfl, ?_⟩⟩
  cases e : itemsOf H x with
  | none =>
    refine iteF (q H1 s1 |> fun z => ?_)
    unfold isPolyV at z
    rw [e] at z
    exact z
  | some xs =>
    have ev : isPolyV H x = (decide (xs.length ≤ 49) && xs.all (isNum H)) := by unfold isPolyV; rw [e]
    obtain ⟨b, rfl, hb, l60, hys⟩ := hx.items e
    have hB : Sq K H b xs := hb.elim (fun z => .inl (SqL.of z)) (fun z => .inr (SqT.of z))
    refine iteT ⟨_, rfl, b, xs, rfl, hB.same s1, 48, 1, rfl, rfl, _, _, rfl, rfl, _, rfl, ite2 (fun z => ?_) (fun z => ?_)⟩
    · have z2 : xs.length ≤ 49 := by have := of_decide_eq_true z; omega
      dsimp only [tCB, tCons, tNil]
      refine lc_sq (xs := xs) (fun i => (xs[i]?).map fun v => V.bl (isNum H v)) (fun R r => ⟨_, rfl, r⟩) (hB.same s1) (by rw [sizeLine_eq]; omega) (fun i y H4 hy s4 Y N yy nn => ?_) (fun D H4 s4 hD hD2 => ?_)
      · have sy := hys y (List.mem_of_getElem? hy)
        refine ⟨rfl, _, rfl, y, d, rfl, sy.same (s1.trans s4), fun H5 s5 => ?_⟩
        rw [isNum_same sy (s1.trans s4)]
        exact yy _ _ s5 (by show (xs[i]?).map _ = _; rw [hy]; rfl)
      rw [fm_bl] at hD2
      refine ⟨D, xs.map (isNum H), rfl, SqL.of hD2, ?_⟩
      have al : (xs.map (isNum H)).all id = xs.all (isNum H) := by rw [List.all_map]; rfl
      rw [al, show xs.all (isNum H) = isPolyV H (.ref b) by rw [ev, decide_eq_true z2, Bool.true_and]]
      exact q H4 (s1.trans s4)
    · have z2 : ¬ xs.length ≤ 49 := fun y => z (decide_eq_true (by omega))
      rw [ev, decide_eq_false z2] at q
      exact q H1 s1
-- slots: numbers 0, size 1; cells: 
abbrev s_trimmed : Stmt := top 37
abbrev N_trimmed : List Str := ["numbers", "size"]
theorem sc_trimmed : FnScope N_trimmed ["numbers"] (defScope s_trimmed) := ⟨rfl, rfl, rfl, by decide +kernel, rfl, by decide +kernel, by decide +kernel⟩
theorem d_trimmed (B : Bnd K mg "trimmed" s_trimmed) (M : Mg2 mg) (R : RCls K mg C fI fR) (J : RIsi K C) {kr : Nat} (PS : PropX P w K mg base kr C "sign" (spSgnR C)) (hk : kr + 8 ≤ k)  : Def P w K mg base (k + 1) "trimmed" s_trimmed ["numbers"] (sp_trimmed C) := by
  refine def_of B sc_trimmed (by rintro _ _ _ _ ⟨l, us, ps, rfl, _⟩; rfl) (fun _ _ _ _ _ _ us hl => match us, hl with | [_], _ => rfl) fun f cdv A outer s H vs Q E hr h => ?_
  obtain ⟨l, us, ps, rfl, hl, hR, l1, q⟩ := h
  have hu := hr.units
  refine ⟨_, pss_cons (ps_set (i := 1) sc_trimmed.nd rfl (.inl rfl) (pe_callB call_len_seq (by rfl) M.len boot_len (pa_cons (pv 0) pa_nil)))
    (pss_cons (ps_while PassesOwn.never (PW.pt (pw_and (pt_cmpR op_gt (pv 1) pe_int (nomark _)) (pw_and1 (pt_cmpR op_eq (pe_propX PS (hr.mono (by omega)) R.cl (pe_ix (r := rIxL K) ix_list (pv 0) (pe_op op_sub (pv 1) pe_int) (fun _ _ => rfl)) (by rfl)) pe_int (nomark _)))))
      (pss_one (ps_aug (i := 1) sc_trimmed.nd rfl (.inl rfl) pe_int ip_sub)))
    (pss_one (ps_ret (pe_slice (r := rSlL K) sl_list (pv 0) po_none (po_some (pv 1)))))), ?_⟩
  refine ⟨_, rfl, l, us, rfl, .inl (SqL.of hl), ?_⟩
  refine ⟨fun mm σ H' => ∃ n : Nat, σ = [some (.ref l), some (.int (n : Int))] ∧ H' = H ∧ mm = n ∧ n ≤ us.length ∧ trimP (ps.take n) = trimP ps, ⟨us.length, us.length, rfl, rfl, rfl, Nat.le_refl _, by rw [hR.len, List.take_length]⟩, ?_⟩
  rintro mm σ H' ⟨n, rfl, rfl, rfl, nl, tp⟩
  have fin : ps.take mm = trimP ps → (tRet (tSl (rSlL K) (tVar 0) tNoPart (tPart (tVar 1)))) { nx := fun _ H1 => Q .non H1, rt := Q } [some (.ref l), some (.int (mm : Int))] H' := fun e => by
    refine ⟨_, rfl, _, rfl, mm, rfl, l, us, rfl, SqL.of hl, fun c nc => q c _ _ (same_new nc) nc upd_same ?_⟩
    rw [cut_to, ← e]
    exact (hR.same (same_new nc)).take mm
  refine ⟨_, rfl, mm, 0, rfl, rfl, _, rfl, ite2 (fun z => ?_) (fun z => ?_)⟩
  · have z2 : 0 < mm := by have := of_decide_eq_true z; omega
    obtain ⟨v, hv⟩ : ∃ v, us[mm - 1]? = some v := ⟨_, List.getElem?_eq_getElem (by omega)⟩
    obtain ⟨pq, a, h1, rfl, r⟩ := hR.at_ _ _ hv
    obtain ⟨dx, r1⟩ := id r
    have tk : ps.take mm = ps.take (mm - 1) ++ [pq] := by
      rw [show mm = (mm - 1) + 1 by omega, takeS h1, show mm - 1 + 1 - 1 = mm - 1 by omega]
    refine ⟨_, rfl, _, rfl, (mm : Int), 1, rfl, rfl, l, us, (mm : Int) - 1, _, rfl, rfl, SqL.of hl, at_of (j := mm - 1) (by omega) hv, a, dx, _, rfl, r1, a, pq.1, pq.2, rfl, r, rfl, _, rfl, ite2 (fun z3 => ?_) (fun z3 => ?_)⟩
    · have p0 : pq.1 = 0 := by
        have := of_decide_eq_true z3
        injection this with this
        unfold sgnI at this
        by_cases h : pq.1 < 0
        · rw [if_pos h] at this; omega
        · rw [if_neg h] at this
          by_cases h2 : 0 < pq.1
          · rw [if_pos h2] at this; omega
          · omega
      refine ⟨fun σ' H1 => σ' = [some (.ref l), some (.int ((mm - 1 : Nat) : Int))] ∧ H1 = H', fun σ' H1 ⟨e1, e2⟩ => ⟨mm - 1, by omega, mm - 1, e1, e2, rfl, by omega, by rw [← tp, tk, trimP_zero p0]⟩, ?_⟩
      refine ⟨_, rfl, (mm : Int), 1, rfl, rfl, ?_, rfl⟩
      show [some (V.ref l), some (V.int ((mm : Int) - 1))] = _
      rw [show (mm : Int) - 1 = ((mm - 1 : Nat) : Int) by omega]
    · have p0 : pq.1 ≠ 0 := fun e => z3 (decide_eq_true (by rw [e]; rfl))
      exact fin (by rw [← tp, tk, trimP_nz p0])
  · have z2 : mm = 0 := by
      by_cases e : mm = 0
      · exact e
      · exact absurd (decide_eq_true (by omega)) z
    subst z2
    exact fin (by rw [← tp]; rfl)
-- slots: poly 0, number 1; cells: 
abbrev s_told : Stmt := top 35
abbrev N_told : List Str := ["poly", "number"]
theorem sc_told : FnScope N_told ["poly"] (defScope s_told) := ⟨rfl, rfl, rfl, by decide +kernel, rfl, by decide +kernel, by decide +kernel⟩
theorem d_told (B : Bnd K mg "told" s_told) (M : Mg2 mg) (R : RCls K mg C fI fR) (D_as_ratio : Def P w K mg base k "as_ratio" s_as_ratio ["number"] (spAs C)) (D_is_poly : Def P w K mg base k "is_poly" s_is_poly ["value"] (spPolyX C)) (D_trimmed : Def P w K mg base k "trimmed" s_trimmed ["numbers"] (sp_trimmed C)) : Def P w K mg base (k + 1) "told" s_told ["poly"] (sp_told C) := by
  refine def_of B sc_told (by rintro _ _ _ _ ⟨x, d, rfl, _⟩; rfl) (fun _ _ _ _ _ _ us hl => match us, hl with | [_], _ => rfl) fun f cdv A outer s H vs Q E hr h => ?_
  obtain ⟨x, d, rfl, hx, hp, q⟩ := h
  have hu := hr.units
  refine ⟨_, pss_cons (ps_if (pt_not (pt_val (pe_d D_is_poly hr (by rfl) (pa_cons (pv 0) pa_nil)))) pss_never pss_nil)
    (pss_one (ps_ret (pe_d D_trimmed hr (by rfl) (pa_cons (pe_lc (own := [("number", 1)]) (g := (gName 1)) (tt := tYes) (te := (tD _ (tCons (tVar 1) tNil))) rfl sc_told.nd (pi_sq (pv 0)) (blkOk_by (own := [("number", 1)]) (N := N_told) (sc := defScope s_told) (by decide +kernel)) (fun _ _ _ _ _ => pg_name (i := 1) sc_told.nd rfl (.inl rfl)) (fun _ _ _ _ _ => pts_nil) (fun _ _ _ _ _ => pe_d D_as_ratio hr (by rfl) (pa_cons (pv 1) pa_nil))) pa_nil)))), ?_⟩
  obtain ⟨xs, e, eD, l49, hn⟩ := poly_items hp
  have eT : toldP H x = trimP (xs.map (numOf H)) := by unfold toldP; rw [eD]
  obtain ⟨b, rfl, hb, l60, hys⟩ := hx.items e
  have hB : Sq K H b xs := hb.elim (fun z => .inl (SqL.of z)) (fun z => .inr (SqT.of z))
  refine ⟨_, rfl, .ref b, d, rfl, hx, fun H1 s1 => ⟨_, rfl, iteF2 (by rw [hp]; rfl) ?_⟩⟩
  dsimp only [tNext, tRet, tD, tCons, tNil]
  refine lc_relS (fun i acc Hh => RatL C Hh acc ((xs.map (numOf H)).take i)) (fun R r => ⟨_, rfl, r⟩) (hB.same s1) (by rw [sizeLine_eq]; omega) RatL.nil (fun i acc A B s r => r.same s) (fun D i y acc Ha hD hy sa ha r Yc Nc yc nc => ?_) (fun D acc H' nD sH ha r => ?_)
  · have my := List.mem_of_getElem? hy
    have nv := ((hys y my).num (hn y my)).1
    exact ⟨rfl, _, rfl, y, _, _, rfl, nv.same (s1.trans sa), fun m H4 s4 rm => yc (.ref m) H4 s4 (r.step hy s4 ha rm)⟩
  · rw [show xs.length = (xs.map (numOf H)).length by rw [List.length_map], List.take_length] at r
    have r2 := r.same (wo_le (D := D))
    refine ⟨D, acc, _, rfl, ha, r2, by rw [r2.len, List.length_map]; omega, fun a H2 ws s2 na h2 R2 => q a H2 ws ((s1.trans sH).trans s2) ((s1.trans sH).free na) h2 (by rw [eT]; exact R2)⟩
end
end K21

namespace Fp
open PySem PySem.Spec PyProof.Rows L2
def rLcm : List V → Hp → VK → Prop := fun vs H Q => ∃ a b : Int, vs = [.int a, .int b] ∧ a.natAbs < 2 ^ 64 ∧ b.natAbs < 2 ^ 64 ∧ Q (.int ((a.natAbs.lcm b.natAbs : Nat) : Int)) H
theorem cr_lcm {X : Cx} : CallR X (.builtin "math.lcm") rLcm := by
  intro pins s σ H vs us Q I r h
  obtain ⟨a, b, rfl, ha, hb, q⟩ := h
  obtain ⟨t, u, rfl⟩ := Vals.int2 r
  exact PySem.W.mc_lcm ha hb fun _ => ⟨.int _, H, I.tok _, ⟨_, rfl⟩, q⟩
/-! ### - of an own number -/
def rOwn1 (C : Addr) (sp : Sp) : V → Hp → VK → Prop := fun x H Q => ∃ a dx fs, x = .ref a ∧ H a = some (.ins C dx fs) ∧ sp [x] H Q E0
structure UnX (P : Program) (w : World) (K : PySem.W.Frag) (mg : Str → Option Value) (base : Heap) (k : Nat) (C : Addr) (sp : Sp) : Prop where
  ex : ∃ (f : Addr) (fd : FuncData), PySem.W.findIn K (.ref C) "__neg__" = some (some (.ref f)) ∧ PySem.W.isFn K (.ref f) = true ∧ FnOk P w K mg base CX0 k f fd ["self"] sp ∧ Binds K fd ["self"] []
theorem un_ownX {X : Cx} {C : Addr} {k : Nat} {sp : Sp} (D : UnX X.prog X.w X.K X.mg X.base k C sp) (hr : Room k X.A) : UnR X (unaryOp .USub) (rOwn1 C sp) := by
  obtain ⟨f, fd, hs, hf, F, hb⟩ := D.ex
  intro pins s σ H x v Q I rx hq
  obtain ⟨a, dx, fs, rfl, ha, hsp⟩ := hq
  cases rx
  obtain ⟨mA, J, _⟩ := ins_get I.hok ha
  obtain ⟨od, J, _⟩ := J.look
  obtain ⟨m, hF⟩ := I.fr
  refine PySem.W.ksp_neg hF I.ok.mod.kin J hs hf ?_
  have hl := F.len _ _ _ _ hsp
  have r2 : Vals [V.ref a] [Value.ref a] := .cons rfl .nil
  refine wpAny_call (codeAny_mono (F.run X.A X.stack s H ⟨[.ref a], []⟩ [.ref a] [.ref a] _ E0 hr I.env0 (by
    have := hb s [.ref a] I.kIn (by simpa using hl)
    simpa using this) r2 hsp) fun r s' hq => ?_)
  cases r with
  | error e => exact pass0 (X := X) pins σ H s e s' I hq
  | ok fl =>
    cases fl with
    | ret w => exact I.after hq
    | next => exact False.elim hq
    | brk => exact False.elim hq
    | cont => exact False.elim hq
/-- == of two own numbers, the same -/
theorem op_eqR {X : Cx} {C : Addr} {k : Nat} (D : EqX X.prog X.w X.K X.mg X.base k C) (hr : Room k X.A) : OpR X (compareOp .Eq) (rEqG (DIns C (SameR C))) := by
  obtain ⟨f, fd, h1, h2, F, hb⟩ := D.ex
  exact op_eqG (rcG_ins F h1 h2 hb (pass0 (X := X))) hr
def spNegQ (C : Addr) : Sp := fun vs H Q _ => ∃ (a : Addr) (x : Rat) (n : Nat), vs = [.ref a] ∧ RQ C H a x ∧ Bits n x ∧ n ≤ 8900 ∧ ∀ r H', Same H H' → RQ C H' r (-x) → Q (.ref r) H'
theorem Bits.neg {n : Nat} {x : Rat} (h : Bits n x) : Bits n (-x) := ⟨h.1.neg, h.2⟩
theorem divInt_neg (x : Rat) : Rat.divInt (-x.num) x.den = -x := by rw [← Rat.neg_divInt, Rat.num_divInt_den]
end Fp

namespace Fp
/-- quotient and rest -/
structure DivR (xs ys qs rs : List Rat) : Prop where
  tq : Told qs
  tr : Told rs
  lr : rs.length < ys.length
  lq : qs.length ≤ xs.length
  eq : ∀ n, co xs n = prodc ys (co qs) n + co rs n
theorem DivR.uniq {xs ys q1 r1 q2 r2 : List Rat} (h : DivR xs ys q1 r1) (g : DivR xs ys q2 r2) (y0 : ys ≠ []) (ty : Told ys) : q1 = q2 ∧ r1 = r2 :=
  div_unique y0 ty h.tq g.tq h.tr g.tr h.lr g.lr fun n => by rw [← h.eq, ← g.eq]
def AllB (n : Nat) (xs : List Rat) : Prop := ∀ x ∈ xs, Bits n x
/-- behind some steps -/
structure QInv (xs ys : List Rat) (c : Nat) (xs' qs : List Rat) (b : Nat) : Prop where
  len : xs'.length + qs.length = xs.length
  eq : ∀ n, co xs n = prodc ys (qf (xs.length - ys.length) qs) n + co xs' n
  bx : AllB b xs'
  bb : (b + 2 * c + 1) * 2 ^ (xs'.length + 1 - ys.length) ≤ 8000
  bq : AllB 8000 qs
  st : (qs = [] ∧ xs' = xs) ∨ (qs ≠ [] ∧ ys.length ≤ xs'.length + 1 ∧ co qs 0 ≠ 0)
theorem pow_pos' (k : Nat) : 1 ≤ 2 ^ k := Nat.one_le_two_pow
theorem QInv.sizes {xs ys xs' qs : List Rat} {b c : Nat} (h : QInv xs ys c xs' qs b) (hl : ys.length ≤ xs'.length) : b + c ≤ 8000 ∧ 2 * b + 2 * c ≤ 8000 := by
  have e := h.bb
  rw [show xs'.length + 1 - ys.length = (xs'.length - ys.length) + 1 by omega, Nat.pow_succ] at e
  have p := pow_pos' (xs'.length - ys.length)
  have : (b + 2 * c + 1) * 2 ≤ (b + 2 * c + 1) * (2 ^ (xs'.length - ys.length) * 2) := Nat.mul_le_mul_left _ (by omega)
  omega
theorem prodc_add' {ys : List Rat} {f g h : Nat → Rat} (e : ∀ i, f i = g i + h i) (n : Nat) : prodc ys f n = prodc ys g n + prodc ys h n := by
  rw [← prodc_add, prodc_congr e]
theorem QInv.start {xs ys : List Rat} {b c : Nat} (bx : AllB b xs) (bb : (b + 2 * c + 1) * 2 ^ (xs.length + 1 - ys.length) ≤ 8000) : QInv xs ys c xs [] b :=
  ⟨by simp, fun n => by
    have : prodc ys (qf (xs.length - ys.length) []) n = 0 := by
      have e : ∀ i, qf (xs.length - ys.length) [] i = single 0 0 i := fun i => by rw [qf_nil]; unfold single; split <;> rfl
      rw [prodc_congr e, prodc_single]; split <;> grind
    rw [this]; grind, bx, bb, fun x h => (by cases h), .inl ⟨rfl, rfl⟩⟩
theorem mem_restOf {c : Rat} {S xs : List Rat} {z : Rat} (h : z ∈ restOf c S xs) : z ∈ xs ∨ ∃ a ∈ xs, ∃ b ∈ S, z = a - c * b := by
  unfold restOf at h
  rcases List.mem_append.mp h with h | h
  · exact .inl (List.mem_of_mem_take h)
  · have h2 := List.dropLast_subset _ h
    obtain ⟨i, hi⟩ := List.getElem?_of_mem h2
    rw [List.getElem?_zipWith] at hi
    cases e1 : (xs.drop (xs.length - S.length))[i]? with
    | none => rw [e1] at hi; simp at hi
    | some a =>
      cases e2 : S[i]? with
      | none => rw [e1, e2] at hi; simp at hi
      | some b =>
        rw [e1, e2] at hi
        simp at hi
        exact .inr ⟨a, List.mem_of_mem_drop (List.mem_of_getElem? e1), b, List.mem_of_getElem? e2, hi.symm⟩
theorem mem_last {xs : List Rat} (h : xs ≠ []) : co xs (xs.length - 1) ∈ xs := by
  have : 0 < xs.length := List.length_pos_iff.mpr h
  rw [co_at (List.getElem?_eq_getElem (show xs.length - 1 < xs.length by omega))]
  exact List.getElem_mem _
theorem Bits.mulA {n m : Nat} {x y : Rat} (h : Bits n x) (g : Bits m y) : Bits (n + m) (x * y) := by
  rw [← divInt_mul]
  exact Bits.divInt (h.1.mul g.1) (h.2.mul g.2) (by have := Int.mul_pos (den_pos x) (den_pos y); omega)
theorem Bits.subA {n m : Nat} {x y : Rat} (h : Bits n x) (g : Bits m y) : Bits (n + m + 1) (x - y) := by
  rw [← divInt_sub]
  refine Bits.divInt ((h.1.mul g.2).sub ?_) ((h.2.mul g.2).mono (by omega)) (by have := Int.mul_pos (den_pos x) (den_pos y); omega)
  have := g.1.mul h.2
  rw [Nat.add_comm m n] at this
  exact this
theorem Bits.overA {n m : Nat} {x y : Rat} (h : Bits n x) (g : Bits m y) (h0 : y ≠ 0) : Bits (n + m) (x / y) := by
  rw [← divInt_over]
  refine Bits.divInt (h.1.mul g.2) (h.2.mul g.1) fun z => ?_
  rcases Int.mul_eq_zero.mp z with e | e
  · have := den_pos x; omega
  · exact num_ne h0 e
theorem QInv.step {xs ys xs' qs : List Rat} {b c : Nat} (h : QInv xs ys c xs' qs b) (hl : ys.length ≤ xs'.length) (y0 : ys ≠ []) (tx : Told xs) (ty : Told ys) (by_ : AllB c ys) :
    QInv xs ys c (restOf (co xs' (xs'.length - 1) / co ys (ys.length - 1)) ys xs') (qs ++ [co xs' (xs'.length - 1) / co ys (ys.length - 1)]) (2 * b + 2 * c + 1) := by
  have ly : 0 < ys.length := List.length_pos_iff.mpr y0
  have t0 := told_top ty y0
  have x0 : xs' ≠ [] := fun z => by rw [z] at hl; exact absurd (Nat.le_zero.mp hl) (by omega)
  have bl := h.bx _ (mem_last x0)
  have bm := by_ _ (mem_last y0)
  have bp := bl.overA bm t0
  have sz := h.sizes hl
  generalize hp : co xs' (xs'.length - 1) / co ys (ys.length - 1) = p at *
  have hc : co xs' (xs'.length - 1) = p * co ys (ys.length - 1) := by rw [← hp, Rat.div_mul_cancel t0]
  have lr := restOf_len (c := p) ly hl
  have ll := h.len
  have lq : qs.length ≤ xs.length - ys.length := by omega
  refine ⟨by rw [lr, List.length_append, List.length_singleton]; omega, fun n => ?_, fun z hz => ?_, ?_, fun z hz => ?_, .inr ⟨by simp, by rw [lr]; omega, ?_⟩⟩
  · have e1 := restOf_co (c := p) ly hl hc n
    have e2 := h.eq n
    have e3 := prodc_add' (ys := ys) (f := qf (xs.length - ys.length) (qs ++ [p])) (g := qf (xs.length - ys.length) qs) (h := single (xs.length - ys.length - qs.length) p) (fun i => qf_snoc lq i) n
    rw [show xs.length - ys.length - qs.length = xs'.length - ys.length by omega] at e3
    rw [e3]
    grind
  · rcases mem_restOf hz with z1 | ⟨a, ha, d, hd, rfl⟩
    · exact (h.bx z z1).mono (by omega)
    · exact ((h.bx a ha).subA (bp.mulA (by_ d hd))).mono (by omega)
  · have e := h.bb
    rw [show xs'.length + 1 - ys.length = (xs'.length - ys.length) + 1 by omega, Nat.pow_succ] at e
    rw [lr, show xs'.length - 1 + 1 - ys.length = xs'.length - ys.length by omega]
    have : (2 * b + 2 * c + 1 + 2 * c + 1) * 2 ^ (xs'.length - ys.length) = (b + 2 * c + 1) * (2 ^ (xs'.length - ys.length) * 2) := by
      rw [show 2 * b + 2 * c + 1 + 2 * c + 1 = (b + 2 * c + 1) * 2 by omega, Nat.mul_assoc, Nat.mul_comm 2 (2 ^ _)]
    omega
  · rcases List.mem_append.mp hz with z1 | z1
    · exact h.bq z z1
    · rw [List.mem_singleton.mp z1]; exact bp.mono (by omega)
  · rcases h.st with ⟨e1, e2⟩ | ⟨e1, _, e3⟩
    · subst e1
      subst e2
      show p ≠ 0
      intro z
      rw [z] at hc
      exact told_top tx x0 (by rw [hc]; grind)
    · have : 0 < qs.length := List.length_pos_iff.mpr e1
      rw [co_append_left this]; exact e3
theorem QInv.done {xs ys xs' qs : List Rat} {b c : Nat} (h : QInv xs ys c xs' qs b) (hl : xs'.length < ys.length) : DivR xs ys qs.reverse (trimQ xs') ∧ AllB 8000 qs.reverse ∧ AllB 8000 (trimQ xs') := by
  have ll := h.len
  refine ⟨⟨?_, trimQ_told _, Nat.lt_of_le_of_lt (trimQ_len _) hl, by rw [List.length_reverse]; omega, fun n => ?_⟩, fun z hz => h.bq z (List.mem_reverse.mp hz), fun z hz => (h.bx z (trimQ_mem hz)).mono ?_⟩
  · rcases h.st with ⟨e1, _⟩ | ⟨e1, _, e3⟩
    · rw [e1]; exact told_nil
    · refine told_of_top fun _ => ?_
      have : 0 < qs.length := List.length_pos_iff.mpr e1
      have e : qs.reverse[qs.reverse.length - 1]? = qs[0]? := by
        rw [List.getElem?_reverse (by rw [List.length_reverse]; omega), List.length_reverse]; congr 1; omega
      unfold co at e3 ⊢
      rw [List.getD_eq_getElem?_getD, e, ← List.getD_eq_getElem?_getD]
      exact e3
  · rw [trimQ_co, h.eq n]
    rcases h.st with ⟨e1, _⟩ | ⟨e1, e2, _⟩
    · rw [e1]
      congr 1
      exact prodc_congr (fun i => by rw [qf_nil]; rfl) n
    · have : 0 < qs.length := List.length_pos_iff.mpr e1
      congr 1
      exact prodc_congr (fun i => qf_rev (by omega) i) n
  · have := h.bb
    have p := pow_pos' (xs'.length + 1 - ys.length)
    have : (b + 2 * c + 1) * 1 ≤ (b + 2 * c + 1) * 2 ^ (xs'.length + 1 - ys.length) := Nat.mul_le_mul_left _ p
    omega
end Fp

namespace Fp
/-! ### (bottom, whole numbers): the law's own polynomials -/
def ratsOf (b : Int) (zs : List Int) : List Rat := zs.map fun z : Int => (z : Rat) / (b : Rat)
theorem ratsOf_len (b : Int) (zs : List Int) : (ratsOf b zs).length = zs.length := List.length_map _
theorem cast_ne {b : Int} (h : b ≠ 0) : (b : Rat) ≠ 0 := fun z => h (by exact_mod_cast z)
theorem co_rats (b : Int) (zs : List Int) (n : Nat) : co (ratsOf b zs) n = ((zs.getD n 0 : Int) : Rat) / (b : Rat) := by
  unfold co ratsOf
  rw [List.getD_eq_getElem?_getD, List.getD_eq_getElem?_getD, List.getElem?_map]
  cases zs[n]? with
  | none => show (0 : Rat) = ((0 : Int) : Rat) / b; rw [Rat.intCast_zero, Rat.div_def, Rat.zero_mul]
  | some z => rfl
def trimI (zs : List Int) : List Int := (zs.reverse.dropWhile fun x => x == 0).reverse
theorem trimI_zero {A : List Int} {x : Int} (h : x = 0) : trimI (A ++ [x]) = trimI A := by
  unfold trimI
  rw [List.reverse_append, List.reverse_singleton, List.singleton_append, List.dropWhile_cons, if_pos (by simp [h])]
theorem trimI_nz {A : List Int} {x : Int} (h : x ≠ 0) : trimI (A ++ [x]) = A ++ [x] := by
  unfold trimI
  rw [List.reverse_append, List.reverse_singleton, List.singleton_append, List.dropWhile_cons, if_neg (by simp [h])]
  simp
theorem trimI_nil : trimI [] = [] := rfl
theorem div_eq_zero {z b : Int} (h : b ≠ 0) : (z : Rat) / (b : Rat) = 0 ↔ z = 0 := by
  constructor
  · intro e
    have : (z : Rat) = 0 := by
      have h2 := Rat.div_mul_cancel (a := (z : Rat)) (cast_ne h)
      rw [e, Rat.zero_mul] at h2
      exact h2.symm
    exact_mod_cast this
  · intro e
    rw [e, Rat.intCast_zero, Rat.div_def, Rat.zero_mul]
theorem ratsOf_trim {b : Int} (h : b ≠ 0) (zs : List Int) : ratsOf b (trimI zs) = trimQ (ratsOf b zs) := by
  induction zs using snoc_ind with
  | h0 => rfl
  | h1 A x ih =>
    have e : ratsOf b (A ++ [x]) = ratsOf b A ++ [(x : Rat) / b] := by unfold ratsOf; rw [List.map_append]; rfl
    rw [e]
    by_cases hx : x = 0
    · rw [trimI_zero hx, ih, trimQ_zero ((div_eq_zero h).mpr hx)]
    · rw [trimI_nz hx, trimQ_nz fun z => hx ((div_eq_zero h).mp z), e]
theorem trimI_len (zs : List Int) : (trimI zs).length ≤ zs.length := by
  unfold trimI
  rw [List.length_reverse]
  have := (List.dropWhile_suffix (fun x : Int => x == 0) (l := zs.reverse)).length_le
  rw [List.length_reverse] at this
  exact this
theorem trimI_mem {zs : List Int} {x : Int} (h : x ∈ trimI zs) : x ∈ zs := by
  unfold trimI at h
  exact List.mem_reverse.mp ((List.dropWhile_sublist _).mem (List.mem_reverse.mp h))
/-- no number of zs is beyond N -/
def BN (N : Nat) (zs : List Int) : Prop := ∀ z ∈ zs, z.natAbs ≤ N
theorem BN.mono {N M : Nat} {zs : List Int} (h : BN N zs) (l : N ≤ M) : BN M zs := fun z hz => Nat.le_trans (h z hz) l
theorem BN.trim {N : Nat} {zs : List Int} (h : BN N zs) : BN N (trimI zs) := fun z hz => h z (trimI_mem hz)
/-- the same polynomial -/
def crossI (b1 : Int) (zs1 : List Int) (b2 : Int) (zs2 : List Int) : Prop := (zs1.map fun z => z * b2) = (zs2.map fun z => z * b1)
theorem frac_eq {x y b1 b2 : Int} (h1 : b1 ≠ 0) (h2 : b2 ≠ 0) : (x : Rat) / b1 = (y : Rat) / b2 ↔ x * b2 = y * b1 := by
  have c1 := cast_ne h1
  have c2 := cast_ne h2
  constructor
  · intro e
    have e1 := Rat.div_mul_cancel (a := (x : Rat)) c1
    have e2 := Rat.div_mul_cancel (a := (y : Rat)) c2
    have : (x : Rat) * b2 = (y : Rat) * b1 := by
      rw [← e1, ← e2, e]; grind
    exact_mod_cast this
  · intro e
    have e3 : (x : Rat) * b2 = (y : Rat) * b1 := by exact_mod_cast e
    have e1 := Rat.div_mul_cancel (a := (x : Rat)) c1
    have e2 := Rat.div_mul_cancel (a := (y : Rat)) c2
    have : ((x : Rat) / b1 - (y : Rat) / b2) * (b1 * b2) = 0 := by
      generalize (x : Rat) / b1 = u at *
      generalize (y : Rat) / b2 = v at *
      grind
    rcases Rat.mul_eq_zero.mp this with z | z
    · grind
    · rcases Rat.mul_eq_zero.mp z with w | w
      · exact absurd w c1
      · exact absurd w c2
theorem cross_iff {b1 b2 : Int} {zs1 zs2 : List Int} (h1 : b1 ≠ 0) (h2 : b2 ≠ 0) : crossI b1 zs1 b2 zs2 ↔ ratsOf b1 zs1 = ratsOf b2 zs2 := by
  unfold crossI ratsOf
  constructor
  · intro e
    have l : zs1.length = zs2.length := by have := congrArg List.length e; simpa using this
    refine List.ext_getElem (by simpa using l) fun i i1 i2 => ?_
    rw [List.getElem_map, List.getElem_map, frac_eq h1 h2]
    have := congrArg (fun l => l[i]?) e
    simp only [List.getElem?_map] at this
    rw [List.getElem?_eq_getElem (by simpa using i1), List.getElem?_eq_getElem (by simpa using i2)] at this
    simpa using this
  · intro e
    have l : zs1.length = zs2.length := by have := congrArg List.length e; simpa using this
    refine List.ext_getElem (by simpa using l) fun i i1 i2 => ?_
    rw [List.getElem_map, List.getElem_map, ← frac_eq h1 h2]
    have := congrArg (fun l => l[i]?) e
    simp only [List.getElem?_map] at this
    rw [List.getElem?_eq_getElem (by simpa using i1), List.getElem?_eq_getElem (by simpa using i2)] at this
    simpa using this
/-! ### products and sums -/
def sumI (f : Nat → Int) : Nat → Int
  | 0 => 0
  | n + 1 => sumI f n + f n
def shI (i : Nat) (ys : List Int) (n : Nat) : Int := if n < i then 0 else ys.getD (n - i) 0
/-- the first k numbers of xs by ys, at n -/
def prodI (xs ys : List Int) (k n : Nat) : Int := sumI (fun i => xs.getD i 0 * shI i ys n) k
theorem sumI_abs {f : Nat → Int} {M : Nat} : ∀ {k : Nat}, (∀ i, i < k → (f i).natAbs ≤ M) → (sumI f k).natAbs ≤ k * M
  | 0, _ => by show (0 : Int).natAbs ≤ _; simp
  | k + 1, h => by
    show (sumI f k + f k).natAbs ≤ _
    have h1 := sumI_abs (f := f) (M := M) (k := k) fun i hi => h i (by omega)
    have h2 := h k (by omega)
    have h3 := Int.natAbs_add_le (sumI f k) (f k)
    rw [Nat.add_mul]
    omega
theorem getD_abs {zs : List Int} {N : Nat} (h : BN N zs) (i : Nat) : (zs.getD i 0).natAbs ≤ N := by
  rw [List.getD_eq_getElem?_getD]
  cases e : zs[i]? with
  | none => show (0 : Int).natAbs ≤ N; simp
  | some z => exact h z (List.mem_of_getElem? e)
theorem shI_abs {ys : List Int} {N : Nat} (h : BN N ys) (i n : Nat) : (shI i ys n).natAbs ≤ N := by
  unfold shI
  split
  · simp
  · exact getD_abs h _
theorem prodI_abs {xs ys : List Int} {N M : Nat} (h : BN N xs) (g : BN M ys) (k n : Nat) : (prodI xs ys k n).natAbs ≤ k * (N * M) :=
  sumI_abs fun i _ => by rw [Int.natAbs_mul]; exact Nat.mul_le_mul (getD_abs h i) (shI_abs g i n)
theorem sumI_cast (f : Nat → Int) : ∀ k, ((sumI f k : Int) : Rat) = sumN (fun i => (f i : Rat)) k
  | 0 => rfl
  | k + 1 => by
    show ((sumI f k + f k : Int) : Rat) = sumN _ k + (f k : Rat)
    rw [Rat.intCast_add, sumI_cast f k]
theorem prodI_rat {b1 b2 : Int} (h1 : b1 ≠ 0) (h2 : b2 ≠ 0) (xs ys : List Int) (n : Nat) : ((prodI xs ys xs.length n : Int) : Rat) / ((b1 * b2 : Int) : Rat) = prodc (ratsOf b1 xs) (co (ratsOf b2 ys)) n := by
  unfold prodI prodc
  rw [sumI_cast, ratsOf_len, Rat.div_def, Rat.mul_comm, ← sumN_mul]
  refine sumN_congr fun i _ => ?_
  rw [co_rats, Rat.intCast_mul, Rat.intCast_mul]
  have c1 := cast_ne h1
  have c2 := cast_ne h2
  have es : sh i (co (ratsOf b2 ys)) n = ((shI i ys n : Int) : Rat) / b2 := by
    unfold sh shI
    split
    · rw [Rat.intCast_zero, Rat.div_def, Rat.zero_mul]
    · rw [co_rats]
  rw [es, Rat.div_def, Rat.div_def, Rat.inv_mul_rev]
  grind
end Fp
namespace Fp
theorem getD_pad (zs : List Int) (k n : Nat) : (zs ++ List.replicate k 0).getD n 0 = zs.getD n 0 := by
  rw [List.getD_eq_getElem?_getD, List.getD_eq_getElem?_getD]
  by_cases h : n < zs.length
  · rw [List.getElem?_append_left h]
  · rw [List.getElem?_append_right (by omega), List.getElem?_eq_none (show zs.length ≤ n by omega), List.getElem?_replicate]
    split <;> rfl
theorem pad_at {zs : List Int} {k i : Nat} (h : i < zs.length + k) : (zs ++ List.replicate k 0)[i]? = some (zs.getD i 0) := by
  have e := getD_pad zs k i
  rw [List.getD_eq_getElem?_getD] at e
  cases q : (zs ++ List.replicate k 0)[i]? with
  | none => rw [List.getElem?_eq_none_iff, List.length_append, List.length_replicate] at q; omega
  | some x => rw [q] at e; rw [← e]; rfl
theorem getD_out {zs : List Int} {n : Nat} (h : zs.length ≤ n) : zs.getD n 0 = 0 := by
  rw [List.getD_eq_getElem?_getD, List.getElem?_eq_none h]; rfl
theorem getD_range {f : Nat → Int} {m n : Nat} : ((List.range m).map f).getD n 0 = if n < m then f n else 0 := by
  rw [List.getD_eq_getElem?_getD, List.getElem?_map]
  by_cases h : n < m
  · rw [List.getElem?_range h, if_pos h]; rfl
  · rw [if_neg h, List.getElem?_eq_none (by rw [List.length_range]; omega)]; rfl
/-- the sum's numbers -/
def plusI (b1 b2 : Int) (xs ys : List Int) : List Int := (List.range (max xs.length ys.length)).map fun n => xs.getD n 0 * b2 + 1 * ys.getD n 0 * b1
theorem plusI_getD (b1 b2 : Int) (xs ys : List Int) (n : Nat) : (plusI b1 b2 xs ys).getD n 0 = xs.getD n 0 * b2 + 1 * ys.getD n 0 * b1 := by
  unfold plusI
  rw [getD_range]
  split
  · rfl
  · rw [getD_out (zs := xs) (by omega), getD_out (zs := ys) (by omega)]; omega
theorem plusI_co {b1 b2 : Int} (h1 : b1 ≠ 0) (h2 : b2 ≠ 0) (xs ys : List Int) (n : Nat) : co (ratsOf (b1 * b2) (trimI (plusI b1 b2 xs ys))) n = co (ratsOf b1 xs) n + co (ratsOf b2 ys) n := by
  have h3 : b1 * b2 ≠ 0 := fun z => by rcases Int.mul_eq_zero.mp z with e | e <;> omega
  rw [ratsOf_trim h3, trimQ_co, co_rats, co_rats, co_rats, plusI_getD]
  have c1 := cast_ne h1
  have c2 := cast_ne h2
  rw [Rat.intCast_add, Rat.intCast_mul, Rat.intCast_mul, Rat.intCast_mul, Rat.intCast_mul, Rat.intCast_one]
  generalize ((xs.getD n 0 : Int) : Rat) = u
  generalize ((ys.getD n 0 : Int) : Rat) = v
  generalize (b1 : Rat) = p at *
  generalize (b2 : Rat) = q at *
  rw [Rat.div_def, Rat.div_def, Rat.div_def, Rat.inv_mul_rev]
  have i1 := Rat.mul_inv_cancel p c1
  have i2 := Rat.mul_inv_cancel q c2
  grind
theorem plusI_BN {b1 b2 : Int} {xs ys : List Int} {N1 N2 : Nat} (h : BN N1 xs) (g : BN N2 ys) : BN (N1 * b2.natAbs + N2 * b1.natAbs) (plusI b1 b2 xs ys) := fun z hz => by
  unfold plusI at hz
  obtain ⟨n, _, rfl⟩ := List.mem_map.mp hz
  refine Nat.le_trans (Int.natAbs_add_le _ _) ?_
  rw [Int.one_mul, Int.natAbs_mul, Int.natAbs_mul]
  exact Nat.add_le_add (Nat.mul_le_mul_right _ (getD_abs h n)) (Nat.mul_le_mul_right _ (getD_abs g n))
theorem plusI_len (b1 b2 : Int) (xs ys : List Int) : (plusI b1 b2 xs ys).length = max xs.length ys.length := by unfold plusI; rw [List.length_map, List.length_range]
/-- the product's numbers -/
def timesI (xs ys : List Int) : List Int := (List.range (xs.length + ys.length - 1)).map fun n => prodI xs ys xs.length n
theorem sumI_zero {f : Nat → Int} : ∀ {n : Nat}, (∀ i, i < n → f i = 0) → sumI f n = 0
  | 0, _ => rfl
  | n + 1, h => by
    show sumI f n + f n = 0
    rw [sumI_zero fun i hi => h i (by omega), h n (by omega)]; rfl
theorem timesI_getD (xs ys : List Int) (n : Nat) : (timesI xs ys).getD n 0 = prodI xs ys xs.length n := by
  unfold timesI
  rw [getD_range]
  split
  · rfl
  · symm
    refine sumI_zero fun i hi => ?_
    unfold shI
    rw [if_neg (by omega)]
    rw [getD_out (zs := ys) (by omega)]; omega
theorem timesI_co {b1 b2 : Int} (h1 : b1 ≠ 0) (h2 : b2 ≠ 0) (xs ys : List Int) (n : Nat) : co (ratsOf (b1 * b2) (trimI (timesI xs ys))) n = prodc (ratsOf b1 xs) (co (ratsOf b2 ys)) n := by
  have h3 : b1 * b2 ≠ 0 := fun z => by rcases Int.mul_eq_zero.mp z with e | e <;> omega
  rw [ratsOf_trim h3, trimQ_co, co_rats, timesI_getD, prodI_rat h1 h2]
theorem timesI_BN {xs ys : List Int} {N1 N2 : Nat} (h : BN N1 xs) (g : BN N2 ys) : BN (xs.length * (N1 * N2)) (timesI xs ys) := fun z hz => by
  unfold timesI at hz
  obtain ⟨n, _, rfl⟩ := List.mem_map.mp hz
  exact prodI_abs h g _ _
theorem timesI_len (xs ys : List Int) : (timesI xs ys).length = xs.length + ys.length - 1 := by unfold timesI; rw [List.length_map, List.length_range]
theorem told_trim {b : Int} (h : b ≠ 0) (zs : List Int) : Told (ratsOf b (trimI zs)) := by rw [ratsOf_trim h]; exact trimQ_told _
/-- in the midst of the inner loop -/
def partI (xs ys : List Int) (i j n : Nat) : Int := prodI xs ys i n + (if i ≤ n ∧ n < i + j then xs.getD i 0 * ys.getD (n - i) 0 else 0)
theorem partI_zero (xs ys : List Int) (i n : Nat) : partI xs ys i 0 n = prodI xs ys i n := by
  unfold partI; rw [if_neg (by omega)]; omega
theorem partI_all (xs ys : List Int) (i n : Nat) : partI xs ys i ys.length n = prodI xs ys (i + 1) n := by
  show _ = prodI xs ys i n + xs.getD i 0 * shI i ys n
  unfold partI shI
  congr 1
  by_cases h : n < i
  · rw [if_neg (by omega), if_pos h]; omega
  · rw [if_neg h]
    by_cases h2 : n < i + ys.length
    · rw [if_pos (by omega)]
    · rw [if_neg (by omega), getD_out (zs := ys) (by omega)]; omega
theorem partI_step {xs ys : List Int} {i j L : Nat} (h : i + j < L) : ((List.range L).map (partI xs ys i j)).set (i + j) (partI xs ys i j (i + j) + xs.getD i 0 * ys.getD j 0) = (List.range L).map (partI xs ys i (j + 1)) := by
  refine List.ext_getElem (by simp) fun n n1 n2 => ?_
  have nL : n < L := by simpa using n2
  rw [List.getElem_set]
  split
  · rename_i e
    subst e
    rw [List.getElem_map, List.getElem_range]
    unfold partI
    rw [if_neg (by omega), if_pos (by omega), show i + j - i = j by omega]; omega
  · rename_i ne
    rw [List.getElem_map, List.getElem_map, List.getElem_range]
    unfold partI
    by_cases h2 : i ≤ n ∧ n < i + j
    · rw [if_pos h2, if_pos (by omega)]
    · rw [if_neg h2, if_neg (by omega)]
end Fp

namespace Fp
/-! ### sums of lists -/
def addQ (xs ys : List Rat) : List Rat := List.zipWith (fun a b => a + b) xs ys ++ xs.drop ys.length ++ ys.drop xs.length
theorem co_drop (xs : List Rat) (k n : Nat) : co (xs.drop k) n = co xs (k + n) := by
  unfold co
  rw [List.getD_eq_getElem?_getD, List.getD_eq_getElem?_getD, List.getElem?_drop]
theorem co_append (xs ys : List Rat) (n : Nat) : co (xs ++ ys) n = if n < xs.length then co xs n else co ys (n - xs.length) := by
  split
  · exact co_append_left ‹_›
  · exact co_append_right (by omega)
theorem co_zipAdd (xs ys : List Rat) (n : Nat) : co (List.zipWith (fun a b => a + b) xs ys) n = if n < min xs.length ys.length then co xs n + co ys n else 0 := by
  split
  · rename_i h
    have h1 : n < xs.length := by omega
    have h2 : n < ys.length := by omega
    rw [co_at (x := xs[n] + ys[n])]
    · rw [co_at (List.getElem?_eq_getElem h1), co_at (List.getElem?_eq_getElem h2)]
    · rw [List.getElem?_zipWith, List.getElem?_eq_getElem h1, List.getElem?_eq_getElem h2]
  · exact co_out (by rw [List.length_zipWith]; omega)
theorem addQ_co (xs ys : List Rat) (n : Nat) : co (addQ xs ys) n = co xs n + co ys n := by
  unfold addQ
  rw [List.append_assoc, co_append, co_zipAdd, List.length_zipWith, co_append, co_drop, co_drop, List.length_drop]
  by_cases h : n < min xs.length ys.length
  · rw [if_pos h, if_pos h]
  · rw [if_neg h]
    by_cases h2 : n - min xs.length ys.length < xs.length - ys.length
    · rw [if_pos h2, co_out (xs := ys) (i := n) (by omega), show ys.length + (n - min xs.length ys.length) = n by omega]; grind
    · rw [if_neg h2]
      by_cases h3 : n < ys.length
      · rw [co_out (xs := xs) (i := n) (by omega), show xs.length + (n - min xs.length ys.length - (xs.length - ys.length)) = n by omega]; grind
      · rw [co_out (xs := ys) (by omega), co_out (xs := ys) (i := n) (by omega), co_out (xs := xs) (by omega)]; grind
theorem addQ_len (xs ys : List Rat) : (addQ xs ys).length = max xs.length ys.length := by
  unfold addQ
  rw [List.length_append, List.length_append, List.length_zipWith, List.length_drop, List.length_drop]; omega
/-! ### worths -/
def hv : List Rat → Rat → Rat
  | [], _ => 0
  | c :: cs, z => hv cs z * z + c
theorem hv_drop {xs : List Rat} {i : Nat} {x : Rat} (h : xs[i]? = some x) (z : Rat) : hv (xs.drop i) z = hv (xs.drop (i + 1)) z * z + x := by
  obtain ⟨l, e⟩ := List.getElem?_eq_some_iff.mp h
  rw [List.drop_eq_getElem_cons l, e]; rfl
theorem sumN_shift (f : Nat → Rat) : ∀ n, sumN f (n + 1) = f 0 + sumN (fun i => f (i + 1)) n
  | 0 => by show (0 : Rat) + f 0 = f 0 + 0; grind
  | n + 1 => by
    show sumN f (n + 1) + f (n + 1) = f 0 + (sumN (fun i => f (i + 1)) n + f (n + 1))
    rw [sumN_shift f n]; grind
theorem co_cons_zero (c : Rat) (cs : List Rat) : co (c :: cs) 0 = c := rfl
theorem co_cons_succ (c : Rat) (cs : List Rat) (n : Nat) : co (c :: cs) (n + 1) = co cs n := rfl
theorem hv_sum : ∀ (xs : List Rat) (z : Rat) (N : Nat), xs.length ≤ N → hv xs z = sumN (fun i => co xs i * z ^ i) N
  | [], z, N, _ => by
    symm
    exact sumN_zero fun i _ => by rw [co_nil]; grind
  | c :: cs, z, 0, h => by simp at h
  | c :: cs, z, N + 1, h => by
    rw [sumN_shift]
    show hv cs z * z + c = co (c :: cs) 0 * z ^ 0 + _
    rw [hv_sum cs z N (by simpa using h), co_cons_zero, Rat.pow_zero]
    have : sumN (fun i => co (c :: cs) (i + 1) * z ^ (i + 1)) N = z * sumN (fun i => co cs i * z ^ i) N := by
      rw [← sumN_mul]
      refine sumN_congr fun i _ => ?_
      rw [co_cons_succ, Rat.pow_succ]; grind
    rw [this]; grind
theorem hv_add {xs ys zs : List Rat} (h : ∀ n, co zs n = co xs n + co ys n) (z : Rat) : hv zs z = hv xs z + hv ys z := by
  let N := max zs.length (max xs.length ys.length)
  rw [hv_sum zs z N (by omega), hv_sum xs z N (by omega), hv_sum ys z N (by omega), ← sumN_add]
  exact sumN_congr fun i _ => by rw [h]; grind
theorem sumN_swap (f : Nat → Nat → Rat) : ∀ n m : Nat, sumN (fun i => sumN (f i) m) n = sumN (fun j => sumN (fun i => f i j) n) m
  | 0, m => by
    symm
    exact sumN_zero fun j _ => rfl
  | n + 1, m => by
    show sumN (fun i => sumN (f i) m) n + sumN (f n) m = sumN (fun j => sumN (fun i => f i j) n + f n j) m
    rw [sumN_swap f n m, sumN_add]
/-- a shifted one -/
theorem sumN_sh (g : Nat → Rat) (z : Rat) (i : Nat) : ∀ N : Nat, sumN (fun n => sh i g n * z ^ n) (i + N) = z ^ i * sumN (fun n => g n * z ^ n) N
  | 0 => by
    rw [Nat.add_zero]
    rw [sumN_zero fun n hn => by unfold sh; rw [if_pos hn]; grind]
    show (0 : Rat) = z ^ i * 0
    grind
  | N + 1 => by
    show sumN (fun n => sh i g n * z ^ n) (i + N) + sh i g (i + N) * z ^ (i + N) = z ^ i * (sumN (fun n => g n * z ^ n) N + g N * z ^ N)
    rw [sumN_sh g z i N]
    have e : sh i g (i + N) = g N := by unfold sh; rw [if_neg (by omega)]; congr 1; omega
    have p : z ^ (i + N) = z ^ i * z ^ N := by
      induction N with
      | zero => rw [Nat.add_zero, Rat.pow_zero]; grind
      | succ N ih => 
        have := ih (by unfold sh; rw [if_neg (by omega)]; congr 1; omega)
        rw [← Nat.add_assoc, Rat.pow_succ, Rat.pow_succ, this]; grind
    rw [e, p]; grind
theorem sumN_more {f : Nat → Rat} {n : Nat} : ∀ {k : Nat}, (∀ i, n ≤ i → f i = 0) → sumN f (n + k) = sumN f n
  | 0, _ => rfl
  | k + 1, h => by
    show sumN f (n + k) + f (n + k) = _
    rw [sumN_more (k := k) h, h _ (by omega)]; grind
theorem hv_mul {xs ys zs : List Rat} (h : ∀ n, co zs n = prodc xs (co ys) n) (z : Rat) : hv zs z = hv xs z * hv ys z := by
  let M := zs.length + xs.length + ys.length
  rw [hv_sum zs z (zs.length + xs.length + ys.length) (by omega), hv_sum xs z xs.length (Nat.le_refl _)]
  have e1 : sumN (fun n => co zs n * z ^ n) (zs.length + xs.length + ys.length) = sumN (fun n => sumN (fun i => co xs i * (sh i (co ys) n * z ^ n)) xs.length) (zs.length + xs.length + ys.length) := by
    refine sumN_congr fun n _ => ?_
    rw [h]
    unfold prodc
    rw [Rat.mul_comm, ← sumN_mul]
    exact sumN_congr fun i _ => by grind
  rw [e1, sumN_swap (fun n i => co xs i * (sh i (co ys) n * z ^ n))]
  have e2 : ∀ i, i < xs.length → sumN (fun n => co xs i * (sh i (co ys) n * z ^ n)) (zs.length + xs.length + ys.length) = hv ys z * (co xs i * z ^ i) := fun i hi => by
    rw [sumN_mul]
    obtain ⟨k, hk⟩ : ∃ k, zs.length + xs.length + ys.length = i + (ys.length + k) := ⟨zs.length + xs.length - i, by omega⟩
    rw [hk, sumN_sh, sumN_more fun n hn => by rw [co_out hn]; grind, ← hv_sum ys z ys.length (Nat.le_refl _)]; grind
  rw [sumN_congr e2, sumN_mul, Rat.mul_comm]
/-! ### what is derived -/
def derQ (xs : List Rat) : List Rat := ((List.range xs.length).map fun n => co xs n * ((n : Int) : Rat)).drop 1
theorem derQ_co (xs : List Rat) (n : Nat) : co (derQ xs) n = co xs (n + 1) * (((n + 1 : Nat) : Int) : Rat) := by
  unfold derQ
  rw [co_drop, Nat.add_comm 1 n]
  by_cases h : n + 1 < xs.length
  · rw [co_at (x := co xs (n + 1) * (((n + 1 : Nat) : Int) : Rat))]
    rw [List.getElem?_map, List.getElem?_range h]; rfl
  · rw [co_out (by simp; omega), co_out (xs := xs) (by omega)]; grind
theorem derQ_told {xs : List Rat} (t : Told xs) : Told (derQ xs) := told_of_top fun h => by
  have l : (derQ xs).length = xs.length - 1 := by unfold derQ; simp
  have : 0 < (derQ xs).length := List.length_pos_iff.mpr h
  rw [derQ_co]
  intro z
  rcases Rat.mul_eq_zero.mp z with e | e
  · rw [show (derQ xs).length - 1 + 1 = xs.length - 1 by omega] at e
    exact told_top t (fun e => by rw [e] at l this; rw [List.length_nil] at l; omega) e
  · have : (((derQ xs).length - 1 + 1 : Nat) : Int) = 0 := by exact_mod_cast e
    omega
/-! ### times a number -/
def scQ (c : Rat) (xs : List Rat) : List Rat := trimQ (xs.map fun x => x * c)
theorem scQ_co (c : Rat) (xs : List Rat) (n : Nat) : co (scQ c xs) n = co xs n * c := by
  unfold scQ
  rw [trimQ_co]
  unfold co
  rw [List.getD_eq_getElem?_getD, List.getD_eq_getElem?_getD, List.getElem?_map]
  cases xs[n]? with
  | none => show (0 : Rat) = 0 * c; grind
  | some x => rfl
/-- a product of told ones is told -/
theorem prod_told {xs ys zs : List Rat} (tx : Told xs) (ty : Told ys) (x0 : xs ≠ []) (y0 : ys ≠ []) (l : zs.length = xs.length + ys.length - 1) (h : ∀ n, co zs n = prodc xs (co ys) n) : Told zs := told_of_top fun _ => by
  have lx : 0 < xs.length := List.length_pos_iff.mpr x0
  have ly : 0 < ys.length := List.length_pos_iff.mpr y0
  rw [h, show zs.length - 1 = (xs.length - 1) + (ys.length - 1) by omega, prodc_top (by omega) fun i hi => co_out (by omega)]
  intro z
  rcases Rat.mul_eq_zero.mp z with e | e
  · exact told_top tx x0 e
  · exact told_top ty y0 e
theorem prodc_nil_left (g : Nat → Rat) (n : Nat) : prodc [] g n = 0 := rfl
theorem prodc_nil_right (xs : List Rat) (n : Nat) : prodc xs (co []) n = 0 := sumN_zero fun i _ => by
  unfold sh
  split
  · grind
  · rw [co_nil]; grind
end Fp
namespace Fp
theorem lbLe {n : Nat} {a b : Int} (h : LbI n b) (h0 : 0 ≤ a) (l : a ≤ b) : LbI n a := h.of_le (by omega)
theorem ownZ {B : Int} {x : Rat} {n m : Nat} (hB : 0 < B) (hd : (x.den : Int) ∣ B) (bx : Bits n x) (hm : LbI m B) : ((x.num * B.fdiv x.den : Int) : Rat) / (B : Rat) = x ∧ LbI (n + m) (x.num * B.fdiv x.den) ∧ LbI m (B.fdiv x.den) := by
  have d0 := den_pos x
  rw [fdiv_exact hd]
  obtain ⟨c, hc⟩ := hd
  have q : B / (x.den : Int) = c := by
    rw [hc]; exact Int.mul_ediv_cancel_left _ (by omega)
  rw [q]
  have c0 : 0 < c := by
    rcases Int.lt_trichotomy c 0 with z | z | z
    · have := Int.mul_neg_of_pos_of_neg d0 z; omega
    · subst z; rw [Int.mul_zero] at hc; omega
    · exact z
  have cB : c ≤ B := by
    rw [hc]
    have := Int.mul_le_mul_of_nonneg_right (show 1 ≤ (x.den : Int) by omega) (Int.le_of_lt c0)
    omega
  have lc : LbI m c := lbLe hm (by omega) cB
  refine ⟨?_, bx.1.mul lc, lc⟩
  rw [hc, ← Rat.divInt_eq_div, Rat.divInt_mul_right (by omega)]
  exact divInt_self x
theorem lcm_step {L d B : Nat} (h1 : L ∣ B) (h2 : d ∣ B) (L0 : 0 < L) (d0 : 0 < d) : Nat.lcm L d ∣ B ∧ 0 < Nat.lcm L d ∧ L ∣ Nat.lcm L d ∧ d ∣ Nat.lcm L d :=
  ⟨Nat.lcm_dvd h1 h2, Nat.lcm_pos L0 d0, Nat.dvd_lcm_left .., Nat.dvd_lcm_right ..⟩
end Fp

namespace Fp
/-- the sum's numbers, the second ones times a factor -/
def plusF (f b1 b2 : Int) (xs ys : List Int) : List Int := (List.range (max xs.length ys.length)).map fun n => xs.getD n 0 * b2 + f * ys.getD n 0 * b1
theorem plusF_getD (f b1 b2 : Int) (xs ys : List Int) (n : Nat) : (plusF f b1 b2 xs ys).getD n 0 = xs.getD n 0 * b2 + f * ys.getD n 0 * b1 := by
  unfold plusF
  rw [getD_range]
  split
  · rfl
  · rw [getD_out (zs := xs) (by omega), getD_out (zs := ys) (by omega), Int.mul_zero, Int.zero_mul, Int.zero_mul]; rfl
theorem plusF_co {f b1 b2 : Int} (h1 : b1 ≠ 0) (h2 : b2 ≠ 0) (xs ys : List Int) (n : Nat) : co (ratsOf (b1 * b2) (trimI (plusF f b1 b2 xs ys))) n = co (ratsOf b1 xs) n + (f : Rat) * co (ratsOf b2 ys) n := by
  have h3 : b1 * b2 ≠ 0 := fun z => by rcases Int.mul_eq_zero.mp z with e | e <;> omega
  rw [ratsOf_trim h3, trimQ_co, co_rats, co_rats, co_rats, plusF_getD]
  have c1 := cast_ne h1
  have c2 := cast_ne h2
  rw [Rat.intCast_add, Rat.intCast_mul, Rat.intCast_mul, Rat.intCast_mul, Rat.intCast_mul]
  generalize ((xs.getD n 0 : Int) : Rat) = u
  generalize ((ys.getD n 0 : Int) : Rat) = v
  generalize (b1 : Rat) = p at *
  generalize (b2 : Rat) = q at *
  rw [Rat.div_def, Rat.div_def, Rat.div_def, Rat.inv_mul_rev]
  have i1 := Rat.mul_inv_cancel p c1
  have i2 := Rat.mul_inv_cancel q c2
  grind
theorem plusF_BN {f b1 b2 : Int} {xs ys : List Int} {N1 N2 : Nat} (hf : f.natAbs ≤ 1) (h : BN N1 xs) (g : BN N2 ys) : BN (N1 * b2.natAbs + N2 * b1.natAbs) (plusF f b1 b2 xs ys) := fun z hz => by
  unfold plusF at hz
  obtain ⟨n, _, rfl⟩ := List.mem_map.mp hz
  refine Nat.le_trans (Int.natAbs_add_le _ _) ?_
  rw [Int.natAbs_mul, Int.natAbs_mul, Int.natAbs_mul]
  refine Nat.add_le_add (Nat.mul_le_mul_right _ (getD_abs h n)) (Nat.mul_le_mul_right _ ?_)
  have := Nat.mul_le_mul hf (getD_abs g n)
  omega
theorem plusF_len (f b1 b2 : Int) (xs ys : List Int) : (plusF f b1 b2 xs ys).length = max xs.length ys.length := by unfold plusF; rw [List.length_map, List.length_range]
/-- own worths, by whole numbers -/
theorem worth_step {fo lo p q one : Int} (l0 : lo ≠ 0) (q0 : q ≠ 0) {h : Rat} {b : Int} (b0 : b ≠ 0) (e : ((fo * q : Int) : Rat) / ((lo * b : Int) : Rat) = h) :
    (((fo * p + one * lo) * q : Int) : Rat) / (((lo * q) * b : Int) : Rat) = h * ((p : Rat) / (q : Rat)) + (one : Rat) / (b : Rat) := by
  have cl := cast_ne l0
  have cq := cast_ne q0
  have cb := cast_ne b0
  rw [← e]
  simp only [Rat.intCast_mul, Rat.intCast_add]
  generalize (fo : Rat) = F
  generalize (p : Rat) = P
  generalize (one : Rat) = O
  generalize (lo : Rat) = L at *
  generalize (q : Rat) = Qq at *
  generalize (b : Rat) = B at *
  rw [Rat.div_def, Rat.div_def, Rat.div_def, Rat.div_def, Rat.inv_mul_rev, Rat.inv_mul_rev, Rat.inv_mul_rev]
  have i1 := Rat.mul_inv_cancel L cl
  have i2 := Rat.mul_inv_cancel Qq cq
  have i3 := Rat.mul_inv_cancel B cb
  generalize L⁻¹ = L1 at *
  generalize Qq⁻¹ = Q1 at *
  generalize B⁻¹ = B1 at *
  grind
theorem ratsOf_drop (b : Int) (zs : List Int) (n : Nat) : (ratsOf b zs).drop n = ratsOf b (zs.drop n) := by unfold ratsOf; rw [List.map_drop]
theorem ratsOf_at {b : Int} {zs : List Int} {i : Nat} {z : Int} (h : zs[i]? = some z) : (ratsOf b zs)[i]? = some ((z : Rat) / (b : Rat)) := by unfold ratsOf; rw [List.getElem?_map, h]; rfl
/-- derived, by whole numbers -/
def derI (zs : List Int) : List Int := (List.range (zs.length - 1)).map fun n => zs.getD (1 + n) 0 * ((1 + n : Nat) : Int)
theorem derI_co {b : Int} (h : b ≠ 0) (zs : List Int) (n : Nat) : co (ratsOf b (trimI (derI zs))) n = co (derQ (ratsOf b zs)) n := by
  rw [ratsOf_trim h, trimQ_co, derQ_co, co_rats, co_rats]
  unfold derI
  rw [getD_range]
  by_cases l : n < zs.length - 1
  · rw [if_pos l, Nat.add_comm 1 n, Rat.intCast_mul, Rat.div_def, Rat.div_def]; grind
  · rw [if_neg l, getD_out (by omega), Rat.intCast_zero, Rat.div_def]; grind
theorem derI_BN {zs : List Int} {N : Nat} (h : BN N zs) : BN (N * zs.length) (derI zs) := fun z hz => by
  unfold derI at hz
  obtain ⟨n, hn, rfl⟩ := List.mem_map.mp hz
  rw [List.mem_range] at hn
  rw [Int.natAbs_mul]
  exact Nat.mul_le_mul (getD_abs h _) (by omega)
theorem neg_map_co (ys : List Rat) (n : Nat) : co (ys.map fun y => -y) n = - co ys n := by
  unfold co
  rw [List.getD_eq_getElem?_getD, List.getD_eq_getElem?_getD, List.getElem?_map]
  cases ys[n]? with
  | none => show (0 : Rat) = -0; grind
  | some x => rfl
end Fp
namespace Fp
theorem sumN_le {f : Nat → Rat} {n m : Nat} (l : n ≤ m) (h : ∀ i, n ≤ i → f i = 0) : sumN f m = sumN f n := by
  obtain ⟨k, rfl⟩ : ∃ k, m = n + k := ⟨m - n, by omega⟩
  exact sumN_more h
theorem prodc_range (xs : List Rat) (g : Nat → Rat) (n : Nat) : prodc xs g n = sumN (fun i => co xs i * g (n - i)) (n + 1) := by
  unfold prodc
  have h1 : sumN (fun i => co xs i * sh i g n) (max xs.length (n + 1)) = sumN (fun i => co xs i * sh i g n) xs.length := sumN_le (by omega) fun i hi => by rw [co_out hi]; grind
  have h2 : sumN (fun i => co xs i * sh i g n) (max xs.length (n + 1)) = sumN (fun i => co xs i * sh i g n) (n + 1) := sumN_le (by omega) fun i hi => by unfold sh; rw [if_pos (by omega)]; grind
  rw [← h1, h2]
  exact sumN_congr fun i hi => by unfold sh; rw [if_neg (by omega)]
theorem sumN_rev (f : Nat → Rat) : ∀ n, sumN f (n + 1) = sumN (fun i => f (n - i)) (n + 1)
  | 0 => rfl
  | n + 1 => by
    rw [sumN_shift (fun i => f (n + 1 - i)) (n + 1)]
    show sumN f (n + 1) + f (n + 1) = f (n + 1 - 0) + sumN (fun i => f (n + 1 - (i + 1))) (n + 1)
    have e : (fun i => f (n + 1 - (i + 1))) = fun i => f (n - i) := funext fun i => by congr 1; omega
    rw [e, ← sumN_rev f n, Nat.sub_zero]; grind
theorem prodc_comm (xs ys : List Rat) (n : Nat) : prodc xs (co ys) n = prodc ys (co xs) n := by
  rw [prodc_range, prodc_range, sumN_rev]
  exact sumN_congr fun i hi => by rw [show n - (n - i) = i by omega]; grind
theorem prodc_one (xs : List Rat) (c : Rat) (zs : List Rat) (h : ∀ i, co zs i = single 0 c i) (n : Nat) : prodc xs (co zs) n = co xs n * c := by
  rw [prodc_congr h, prodc_single, if_neg (by omega), Nat.sub_zero]; grind
theorem derQ_mem {xs : List Rat} {z : Rat} (h : z ∈ derQ xs) : ∃ n, n < xs.length ∧ z = co xs n * ((n : Int) : Rat) := by
  unfold derQ at h
  obtain ⟨n, hn, rfl⟩ := List.mem_map.mp (List.mem_of_mem_drop h)
  exact ⟨n, List.mem_range.mp hn, rfl⟩
theorem co_allB {xs : List Rat} {n i : Nat} (h : AllB n xs) (n0 : 0 < n) : Bits n (co xs i) := by
  by_cases l : i < xs.length
  · rw [co_at (List.getElem?_eq_getElem l)]; exact h _ (List.getElem_mem _)
  · rw [co_out (by omega)]; exact ⟨Nat.two_pow_pos _, Nat.one_lt_two_pow (by omega)⟩
theorem derQ_allB {xs : List Rat} {n : Nat} (h : AllB n xs) (n0 : 0 < n) (l : xs.length ≤ 49) : AllB (n + 6) (derQ xs) := fun z hz => by
  obtain ⟨i, hi, rfl⟩ := derQ_mem hz
  refine (co_allB h n0).mulA ⟨?_, ?_⟩
  · show ((i : Nat) : Int).natAbs < 2 ^ 6; omega
  · show (1 : Int).natAbs < 2 ^ 6; decide
theorem scQ_allB {xs : List Rat} {n m : Nat} {c : Rat} (h : AllB n xs) (g : Bits m c) : AllB (n + m) (scQ c xs) := fun z hz => by
  obtain ⟨x, hx, rfl⟩ := List.mem_map.mp (trimQ_mem hz)
  exact (h x hx).mulA g
theorem scQ_len (c : Rat) (xs : List Rat) : (scQ c xs).length ≤ xs.length := by
  have := trimQ_len (xs.map fun x => x * c)
  rw [List.length_map] at this
  exact this
theorem derQ_len (xs : List Rat) : (derQ xs).length ≤ xs.length := by unfold derQ; simp
end Fp

namespace Fp
/-! ### numbers over one bottom -/
def Sc (D : Int) (M : Nat) (x : Rat) : Prop := ∃ z : Int, x = (z : Rat) / (D : Rat) ∧ z.natAbs ≤ M
theorem Sc.mono {D : Int} {M N : Nat} {x : Rat} (h : Sc D M x) (l : M ≤ N) : Sc D N x := let ⟨z, e, b⟩ := h; ⟨z, e, Nat.le_trans b l⟩
theorem Sc.bits {D : Int} {M n : Nat} {x : Rat} (h : Sc D M x) (d0 : D ≠ 0) (hD : LbI n D) (hM : M < 2 ^ n) : Bits n x := by
  obtain ⟨z, rfl, b⟩ := h
  rw [← Rat.divInt_eq_div]
  exact Bits.divInt (Nat.lt_of_le_of_lt b hM) hD d0
theorem Sc.int {z : Int} {M : Nat} (h : z.natAbs ≤ M) : Sc 1 M (z : Rat) := ⟨z, by rw [Rat.intCast_one, Rat.div_def, Rat.inv_eq_of_mul_eq_one (Rat.mul_one 1), Rat.mul_one], h⟩
theorem Sc.zero {D : Int} {M : Nat} : Sc D M 0 := ⟨0, by rw [Rat.intCast_zero, Rat.div_def, Rat.zero_mul], by simp⟩
theorem Sc.add {D : Int} {M N : Nat} {x y : Rat} (h : Sc D M x) (g : Sc D N y) : Sc D (M + N) (x + y) := by
  obtain ⟨a, rfl, b1⟩ := h
  obtain ⟨c, rfl, b2⟩ := g
  refine ⟨a + c, ?_, Nat.le_trans (Int.natAbs_add_le _ _) (Nat.add_le_add b1 b2)⟩
  rw [Rat.intCast_add, Rat.div_def, Rat.div_def, Rat.div_def, Rat.add_mul]
theorem Sc.neg {D : Int} {M : Nat} {x : Rat} (h : Sc D M x) : Sc D M (-x) := by
  obtain ⟨a, rfl, b1⟩ := h
  refine ⟨-a, ?_, by rw [Int.natAbs_neg]; exact b1⟩
  rw [Rat.intCast_neg, Rat.div_def, Rat.div_def, Rat.neg_mul]
theorem Sc.mul {D E : Int} {M N : Nat} {x y : Rat} (h : Sc D M x) (g : Sc E N y) : Sc (D * E) (M * N) (x * y) := by
  obtain ⟨a, rfl, b1⟩ := h
  obtain ⟨c, rfl, b2⟩ := g
  refine ⟨a * c, ?_, by rw [Int.natAbs_mul]; exact Nat.mul_le_mul b1 b2⟩
  rw [Rat.intCast_mul, Rat.intCast_mul, Rat.div_def, Rat.div_def, Rat.div_def, Rat.inv_mul_rev]; grind
/-- over more -/
theorem Sc.up {D : Int} {M : Nat} {x : Rat} (h : Sc D M x) (e : Int) (e0 : e ≠ 0) : Sc (D * e) (M * e.natAbs) x := by
  have := h.mul (y := 1) (N := e.natAbs) ⟨e, by
    have := cast_ne e0
    rw [Rat.div_def, Rat.mul_inv_cancel _ this], Nat.le_refl _⟩
  rwa [Rat.mul_one] at this
/-- one step of a division: one less part times two -/
theorem Sc.step {D s : Int} {M S : Nat} {E : Int} {a t y yt : Rat} (ha : Sc D M a) (ht : Sc D M t) (hy : Sc E S y) (hs : yt = (s : Rat) / (E : Rat)) (s0 : s ≠ 0) (E0 : E ≠ 0) (sS : s.natAbs ≤ S) : Sc (D * s) (M * (2 * S)) (a - t / yt * y) := by
  obtain ⟨a', rfl, b1⟩ := ha
  obtain ⟨t', rfl, b2⟩ := ht
  obtain ⟨y', rfl, b3⟩ := hy
  subst hs
  have cs := cast_ne s0
  have cE := cast_ne E0
  refine ⟨a' * s - t' * y', ?_, ?_⟩
  · rw [Rat.intCast_sub, Rat.intCast_mul, Rat.intCast_mul, Rat.intCast_mul]
    generalize (a' : Rat) = A
    generalize (t' : Rat) = T
    generalize (y' : Rat) = Y
    generalize (s : Rat) = S' at *
    generalize (E : Rat) = E' at *
    generalize (D : Rat) = D'
    simp only [Rat.div_def, Rat.inv_mul_rev, Rat.inv_inv]
    have i1 := Rat.mul_inv_cancel S' cs
    have i2 := Rat.mul_inv_cancel E' cE
    generalize S'⁻¹ = S1 at *
    generalize E'⁻¹ = E1 at *
    generalize D'⁻¹ = D1 at *
    grind
  · have h1 := Int.natAbs_sub_le (a' * s) (t' * y')
    rw [Int.natAbs_mul, Int.natAbs_mul] at h1
    have h2 := Nat.mul_le_mul b1 sS
    have h3 := Nat.mul_le_mul b2 b3
    rw [show M * (2 * S) = M * S + M * S by rw [Nat.two_mul, Nat.mul_add]]
    omega
/-- the part -/
theorem Sc.part {D s : Int} {M : Nat} {E : Int} {t yt : Rat} (ht : Sc D M t) (hs : yt = (s : Rat) / (E : Rat)) (s0 : s ≠ 0) (E0 : E ≠ 0) : Sc (D * s) (M * E.natAbs) (t / yt) := by
  obtain ⟨t', rfl, b2⟩ := ht
  subst hs
  have cs := cast_ne s0
  have cE := cast_ne E0
  refine ⟨t' * E, ?_, by rw [Int.natAbs_mul]; exact Nat.mul_le_mul_right _ b2⟩
  rw [Rat.intCast_mul, Rat.intCast_mul]
  simp only [Rat.div_def, Rat.inv_mul_rev, Rat.inv_inv]
  grind
def AllS (D : Int) (M : Nat) (xs : List Rat) : Prop := ∀ x ∈ xs, Sc D M x
theorem AllS.co {D : Int} {M : Nat} {xs : List Rat} (h : AllS D M xs) (i : Nat) : Sc D M (co xs i) := by
  by_cases l : i < xs.length
  · rw [co_at (List.getElem?_eq_getElem l)]; exact h _ (List.getElem_mem _)
  · rw [co_out (by omega)]; exact Sc.zero
theorem AllS.bits {D : Int} {M n : Nat} {xs : List Rat} (h : AllS D M xs) (d0 : D ≠ 0) (hD : LbI n D) (hM : M < 2 ^ n) : AllB n xs := fun x hx => (h x hx).bits d0 hD hM
theorem AllS.of_co {D : Int} {M : Nat} {xs : List Rat} (h : ∀ i, Sc D M (Fp.co xs i)) : AllS D M xs := fun x hx => by
  obtain ⟨i, hi⟩ := List.getElem?_of_mem hx
  have := h i
  rwa [co_at hi] at this
theorem sumN_sc {f : Nat → Rat} {D : Int} {M : Nat} : ∀ {n : Nat}, (∀ i, i < n → Sc D M (f i)) → Sc D (n * M) (sumN f n)
  | 0, _ => Sc.zero
  | n + 1, h => by
    have := (sumN_sc (n := n) fun i hi => h i (by omega)).add (h n (by omega))
    rw [Nat.add_mul, Nat.one_mul]
    exact this
theorem sh_sc {D : Int} {M : Nat} {ys : List Rat} (h : AllS D M ys) (i n : Nat) : Sc D M (sh i (co ys) n) := by
  unfold sh
  split
  · exact Sc.zero
  · exact h.co _
/-- partial products -/
def prodQ (xs ys : List Rat) (k n : Nat) : Rat := sumN (fun i => co xs i * sh i (co ys) n) k
theorem prodQ_sc {D E : Int} {M N : Nat} {xs ys : List Rat} (h : AllS D M xs) (g : AllS E N ys) (k n : Nat) : Sc (D * E) (k * (M * N)) (prodQ xs ys k n) := sumN_sc fun i _ => (h.co i).mul (sh_sc g i n)
def partQ (xs ys : List Rat) (i j n : Nat) : Rat := prodQ xs ys i n + (if i ≤ n ∧ n < i + j then co xs i * co ys (n - i) else 0)
theorem partQ_zero (xs ys : List Rat) (i n : Nat) : partQ xs ys i 0 n = prodQ xs ys i n := by
  unfold partQ; rw [if_neg (by omega)]; grind
theorem partQ_all (xs ys : List Rat) (i n : Nat) : partQ xs ys i ys.length n = prodQ xs ys (i + 1) n := by
  show _ = prodQ xs ys i n + co xs i * sh i (co ys) n
  unfold partQ sh
  congr 1
  by_cases h : n < i
  · rw [if_neg (by omega), if_pos h]; grind
  · rw [if_neg h]
    by_cases h2 : n < i + ys.length
    · rw [if_pos (by omega)]
    · rw [if_neg (by omega), co_out (xs := ys) (by omega)]; grind
theorem partQ_sc {D E : Int} {M N : Nat} {xs ys : List Rat} (h : AllS D M xs) (g : AllS E N ys) (i j n : Nat) : Sc (D * E) ((i + 1) * (M * N)) (partQ xs ys i j n) := by
  unfold partQ
  rw [Nat.add_mul, Nat.one_mul]
  refine (prodQ_sc h g i n).add ?_
  split
  · exact (h.co i).mul (g.co _)
  · exact Sc.zero
theorem partQ_step {xs ys : List Rat} {i j L : Nat} (h : i + j < L) : ((List.range L).map (partQ xs ys i j)).set (i + j) (partQ xs ys i j (i + j) + co xs i * co ys j) = (List.range L).map (partQ xs ys i (j + 1)) := by
  refine List.ext_getElem (by simp) fun n n1 n2 => ?_
  have nL : n < L := by simpa using n2
  rw [List.getElem_set]
  split
  · rename_i e
    subst e
    rw [List.getElem_map, List.getElem_range]
    unfold partQ
    rw [if_neg (by omega), if_pos (by omega), show i + j - i = j by omega]; grind
  · rename_i ne
    rw [List.getElem_map, List.getElem_map, List.getElem_range]
    unfold partQ
    by_cases h2 : i ≤ n ∧ n < i + j
    · rw [if_pos h2, if_pos (by omega)]
    · rw [if_neg h2, if_neg (by omega)]
/-- the product as the law makes it -/
def timesQ (xs ys : List Rat) : List Rat := (List.range (xs.length + ys.length - 1)).map (prodQ xs ys xs.length)
theorem co_range {f : Nat → Rat} {m n : Nat} : co ((List.range m).map f) n = if n < m then f n else 0 := by
  by_cases h : n < m
  · rw [if_pos h, co_at (x := f n)]
    rw [List.getElem?_map, List.getElem?_range h]; rfl
  · rw [if_neg h, co_out (by simp; omega)]
theorem timesQ_co (xs ys : List Rat) (n : Nat) : co (timesQ xs ys) n = prodc xs (co ys) n := by
  unfold timesQ
  rw [co_range]
  split
  · rfl
  · symm
    refine sumN_zero fun i hi => ?_
    unfold sh
    split
    · grind
    · rw [co_out (xs := ys) (by omega)]; grind
theorem timesQ_len (xs ys : List Rat) : (timesQ xs ys).length = xs.length + ys.length - 1 := by unfold timesQ; simp
theorem timesQ_sc {D E : Int} {M N : Nat} {xs ys : List Rat} (h : AllS D M xs) (g : AllS E N ys) : AllS (D * E) (xs.length * (M * N)) (timesQ xs ys) := fun x hx => by
  obtain ⟨n, _, rfl⟩ := List.mem_map.mp hx
  exact prodQ_sc h g _ n
/-- the sum as the law makes it -/
def plusQ (c : Rat) (xs ys : List Rat) : List Rat := (List.range (max xs.length ys.length)).map fun n => co xs n + c * co ys n
theorem plusQ_co (c : Rat) (xs ys : List Rat) (n : Nat) : co (plusQ c xs ys) n = co xs n + c * co ys n := by
  unfold plusQ
  rw [co_range]
  split
  · rfl
  · rw [co_out (xs := xs) (by omega), co_out (xs := ys) (by omega)]; grind
theorem plusQ_len (c : Rat) (xs ys : List Rat) : (plusQ c xs ys).length = max xs.length ys.length := by unfold plusQ; simp
theorem plusQ_sc {D : Int} {M N : Nat} {c : Rat} {xs ys : List Rat} (h : AllS D M xs) (g : ∀ n, Sc D N (c * co ys n)) : AllS D (M + N) (plusQ c xs ys) := fun x hx => by
  obtain ⟨n, _, rfl⟩ := List.mem_map.mp hx
  exact (h.co n).add (g n)
end Fp

namespace Fp
/-! ### quotient and rest, over one bottom -/
/-- what is divided by: over E, its head s over E -/
structure ByQ (E s : Int) (S : Nat) (ys : List Rat) : Prop where
  ne : ys ≠ []
  told : Told ys
  sc : AllS E S ys
  hd : co ys (ys.length - 1) = (s : Rat) / (E : Rat)
  s0 : s ≠ 0
  E0 : E ≠ 0
  sS : s.natAbs ≤ S
structure QSt2 (xs ys : List Rat) (D E s : Int) (M S : Nat) (xs' qs : List Rat) : Prop where
  len : xs'.length + qs.length = xs.length
  eq : ∀ n, co xs n = prodc ys (qf (xs.length - ys.length) qs) n + co xs' n
  bx : AllS (D * s ^ qs.length) (M * (2 * S) ^ qs.length) xs'
  bq : AllS (D * s ^ qs.length) (M * (2 * S * E.natAbs) ^ qs.length) qs
  st : (qs = [] ∧ xs' = xs) ∨ (qs ≠ [] ∧ ys.length ≤ xs'.length + 1 ∧ co qs 0 ≠ 0)
theorem QSt2.start {xs ys : List Rat} {D E s : Int} {M S : Nat} (h : AllS D M xs) : QSt2 xs ys D E s M S xs [] :=
  ⟨by simp, fun n => by
    have : prodc ys (qf (xs.length - ys.length) []) n = 0 := by
      have e : ∀ i, qf (xs.length - ys.length) [] i = single 0 0 i := fun i => by rw [qf_nil]; unfold single; split <;> rfl
      rw [prodc_congr e, prodc_single]; split <;> grind
    rw [this]; grind, by simpa using h, fun x h => (by cases h), .inl ⟨rfl, rfl⟩⟩
theorem pow_ge1 {a k : Nat} (h : 1 ≤ a) : 1 ≤ a ^ k := Nat.one_le_pow _ _ h
theorem QSt2.step {xs ys xs' qs : List Rat} {D E s : Int} {M S : Nat} (B : ByQ E s S ys) (h : QSt2 xs ys D E s M S xs' qs) (hl : ys.length ≤ xs'.length) (tx : Told xs) :
    QSt2 xs ys D E s M S (restOf (co xs' (xs'.length - 1) / co ys (ys.length - 1)) ys xs') (qs ++ [co xs' (xs'.length - 1) / co ys (ys.length - 1)]) := by
  have ly : 0 < ys.length := List.length_pos_iff.mpr B.ne
  have t0 := told_top B.told B.ne
  have x0 : xs' ≠ [] := fun z => by rw [z] at hl; exact absurd (Nat.le_zero.mp hl) (by omega)
  have bt := h.bx _ (mem_last x0)
  have pt := bt.part B.hd B.s0 B.E0
  have E1 : 1 ≤ E.natAbs := by have := B.E0; omega
  have S1 : 1 ≤ 2 * S := by have := B.s0; have := B.sS; omega
  generalize hp : co xs' (xs'.length - 1) / co ys (ys.length - 1) = p at *
  have hc : co xs' (xs'.length - 1) = p * co ys (ys.length - 1) := by rw [← hp, Rat.div_mul_cancel t0]
  have lr := restOf_len (c := p) ly hl
  have ll := h.len
  have lq : qs.length ≤ xs.length - ys.length := by omega
  have eD : D * s ^ (qs ++ [p]).length = D * s ^ qs.length * s := by rw [List.length_append, List.length_singleton, Int.pow_succ, Int.mul_assoc]
  have eM : M * (2 * S) ^ (qs ++ [p]).length = M * (2 * S) ^ qs.length * (2 * S) := by rw [List.length_append, List.length_singleton, Nat.pow_succ, Nat.mul_assoc]
  have eG : M * (2 * S * E.natAbs) ^ (qs ++ [p]).length = M * (2 * S * E.natAbs) ^ qs.length * (2 * S * E.natAbs) := by rw [List.length_append, List.length_singleton, Nat.pow_succ, ← Nat.mul_assoc M]
  have mono : M * (2 * S) ^ qs.length ≤ M * (2 * S * E.natAbs) ^ qs.length := Nat.mul_le_mul_left _ (Nat.pow_le_pow_left (Nat.le_mul_of_pos_right _ E1) _)
  refine ⟨by rw [lr, List.length_append, List.length_singleton]; omega, fun n => ?_, fun z hz => ?_, fun z hz => ?_, .inr ⟨by simp, by rw [lr]; omega, ?_⟩⟩
  · have e1 := restOf_co (c := p) ly hl hc n
    have e2 := h.eq n
    have e3 := prodc_add' (ys := ys) (f := qf (xs.length - ys.length) (qs ++ [p])) (g := qf (xs.length - ys.length) qs) (h := single (xs.length - ys.length - qs.length) p) (fun i => qf_snoc lq i) n
    rw [show xs.length - ys.length - qs.length = xs'.length - ys.length by omega] at e3
    rw [e3]
    grind
  · rw [eD, eM]
    rcases mem_restOf hz with z1 | ⟨a, ha, d, hd, rfl⟩
    · refine ((h.bx z z1).up s B.s0).mono (Nat.mul_le_mul_left _ ?_)
      have := B.sS; omega
    · rw [← hp]
      exact Sc.step (h.bx a ha) bt (B.sc d hd) B.hd B.s0 B.E0 B.sS
  · rw [eD, eG]
    rcases List.mem_append.mp hz with z1 | z1
    · refine ((h.bq z z1).up s B.s0).mono (Nat.mul_le_mul_left _ ?_)
      have := B.sS
      have := Nat.le_mul_of_pos_right (2 * S) E1
      omega
    · rw [List.mem_singleton.mp z1]
      refine pt.mono ?_
      have h2 : E.natAbs ≤ 2 * S * E.natAbs := by
        have := Nat.mul_le_mul_right E.natAbs S1
        rwa [Nat.one_mul] at this
      exact Nat.mul_le_mul mono h2
  · rcases h.st with ⟨e1, e2⟩ | ⟨e1, _, e3⟩
    · subst e1
      subst e2
      show p ≠ 0
      intro z
      rw [z] at hc
      exact told_top tx x0 (by rw [hc]; grind)
    · have : 0 < qs.length := List.length_pos_iff.mpr e1
      rw [co_append_left this]; exact e3
/-- told at the end -/
structure DivS (xs ys : List Rat) (D E s : Int) (M S : Nat) (qs rs : List Rat) : Prop where
  dv : DivR xs ys qs rs
  sq : AllS (D * s ^ qs.length) (M * (2 * S * E.natAbs) ^ qs.length) qs
  sr : AllS (D * s ^ qs.length) (M * (2 * S * E.natAbs) ^ qs.length) rs
  ln : qs.length + ys.length ≤ xs.length + 1 ∨ qs = []
theorem QSt2.done {xs ys xs' qs : List Rat} {D E s : Int} {M S : Nat} (B : ByQ E s S ys) (h : QSt2 xs ys D E s M S xs' qs) (hl : xs'.length < ys.length) : DivS xs ys D E s M S qs.reverse (trimQ xs') := by
  have ll := h.len
  have E1 : 1 ≤ E.natAbs := by have := B.E0; omega
  have mono : M * (2 * S) ^ qs.length ≤ M * (2 * S * E.natAbs) ^ qs.length := Nat.mul_le_mul_left _ (Nat.pow_le_pow_left (Nat.le_mul_of_pos_right _ E1) _)
  refine ⟨⟨?_, trimQ_told _, Nat.lt_of_le_of_lt (trimQ_len _) hl, by rw [List.length_reverse]; omega, fun n => ?_⟩, fun z hz => ?_, fun z hz => ?_, ?_⟩
  · rcases h.st with ⟨e1, _⟩ | ⟨e1, _, e3⟩
    · rw [e1]; exact told_nil
    · refine told_of_top fun _ => ?_
      have : 0 < qs.length := List.length_pos_iff.mpr e1
      have e : qs.reverse[qs.reverse.length - 1]? = qs[0]? := by
        rw [List.getElem?_reverse (by rw [List.length_reverse]; omega), List.length_reverse]; congr 1; omega
      unfold co at e3 ⊢
      rw [List.getD_eq_getElem?_getD, e, ← List.getD_eq_getElem?_getD]
      exact e3
  · rw [trimQ_co, h.eq n]
    rcases h.st with ⟨e1, _⟩ | ⟨e1, e2, _⟩
    · rw [e1]
      congr 1
      exact prodc_congr (fun i => by rw [qf_nil]; rfl) n
    · have : 0 < qs.length := List.length_pos_iff.mpr e1
      congr 1
      exact prodc_congr (fun i => qf_rev (by omega) i) n
  · rw [List.length_reverse]; exact h.bq z (List.mem_reverse.mp hz)
  · rw [List.length_reverse]; exact (h.bx z (trimQ_mem hz)).mono mono
  · rw [List.length_reverse]
    rcases h.st with ⟨e1, _⟩ | ⟨e1, e2, _⟩
    · exact .inr (by rw [e1]; rfl)
    · exact .inl (by omega)
/-! ### digits -/
/-- what digits by ys come to -/
def jl (ys : List Rat) : List (List Rat) → List Rat
  | [] => []
  | d :: ds => trimQ (plusQ 1 (timesQ ys (jl ys ds)) d)
theorem jl_co (ys d : List Rat) (ds : List (List Rat)) (n : Nat) : co (jl ys (d :: ds)) n = prodc ys (co (jl ys ds)) n + co d n := by
  show co (trimQ _) n = _
  rw [trimQ_co, plusQ_co, timesQ_co]; grind
theorem jl_told (ys : List Rat) : ∀ ds, Told (jl ys ds)
  | [] => told_nil
  | _ :: _ => trimQ_told _
/-- digits as they are told -/
structure Digs (ys : List Rat) (ds : List (List Rat)) : Prop where
  told : ∀ d ∈ ds, Told d
  len : ∀ d ∈ ds, d.length < ys.length
  last : ∀ d, ds.getLast? = some d → d ≠ []
theorem Digs.tail {ys d : List Rat} {ds : List (List Rat)} (h : Digs ys (d :: ds)) : Digs ys ds :=
  ⟨fun x hx => h.told x (List.mem_cons_of_mem _ hx), fun x hx => h.len x (List.mem_cons_of_mem _ hx), fun x hx => h.last x (by
    cases ds with
    | nil => cases hx
    | cons y r => rw [List.getLast?_cons_cons]; exact hx)⟩
theorem Digs.nil (ys : List Rat) : Digs ys [] := ⟨fun _ h => (by cases h), fun _ h => (by cases h), fun _ h => (by cases h)⟩
theorem jl_nil {ys : List Rat} (y0 : ys ≠ []) (ty : Told ys) : ∀ {ds : List (List Rat)}, Digs ys ds → jl ys ds = [] → ds = []
  | [], _, _ => rfl
  | d :: ds, h, e => by
    have u := div_unique (Q1 := jl ys ds) (Q2 := []) (R1 := d) (R2 := []) y0 ty (jl_told _ _) told_nil (h.told d List.mem_cons_self) told_nil (h.len d List.mem_cons_self) (List.length_pos_iff.mpr y0) fun n => by
      rw [← jl_co, e, prodc_nil_right, co_nil]; grind
    have e2 := jl_nil y0 ty h.tail u.1
    subst e2
    exact absurd u.2 (h.last d rfl)
theorem digs_unique {ys : List Rat} (y0 : ys ≠ []) (ty : Told ys) : ∀ {ds es : List (List Rat)}, Digs ys ds → Digs ys es → jl ys ds = jl ys es → ds = es
  | [], es, _, h2, e => (jl_nil y0 ty h2 e.symm).symm
  | d :: ds, [], h1, _, e => jl_nil y0 ty h1 e
  | d :: ds, f :: es, h1, h2, e => by
    have u := div_unique (Q1 := jl ys ds) (Q2 := jl ys es) (R1 := d) (R2 := f) y0 ty (jl_told _ _) (jl_told _ _) (h1.told d List.mem_cons_self) (h2.told f List.mem_cons_self) (h1.len d List.mem_cons_self) (h2.len f List.mem_cons_self) fun n => by
      rw [← jl_co, ← jl_co, e]
    rw [digs_unique y0 ty h1.tail h2.tail u.1, u.2]
/-- of the first ones and what is left -/
def jlA (ys : List Rat) (ds : List (List Rat)) (l : List Rat) : List Rat := ds.foldr (fun d acc => trimQ (plusQ 1 (timesQ ys acc) d)) l
theorem jlA_snoc (ys : List Rat) (ds : List (List Rat)) (d l : List Rat) : jlA ys (ds ++ [d]) l = jlA ys ds (trimQ (plusQ 1 (timesQ ys l) d)) := by
  unfold jlA; rw [List.foldr_append]; rfl
theorem jlA_nil (ys : List Rat) : ∀ ds, jlA ys ds [] = jl ys ds
  | [] => rfl
  | d :: ds => by
    show trimQ (plusQ 1 (timesQ ys (jlA ys ds [])) d) = _
    rw [jlA_nil ys ds]; rfl
theorem div_join {xs ys qs rs : List Rat} (D : DivR xs ys qs rs) (tx : Told xs) : trimQ (plusQ 1 (timesQ ys qs) rs) = xs := told_ext (trimQ_told _) tx fun n => by
  rw [trimQ_co, plusQ_co, timesQ_co, D.eq]; grind
end Fp

namespace Fp
/-! ### digits: sizes and how it goes on -/
theorem AllS.upN {D s : Int} {M G T N : Nat} {xs : List Rat} (h : AllS (D * s ^ T) (M * G ^ T) xs) (l : T ≤ N) (s0 : s ≠ 0) (sG : s.natAbs ≤ G) : AllS (D * s ^ N) (M * G ^ N) xs := fun x hx => by
  obtain ⟨k, rfl⟩ := Nat.exists_eq_add_of_le l
  have := (h x hx).up (s ^ k) (Int.pow_ne_zero s0)
  rw [Int.mul_assoc, ← Int.pow_add] at this
  refine this.mono ?_
  rw [Int.natAbs_pow, Nat.pow_add, ← Nat.mul_assoc]
  exact Nat.mul_le_mul_left _ (Nat.pow_le_pow_left sG _)
theorem sq_step {a b t n : Nat} (h : a + 1 ≤ b) (l : t + b * b ≤ n) : t + a + a * a ≤ n := by
  have := Nat.mul_le_mul h h
  rw [Nat.add_mul, Nat.mul_add] at this
  omega
/-- digits while they are made -/
structure DgSt (xs ys : List Rat) (D s : Int) (M G N : Nat) (ds : List (List Rat)) (l : List Rat) (T : Nat) : Prop where
  tl : Told l
  jn : jlA ys ds l = xs
  told : ∀ d ∈ ds, Told d
  len : ∀ d ∈ ds, d.length < ys.length
  last : l = [] → ∀ d, ds.getLast? = some d → d ≠ []
  sl : AllS (D * s ^ T) (M * G ^ T) l
  sd : ∀ d ∈ ds, AllS (D * s ^ N) (M * G ^ N) d
  sz : T + l.length * l.length ≤ N
  cnt : ds.length + l.length ≤ xs.length
theorem DgSt.start {xs ys : List Rat} {D s : Int} {M G : Nat} (tx : Told xs) (h : AllS D M xs) : DgSt xs ys D s M G (xs.length * xs.length) [] xs 0 :=
  ⟨tx, rfl, fun _ h => (by cases h), fun _ h => (by cases h), fun _ _ h => (by cases h), by simpa using h, fun _ h => (by cases h), by omega, by simp⟩
theorem DgSt.step {xs ys l qs rs : List Rat} {D s E : Int} {M S N T : Nat} {ds : List (List Rat)} (B : ByQ E s S ys) (y2 : 2 ≤ ys.length) (h : DgSt xs ys D s M (2 * S * E.natAbs) N ds l T) (l0 : l ≠ []) (v : DivS l ys (D * s ^ T) E s (M * (2 * S * E.natAbs) ^ T) S qs rs) :
    DgSt xs ys D s M (2 * S * E.natAbs) N (ds ++ [rs]) qs (T + qs.length) ∧ qs.length < l.length := by
  have ll : 0 < l.length := List.length_pos_iff.mpr l0
  have ql : qs.length + 1 ≤ l.length := by
    rcases v.ln with e | e
    · omega
    · rw [e]; exact ll
  have E1 : 1 ≤ E.natAbs := by have := B.E0; omega
  have sG : s.natAbs ≤ 2 * S * E.natAbs := by
    have := B.sS
    have := Nat.le_mul_of_pos_right (2 * S) E1
    omega
  have sq := sq_step ql h.sz
  have e1 : D * s ^ T * s ^ qs.length = D * s ^ (T + qs.length) := by rw [Int.mul_assoc, ← Int.pow_add]
  have e2 : M * (2 * S * E.natAbs) ^ T * (2 * S * E.natAbs) ^ qs.length = M * (2 * S * E.natAbs) ^ (T + qs.length) := by rw [Nat.mul_assoc, ← Nat.pow_add]
  have sq1 := v.sq
  have sr1 := v.sr
  rw [e1, e2] at sq1 sr1
  refine ⟨⟨v.dv.tq, ?_, fun d hd => ?_, fun d hd => ?_, fun q0 d hd => ?_, sq1, fun d hd => ?_, sq, ?_⟩, ql⟩
  · rw [jlA_snoc, div_join v.dv h.tl]; exact h.jn
  · rcases List.mem_append.mp hd with z | z
    · exact h.told d z
    · rw [List.mem_singleton.mp z]; exact v.dv.tr
  · rcases List.mem_append.mp hd with z | z
    · exact h.len d z
    · rw [List.mem_singleton.mp z]; exact v.dv.lr
  · rw [List.getLast?_concat] at hd
    obtain rfl := Option.some.inj hd
    intro r0
    have j := div_join v.dv h.tl
    rw [q0, r0] at j
    refine l0 ?_
    rw [← j]
    refine told_ext (trimQ_told _) told_nil fun n => ?_
    rw [trimQ_co, plusQ_co, timesQ_co, prodc_nil_right, co_nil]; grind
  · rcases List.mem_append.mp hd with z | z
    · exact h.sd d z
    · rw [List.mem_singleton.mp z]
      exact sr1.upN (by omega) B.s0 sG
  · have := h.cnt
    rw [List.length_append, List.length_singleton]; omega
/-- told at the end -/
structure DgEnd (xs ys : List Rat) (D s : Int) (M G : Nat) (ds : List (List Rat)) : Prop where
  dg : Digs ys ds
  jn : jl ys ds = xs
  sd : ∀ d ∈ ds, AllS (D * s ^ (xs.length * xs.length)) (M * G ^ (xs.length * xs.length)) d
  cnt : ds.length ≤ xs.length
theorem DgSt.done {xs ys : List Rat} {D s : Int} {M G T : Nat} {ds : List (List Rat)} (h : DgSt xs ys D s M G (xs.length * xs.length) ds [] T) : DgEnd xs ys D s M G ds :=
  ⟨⟨h.told, h.len, h.last rfl⟩, by rw [← jlA_nil]; exact h.jn, h.sd, by have := h.cnt; simpa using this⟩
end Fp

namespace Fp
/-! ### digits put together, as the law does it -/
def jw (ys : List Rat) : List (List Rat) → List Rat
  | [] => []
  | d :: ds => plusQ 1 (timesQ (jw ys ds) ys) d
theorem jw_len {ys : List Rat} (y0 : 0 < ys.length) : ∀ {ds : List (List Rat)}, (∀ d ∈ ds, d.length ≤ ys.length) → (jw ys ds).length ≤ ds.length * ys.length
  | [], _ => Nat.zero_le _
  | d :: ds, h => by
    have ih := jw_len y0 (ds := ds) fun x hx => h x (List.mem_cons_of_mem _ hx)
    have hd := h d List.mem_cons_self
    show (plusQ 1 (timesQ (jw ys ds) ys) d).length ≤ (ds.length + 1) * ys.length
    rw [plusQ_len, timesQ_len, Nat.add_mul, Nat.one_mul]; omega
theorem jw_sc {D : Int} {M N : Nat} {ys : List Rat} (sy : AllS 1 N ys) (y0 : 0 < ys.length) : ∀ {ds : List (List Rat)}, (∀ d ∈ ds, d.length ≤ ys.length) → (∀ d ∈ ds, AllS D M d) → ds.length * ys.length ≤ 99 → AllS D (M * (100 * N + 1) ^ ds.length) (jw ys ds)
  | [], _, _, _ => fun _ h => by cases h
  | d :: ds, h, g, l => by
    have l2 : ds.length * ys.length ≤ 99 := by rw [List.length_cons, Nat.add_mul] at l; omega
    have ih := jw_sc sy y0 (ds := ds) (fun x hx => h x (List.mem_cons_of_mem _ hx)) (fun x hx => g x (List.mem_cons_of_mem _ hx)) l2
    have jl := jw_len y0 (ds := ds) fun x hx => h x (List.mem_cons_of_mem _ hx)
    have t := timesQ_sc ih sy
    rw [Int.mul_one] at t
    have p := plusQ_sc (c := 1) (ys := d) (N := M) t fun n => by rw [Rat.one_mul]; exact (g d List.mem_cons_self).co n
    intro x hx
    refine (p x hx).mono ?_
    have e1 : M ≤ M * (100 * N + 1) ^ ds.length := Nat.le_mul_of_pos_right _ (Nat.pow_pos (by omega))
    have e3 : M * (100 * N + 1) ^ (d :: ds).length = M * (100 * N + 1) ^ ds.length * (100 * N + 1) := by rw [List.length_cons, Nat.pow_succ, Nat.mul_assoc]
    rw [e3]
    generalize M * (100 * N + 1) ^ ds.length = X at *
    have e2 : (jw ys ds).length * (X * N) ≤ 100 * (X * N) := Nat.mul_le_mul_right _ (by omega)
    have e4 : X * (100 * N + 1) = 100 * (X * N) + X := by rw [Nat.mul_add, Nat.mul_one, Nat.mul_left_comm]
    omega
theorem jw_le {M N k n l : Nat} (h : k + 1 ≤ n) (hl : l ≤ 99) : l * (M * (100 * N + 1) ^ k * N) ≤ M * (100 * N + 1) ^ n ∧ M * (100 * N + 1) ^ k ≤ M * (100 * N + 1) ^ n := by
  have e1 : M * (100 * N + 1) ^ (k + 1) ≤ M * (100 * N + 1) ^ n := Nat.mul_le_mul_left _ (Nat.pow_le_pow_right (by omega) h)
  have e3 : M * (100 * N + 1) ^ (k + 1) = M * (100 * N + 1) ^ k * (100 * N + 1) := by rw [Nat.pow_succ, Nat.mul_assoc]
  rw [e3] at e1
  generalize M * (100 * N + 1) ^ k = X at *
  have e2 : l * (X * N) ≤ 100 * (X * N) := Nat.mul_le_mul_right _ (by omega)
  have e4 : X * (100 * N + 1) = 100 * (X * N) + X := by rw [Nat.mul_add, Nat.mul_one, Nat.mul_left_comm]
  omega
theorem jw_co (ys : List Rat) : ∀ (ds : List (List Rat)) (zs : List Rat), (∀ n, co zs n = co ys n) → ∀ n, co (jw ys ds) n = co (jl zs ds) n
  | [], _, _, _ => rfl
  | d :: ds, zs, h, n => by
    rw [jl_co]
    show co (plusQ 1 (timesQ (jw ys ds) ys) d) n = _
    rw [plusQ_co, timesQ_co, prodc_comm, Rat.one_mul]
    congr 1
    have ih := jw_co ys ds zs h
    rw [prodc_congr (fun i => ih i), prodc_comm zs, prodc_comm ys]
    exact prodc_congr (fun i => (h i).symm) n
theorem jw_drop {ys : List Rat} {ds : List (List Rat)} {i : Nat} {d : List Rat} (h : ds[i]? = some d) : jw ys (ds.drop i) = plusQ 1 (timesQ (jw ys (ds.drop (i + 1))) ys) d := by
  have li := (List.getElem?_eq_some_iff.mp h).1
  rw [List.drop_eq_getElem_cons li]
  obtain rfl : ds[i] = d := (List.getElem?_eq_some_iff.mp h).2
  rfl
end Fp

namespace Fp
abbrev intQ (zs : List Int) : List Rat := zs.map fun z : Int => (z : Rat)
theorem ints_sc {zs : List Int} {M : Nat} (h : ∀ z ∈ zs, z.natAbs ≤ M) : AllS 1 M (intQ zs) := fun x hx => by
  obtain ⟨z, hz, rfl⟩ := List.mem_map.mp hx
  exact Sc.int (h z hz)
theorem trim_sc {D : Int} {M : Nat} {xs : List Rat} (h : AllS D M xs) : AllS D M (trimQ xs) := fun x hx => h x (trimQ_mem hx)
theorem cast_div_one (s : Int) : (s : Rat) = (s : Rat) / ((1 : Int) : Rat) := by rw [Rat.intCast_one, Rat.div_def, Rat.inv_eq_of_mul_eq_one (Rat.mul_one 1), Rat.mul_one]
theorem byq_of {zs : List Int} {S : Nat} (h : ∀ z ∈ zs, z.natAbs ≤ S) (n : trimQ (intQ zs) ≠ []) : ∃ s : Int, ByQ 1 s S (trimQ (intQ zs)) := by
  obtain ⟨z, hz, e⟩ := List.mem_map.mp (trimQ_mem (mem_last n))
  have t := told_top (trimQ_told (intQ zs)) n
  refine ⟨z, n, trimQ_told _, trim_sc (ints_sc h), by rw [← e]; exact cast_div_one z, fun z0 => t ?_, by decide, h z hz⟩
  rw [← e, z0]; rfl
theorem shift_digs {X Y xs ys : List Rat} {ds es : List (List Rat)} (y0 : Y ≠ []) (ty : Told Y) (d1 : Digs Y ds) (j1 : jl Y ds = X) (d2 : Digs Y es) (j2 : jl Y es = trimQ (timesQ xs ys)) (hx : ∀ n, co X n = co xs n) (hy : ∀ n, co Y n = co ys n) :
    es = if ds = [] then [] else [] :: ds := by
  have e : ∀ n, co (trimQ (timesQ xs ys)) n = prodc Y (co X) n := fun n => by
    rw [trimQ_co, timesQ_co, prodc_congr (fun i => (hy i).symm), prodc_comm, prodc_congr (fun i => (hx i).symm)]
  split
  · rename_i z
    refine jl_nil y0 ty d2 ?_
    rw [j2]
    refine told_ext (trimQ_told _) told_nil fun n => ?_
    rw [e, ← j1, z]
    show prodc Y (co []) n = 0
    rw [prodc_nil_right]
  · rename_i z
    refine digs_unique y0 ty d2 ⟨fun d hd => ?_, fun d hd => ?_, fun d hd => ?_⟩ ?_
    · rcases List.mem_cons.mp hd with q | q
      · rw [q]; exact told_nil
      · exact d1.told d q
    · rcases List.mem_cons.mp hd with q | q
      · rw [q]; exact List.length_pos_iff.mpr y0
      · exact d1.len d q
    · cases ds with
      | nil => exact absurd rfl z
      | cons q r => rw [List.getLast?_cons_cons] at hd; exact d1.last d hd
    · rw [j2]
      refine told_ext (trimQ_told _) (jl_told _ _) fun n => ?_
      rw [e, jl_co, j1, co_nil]; grind
theorem jw_eq {X Y ys : List Rat} {ds : List (List Rat)} (tx : Told X) (j : jl Y ds = X) (hy : ∀ n, co Y n = co ys n) : trimQ (jw ys ds) = X := told_ext (trimQ_told _) tx fun n => by
  rw [trimQ_co, jw_co ys ds Y hy, j]
end Fp

namespace Fp
/-! ### digits added, empty ones taken off -/
def dueL (m : Nat) (ds es : List (List Rat)) : List (List Rat) := (List.range m).map fun i => trimQ (plusQ 1 (ds.getD i []) (es.getD i []))
theorem dueL_succ (m : Nat) (ds es : List (List Rat)) : dueL (m + 1) ds es = trimQ (plusQ 1 (ds.getD 0 []) (es.getD 0 [])) :: dueL m (ds.drop 1) (es.drop 1) := by
  unfold dueL
  rw [List.range_succ_eq_map, List.map_cons, List.map_map]
  congr 1
  refine List.map_congr_left fun i _ => ?_
  show trimQ (plusQ 1 (ds.getD (i + 1) []) (es.getD (i + 1) [])) = trimQ (plusQ 1 ((ds.drop 1).getD i []) ((es.drop 1).getD i []))
  rw [List.getD_eq_getElem?_getD, List.getD_eq_getElem?_getD, List.getD_eq_getElem?_getD, List.getD_eq_getElem?_getD, List.getElem?_drop, List.getElem?_drop, Nat.add_comm 1 i]
theorem jl_head (Y : List Rat) (ds : List (List Rat)) (n : Nat) : co (jl Y ds) n = prodc Y (co (jl Y (ds.drop 1))) n + co (ds.getD 0 []) n := by
  cases ds with
  | nil =>
    show co [] n = prodc Y (co []) n + co [] n
    rw [prodc_nil_right]; grind
  | cons d r => exact jl_co Y d r n
theorem jl_sum (Y : List Rat) : ∀ (m : Nat) (ds es : List (List Rat)), ds.length ≤ m → es.length ≤ m → ∀ n, co (jl Y (dueL m ds es)) n = co (jl Y ds) n + co (jl Y es) n
  | 0, ds, es, h1, h2, n => by
    obtain rfl := List.length_eq_zero_iff.mp (Nat.le_zero.mp h1)
    obtain rfl := List.length_eq_zero_iff.mp (Nat.le_zero.mp h2)
    show co [] n = co [] n + co [] n
    rw [co_nil]; grind
  | m + 1, ds, es, h1, h2, n => by
    have ih := jl_sum Y m (ds.drop 1) (es.drop 1) (by rw [List.length_drop]; omega) (by rw [List.length_drop]; omega)
    rw [dueL_succ, jl_co, prodc_congr ih, prodc_add, trimQ_co, plusQ_co, jl_head Y ds, jl_head Y es]
    grind
theorem jl_take (Y : List Rat) : ∀ (n : Nat) (ds : List (List Rat)), (∀ (j : Nat) d, n ≤ j → ds[j]? = some d → d = []) → ∀ m, co (jl Y (ds.take n)) m = co (jl Y ds) m
  | 0, [], _, m => rfl
  | 0, d :: ds, h, m => by
    have ih := jl_take Y 0 ds (fun j e _ he => h (j + 1) e (Nat.zero_le _) he)
    rw [List.take_zero] at ih ⊢
    rw [jl_co, prodc_congr (fun i => (ih i).symm), h 0 d (Nat.le_refl _) rfl]
    show co [] m = prodc Y (co []) m + co [] m
    rw [prodc_nil_right]; grind
  | n + 1, [], _, m => rfl
  | n + 1, d :: ds, h, m => by
    have ih := jl_take Y n ds (fun j e hj he => h (j + 1) e (by omega) he)
    rw [List.take_succ_cons, jl_co, jl_co, prodc_congr ih]
theorem jl_one {Y d : List Rat} (td : Told d) : jl Y [d] = d := told_ext (jl_told _ _) td fun n => by
  rw [jl_co]
  show prodc Y (co []) n + co d n = co d n
  rw [prodc_nil_right]; grind
end Fp

namespace Fp
/-! ### one polynomial put into another: sizes over any bottoms -/
theorem AllS.lift {D E : Int} {M n : Nat} {xs : List Rat} (h : AllS D M xs) (E0 : E ≠ 0) : AllS (D * E ^ n) (M * E.natAbs ^ n) xs := fun x hx => by
  have := (h x hx).up (E ^ n) (Int.pow_ne_zero E0)
  rw [Int.natAbs_pow] at this
  exact this
theorem jw_scE {D E : Int} {M N : Nat} {ys : List Rat} (sy : AllS E N ys) (E0 : E ≠ 0) (y0 : 0 < ys.length) : ∀ {ds : List (List Rat)}, (∀ d ∈ ds, d.length ≤ ys.length) → (∀ d ∈ ds, AllS D M d) → ds.length * ys.length ≤ 99 → AllS (D * E ^ ds.length) (M * (100 * N + E.natAbs) ^ ds.length) (jw ys ds)
  | [], _, _, _ => fun _ h => by cases h
  | d :: ds, h, g, l => by
    have l2 : ds.length * ys.length ≤ 99 := by rw [List.length_cons, Nat.add_mul] at l; omega
    have ih := jw_scE sy E0 y0 (ds := ds) (fun x hx => h x (List.mem_cons_of_mem _ hx)) (fun x hx => g x (List.mem_cons_of_mem _ hx)) l2
    have jl := jw_len y0 (ds := ds) fun x hx => h x (List.mem_cons_of_mem _ hx)
    have t := timesQ_sc ih sy
    have gd : AllS (D * E ^ (ds.length + 1)) (M * E.natAbs ^ (ds.length + 1)) d := (g d List.mem_cons_self).lift E0
    have eE : D * E ^ ds.length * E = D * E ^ (ds.length + 1) := by rw [Int.pow_succ, Int.mul_assoc]
    rw [eE] at t
    have p := plusQ_sc (c := 1) (ys := d) (N := M * E.natAbs ^ (ds.length + 1)) t fun n => by rw [Rat.one_mul]; exact gd.co n
    intro x hx
    refine (p x hx).mono ?_
    have e1 : M * E.natAbs ^ ds.length ≤ M * (100 * N + E.natAbs) ^ ds.length := Nat.mul_le_mul_left _ (Nat.pow_le_pow_left (by omega) _)
    have e2 := Nat.mul_le_mul_right E.natAbs e1
    have e3 : M * (100 * N + E.natAbs) ^ (d :: ds).length = M * (100 * N + E.natAbs) ^ ds.length * (100 * N + E.natAbs) := by rw [List.length_cons, Nat.pow_succ, Nat.mul_assoc]
    have e5 : M * E.natAbs ^ (ds.length + 1) = M * E.natAbs ^ ds.length * E.natAbs := by rw [Nat.pow_succ, Nat.mul_assoc]
    rw [e3, e5]
    generalize M * (100 * N + E.natAbs) ^ ds.length = X at *
    have e6 : (jw ys ds).length * (X * N) ≤ 100 * (X * N) := Nat.mul_le_mul_right _ (by omega)
    have e4 : X * (100 * N + E.natAbs) = 100 * (X * N) + X * E.natAbs := by rw [Nat.mul_add, Nat.mul_left_comm]
    omega
/-- composition, as numbers: what is put in is told by its digits -/
theorem jl_sing_len {ys : List Rat} {xs : List Rat} (y2 : 2 ≤ ys.length) (tx : Told xs) : Digs ys (xs.map fun x => trimQ [x]) := by
  refine ⟨fun d hd => ?_, fun d hd => ?_, fun d hd => ?_⟩
  · obtain ⟨x, _, rfl⟩ := List.mem_map.mp hd
    exact trimQ_told _
  · obtain ⟨x, _, rfl⟩ := List.mem_map.mp hd
    have := trimQ_len [x]
    rw [List.length_singleton] at this
    omega
  · rw [List.getLast?_map] at hd
    cases e : xs.getLast? with
    | none => rw [e] at hd; cases hd
    | some x =>
      rw [e] at hd
      obtain rfl := Option.some.inj hd
      have x0 : x ≠ 0 := tx x e
      show trimQ [x] ≠ []
      rw [show trimQ [x] = [x] from trimQ_nz (A := []) x0]
      exact List.cons_ne_nil _ _
end Fp

namespace Fp
/-! ### one polynomial put into another: what outer ones are -/
abbrev tsing (xs : List Rat) : List (List Rat) := xs.map fun x => trimQ [x]
abbrev osing (xs : List Rat) : List (List Rat) := xs.map fun x => [x]
theorem jl_cong {Y : List Rat} : ∀ {ds es : List (List Rat)}, ds.length = es.length → (∀ (i : Nat) n, co (ds.getD i []) n = co (es.getD i []) n) → ∀ n, co (jl Y ds) n = co (jl Y es) n
  | [], [], _, _, _ => rfl
  | [], _ :: _, h, _, _ => by simp at h
  | _ :: _, [], h, _, _ => by simp at h
  | d :: ds, e :: es, h, g, n => by
    rw [jl_co, jl_co, prodc_congr (jl_cong (by simpa using h) fun i n => g (i + 1) n), show co d n = co e n from g 0 n]
theorem jl_ts (Y xs : List Rat) (n : Nat) : co (jl Y (tsing xs)) n = co (jl Y (osing xs)) n := by
  refine jl_cong (by simp) (fun i n => ?_) n
  rw [List.getD_eq_getElem?_getD, List.getD_eq_getElem?_getD, List.getElem?_map, List.getElem?_map]
  cases xs[i]? with
  | none => rfl
  | some x => exact trimQ_co [x] n
/-- the head of what is put together of numbers -/
theorem jo_head (Y xs : List Rat) (n : Nat) : co (jl Y (osing xs)) n = prodc Y (co (jl Y (osing (xs.drop 1)))) n + single 0 (co xs 0) n := by
  rw [jl_head]
  congr 1
  · rw [← List.map_drop]
  · cases xs with
    | nil => show co [] n = single 0 (co [] 0) n; unfold single; split <;> rfl
    | cons x r =>
      show co [x] n = single 0 x n
      unfold single
      cases n with
      | zero => rfl
      | succ n => rw [if_neg (by omega), co_out (by simp)]
theorem co_drop1 (xs : List Rat) (n : Nat) : co (xs.drop 1) n = co xs (n + 1) := by rw [co_drop, Nat.add_comm]
theorem prodc_mul (xs : List Rat) (c : Rat) (g : Nat → Rat) (n : Nat) : prodc xs (fun i => c * g i) n = c * prodc xs g n := by
  unfold prodc
  rw [← sumN_mul]
  refine sumN_congr fun i _ => ?_
  unfold sh
  split <;> grind
theorem jo_lin (Y : List Rat) (c : Rat) : ∀ (m : Nat) (xs ys zs : List Rat), xs.length ≤ m → ys.length ≤ m → zs.length ≤ m → (∀ i, co zs i = co xs i + c * co ys i) → ∀ n, co (jl Y (osing zs)) n = co (jl Y (osing xs)) n + c * co (jl Y (osing ys)) n
  | 0, xs, ys, zs, h1, h2, h3, _, n => by
    obtain rfl := List.length_eq_zero_iff.mp (Nat.le_zero.mp h1)
    obtain rfl := List.length_eq_zero_iff.mp (Nat.le_zero.mp h2)
    obtain rfl := List.length_eq_zero_iff.mp (Nat.le_zero.mp h3)
    show co [] n = co [] n + c * co [] n
    rw [co_nil]; grind
  | m + 1, xs, ys, zs, h1, h2, h3, h, n => by
    have ih := jo_lin Y c m (xs.drop 1) (ys.drop 1) (zs.drop 1) (by rw [List.length_drop]; omega) (by rw [List.length_drop]; omega) (by rw [List.length_drop]; omega) (fun i => by rw [co_drop1, co_drop1, co_drop1]; exact h (i + 1))
    have e : ∀ i, co (jl Y (osing (zs.drop 1))) i = (fun i => co (jl Y (osing (xs.drop 1))) i + (fun i => c * co (jl Y (osing (ys.drop 1))) i) i) i := fun i => ih i
    rw [jo_head Y zs, jo_head Y xs, jo_head Y ys, prodc_congr e, prodc_add, prodc_mul, h 0]
    unfold single
    split <;> grind
theorem jo_congr (Y : List Rat) {xs ys : List Rat} (h : ∀ i, co xs i = co ys i) (n : Nat) : co (jl Y (osing xs)) n = co (jl Y (osing ys)) n := by
  have := jo_lin Y 0 (max xs.length ys.length) xs [] ys (by omega) (by simp) (by omega) (fun i => by rw [h i, co_nil]; grind) n
  rw [this]; grind
theorem jo_trim (Y xs : List Rat) (n : Nat) : co (jl Y (osing (trimQ xs))) n = co (jl Y (osing xs)) n := jo_congr Y (trimQ_co xs) n
/-- how long it is -/
theorem jo_len {Y : List Rat} (y2 : 2 ≤ Y.length) (ty : Told Y) : ∀ (xs : List Rat), Told xs → xs ≠ [] → (jl Y (osing xs)).length = (xs.length - 1) * (Y.length - 1) + 1
  | [], _, h => absurd rfl h
  | [x], t, _ => by
    have e : jl Y (osing [x]) = [x] := jl_one (show Told [x] from t)
    rw [e]; simp
  | x :: y :: r, t, _ => by
    have t2 : Told (y :: r) := fun z hz => t z (by rw [List.getLast?_cons_cons]; exact hz)
    have ih := jo_len y2 ty (y :: r) t2 (List.cons_ne_nil _ _)
    generalize hZ : jl Y (osing (y :: r)) = Z at ih
    have tZ : Told Z := by rw [← hZ]; exact jl_told _ _
    have z0 : Z ≠ [] := fun e => by rw [e] at ih; simp at ih
    have zl : 0 < Z.length := List.length_pos_iff.mpr z0
    have tl := timesQ_len Y Z
    have tt : Told (timesQ Y Z) := prod_told ty tZ (fun e => by rw [e] at y2; simp at y2) z0 tl (timesQ_co Y Z)
    have w : Told (plusQ 1 (timesQ Y Z) [x]) := told_of_top fun _ => by
      rw [plusQ_len, List.length_singleton, plusQ_co, co_out (xs := [x]) (by rw [List.length_singleton]; omega)]
      have := told_top tt (fun e => by rw [e] at tl; simp at tl; omega)
      rw [show max (timesQ Y Z).length 1 - 1 = (timesQ Y Z).length - 1 by omega]
      intro e
      exact this (by grind)
    show (trimQ (plusQ 1 (timesQ Y (jl Y (osing (y :: r)))) [x])).length = _
    rw [hZ, trimQ_id w, plusQ_len, tl, List.length_singleton, ih]
    simp only [List.length_cons, Nat.add_sub_cancel]
    rw [Nat.add_mul]
    generalize r.length * (Y.length - 1) = q
    omega
/-- digits that are numbers -/
theorem sing_of {Y : List Rat} {ds : List (List Rat)} (d : Digs Y ds) (one : ∀ x ∈ ds, x.length ≤ 1) : ds = tsing (ds.map fun x => co x 0) ∧ Told (ds.map fun x => co x 0) := by
  refine ⟨?_, fun z hz => ?_⟩
  · unfold tsing
    rw [List.map_map]
    refine (List.map_id ds).symm.trans (List.map_congr_left fun x hx => ?_)
    show x = trimQ [co x 0]
    have l := one x hx
    match x, l, d.told x hx with
    | [], _, _ => exact (trimQ_zero (A := []) rfl).symm
    | [a], _, t => exact (trimQ_nz (A := []) (t a rfl)).symm
  · rw [List.getLast?_map] at hz
    cases e : ds.getLast? with
    | none => rw [e] at hz; cases hz
    | some x =>
      rw [e] at hz
      obtain rfl := Option.some.inj hz
      have n := d.last x e
      have mx := List.mem_of_getLast? e
      match x, one x mx, d.told x mx, n with
      | [], _, _, n => exact absurd rfl n
      | [a], _, t, _ => exact t a rfl
theorem ts_one (zs : List Rat) : ∀ x ∈ tsing zs, x.length ≤ 1 := fun x hx => by
  obtain ⟨z, _, rfl⟩ := List.mem_map.mp hx
  have := trimQ_len [z]
  simpa using this
theorem ts_co (zs : List Rat) : (tsing zs).map (fun x => co x 0) = zs := by
  rw [List.map_map]
  refine (List.map_congr_left fun x _ => ?_).trans (List.map_id zs)
  show co (trimQ [x]) 0 = x
  rw [trimQ_co]; rfl
/-- what was put together of numbers is told back -/
theorem outer_back {Y zs : List Rat} {ds : List (List Rat)} (y0 : Y ≠ []) (y2 : 2 ≤ Y.length) (ty : Told Y) (tz : Told zs) (d : Digs Y ds) (e : ∀ n, co (jl Y ds) n = co (jl Y (osing zs)) n) : ds = tsing zs :=
  digs_unique y0 ty d (jl_sing_len y2 tz) (told_ext (jl_told _ _) (jl_told _ _) fun n => by rw [e n, jl_ts])
/-- a power more that is no multiple -/
theorem no_outer {Y zs : List Rat} {ds : List (List Rat)} {c : Rat} {m : Nat} (y2 : 2 ≤ Y.length) (ty : Told Y) (c0 : c ≠ 0) (d : Digs Y ds) (e : ∀ n, co (jl Y ds) n = co (jl Y (osing zs)) n + single m c n) (one : ∀ x ∈ ds, x.length ≤ 1) : m % (Y.length - 1) = 0 := by
  obtain ⟨ed, tw⟩ := sing_of d one
  generalize ds.map (fun x => co x 0) = ws at *
  subst ed
  have lin := jo_lin Y (-1) (max ws.length zs.length) ws zs (plusQ (-1) ws zs) (by omega) (by omega) (by rw [plusQ_len]; omega) (plusQ_co (-1) ws zs)
  have eU : ∀ n, co (jl Y (osing (trimQ (plusQ (-1) ws zs)))) n = single m c n := fun n => by
    have := e n
    rw [jl_ts] at this
    rw [jo_trim, lin n, this]; grind
  generalize hU : trimQ (plusQ (-1) ws zs) = us at *
  have tu : Told us := by rw [← hU]; exact trimQ_told _
  by_cases u0 : us = []
  · have := eU m
    rw [u0] at this
    exact absurd (by unfold single at this; rw [if_pos rfl] at this; exact this.symm) c0
  have len := jo_len y2 ty us tu u0
  have tj := jl_told Y (osing us)
  have top := told_top tj (fun z => by rw [z] at len; simp at len)
  rw [eU, len, Nat.add_sub_cancel] at top
  unfold single at top
  by_cases h : (us.length - 1) * (Y.length - 1) = m
  · rw [← h]; exact Nat.mul_mod_left _ _
  · rw [if_neg h] at top; exact absurd rfl top
theorem prodc_id (n : Nat) (g : Nat → Rat) : prodc [0, 1] g n = if n = 0 then 0 else g (n - 1) := by
  show (0 + (0 : Rat) * sh 0 g n) + 1 * sh 1 g n = _
  unfold sh
  by_cases h : n = 0
  · subst h; simp; grind
  · rw [if_neg (by omega), if_neg (by omega), if_neg h]; grind
/-- by t -/
theorem jo_id : ∀ (xs : List Rat) (n : Nat), co (jl [0, 1] (osing xs)) n = co xs n
  | [], n => rfl
  | x :: xs, n => by
    rw [jo_head, prodc_id]
    unfold single
    show (if n = 0 then 0 else co (jl [0, 1] (osing xs)) (n - 1)) + (if n = 0 then x else 0) = _
    rw [jo_id xs]
    cases n with
    | zero => show (0 : Rat) + x = x; grind
    | succ n => show co xs n + 0 = co xs n; grind
/-- by itself -/
theorem jo_self (Y : List Rat) (n : Nat) : co (jl Y (osing [0, 1])) n = co Y n := by
  rw [jo_head]
  show prodc Y (co (jl Y [[1]])) n + single 0 0 n = co Y n
  rw [jl_one (show Told [1] from fun z hz => by obtain rfl := Option.some.inj hz; decide), prodc_one Y 1 [1] fun i => by
    unfold single
    cases i with
    | zero => rfl
    | succ i => rw [if_neg (by omega), co_out (by simp)]]
  unfold single
  split <;> grind
theorem told_id : Told [0, 1] := fun z hz => by obtain rfl := Option.some.inj hz; decide
/-- t, by a line, and back -/
theorem jo_line {b0 b1 : Rat} (h : b1 ≠ 0) (n : Nat) : co (jl [b0, b1] (osing [-b0 / b1, 1 / b1])) n = co [0, 1] n := by
  have e1 : b1 * (1 / b1) = 1 := by rw [Rat.div_def, Rat.one_mul, Rat.mul_inv_cancel _ h]
  have e2 : -b0 / b1 = -b0 * (1 / b1) := by rw [Rat.div_def, Rat.div_def, Rat.one_mul]
  rw [jo_head]
  show prodc [b0, b1] (co (jl [b0, b1] [[1 / b1]])) n + single 0 (-b0 / b1) n = _
  have t1 : Told [1 / b1] := fun z hz => by
    have hz : 1 / b1 = z := Option.some.inj hz
    intro w
    rw [hz, w] at e1; grind
  rw [jl_one t1, e2]
  generalize 1 / b1 = q at *
  show ((0 + b0 * sh 0 (co [q]) n) + b1 * sh 1 (co [q]) n) + single 0 (-b0 * q) n = _
  unfold sh single
  match n with
  | 0 => show ((0 + b0 * q) + b1 * 0) + -b0 * q = 0; grind
  | 1 => show ((0 + b0 * 0) + b1 * q) + 0 = 1; grind
  | n + 2 =>
    rw [if_neg (by omega), if_neg (by omega), if_neg (by omega), co_out (by simp), co_out (by simp), co_out (by simp)]; grind
theorem jo_back {b0 b1 : Rat} (h : b1 ≠ 0) (n : Nat) : co (jl [-b0 / b1, 1 / b1] (osing [b0, b1])) n = co [0, 1] n := by
  have e1 : b1 * (1 / b1) = 1 := by rw [Rat.div_def, Rat.one_mul, Rat.mul_inv_cancel _ h]
  have e2 : -b0 / b1 = -b0 * (1 / b1) := by rw [Rat.div_def, Rat.div_def, Rat.one_mul]
  rw [jo_head, e2]
  generalize 1 / b1 = q at *
  show prodc [-b0 * q, q] (co (jl [-b0 * q, q] [[b1]])) n + single 0 b0 n = _
  rw [jl_one (show Told [b1] from fun z hz => by obtain rfl := Option.some.inj hz; exact h)]
  show ((0 + -b0 * q * sh 0 (co [b1]) n) + q * sh 1 (co [b1]) n) + single 0 b0 n = _
  unfold sh single
  match n with
  | 0 => show ((0 + -b0 * q * b1) + q * 0) + b0 = 0; grind
  | 1 => show ((0 + -b0 * q * 0) + q * b1) + 0 = 1; grind
  | n + 2 =>
    rw [if_neg (by omega), if_neg (by omega), if_neg (by omega), co_out (by simp), co_out (by simp), co_out (by simp)]; grind
/-- as the law puts it together -/
theorem jw_jo {ys Y : List Rat} (h : ∀ n, co Y n = co ys n) (xs : List Rat) (n : Nat) : co (jw ys (osing xs)) n = co (jl Y (osing xs)) n := jw_co ys _ Y h n
theorem jw_scL {D E : Int} {M N L : Nat} {ys : List Rat} (sy : AllS E N ys) (E0 : E ≠ 0) (y0 : 0 < ys.length) : ∀ {ds : List (List Rat)}, (∀ d ∈ ds, d.length ≤ ys.length) → (∀ d ∈ ds, AllS D M d) → ds.length * ys.length ≤ L → AllS (D * E ^ ds.length) (M * (L * N + E.natAbs) ^ ds.length) (jw ys ds)
  | [], _, _, _ => fun _ h => by cases h
  | d :: ds, h, g, l => by
    have l2 : ds.length * ys.length ≤ L := by rw [List.length_cons, Nat.add_mul] at l; omega
    have ih := jw_scL sy E0 y0 (ds := ds) (fun x hx => h x (List.mem_cons_of_mem _ hx)) (fun x hx => g x (List.mem_cons_of_mem _ hx)) l2
    have jl := jw_len y0 (ds := ds) fun x hx => h x (List.mem_cons_of_mem _ hx)
    have t := timesQ_sc ih sy
    have gd : AllS (D * E ^ (ds.length + 1)) (M * E.natAbs ^ (ds.length + 1)) d := (g d List.mem_cons_self).lift E0
    have eE : D * E ^ ds.length * E = D * E ^ (ds.length + 1) := by rw [Int.pow_succ, Int.mul_assoc]
    rw [eE] at t
    have p := plusQ_sc (c := 1) (ys := d) (N := M * E.natAbs ^ (ds.length + 1)) t fun n => by rw [Rat.one_mul]; exact gd.co n
    intro x hx
    refine (p x hx).mono ?_
    have e1 : M * E.natAbs ^ ds.length ≤ M * (L * N + E.natAbs) ^ ds.length := Nat.mul_le_mul_left _ (Nat.pow_le_pow_left (by omega) _)
    have e2 := Nat.mul_le_mul_right E.natAbs e1
    have e3 : M * (L * N + E.natAbs) ^ (d :: ds).length = M * (L * N + E.natAbs) ^ ds.length * (L * N + E.natAbs) := by rw [List.length_cons, Nat.pow_succ, Nat.mul_assoc]
    have e5 : M * E.natAbs ^ (ds.length + 1) = M * E.natAbs ^ ds.length * E.natAbs := by rw [Nat.pow_succ, Nat.mul_assoc]
    rw [e3, e5]
    generalize M * (L * N + E.natAbs) ^ ds.length = X at *
    have e6 : (jw ys ds).length * (X * N) ≤ L * (X * N) := Nat.mul_le_mul_right _ (by omega)
    have e4 : X * (L * N + E.natAbs) = L * (X * N) + X * E.natAbs := by rw [Nat.mul_add, Nat.mul_left_comm]
    omega
theorem osing_sc {D : Int} {M : Nat} {xs : List Rat} (h : AllS D M xs) : ∀ d ∈ osing xs, AllS D M d := fun d hd z hz => by
  obtain ⟨x, hx, rfl⟩ := List.mem_map.mp hd
  rw [List.mem_singleton.mp hz]; exact h x hx
theorem osing_one {xs ys : List Rat} (y0 : 0 < ys.length) : ∀ d ∈ osing xs, d.length ≤ ys.length := fun d hd => by
  obtain ⟨x, _, rfl⟩ := List.mem_map.mp hd
  exact y0
theorem AllS.conv {D E : Int} {M N : Nat} {xs : List Rat} (h : AllS D M xs) (e : E = D) (l : M ≤ N) : AllS E N xs := fun x hx => by rw [e]; exact (h x hx).mono l
theorem pow_mono {a b m n : Nat} (h : m ≤ n) (l : a ≤ b) (b1 : 1 ≤ b) : a ^ m ≤ b ^ n := Nat.le_trans (Nat.pow_le_pow_left l m) (Nat.pow_le_pow_right b1 h)
/-- put in, small: over one bottom that does not hang on the length -/
theorem jw_small {D E F : Int} {M N L n B : Nat} {xs ys : List Rat} (sx : AllS D M xs) (sy : AllS E N ys) (E0 : E ≠ 0) (y0 : 0 < ys.length) (l : xs.length * ys.length ≤ L) (ln : xs.length ≤ n) (eF : F = D * E ^ n) (hB : M * (L * N + E.natAbs) ^ n ≤ B) : AllS F B (jw ys (osing xs)) := by
  have lo : (osing xs).length = xs.length := by simp
  have h := jw_scL sy E0 y0 (ds := osing xs) (osing_one y0) (osing_sc sx) (by rw [lo]; exact l)
  rw [lo] at h
  obtain ⟨k, rfl⟩ := Nat.exists_eq_add_of_le ln
  have h2 : AllS (D * E ^ xs.length * E ^ k) (M * (L * N + E.natAbs) ^ xs.length * E.natAbs ^ k) (jw ys (osing xs)) := h.lift E0
  refine h2.conv (by rw [eF, Int.pow_add, Int.mul_assoc]) (Nat.le_trans ?_ hB)
  rw [Nat.pow_add, ← Nat.mul_assoc]
  exact Nat.mul_le_mul_left _ (Nat.pow_le_pow_left (by omega) _)
end Fp

namespace Fp
/-! ### numbers packed into one -/
def pk (w : Nat) : List Int → Int
  | [] => 0
  | x :: r => x + 2 ^ w * pk w r
theorem p2pos (n : Nat) : (0 : Int) < 2 ^ n := Int.pow_pos (by decide)
theorem p2add (a b : Nat) : (2 : Int) ^ (a + b) = 2 ^ a * 2 ^ b := Int.pow_add 2 a b
theorem pk_app (w : Nat) : ∀ (xs ys : List Int), pk w (xs ++ ys) = pk w xs + 2 ^ (w * xs.length) * pk w ys
  | [], ys => by show pk w ys = 0 + 2 ^ (w * 0) * pk w ys; simp
  | x :: xs, ys => by
    show x + 2 ^ w * pk w (xs ++ ys) = x + 2 ^ w * pk w xs + 2 ^ (w * (xs.length + 1)) * pk w ys
    rw [pk_app w xs ys, Nat.mul_add, Nat.mul_one, p2add, Int.mul_add]
    generalize (2 : Int) ^ w = a
    generalize (2 : Int) ^ (w * xs.length) = b
    grind
/-- two by two -/
def pairs (w : Nat) : List Int → List Int
  | [] => []
  | [a] => [a + 0 * 2 ^ w]
  | a :: b :: r => (a + b * 2 ^ w) :: pairs w r
theorem pairs_pk (w : Nat) : ∀ xs : List Int, pk (2 * w) (pairs w xs) = pk w xs
  | [] => rfl
  | [a] => by show a + 0 * 2 ^ w + 2 ^ (2 * w) * 0 = a + 2 ^ w * 0; grind
  | a :: b :: r => by
    show a + b * 2 ^ w + 2 ^ (2 * w) * pk (2 * w) (pairs w r) = a + 2 ^ w * (b + 2 ^ w * pk w r)
    rw [pairs_pk w r, Nat.two_mul, p2add]; grind
theorem pairs_len (w : Nat) : ∀ xs : List Int, (pairs w xs).length = (xs.length + 1) / 2
  | [] => by simp [pairs]
  | [_] => by simp [pairs]
  | _ :: _ :: r => by
    show (pairs w r).length + 1 = (r.length + 2 + 1) / 2
    rw [pairs_len w r]; omega
theorem pairs_at (w : Nat) : ∀ (xs : List Int) (i : Nat), (pairs w xs)[i]? = (xs[2 * i]?).map fun a => a + (xs[2 * i + 1]?).getD 0 * 2 ^ w
  | [], i => by simp [pairs]
  | [a], 0 => rfl
  | [a], i + 1 => by show ([] : List Int)[i]? = (([] : List Int)[2 * i + 1]?).map _; simp
  | a :: b :: r, 0 => rfl
  | a :: b :: r, i + 1 => pairs_at w r i
/-- how large the parts are -/
def PkB (b w : Nat) (xs : List Int) : Prop := ∀ x ∈ xs, x.natAbs ≤ 2 ^ b * (2 ^ w - 1)
theorem PkB.pairs {b w : Nat} : ∀ {xs : List Int}, PkB b w xs → PkB b (2 * w) (pairs w xs)
  | [], _ => fun x h => by cases h
  | [a], h => fun x hx => by
    rw [show x = a + 0 * 2 ^ w from List.mem_singleton.mp hx, Int.zero_mul, Int.add_zero]
    refine Nat.le_trans (h a (List.mem_singleton.mpr rfl)) (Nat.mul_le_mul_left _ ?_)
    have := Nat.pow_le_pow_right (show 0 < 2 by decide) (show w ≤ 2 * w by omega)
    omega
  | a :: b' :: r, h => fun x hx => by
    rcases List.mem_cons.mp hx with e | e
    · have h1 := h a List.mem_cons_self
      have h2 := h b' (List.mem_cons_of_mem _ List.mem_cons_self)
      rw [e]
      have h3 := Int.natAbs_add_le a (b' * 2 ^ w)
      rw [Int.natAbs_mul, Int.natAbs_pow] at h3
      have h4 := Nat.mul_le_mul_right (2 ^ w) h2
      have e5 : 2 ^ b * (2 ^ (2 * w) - 1) = 2 ^ b * (2 ^ w - 1) + 2 ^ b * (2 ^ w - 1) * 2 ^ w := by
        have p := Nat.two_pow_pos w
        obtain ⟨q, hq⟩ : ∃ q, 2 ^ w = q + 1 := ⟨2 ^ w - 1, by omega⟩
        rw [Nat.two_mul, Nat.pow_add, hq]
        have : (q + 1) * (q + 1) - 1 = q + q * (q + 1) := by grind
        rw [this]
        grind
      rw [e5]
      have e6 : (2 : Int).natAbs ^ w = 2 ^ w := rfl
      rw [e6] at h3
      omega
    · exact PkB.pairs (xs := r) (fun y hy => h y (List.mem_cons_of_mem _ (List.mem_cons_of_mem _ hy))) x e
theorem PkB.start {b w : Nat} {xs : List Int} (h : ∀ x ∈ xs, x.natAbs ≤ 2 ^ b) (w1 : 1 ≤ w) : PkB b w xs := fun x hx => by
  refine Nat.le_trans (h x hx) (Nat.le_mul_of_pos_right _ ?_)
  have := Nat.pow_le_pow_right (show 0 < 2 by decide) w1
  omega
theorem PkB.bits {b w : Nat} {xs : List Int} (h : PkB b w xs) {x : Int} (hx : x ∈ xs) : x.natAbs < 2 ^ (b + w) := by
  have := h x hx
  rw [Nat.pow_add]
  refine Nat.lt_of_le_of_lt this ?_
  have p1 := Nat.two_pow_pos b
  have p2 := Nat.two_pow_pos w
  exact Nat.mul_lt_mul_of_pos_left (by omega) p1
/-! ### and back -/
/-- rests of a slot each -/
def InS (w : Nat) (ds : List Int) : Prop := ∀ d ∈ ds, 0 ≤ d ∧ d < 2 ^ w
theorem pk_in {w : Nat} : ∀ {ds : List Int}, InS w ds → 0 ≤ pk w ds ∧ pk w ds < 2 ^ (w * ds.length)
  | [], _ => ⟨Int.le_refl _, by show (0 : Int) < 2 ^ (w * 0); simp⟩
  | d :: r, h => by
    obtain ⟨a, b⟩ := pk_in (ds := r) fun x hx => h x (List.mem_cons_of_mem _ hx)
    obtain ⟨d0, d1⟩ := h d List.mem_cons_self
    have p := p2pos w
    refine ⟨?_, ?_⟩
    · have := Int.mul_nonneg (Int.le_of_lt p) a
      show 0 ≤ d + 2 ^ w * pk w r
      omega
    · show d + 2 ^ w * pk w r < 2 ^ (w * (r.length + 1))
      rw [Nat.mul_add, Nat.mul_one, p2add, Int.mul_comm (2 ^ (w * r.length))]
      have : 2 ^ w * (pk w r + 1) ≤ 2 ^ w * 2 ^ (w * r.length) := Int.mul_le_mul_of_nonneg_left (by omega) (Int.le_of_lt p)
      rw [Int.mul_add, Int.mul_one] at this
      omega
/-- parted in the middle -/
theorem pk_low {w : Nat} {as bs : List Int} (h : InS w as) : pk w (as ++ bs) % 2 ^ (w * as.length) = pk w as := by
  obtain ⟨a, b⟩ := pk_in h
  rw [pk_app, Int.add_mul_emod_self_left, Int.emod_eq_of_lt a b]
theorem pk_high {w : Nat} {as bs : List Int} (h : InS w as) : pk w (as ++ bs) / 2 ^ (w * as.length) = pk w bs := by
  obtain ⟨a, b⟩ := pk_in h
  rw [pk_app, Int.add_mul_ediv_left _ _ (Int.ne_of_gt (p2pos _)), Int.ediv_eq_zero_of_lt a b, Int.zero_add]
/-- each one parted -/
def split2 (w : Nat) (xs : List Int) : List Int := (xs.map fun x => [x % 2 ^ w, x / 2 ^ w]).flatten
/-- the packed pieces of k numbers each -/
def pieces (w k : Nat) : Nat → List Int → List Int
  | 0, _ => []
  | n + 1, ds => pk w (ds.take k) :: pieces w k n (ds.drop k)
theorem pieces_split {w k : Nat} : ∀ (n : Nat) {ds : List Int}, InS w ds → ds.length = n * (2 * k) → split2 (w * k) (pieces w (2 * k) n ds) = pieces w k (2 * n) ds
  | 0, _, _, _ => rfl
  | n + 1, ds, h, l => by
    have e : ds.take (2 * k) = ds.take k ++ (ds.drop k).take k := by rw [Nat.two_mul, List.take_add]
    have l1 : (ds.take k).length = k := by rw [List.length_take]; rw [Nat.add_mul] at l; omega
    have hi : InS w (ds.take k) := fun d hd => h d (List.mem_of_mem_take hd)
    have ih := pieces_split (w := w) (k := k) n (ds := ds.drop (2 * k)) (fun d hd => h d (List.mem_of_mem_drop hd)) (by rw [List.length_drop, l, Nat.add_mul]; omega)
    show [pk w (ds.take (2 * k)) % 2 ^ (w * k), pk w (ds.take (2 * k)) / 2 ^ (w * k)] ++ split2 (w * k) (pieces w (2 * k) n (ds.drop (2 * k))) = _
    have lo := pk_low (w := w) (bs := (ds.drop k).take k) hi
    have hh := pk_high (w := w) (bs := (ds.drop k).take k) hi
    rw [l1] at lo hh
    rw [ih, e, lo, hh, show 2 * (n + 1) = 2 * n + 1 + 1 by omega]
    show _ = pk w (ds.take k) :: pk w ((ds.drop k).take k) :: pieces w k (2 * n) ((ds.drop k).drop k)
    rw [List.drop_drop, ← Nat.two_mul]; rfl
theorem pieces_one {w : Nat} : ∀ (n : Nat) {ds : List Int}, ds.length = n → pieces w 1 n ds = ds
  | 0, ds, l => (List.length_eq_zero_iff.mp l).symm
  | n + 1, [], l => by simp at l
  | n + 1, d :: r, l => by
    show pk w [d] :: pieces w 1 n r = d :: r
    rw [pieces_one n (by simpa using l)]
    congr 1
    show d + 2 ^ w * 0 = d
    omega
theorem pieces_len (w k : Nat) : ∀ (n : Nat) (ds : List Int), (pieces w k n ds).length = n
  | 0, _ => rfl
  | n + 1, ds => by show (pieces w k n (ds.drop k)).length + 1 = n + 1; rw [pieces_len w k n]
/-- all halves -/
def halves (w : Nat) : Nat → Int
  | 0 => 2 ^ (w - 1)
  | j + 1 => halves w j + halves w j * 2 ^ (w * 2 ^ j)
theorem halves_pk (w : Nat) : ∀ j, halves w j = pk w (List.replicate (2 ^ j) (2 ^ (w - 1)))
  | 0 => by show _ = (2 : Int) ^ (w - 1) + 2 ^ w * 0; show (2 : Int) ^ (w - 1) = _; omega
  | j + 1 => by
    show halves w j + halves w j * 2 ^ (w * 2 ^ j) = _
    rw [Nat.pow_succ, Nat.mul_two, ← List.replicate_append_replicate, pk_app, List.length_replicate, ← halves_pk w j, Int.mul_comm]
theorem halves_bits {w : Nat} (w1 : 1 ≤ w) (j : Nat) : (halves w j).natAbs < 2 ^ (w * 2 ^ j) := by
  have h : InS w (List.replicate (2 ^ j) ((2 : Int) ^ (w - 1))) := fun d hd => by
    rw [(List.mem_replicate.mp hd).2]
    have e : (2 : Int) ^ w = 2 ^ (w - 1) + 2 ^ (w - 1) := by
      have := p2add (w - 1) 1
      rw [show w - 1 + 1 = w by omega] at this
      rw [this]; omega
    have p := p2pos (w - 1)
    omega
  obtain ⟨a, b⟩ := pk_in h
  rw [← halves_pk, List.length_replicate] at b
  rw [← halves_pk] at a
  have b2 : ((halves w j).natAbs : Int) < ((2 ^ (w * 2 ^ j) : Nat) : Int) := by
    rw [Int.natAbs_of_nonneg a]
    exact_mod_cast b
  exact_mod_cast b2
theorem split2_snoc (w : Nat) (xs : List Int) (x : Int) : split2 w (xs ++ [x]) = split2 w xs ++ [x % 2 ^ w, x / 2 ^ w] := by
  unfold split2; rw [List.map_append, List.flatten_append]; simp
theorem split2_len (w : Nat) (xs : List Int) : (split2 w xs).length = 2 * xs.length := by
  induction xs with
  | nil => rfl
  | cons x r ih =>
    show ([x % 2 ^ w, x / 2 ^ w] ++ split2 w r).length = 2 * (r.length + 1)
    rw [List.length_append, ih]; show 2 + _ = _; omega
theorem pk_add (w : Nat) : ∀ (xs ys : List Int), xs.length = ys.length → pk w xs + pk w ys = pk w (List.zipWith (· + ·) xs ys)
  | [], [], _ => rfl
  | [], _ :: _, h => by simp at h
  | _ :: _, [], h => by simp at h
  | x :: xs, y :: ys, h => by
    have := pk_add w xs ys (by simpa using h)
    show x + 2 ^ w * pk w xs + (y + 2 ^ w * pk w ys) = x + y + 2 ^ w * pk w (List.zipWith (· + ·) xs ys)
    rw [← this]; grind
theorem pk_zeros (w : Nat) : ∀ n, pk w (List.replicate n 0) = 0
  | 0 => rfl
  | n + 1 => by show 0 + 2 ^ w * pk w (List.replicate n 0) = 0; rw [pk_zeros w n]; simp
/-- the whole way back -/
theorem unpack {w j : Nat} {cs : List Int} (w1 : 1 ≤ w) (l : cs.length ≤ 2 ^ j) (h : ∀ c ∈ cs, c.natAbs < 2 ^ (w - 1)) :
    ∃ ds : List Int, InS w ds ∧ ds.length = 2 ^ j ∧ pk w cs + halves w j = pk w ds ∧ ds.map (fun d => d - 2 ^ (w - 1)) = cs ++ List.replicate (2 ^ j - cs.length) 0 := by
  refine ⟨(cs ++ List.replicate (2 ^ j - cs.length) 0).map fun c => c + 2 ^ (w - 1), ?_, ?_, ?_, ?_⟩
  · intro d hd
    obtain ⟨c, hc, rfl⟩ := List.mem_map.mp hd
    have e : (2 : Int) ^ w = 2 ^ (w - 1) + 2 ^ (w - 1) := by
      have := p2add (w - 1) 1
      rw [show w - 1 + 1 = w by omega] at this
      rw [this]; omega
    have p := p2pos (w - 1)
    have b : c.natAbs < 2 ^ (w - 1) := by
      rcases List.mem_append.mp hc with z | z
      · exact h c z
      · rw [(List.mem_replicate.mp z).2]; exact Nat.two_pow_pos _
    have b2 : ((c.natAbs : Nat) : Int) < 2 ^ (w - 1) := by exact_mod_cast b
    rw [e]
    omega
  · rw [List.length_map, List.length_append, List.length_replicate]; omega
  · have e1 : pk w cs = pk w (cs ++ List.replicate (2 ^ j - cs.length) 0) := by rw [pk_app, pk_zeros]; simp
    rw [halves_pk, e1, pk_add w _ _ (by rw [List.length_append, List.length_replicate, List.length_replicate]; omega)]
    congr 1
    refine List.ext_getElem (by simp; omega) fun i h1 h2 => by
      rw [List.getElem_zipWith, List.getElem_replicate, List.getElem_map]
  · rw [List.map_map]
    refine (List.map_congr_left fun c _ => ?_).trans (List.map_id _)
    show c + 2 ^ (w - 1) - 2 ^ (w - 1) = c
    omega
end Fp

namespace Fp
/-! ### sums of products of whole polynomials -/
def addL : List Int → List Int → List Int
  | [], ys => ys
  | x :: xs, [] => x :: xs
  | x :: xs, y :: ys => (x + y) :: addL xs ys
def smL (n : Int) (xs : List Int) : List Int := xs.map fun x => n * x
def mulL : List Int → List Int → List Int
  | [], _ => []
  | x :: xs, ys => addL (smL x ys) (0 :: mulL xs ys)
theorem addL_at : ∀ (xs ys : List Int) (i : Nat), (addL xs ys).getD i 0 = xs.getD i 0 + ys.getD i 0
  | [], ys, i => by show ys.getD i 0 = 0 + ys.getD i 0; omega
  | x :: xs, [], i => by show (x :: xs).getD i 0 = (x :: xs).getD i 0 + 0; omega
  | x :: xs, y :: ys, 0 => rfl
  | x :: xs, y :: ys, i + 1 => addL_at xs ys i
theorem smL_at (n : Int) (xs : List Int) (i : Nat) : (smL n xs).getD i 0 = n * xs.getD i 0 := by
  unfold smL
  rw [List.getD_eq_getElem?_getD, List.getD_eq_getElem?_getD, List.getElem?_map]
  cases xs[i]? with
  | none => show (0 : Int) = n * 0; omega
  | some x => rfl
theorem addL_len : ∀ xs ys : List Int, (addL xs ys).length = max xs.length ys.length
  | [], ys => by show ys.length = max 0 ys.length; omega
  | x :: xs, [] => by show xs.length + 1 = max (xs.length + 1) 0; omega
  | x :: xs, y :: ys => by
    show (addL xs ys).length + 1 = max (xs.length + 1) (ys.length + 1)
    rw [addL_len xs ys]; omega
theorem smL_len (n : Int) (xs : List Int) : (smL n xs).length = xs.length := List.length_map _
theorem mulL_len : ∀ (xs ys : List Int), xs ≠ [] → ys ≠ [] → (mulL xs ys).length = xs.length + ys.length - 1
  | [], _, h, _ => absurd rfl h
  | [x], ys, _, h => by
    show (addL (smL x ys) [0]).length = _
    have := List.length_pos_iff.mpr h
    rw [addL_len, smL_len]; simp; omega
  | x :: y :: r, ys, _, h => by
    have ih := mulL_len (y :: r) ys (List.cons_ne_nil _ _) h
    have := List.length_pos_iff.mpr h
    show (addL (smL x ys) (0 :: mulL (y :: r) ys)).length = _
    rw [addL_len, smL_len, List.length_cons, ih]; simp only [List.length_cons]; omega
theorem pk_addL (w : Nat) : ∀ xs ys : List Int, pk w (addL xs ys) = pk w xs + pk w ys
  | [], ys => by show pk w ys = 0 + pk w ys; omega
  | x :: xs, [] => by show pk w (x :: xs) = pk w (x :: xs) + 0; omega
  | x :: xs, y :: ys => by
    show x + y + 2 ^ w * pk w (addL xs ys) = x + 2 ^ w * pk w xs + (y + 2 ^ w * pk w ys)
    rw [pk_addL w xs ys]; grind
theorem pk_smL (w : Nat) (n : Int) : ∀ xs : List Int, pk w (smL n xs) = n * pk w xs
  | [] => by show (0 : Int) = n * 0; omega
  | x :: xs => by
    show n * x + 2 ^ w * pk w (smL n xs) = n * (x + 2 ^ w * pk w xs)
    rw [pk_smL w n xs]; grind
theorem pk_mulL (w : Nat) : ∀ xs ys : List Int, pk w (mulL xs ys) = pk w xs * pk w ys
  | [], ys => by show (0 : Int) = 0 * pk w ys; omega
  | x :: xs, ys => by
    show pk w (addL (smL x ys) (0 :: mulL xs ys)) = (x + 2 ^ w * pk w xs) * pk w ys
    rw [pk_addL, pk_smL]
    show x * pk w ys + (0 + 2 ^ w * pk w (mulL xs ys)) = _
    rw [pk_mulL w xs ys]; grind
theorem BN.addL {N M : Nat} : ∀ {xs ys : List Int}, BN N xs → BN M ys → BN (N + M) (addL xs ys)
  | [], ys, _, h => h.mono (by omega)
  | x :: xs, [], h, _ => h.mono (by omega)
  | x :: xs, y :: ys, h, g => fun z hz => by
    rcases List.mem_cons.mp hz with e | e
    · rw [e]
      have a := h x List.mem_cons_self
      have b := g y List.mem_cons_self
      have := Int.natAbs_add_le x y
      omega
    · exact BN.addL (xs := xs) (ys := ys) (fun z hz => h z (List.mem_cons_of_mem _ hz)) (fun z hz => g z (List.mem_cons_of_mem _ hz)) z e
theorem BN.smL {N A : Nat} {n : Int} {xs : List Int} (h : BN N xs) (hn : n.natAbs ≤ A) : BN (A * N) (smL n xs) := fun z hz => by
  obtain ⟨x, hx, rfl⟩ := List.mem_map.mp hz
  rw [Int.natAbs_mul]; exact Nat.mul_le_mul hn (h x hx)
theorem BN.mulL {N M : Nat} : ∀ {xs ys : List Int}, BN N xs → BN M ys → BN (xs.length * (N * M)) (mulL xs ys)
  | [], _, _, _ => fun z h => by cases h
  | x :: xs, ys, h, g => by
    have ih := BN.mulL (xs := xs) (ys := ys) (fun z hz => h z (List.mem_cons_of_mem _ hz)) g
    have z : BN (xs.length * (N * M)) (0 :: Fp.mulL xs ys) := fun z hz => by
      rcases List.mem_cons.mp hz with e | e
      · rw [e]; exact Nat.zero_le _
      · exact ih z e
    have := BN.addL (g.smL (h x List.mem_cons_self)) z
    refine this.mono ?_
    rw [List.length_cons, Nat.add_mul, Nat.one_mul]; omega
/-- a line's parts: first, second, number -/
abbrev Part := Nat × Nat × Int
def linL (P : Nat → List Int) (ps : List Part) : List Int := ps.foldl (fun acc p => addL acc (smL p.2.2 (mulL (P p.1) (P p.2.1)))) []
theorem linL_snoc (P : Nat → List Int) (ps : List Part) (p : Part) : linL P (ps ++ [p]) = addL (linL P ps) (smL p.2.2 (mulL (P p.1) (P p.2.1))) := by unfold linL; rw [List.foldl_append]; rfl
theorem linL_len {P : Nat → List Int} {L : Nat} : ∀ ps : List Part, (∀ p ∈ ps, P p.1 ≠ [] ∧ P p.2.1 ≠ [] ∧ (P p.1).length ≤ L ∧ (P p.2.1).length ≤ L) → (linL P ps).length ≤ 2 * L :=
  snoc_ind (fun _ => Nat.zero_le _) fun A p ih h => by
    have h1 := ih fun q hq => h q (List.mem_append_left _ hq)
    obtain ⟨a, b, c, d⟩ := h p (List.mem_append_right _ (List.mem_singleton.mpr rfl))
    rw [linL_snoc, addL_len, smL_len, mulL_len _ _ a b]; omega
theorem linL_BN {P : Nat → List Int} {L W : Nat} : ∀ ps : List Part, (∀ p ∈ ps, (P p.1).length ≤ L ∧ ∃ a b c, BN (2 ^ a) (P p.1) ∧ BN (2 ^ b) (P p.2.1) ∧ p.2.2.natAbs ≤ 2 ^ c ∧ a + b + c ≤ W) → BN (ps.length * (L * 2 ^ W)) (linL P ps) :=
  snoc_ind (fun _ => fun z h => by cases h) fun A p ih h => by
    have h1 := ih fun q hq => h q (List.mem_append_left _ hq)
    obtain ⟨l, a, b, c, ha, hb, hc, hw⟩ := h p (List.mem_append_right _ (List.mem_singleton.mpr rfl))
    rw [linL_snoc]
    refine (h1.addL ((ha.mulL hb).smL hc)).mono ?_
    rw [List.length_append, List.length_singleton, Nat.add_mul, Nat.one_mul]
    refine Nat.add_le_add_left ?_ _
    have e : 2 ^ c * ((P p.1).length * (2 ^ a * 2 ^ b)) = (P p.1).length * 2 ^ (a + b + c) := by
      rw [← Nat.pow_add, Nat.mul_left_comm, ← Nat.pow_add, Nat.add_comm c]
    rw [e]
    exact Nat.mul_le_mul l (Nat.pow_le_pow_right (by decide) hw)
theorem pk_linL (w : Nat) (P : Nat → List Int) (ps : List Part) (p : Part) : pk w (linL P (ps ++ [p])) = pk w (linL P ps) + p.2.2 * (pk w (P p.1) * pk w (P p.2.1)) := by
  rw [linL_snoc, pk_addL, pk_smL, pk_mulL]
/-! ### the same over bottoms -/
theorem prodc_cons (x : Rat) (xs : List Rat) (g : Nat → Rat) (n : Nat) : prodc (x :: xs) g n = x * g n + (if n = 0 then 0 else prodc xs g (n - 1)) := by
  unfold prodc
  rw [List.length_cons, sumN_shift]
  congr 1
  by_cases h : n = 0
  · subst h
    rw [if_pos rfl]
    refine sumN_zero fun i _ => ?_
    unfold sh; rw [if_pos (by omega)]; grind
  · rw [if_neg h]
    refine sumN_congr fun i _ => ?_
    show co xs i * sh (i + 1) g n = co xs i * sh i g (n - 1)
    congr 1
    unfold sh
    by_cases z : n < i + 1
    · rw [if_pos z, if_pos (by omega)]
    · rw [if_neg z, if_neg (by omega), show n - (i + 1) = n - 1 - i by omega]
theorem mulL_co {b1 b2 : Int} (h1 : b1 ≠ 0) (h2 : b2 ≠ 0) : ∀ (xs ys : List Int) (n : Nat), (((mulL xs ys).getD n 0 : Int) : Rat) / ((b1 * b2 : Int) : Rat) = prodc (ratsOf b1 xs) (co (ratsOf b2 ys)) n
  | [], ys, n => by
    show ((0 : Int) : Rat) / _ = prodc [] _ n
    rw [prodc_nil_left, Rat.intCast_zero, Rat.div_def, Rat.zero_mul]
  | x :: xs, ys, n => by
    have ih := mulL_co h1 h2 xs ys
    show (((addL (smL x ys) (0 :: mulL xs ys)).getD n 0 : Int) : Rat) / _ = prodc ((x : Rat) / (b1 : Rat) :: ratsOf b1 xs) _ n
    rw [prodc_cons, addL_at, smL_at, co_rats, Rat.intCast_add, Rat.intCast_mul, Rat.intCast_mul]
    have e1 : (x : Rat) * ((ys.getD n 0 : Int) : Rat) / ((b1 : Rat) * (b2 : Rat)) = (x : Rat) / (b1 : Rat) * (((ys.getD n 0 : Int) : Rat) / (b2 : Rat)) := by
      simp only [Rat.div_def, Rat.inv_mul_rev]; grind
    cases n with
    | zero =>
      rw [if_pos rfl, ← e1]
      show (_ + ((0 : Int) : Rat)) / _ = _
      rw [Rat.intCast_zero]; grind
    | succ n =>
      rw [if_neg (by omega), ← e1, show n + 1 - 1 = n by omega, ← ih n, Rat.intCast_mul]
      show ((x : Rat) * _ + (((mulL xs ys).getD n 0 : Int) : Rat)) / _ = _
      simp only [Rat.div_def]; grind
end Fp

namespace Fp
/-! ### whole polynomials: what divides what, modulo a number too -/
abbrev zc (zs : List Int) (n : Nat) : Int := zs.getD n 0
theorem zc_out {zs : List Int} {n : Nat} (h : zs.length ≤ n) : zc zs n = 0 := getD_out h
theorem zc_cons_succ (z : Int) (zs : List Int) (n : Nat) : zc (z :: zs) (n + 1) = zc zs n := rfl
theorem zc_shift (zs : List Int) (n : Nat) : zc (0 :: zs) n = if n = 0 then 0 else zc zs (n - 1) := by
  cases n with
  | zero => rfl
  | succ n => rw [if_neg (by omega)]; rfl
theorem mulL_cons (x : Int) (xs ys : List Int) (n : Nat) : zc (mulL (x :: xs) ys) n = x * zc ys n + (if n = 0 then 0 else zc (mulL xs ys) (n - 1)) := by
  show (addL (smL x ys) (0 :: mulL xs ys)).getD n 0 = _
  rw [addL_at, smL_at]
  congr 1
  exact zc_shift _ _
theorem sumI_shift (f : Nat → Int) : ∀ n, sumI f (n + 1) = f 0 + sumI (fun i => f (i + 1)) n
  | 0 => by show (0 : Int) + f 0 = f 0 + 0; omega
  | n + 1 => by
    show sumI f (n + 1) + f (n + 1) = f 0 + (sumI (fun i => f (i + 1)) n + f (n + 1))
    rw [sumI_shift f n]; omega
theorem sumI_congr {f g : Nat → Int} : ∀ {n : Nat}, (∀ i, i < n → f i = g i) → sumI f n = sumI g n
  | 0, _ => rfl
  | n + 1, h => by
    show sumI f n + f n = sumI g n + g n
    rw [sumI_congr fun i hi => h i (by omega), h n (by omega)]
theorem mulL_sum : ∀ (xs ys : List Int) (n : Nat), zc (mulL xs ys) n = sumI (fun k => zc xs k * zc ys (n - k)) (n + 1)
  | [], ys, n => by
    symm
    exact sumI_zero fun i _ => by show (0 : Int) * _ = 0; omega
  | x :: xs, ys, n => by
    rw [mulL_cons, sumI_shift]
    show x * zc ys n + _ = x * zc ys (n - 0) + _
    rw [Nat.sub_zero]
    congr 1
    cases n with
    | zero => rfl
    | succ n =>
      rw [if_neg (by omega), Nat.add_sub_cancel, mulL_sum xs ys n]
      exact sumI_congr fun i _ => by rw [zc_cons_succ, show n + 1 - (i + 1) = n - i by omega]
theorem sumI_add (f g : Nat → Int) : ∀ n, sumI (fun i => f i + g i) n = sumI f n + sumI g n
  | 0 => rfl
  | n + 1 => by
    show sumI (fun i => f i + g i) n + (f n + g n) = (sumI f n + f n) + (sumI g n + g n)
    rw [sumI_add f g n]; omega
theorem sumI_mul (c : Int) (f : Nat → Int) : ∀ n, sumI (fun i => c * f i) n = c * sumI f n
  | 0 => by show (0 : Int) = c * 0; omega
  | n + 1 => by
    show sumI (fun i => c * f i) n + c * f n = c * (sumI f n + f n)
    rw [sumI_mul c f n, Int.mul_add]
/-- linear in the second -/
theorem mulL_lin {G P Q R : List Int} {c d : Int} (h : ∀ n, zc R n = c * zc P n + d * zc Q n) (n : Nat) : zc (mulL G R) n = c * zc (mulL G P) n + d * zc (mulL G Q) n := by
  rw [mulL_sum, mulL_sum, mulL_sum, ← sumI_mul, ← sumI_mul, ← sumI_add]
  exact sumI_congr fun i _ => by rw [h, Int.mul_add, Int.mul_left_comm, Int.mul_left_comm (zc G i) d]
theorem mulL_congr {G P Q : List Int} (h : ∀ n, zc P n = zc Q n) (n : Nat) : zc (mulL G P) n = zc (mulL G Q) n := by
  rw [mulL_sum, mulL_sum]
  exact sumI_congr fun i _ => by rw [h]
/-- by a power -/
def upL (k : Nat) (Q : List Int) : List Int := List.replicate k 0 ++ Q
theorem upL_at (k : Nat) (Q : List Int) (n : Nat) : zc (upL k Q) n = if n < k then 0 else zc Q (n - k) := by
  unfold upL zc
  rw [List.getD_eq_getElem?_getD, List.getElem?_append, List.length_replicate]
  split
  · rw [List.getElem?_replicate, if_pos ‹_›]; rfl
  · rw [List.getD_eq_getElem?_getD]
theorem mulL_upL (G Q : List Int) : ∀ (k n : Nat), zc (mulL G (upL k Q)) n = if n < k then 0 else zc (mulL G Q) (n - k)
  | 0, n => by rw [if_neg (by omega)]; rfl
  | k + 1, n => by
    have e : ∀ n, zc (mulL G (0 :: upL k Q)) n = if n = 0 then 0 else zc (mulL G (upL k Q)) (n - 1) := fun n => by
      rw [mulL_sum]
      cases n with
      | zero =>
        rw [if_pos rfl]
        show (0 : Int) + zc G 0 * zc (0 :: upL k Q) 0 = 0
        show (0 : Int) + zc G 0 * 0 = 0
        omega
      | succ n =>
        rw [if_neg (by omega), Nat.add_sub_cancel, mulL_sum]
        show sumI _ (n + 1) + zc G (n + 1) * zc (0 :: upL k Q) (n + 1 - (n + 1)) = _
        rw [Nat.sub_self]
        show sumI _ (n + 1) + zc G (n + 1) * 0 = _
        rw [Int.mul_zero, Int.add_zero]
        exact sumI_congr fun i hi => by rw [show n + 1 - i = (n - i) + 1 by omega, zc_cons_succ]
    show zc (mulL G (0 :: upL k Q)) n = _
    rw [e, mulL_upL G Q k]
    by_cases z : n = 0
    · rw [if_pos z, if_pos (by omega)]
    · rw [if_neg z]
      by_cases y : n < k + 1
      · rw [if_pos (by omega), if_pos y]
      · rw [if_neg (by omega), if_neg y, show n - 1 - k = n - (k + 1) by omega]
/-- the sum but one term is divisible -/
theorem sumI_dvd {q : Int} {f : Nat → Int} {m : Nat} : ∀ {n : Nat}, m < n → (∀ i, i < n → i ≠ m → q ∣ f i) → q ∣ sumI f n - f m
  | 0, h, _ => absurd h (Nat.not_lt_zero _)
  | n + 1, h, g => by
    show q ∣ sumI f n + f n - f m
    by_cases e : m = n
    · subst e
      have : ∀ {k : Nat}, k ≤ m → q ∣ sumI f k := fun {k} => by
        induction k with
        | zero => intro _; exact Int.dvd_zero _
        | succ k ih => intro hk; exact Int.dvd_add (ih (by omega)) (g k (by omega) (by omega))
      have h2 := this (Nat.le_refl m)
      rwa [Int.add_sub_cancel]
    · have h1 := sumI_dvd (f := f) (m := m) (n := n) (by omega) fun i hi ne => g i (by omega) ne
      have h2 := g n (by omega) (Ne.symm e)
      have := Int.dvd_add h1 h2
      rwa [show sumI f n + f n - f m = sumI f n - f m + f n by omega]
/-! ### Gauss -/
/-- divides a product only if it divides a factor -/
def Pr (q : Nat) : Prop := 1 < q ∧ ∀ a b : Int, (q : Int) ∣ a * b → (q : Int) ∣ a ∨ (q : Int) ∣ b
theorem pr_of {q : Nat} (h1 : 1 < q) (h : ∀ d, d ∣ q → d = 1 ∨ d = q) : Pr q := ⟨h1, fun a b hab => by
  rcases h (Nat.gcd q a.natAbs) (Nat.gcd_dvd_left ..) with e | e
  · right
    have c : Nat.Coprime q a.natAbs := e
    have h2 : q ∣ a.natAbs * b.natAbs := by rw [← Int.natAbs_mul]; exact Int.natCast_dvd_natCast.mp (Int.dvd_natAbs.mpr hab)
    exact Int.dvd_natAbs.mp (Int.natCast_dvd_natCast.mpr (c.dvd_of_dvd_mul_left h2))
  · left
    have : q ∣ a.natAbs := by rw [← e]; exact Nat.gcd_dvd_right ..
    exact Int.dvd_natAbs.mp (Int.natCast_dvd_natCast.mpr this)⟩
theorem pr_exists : ∀ n : Nat, 1 < n → ∃ q, Pr q ∧ q ∣ n := fun n => by
  induction n using Nat.strongRecOn with
  | ind n ih =>
    intro h
    by_cases c : ∀ d, d ∣ n → d = 1 ∨ d = n
    · exact ⟨n, pr_of h c, Nat.dvd_refl n⟩
    · obtain ⟨d, hd⟩ := Classical.not_forall.mp c
      obtain ⟨hd, hn⟩ := Classical.not_imp.mp hd
      have d0 : 0 < d := Nat.pos_of_dvd_of_pos hd (by omega)
      have dl := Nat.le_of_dvd (by omega) hd
      obtain ⟨q, hq, hqd⟩ := ih d (by omega) (by omega)
      exact ⟨q, hq, Nat.dvd_trans hqd hd⟩
/-- a number that divides all but not from a place on: the least such place -/
theorem least_not {q : Int} {zs : List Int} (h : ∃ i, ¬ q ∣ zc zs i) : ∃ i, ¬ q ∣ zc zs i ∧ ∀ j, j < i → q ∣ zc zs j := by
  obtain ⟨i, hi⟩ := h
  induction i using Nat.strongRecOn with
  | ind i ih =>
    by_cases c : ∀ j, j < i → q ∣ zc zs j
    · exact ⟨i, hi, c⟩
    · obtain ⟨j, hj⟩ := Classical.not_forall.mp c
      obtain ⟨a, b⟩ := Classical.not_imp.mp hj
      exact ih j a b
/-- and the greatest -/
theorem last_not {q : Int} {zs : List Int} (h : ∃ i, ¬ q ∣ zc zs i) : ∃ i, ¬ q ∣ zc zs i ∧ ∀ j, i < j → q ∣ zc zs j := by
  have key : ∀ (m i : Nat), zs.length - i ≤ m → ¬ q ∣ zc zs i → ∃ i, ¬ q ∣ zc zs i ∧ ∀ j, i < j → q ∣ zc zs j := by
    intro m
    induction m with
    | zero =>
      intro i hm hi
      exact absurd (by rw [zc_out (by omega)]; exact Int.dvd_zero _) hi
    | succ m ih =>
      intro i hm hi
      by_cases c : ∀ j, i < j → q ∣ zc zs j
      · exact ⟨i, hi, c⟩
      · obtain ⟨j, hj⟩ := Classical.not_forall.mp c
        obtain ⟨a, b⟩ := Classical.not_imp.mp hj
        exact ih j (by omega) b
  obtain ⟨i, hi⟩ := h
  exact key _ i (Nat.le_refl _) hi
theorem pr_mul {q : Nat} (hq : Pr q) {G Q : List Int} (hG : ∃ i, ¬ (q : Int) ∣ zc G i) (h : ∀ n, (q : Int) ∣ zc (mulL G Q) n) : ∀ n, (q : Int) ∣ zc Q n := by
  obtain ⟨i, hi, hi2⟩ := least_not hG
  refine Classical.byContradiction fun c => ?_
  obtain ⟨j, hj, hj2⟩ := least_not (zs := Q) (Classical.not_forall.mp c)
  have s := h (i + j)
  rw [mulL_sum] at s
  have d := sumI_dvd (q := (q : Int)) (f := fun k => zc G k * zc Q (i + j - k)) (m := i) (n := i + j + 1) (by omega) fun k hk ne => by
    by_cases z : k < i
    · exact Int.dvd_mul_of_dvd_left (hi2 k z)
    · exact Int.dvd_mul_of_dvd_right (hj2 _ (by omega))
  have t := Int.dvd_sub s d
  rw [show sumI (fun k => zc G k * zc Q (i + j - k)) (i + j + 1) - (sumI (fun k => zc G k * zc Q (i + j - k)) (i + j + 1) - zc G i * zc Q (i + j - i)) = zc G i * zc Q (i + j - i) by omega, show i + j - i = j by omega] at t
  rcases hq.2 _ _ t with a | a
  · exact hi a
  · exact hj a
/-- primitive -/
def PrimL (G : List Int) : Prop := ∀ d : Nat, (∀ n, (d : Int) ∣ zc G n) → d = 1
def divL (q : Int) (Q : List Int) : List Int := Q.map fun x => x / q
theorem divL_at {q : Int} (Q : List Int) (n : Nat) : zc (divL q Q) n = zc Q n / q := by
  unfold divL zc
  rw [List.getD_eq_getElem?_getD, List.getD_eq_getElem?_getD, List.getElem?_map]
  cases Q[n]? with
  | none => show (0 : Int) = 0 / q; rw [Int.zero_ediv]
  | some x => rfl
theorem gauss {G : List Int} (hG : PrimL G) : ∀ (m : Nat) {N : Int} {A Q : List Int}, N.natAbs = m → N ≠ 0 → (∀ n, N * zc A n = zc (mulL G Q) n) → ∃ Q', ∀ n, zc A n = zc (mulL G Q') n := fun m => by
  induction m using Nat.strongRecOn with
  | ind m ih =>
    intro N A Q hm h0 h
    by_cases one : m ≤ 1
    · have e : N = 1 ∨ N = -1 := by omega
      refine ⟨smL N Q, fun n => ?_⟩
      have l := mulL_lin (G := G) (P := Q) (Q := []) (R := smL N Q) (c := N) (d := 0) (fun n => by rw [Int.zero_mul, Int.add_zero]; exact smL_at N Q n) n
      rw [l, ← h, Int.zero_mul, Int.add_zero, ← Int.mul_assoc]
      rcases e with e | e <;> subst e <;> omega
    · obtain ⟨q, hq, hd⟩ := pr_exists m (by omega)
      have q1 := hq.1
      have qN : (q : Int) ∣ N := Int.dvd_natAbs.mp (Int.natCast_dvd_natCast.mpr (by rw [hm]; exact hd))
      have hGq : ∃ i, ¬ (q : Int) ∣ zc G i := Classical.not_forall.mp fun c => by
        have := hG q c
        omega
      have hQ := pr_mul hq hGq fun n => by rw [← h]; exact Int.dvd_mul_of_dvd_left qN
      obtain ⟨N1, e1⟩ := qN
      have q0 : (q : Int) ≠ 0 := by omega
      refine ih N1.natAbs ?_ (N := N1) (A := A) (Q := divL q Q) rfl (fun z => h0 (by rw [e1, z, Int.mul_zero])) fun n => ?_
      · have : m = q * N1.natAbs := by rw [← hm, e1, Int.natAbs_mul, Int.natAbs_natCast]
        have n1 : 0 < N1.natAbs := Nat.pos_of_ne_zero fun z => h0 (by rw [e1, Int.natAbs_eq_zero.mp z, Int.mul_zero])
        rw [this]
        have := Nat.mul_lt_mul_of_pos_right q1 n1
        omega
      · have l := mulL_lin (G := G) (P := divL q Q) (Q := []) (R := Q) (c := (q : Int)) (d := 0) (fun n => by
          rw [divL_at, Int.zero_mul, Int.add_zero]
          exact (Int.mul_ediv_cancel' (hQ n)).symm) n
        rw [Int.zero_mul, Int.add_zero, ← h, e1, Int.mul_assoc] at l
        exact Int.eq_of_mul_eq_mul_left q0 l
end Fp

namespace Fp
/-! ### pigeons -/
theorem pigeon : ∀ (N M : Nat) (f : Nat → Nat), (∀ i, i < N → f i < M) → (∀ i j, i < j → j < N → f i ≠ f j) → N ≤ M
  | 0, _, _, _, _ => Nat.zero_le _
  | N + 1, M, f, hf, inj => by
    have hN := hf N (Nat.lt_succ_self N)
    obtain ⟨m, rfl⟩ : ∃ m, M = m + 1 := ⟨M - 1, by omega⟩
    -- take the value of N out: what is m goes there
    have := pigeon N m (fun i => if f i = m then f N else f i) (fun i hi => by
      have h1 := hf i (by omega)
      have h2 := inj i N hi (Nat.lt_succ_self N)
      split
      · rename_i e; rw [e] at h2; omega
      · omega) (fun i j hij hj => by
      have h1 := inj i j hij (by omega)
      have h2 := inj i N (by omega) (Nat.lt_succ_self N)
      have h3 := inj j N hj (Nat.lt_succ_self N)
      split <;> split
      · rename_i e1 e2; exact absurd (e1.trans e2.symm) h1
      · exact fun z => h3 z.symm
      · exact h2
      · exact h1)
    omega
/-- two that fall together -/
theorem pigeon2 {N M : Nat} {f : Nat → Nat} (hf : ∀ i, i < N → f i < M) (h : M < N) : ∃ i j, i < j ∧ j < N ∧ f i = f j := by
  refine Classical.byContradiction fun c => ?_
  have := pigeon N M f hf fun i j hij hj e => c ⟨i, j, hij, hj, e⟩
  omega
/-! ### powers of 2 + sqrt 3 -/
def pw : Nat → Int × Int
  | 0 => (1, 0)
  | n + 1 => (2 * (pw n).1 + 3 * (pw n).2, (pw n).1 + 2 * (pw n).2)
theorem pw_add (m : Nat) : ∀ n, pw (m + n) = ((pw m).1 * (pw n).1 + 3 * ((pw m).2 * (pw n).2), (pw m).1 * (pw n).2 + (pw m).2 * (pw n).1)
  | 0 => by
    show pw m = _
    show pw m = ((pw m).1 * 1 + 3 * ((pw m).2 * 0), (pw m).1 * 0 + (pw m).2 * 1)
    rw [Int.mul_one, Int.mul_zero, Int.mul_zero, Int.mul_one, Int.mul_zero, Int.add_zero, Int.zero_add]
  | n + 1 => by
    show (2 * (pw (m + n)).1 + 3 * (pw (m + n)).2, (pw (m + n)).1 + 2 * (pw (m + n)).2) = ((pw m).1 * (2 * (pw n).1 + 3 * (pw n).2) + 3 * ((pw m).2 * ((pw n).1 + 2 * (pw n).2)), (pw m).1 * ((pw n).1 + 2 * (pw n).2) + (pw m).2 * (2 * (pw n).1 + 3 * (pw n).2))
    rw [pw_add m n]
    refine Prod.ext ?_ ?_ <;> dsimp only <;> grind
theorem pw_norm : ∀ n, (pw n).1 * (pw n).1 - 3 * ((pw n).2 * (pw n).2) = 1
  | 0 => by decide
  | n + 1 => by
    have ih := pw_norm n
    show (2 * (pw n).1 + 3 * (pw n).2) * (2 * (pw n).1 + 3 * (pw n).2) - 3 * (((pw n).1 + 2 * (pw n).2) * ((pw n).1 + 2 * (pw n).2)) = 1
    grind
theorem pw_dbl (n : Nat) : (pw (n + n)).1 = 2 * ((pw n).1 * (pw n).1) - 1 ∧ (pw (n + n)).2 = 2 * ((pw n).1 * (pw n).2) := by
  have h := pw_norm n
  rw [pw_add]
  constructor <;> dsimp only <;> grind
/-- back: j - i -/
theorem pw_back (i d : Nat) : (pw d).1 = (pw i).1 * (pw (i + d)).1 - 3 * ((pw i).2 * (pw (i + d)).2) ∧ (pw d).2 = (pw i).1 * (pw (i + d)).2 - (pw i).2 * (pw (i + d)).1 := by
  have h := pw_norm i
  rw [pw_add]
  constructor <;> dsimp only <;> grind
/-- one, modulo q -/
def P1 (q : Int) (n : Nat) : Prop := q ∣ (pw n).1 - 1 ∧ q ∣ (pw n).2
theorem p1_zero (q : Int) : P1 q 0 := ⟨⟨0, by rw [Int.mul_zero]; rfl⟩, ⟨0, by rw [Int.mul_zero]; rfl⟩⟩
theorem p1_add {q : Int} {m n : Nat} (h : P1 q m) (g : P1 q n) : P1 q (m + n) := by
  obtain ⟨⟨a, ha⟩, ⟨b, hb⟩⟩ := h
  obtain ⟨⟨c, hc⟩, ⟨d, hd⟩⟩ := g
  unfold P1
  rw [pw_add]
  refine ⟨⟨a * (pw n).1 + c + 3 * (b * (pw n).2), ?_⟩, ⟨(pw m).1 * d + b * (pw n).1, ?_⟩⟩ <;> dsimp only <;> grind
theorem p1_sub {q : Int} {m n : Nat} (h : P1 q m) (g : P1 q (m + n)) : P1 q n := by
  obtain ⟨e1, e2⟩ := pw_back m n
  obtain ⟨⟨a, ha⟩, ⟨b, hb⟩⟩ := h
  obtain ⟨⟨c, hc⟩, ⟨d, hd⟩⟩ := g
  unfold P1
  rw [e1, e2]
  refine ⟨⟨(pw m).1 * c + a - 3 * (b * (pw (m + n)).2), ?_⟩, ⟨(pw m).1 * d - b * (pw (m + n)).1, ?_⟩⟩ <;> grind
theorem p1_mul {q : Int} {m : Nat} (h : P1 q m) : ∀ k, P1 q (m * k)
  | 0 => p1_zero q
  | k + 1 => p1_add (p1_mul h k) h
theorem p1_gcd {q : Int} (m n : Nat) (h : P1 q m) (g : P1 q n) : P1 q (Nat.gcd m n) := by
  induction m, n using Nat.gcd.induction with
  | H0 n => rw [Nat.gcd_zero_left]; exact g
  | H1 m n hm ih =>
    rw [Nat.gcd_rec]
    refine ih (p1_sub (m := m * (n / m)) (p1_mul h _) ?_) h
    rw [Nat.div_add_mod]; exact g
theorem half_pow {g n : Nat} (h : g ∣ 2 ^ (n + 1)) (ne : g ≠ 2 ^ (n + 1)) : g ∣ 2 ^ n := by
  obtain ⟨k, hk⟩ := h
  rcases Nat.mod_two_eq_zero_or_one k with e | e
  · obtain ⟨j, rfl⟩ : ∃ j, k = 2 * j := ⟨k / 2, by omega⟩
    refine ⟨j, ?_⟩
    rw [Nat.pow_succ] at hk
    have : g * (2 * j) = (g * j) * 2 := by rw [Nat.mul_left_comm, Nat.mul_comm]
    omega
  · exfalso
    have c : Nat.Coprime k 2 := by
      have : Nat.gcd k 2 ∣ 2 := Nat.gcd_dvd_right ..
      have h2 : Nat.gcd k 2 ∣ k := Nat.gcd_dvd_left ..
      have l := Nat.le_of_dvd (by decide) this
      have l0 := Nat.gcd_pos_of_pos_right k (show 0 < 2 by decide)
      rcases (show Nat.gcd k 2 = 1 ∨ Nat.gcd k 2 = 2 by omega) with z | z
      · exact z
      · rw [z] at h2; omega
    have c2 : Nat.Coprime k (2 ^ (n + 1)) := Nat.Coprime.pow_right (n + 1) c
    have d : k ∣ 2 ^ (n + 1) := ⟨g, by rw [hk, Nat.mul_comm]⟩
    have k1 : k = 1 := Nat.Coprime.eq_one_of_dvd c2 d
    rw [k1, Nat.mul_one] at hk
    exact ne hk.symm
/-- what the law of Lucas and Lehmer says of each odd divisor -/
theorem big_divisor {n q : Nat} (q1 : 1 < q) (odd : ¬ (q : Int) ∣ 2) (h : (q : Int) ∣ (pw (2 ^ n)).1) : 2 ^ (n + 2) ≤ q * q := by
  have d1 := pw_dbl (2 ^ n)
  rw [show 2 ^ n + 2 ^ n = 2 ^ (n + 1) by rw [Nat.pow_succ]; omega] at d1
  obtain ⟨c, hc⟩ := h
  -- minus one at 2^(n+1), one at 2^(n+2)
  have m1 : (q : Int) ∣ (pw (2 ^ (n + 1))).1 + 1 := ⟨2 * (c * (pw (2 ^ n)).1), by rw [d1.1, hc]; grind⟩
  have m2 : (q : Int) ∣ (pw (2 ^ (n + 1))).2 := ⟨2 * (c * (pw (2 ^ n)).2), by rw [d1.2, hc]; grind⟩
  have p2 : P1 q (2 ^ (n + 2)) := by
    have d2 := pw_dbl (2 ^ (n + 1))
    rw [show 2 ^ (n + 1) + 2 ^ (n + 1) = 2 ^ (n + 2) by rw [Nat.pow_succ 2 (n + 1)]; omega] at d2
    obtain ⟨a, ha⟩ := m1
    obtain ⟨b, hb⟩ := m2
    unfold P1
    rw [d2.1, d2.2, hb]
    exact ⟨⟨2 * (a * ((pw (2 ^ (n + 1))).1 - 1)), by grind⟩, ⟨2 * ((pw (2 ^ (n + 1))).1 * b), by grind⟩⟩
  have q0 : (q : Int) ≠ 0 := by omega
  have none : ∀ d, 0 < d → d < 2 ^ (n + 2) → ¬ P1 q d := fun d d0 dl hd => by
    have g := p1_gcd _ _ hd p2
    have gd : Nat.gcd d (2 ^ (n + 2)) ∣ 2 ^ (n + 2) := Nat.gcd_dvd_right ..
    have gl := Nat.le_of_dvd d0 (Nat.gcd_dvd_left d (2 ^ (n + 2)))
    obtain ⟨k, hk⟩ := half_pow gd (Nat.ne_of_lt (Nat.lt_of_le_of_lt gl dl))
    have := p1_mul g k
    rw [← hk] at this
    obtain ⟨a, _⟩ := this
    have := Int.dvd_sub m1 a
    rw [show (pw (2 ^ (n + 1))).1 + 1 - ((pw (2 ^ (n + 1))).1 - 1) = 2 by omega] at this
    exact odd this
  have b1 : ∀ x : Int, (x % (q : Int)).toNat < q := fun x => by
    have h1 := Int.emod_nonneg x q0
    have h2 := Int.emod_lt_of_pos x (show (0 : Int) < (q : Int) by omega)
    omega
  refine pigeon _ (q * q) (fun i => ((pw i).1 % (q : Int)).toNat * q + ((pw i).2 % (q : Int)).toNat) (fun i _ => ?_) (fun i j hij hj e => ?_)
  · have h1 := b1 (pw i).1
    have h2 := b1 (pw i).2
    have h3 : ((pw i).1 % (q : Int)).toNat * q ≤ (q - 1) * q := Nat.mul_le_mul_right _ (by omega)
    have h4 : (q - 1) * q + q = q * q := by
      have : (q - 1 + 1) * q = q * q := by rw [Nat.sub_add_cancel (by omega)]
      rwa [Nat.add_mul, Nat.one_mul] at this
    omega
  · have e2 : ((pw i).2 % (q : Int)).toNat = ((pw j).2 % (q : Int)).toNat := by
      have := congrArg (· % q) e
      have l : ∀ a b : Nat, b < q → (a * q + b) % q = b := fun a b h => by rw [Nat.mul_add_mod', Nat.mod_eq_of_lt h]
      simp only [l _ _ (b1 _)] at this
      exact this
    have e1 : ((pw i).1 % (q : Int)).toNat = ((pw j).1 % (q : Int)).toNat := by
      rw [e2] at e
      exact Nat.eq_of_mul_eq_mul_right (by omega) (Nat.add_right_cancel e)
    have back : ∀ x y : Int, (x % (q : Int)).toNat = (y % (q : Int)).toNat → (q : Int) ∣ y - x := fun x y h => by
      have h1 := Int.emod_nonneg x q0
      have h2 := Int.emod_nonneg y q0
      have h3 : x % (q : Int) = y % (q : Int) := by omega
      exact Int.dvd_of_emod_eq_zero (by rw [Int.sub_emod, h3, Int.sub_self]; rfl)
    obtain ⟨a, ha⟩ := back _ _ e1
    obtain ⟨b, hb⟩ := back _ _ e2
    refine none (j - i) (by omega) (by omega) ?_
    have bk := pw_back i (j - i)
    rw [show i + (j - i) = j by omega] at bk
    have nm := pw_norm i
    unfold P1
    rw [bk.1, bk.2]
    exact ⟨⟨(pw i).1 * a - 3 * ((pw i).2 * b), by grind⟩, ⟨(pw i).1 * b - (pw i).2 * a, by grind⟩⟩
end Fp

namespace Fp
/-! ### small solutions -/
/-- digits put together -/
def enc (W : Nat) (v : Nat → Nat) : Nat → Nat
  | 0 => 0
  | n + 1 => enc W v n + v n * W ^ n
theorem enc_lt {W : Nat} {v : Nat → Nat} : ∀ {n : Nat}, (∀ i, i < n → v i < W) → enc W v n < W ^ n
  | 0, _ => by show 0 < 1; decide
  | n + 1, h => by
    have a := enc_lt (n := n) fun i hi => h i (by omega)
    have b := h n (by omega)
    have c : v n * W ^ n ≤ (W - 1) * W ^ n := Nat.mul_le_mul_right _ (by omega)
    have d : (W - 1) * W ^ n + W ^ n = W ^ (n + 1) := by
      have : (W - 1 + 1) * W ^ n = W * W ^ n := by rw [Nat.sub_add_cancel (by omega)]
      rw [Nat.add_mul, Nat.one_mul] at this
      rw [Nat.pow_succ, Nat.mul_comm (W ^ n)]; exact this
    show enc W v n + v n * W ^ n < W ^ (n + 1)
    omega
theorem enc_inj {W : Nat} {v u : Nat → Nat} : ∀ {n : Nat}, (∀ i, i < n → v i < W) → (∀ i, i < n → u i < W) → enc W v n = enc W u n → ∀ i, i < n → v i = u i
  | 0, _, _, _, i, hi => absurd hi (Nat.not_lt_zero i)
  | n + 1, hv, hu, e, i, hi => by
    have a := enc_lt (n := n) fun i hi => hv i (by omega)
    have b := enc_lt (n := n) fun i hi => hu i (by omega)
    have e : enc W v n + v n * W ^ n = enc W u n + u n * W ^ n := e
    have w0 : 0 < W ^ n := by omega
    have hn : v n = u n := by
      have e2 := congrArg (· / W ^ n) e
      simp only [Nat.add_mul_div_right _ _ w0, Nat.div_eq_of_lt a, Nat.div_eq_of_lt b, Nat.zero_add] at e2
      exact e2
    rw [hn] at e
    by_cases z : i = n
    · rw [z]; exact hn
    · exact enc_inj (n := n) (fun i hi => hv i (by omega)) (fun i hi => hu i (by omega)) (Nat.add_right_cancel e) i (by omega)
def dig (B k i : Nat) : Nat := k / B ^ i % B
theorem enc_dig (B k : Nat) : ∀ n, enc B (dig B k) n = k % B ^ n
  | 0 => by show 0 = k % 1; rw [Nat.mod_one]
  | n + 1 => by
    show enc B (dig B k) n + k / B ^ n % B * B ^ n = _
    rw [enc_dig B k n, Nat.pow_succ, Nat.mod_mul, Nat.mul_comm (B ^ n)]
theorem sumI_le {f : Nat → Int} {c : Nat} : ∀ {n : Nat}, (∀ i, i < n → (f i).natAbs ≤ c) → (sumI f n).natAbs ≤ n * c
  | 0, _ => Nat.zero_le _
  | n + 1, h => by
    have a := sumI_le (n := n) fun i hi => h i (by omega)
    have b := h n (by omega)
    show (sumI f n + f n).natAbs ≤ (n + 1) * c
    rw [Nat.add_mul, Nat.one_mul]; omega
theorem sumI_sub (f g : Nat → Int) : ∀ n, sumI (fun i => f i - g i) n = sumI f n - sumI g n
  | 0 => rfl
  | n + 1 => by
    show sumI (fun i => f i - g i) n + (f n - g n) = (sumI f n + f n) - (sumI g n + g n)
    rw [sumI_sub f g n]; omega
/-- fewer equations than unknowns: a solution that is small -/
theorem siegel {N M C : Nat} (r : Nat → Nat → Int) (hr : ∀ j i, j < M → i < N → (r j i).natAbs ≤ C) (C0 : 0 < C) (h : M < N) :
    ∃ x : Nat → Int, (∀ i, (x i).natAbs ≤ (2 * N * C) ^ M) ∧ (∃ i, i < N ∧ x i ≠ 0) ∧ ∀ j, j < M → sumI (fun i => r j i * x i) N = 0 := by
  let X := (2 * N * C) ^ M
  let B := X + 1
  let W := 2 * (N * (C * X)) + 1
  have NC : 0 < 2 * N * C := Nat.mul_pos (Nat.mul_pos (by decide) (by omega)) C0
  have X0 : 0 < X := Nat.pow_pos NC
  have dl : ∀ k i, dig B k i < B := fun k i => Nat.mod_lt _ (by show 0 < X + 1; omega)
  have val : ∀ k j, j < M → (sumI (fun i => r j i * (dig B k i : Int)) N).natAbs ≤ N * (C * X) := fun k j hj => sumI_le fun i hi => by
    rw [Int.natAbs_mul, Int.natAbs_natCast]
    have := dl k i
    exact Nat.mul_le_mul (hr j i hj hi) (by show dig B k i ≤ X; omega)
  let v : Nat → Nat → Nat := fun k j => (sumI (fun i => r j i * (dig B k i : Int)) N + (N * (C * X) : Nat)).toNat
  have vl : ∀ k j, j < M → v k j < W := fun k j hj => by
    have := val k j hj
    show (_ + _ : Int).toNat < 2 * (N * (C * X)) + 1
    omega
  have many : W ^ M < B ^ N := by
    have w1 : W ≤ (2 * N * C) * B := by
      show 2 * (N * (C * X)) + 1 ≤ 2 * N * C * (X + 1)
      have e : 2 * N * C * (X + 1) = 2 * (N * (C * X)) + 2 * N * C := by
        rw [Nat.mul_add, Nat.mul_one, Nat.mul_assoc, Nat.mul_assoc, Nat.mul_assoc]
      rw [e]; omega
    have w2 := Nat.pow_le_pow_left w1 M
    rw [Nat.mul_pow] at w2
    have w3 : B ^ M * B ≤ B ^ N := by
      rw [← Nat.pow_succ]
      exact Nat.pow_le_pow_right (by show 0 < X + 1; omega) (by omega)
    have w4 : (2 * N * C) ^ M * B ^ M < B ^ M * B := by
      rw [Nat.mul_comm (B ^ M)]
      exact Nat.mul_lt_mul_of_pos_right (by show X < X + 1; omega) (Nat.pow_pos (by show 0 < X + 1; omega))
    omega
  obtain ⟨k, l, kl, hl, e⟩ := pigeon2 (N := B ^ N) (M := W ^ M) (f := fun k => enc W (v k) M) (fun k _ => enc_lt fun j hj => vl k j hj) many
  have ev := enc_inj (fun j hj => vl k j hj) (fun j hj => vl l j hj) e
  refine ⟨fun i => (dig B l i : Int) - (dig B k i : Int), fun i => ?_, ?_, fun j hj => ?_⟩
  · have a := dl k i
    have b := dl l i
    show ((dig B l i : Int) - (dig B k i : Int)).natAbs ≤ X
    have : B = X + 1 := rfl
    omega
  · refine Classical.byContradiction fun c => ?_
    have same : ∀ i, i < N → dig B l i = dig B k i := fun i hi => by
      refine Classical.byContradiction fun z => c ⟨i, hi, by show ((dig B l i : Int) - (dig B k i : Int)) ≠ 0; omega⟩
    have ek := enc_dig B k N
    have el := enc_dig B l N
    rw [Nat.mod_eq_of_lt (by omega)] at ek
    rw [Nat.mod_eq_of_lt hl] at el
    have : ∀ n, n ≤ N → enc B (dig B l) n = enc B (dig B k) n := fun n => by
      induction n with
      | zero => intro _; rfl
      | succ n ih =>
        intro hn
        show enc B (dig B l) n + dig B l n * B ^ n = enc B (dig B k) n + dig B k n * B ^ n
        rw [ih (by omega), same n (by omega)]
    have := this N (Nat.le_refl N)
    omega
  · have e1 := ev j hj
    have a := val k j hj
    have b := val l j hj
    have s : sumI (fun i => r j i * ((dig B l i : Int) - (dig B k i : Int))) N = sumI (fun i => r j i * (dig B l i : Int)) N - sumI (fun i => r j i * (dig B k i : Int)) N := by
      rw [← sumI_sub]
      exact sumI_congr fun i _ => by rw [Int.mul_sub]
    show sumI (fun i => r j i * ((dig B l i : Int) - (dig B k i : Int))) N = 0
    rw [s]
    have e2 : (sumI (fun i => r j i * (dig B k i : Int)) N + (N * (C * X) : Nat)).toNat = (sumI (fun i => r j i * (dig B l i : Int)) N + (N * (C * X) : Nat)).toNat := e1
    omega
end Fp

namespace Fp
/-! ### more of whole polynomials -/
theorem sumI_split (f : Nat → Int) (a : Nat) : ∀ b, sumI f (a + b) = sumI f a + sumI (fun i => f (a + i)) b
  | 0 => by show sumI f a = sumI f a + 0; omega
  | b + 1 => by
    show sumI f (a + b) + f (a + b) = sumI f a + (sumI (fun i => f (a + i)) b + f (a + b))
    rw [sumI_split f a b]; omega
theorem sumI_rev (f : Nat → Int) : ∀ n, sumI f n = sumI (fun i => f (n - 1 - i)) n
  | 0 => rfl
  | n + 1 => by
    rw [sumI_shift (fun i => f (n + 1 - 1 - i))]
    show sumI f n + f n = f (n + 1 - 1 - 0) + sumI (fun i => f (n + 1 - 1 - (i + 1))) n
    rw [sumI_rev f n, show n + 1 - 1 - 0 = n by omega, sumI_congr (g := fun i => f (n + 1 - 1 - (i + 1))) fun i hi => by rw [show n - 1 - i = n + 1 - 1 - (i + 1) by omega]]
    omega
theorem mulL_comm (P Q : List Int) (n : Nat) : zc (mulL P Q) n = zc (mulL Q P) n := by
  rw [mulL_sum, mulL_sum, sumI_rev]
  exact sumI_congr fun i hi => by rw [show n + 1 - 1 - i = n - i by omega, show n - (n - i) = i by omega, Int.mul_comm]
theorem mulL_nil (P : List Int) (n : Nat) : zc (mulL P []) n = 0 := by rw [mulL_comm]; rfl
/-- linear in the first -/
theorem mulL_lin' {G P Q R : List Int} {c d : Int} (h : ∀ n, zc R n = c * zc P n + d * zc Q n) (n : Nat) : zc (mulL R G) n = c * zc (mulL P G) n + d * zc (mulL Q G) n := by
  rw [mulL_comm, mulL_comm P, mulL_comm Q]; exact mulL_lin h n
theorem mulL_congr' {G P Q : List Int} (h : ∀ n, zc P n = zc Q n) (n : Nat) : zc (mulL P G) n = zc (mulL Q G) n := by
  rw [mulL_comm, mulL_comm Q]; exact mulL_congr h n
theorem zc_cons (x : Int) (xs : List Int) (n : Nat) : zc (x :: xs) n = if n = 0 then x else zc xs (n - 1) := by
  cases n with
  | zero => rfl
  | succ n => rw [if_neg (by omega)]; rfl
theorem addL_z (P Q : List Int) (n : Nat) : zc (addL P Q) n = zc P n + zc Q n := addL_at ..
theorem smL_z (c : Int) (P : List Int) (n : Nat) : zc (smL c P) n = c * zc P n := smL_at ..
theorem mulL_assoc : ∀ (P Q R : List Int) (n : Nat), zc (mulL (mulL P Q) R) n = zc (mulL P (mulL Q R)) n
  | [], Q, R, n => by show zc (mulL [] R) n = zc [] n; rfl
  | x :: P, Q, R, n => by
    rw [mulL_cons x P (mulL Q R)]
    have e : ∀ n, zc (mulL (x :: P) Q) n = x * zc Q n + 1 * zc (0 :: mulL P Q) n := fun n => by
      rw [mulL_cons, zc_shift, Int.one_mul]
    rw [mulL_lin' e, Int.one_mul]
    congr 1
    show zc (mulL (0 :: mulL P Q) R) n = _
    rw [mulL_cons, Int.zero_mul, Int.zero_add]
    split
    · rfl
    · exact mulL_assoc P Q R (n - 1)
theorem mulL_swap (U G A : List Int) (n : Nat) : zc (mulL U (mulL G A)) n = zc (mulL G (mulL U A)) n := by
  rw [← mulL_assoc, mulL_congr' (mulL_comm U G), mulL_assoc]
/-- divides a product only if it divides a factor, or 0 -/
def PrI (q : Int) : Prop := ∀ a b : Int, q ∣ a * b → q ∣ a ∨ q ∣ b
theorem prI_zero : PrI 0 := fun a b h => by
  have := Int.zero_dvd.mp h
  rcases Int.mul_eq_zero.mp this with h | h
  · exact .inl (by rw [h]; exact Int.dvd_refl 0)
  · exact .inr (by rw [h]; exact Int.dvd_refl 0)
theorem Pr.i {q : Nat} (h : Pr q) : PrI q := h.2
/-- modulo q it ends at d -/
def DegM (q : Int) (P : List Int) (d : Nat) : Prop := ¬ q ∣ zc P d ∧ ∀ n, d < n → q ∣ zc P n
theorem degM_ex {q : Int} {P : List Int} (h : ∃ i, ¬ q ∣ zc P i) : ∃ d, DegM q P d := last_not h
theorem degM_fn {q : Int} {P : List Int} {d e : Nat} (h : DegM q P d) (g : DegM q P e) : d = e := by
  rcases Nat.lt_trichotomy d e with l | l | l
  · exact absurd (h.2 e l) g.1
  · exact l
  · exact absurd (g.2 d l) h.1
theorem sumI_dvd_all {q : Int} {f : Nat → Int} : ∀ {n : Nat}, (∀ i, i < n → q ∣ f i) → q ∣ sumI f n
  | 0, _ => Int.dvd_zero _
  | n + 1, h => Int.dvd_add (sumI_dvd_all fun i hi => h i (by omega)) (h n (by omega))
theorem degM_mul {q : Int} (hq : PrI q) {P Q : List Int} {d e : Nat} (h : DegM q P d) (g : DegM q Q e) : DegM q (mulL P Q) (d + e) := by
  constructor
  · intro s
    rw [mulL_sum] at s
    have t := sumI_dvd (q := q) (f := fun k => zc P k * zc Q (d + e - k)) (m := d) (n := d + e + 1) (by omega) fun k hk ne => by
      by_cases z : k < d
      · exact Int.dvd_mul_of_dvd_right (g.2 _ (by omega))
      · exact Int.dvd_mul_of_dvd_left (h.2 k (by omega))
    have u := Int.dvd_sub s t
    rw [show sumI (fun k => zc P k * zc Q (d + e - k)) (d + e + 1) - (sumI (fun k => zc P k * zc Q (d + e - k)) (d + e + 1) - zc P d * zc Q (d + e - d)) = zc P d * zc Q (d + e - d) by omega, show d + e - d = e by omega] at u
    rcases hq _ _ u with a | a
    · exact h.1 a
    · exact g.1 a
  · intro n hn
    rw [mulL_sum]
    refine sumI_dvd_all fun k hk => ?_
    by_cases z : k ≤ d
    · exact Int.dvd_mul_of_dvd_right (g.2 _ (by omega))
    · exact Int.dvd_mul_of_dvd_left (h.2 k (by omega))
/-- the same, modulo q -/
def EqM (q : Int) (P Q : List Int) : Prop := ∀ n, q ∣ zc P n - zc Q n
theorem EqM.symm {q : Int} {P Q : List Int} (h : EqM q P Q) : EqM q Q P := fun n => by have := h n; rw [← Int.dvd_neg, Int.neg_sub] at this; exact this
theorem EqM.trans {q : Int} {P Q R : List Int} (h : EqM q P Q) (g : EqM q Q R) : EqM q P R := fun n => by
  have := Int.dvd_add (h n) (g n)
  rwa [show zc P n - zc Q n + (zc Q n - zc R n) = zc P n - zc R n by omega] at this
theorem EqM.of {q : Int} {P Q : List Int} (h : ∀ n, zc P n = zc Q n) : EqM q P Q := fun n => by rw [h, Int.sub_self]; exact Int.dvd_zero _
theorem EqM.deg {q : Int} {P Q : List Int} {d : Nat} (h : EqM q P Q) (g : DegM q P d) : DegM q Q d := by
  constructor
  · intro z
    have := Int.dvd_add (h d) z
    rw [Int.sub_add_cancel] at this
    exact g.1 this
  · intro n hn
    have := Int.dvd_sub (g.2 n hn) (h n)
    rwa [show zc P n - (zc P n - zc Q n) = zc Q n by omega] at this
theorem EqM.mul {q : Int} {P Q : List Int} (G : List Int) (h : EqM q P Q) : EqM q (mulL G P) (mulL G Q) := fun n => by
  rw [mulL_sum, mulL_sum, ← sumI_sub]
  refine sumI_dvd_all fun k hk => ?_
  rw [← Int.mul_sub]
  exact Int.dvd_mul_of_dvd_right (h _)
theorem EqM.mul' {q : Int} {P Q : List Int} (G : List Int) (h : EqM q P Q) : EqM q (mulL P G) (mulL Q G) := fun n => by
  rw [mulL_comm, mulL_comm Q]; exact EqM.mul G h n
theorem EqM.lin {q : Int} {P Q P' Q' R R' : List Int} {c d : Int} (h : EqM q P P') (g : EqM q Q Q') (e : ∀ n, zc R n = c * zc P n + d * zc Q n) (e' : ∀ n, zc R' n = c * zc P' n + d * zc Q' n) : EqM q R R' := fun n => by
  obtain ⟨a, ha⟩ := h n
  obtain ⟨b, hb⟩ := g n
  rw [e, e']
  exact ⟨c * a + d * b, by grind⟩
/-- nothing times something -/
theorem mul_none {q : Int} (hq : PrI q) {G P : List Int} (hG : ∃ i, ¬ q ∣ zc G i) (h : ∀ n, q ∣ zc (mulL G P) n) : ∀ n, q ∣ zc P n := by
  refine Classical.byContradiction fun c => ?_
  obtain ⟨d, hd⟩ := degM_ex hG
  obtain ⟨e, he⟩ := degM_ex (Classical.not_forall.mp c)
  exact (degM_mul hq hd he).1 (h _)
theorem mul_cancel {G P Q : List Int} (hG : ∃ i, zc G i ≠ 0) (h : ∀ n, zc (mulL G P) n = zc (mulL G Q) n) (n : Nat) : zc P n = zc Q n := by
  have e : ∀ n, zc (addL P (smL (-1) Q)) n = 1 * zc P n + -1 * zc Q n := fun n => by rw [addL_z, smL_z]; omega
  have z := mul_none prI_zero (G := G) (P := addL P (smL (-1) Q)) (let ⟨i, hi⟩ := hG; ⟨i, fun z => hi (Int.zero_dvd.mp z)⟩) (fun n => by rw [mulL_lin e, h]; exact ⟨0, by omega⟩) n
  have := Int.zero_dvd.mp z
  rw [e] at this; omega
/-! ### the common part -/
structure GcdL (A B G : List Int) : Prop where
  prim : PrimL G
  dA : ∃ Q, ∀ n, zc A n = zc (mulL G Q) n
  dB : ∃ Q, ∀ n, zc B n = zc (mulL G Q) n
  bez : ∃ (c : Int) (U V : List Int), c ≠ 0 ∧ ∀ n, c * zc G n = zc (mulL U A) n + zc (mulL V B) n
theorem GcdL.symm {A B G : List Int} (h : GcdL A B G) : GcdL B A G := ⟨h.prim, h.dB, h.dA, let ⟨c, U, V, c0, e⟩ := h.bez; ⟨c, V, U, c0, fun n => by rw [e, Int.add_comm]⟩⟩
theorem PrimL.ne {G : List Int} (h : PrimL G) : ∃ i, zc G i ≠ 0 := Classical.byContradiction fun c => by
  have z : ∀ i, zc G i = 0 := fun i => Classical.byContradiction fun e => c ⟨i, e⟩
  have := h 2 fun n => by rw [z]; exact Int.dvd_zero _
  omega
theorem PrimL.neM {G : List Int} (h : PrimL G) {p : Nat} (hp : Pr p) : ∃ i, ¬ (p : Int) ∣ zc G i := Classical.not_forall.mp fun c => by
  have := h p c
  have := hp.1
  omega
/-- what is combined to nothing with little is nothing -/
theorem GcdL.cop {A B G A' B' U V : List Int} {b : Nat} (h : GcdL A B G) (eA : ∀ n, zc A n = zc (mulL G A') n) (eB : ∀ n, zc B n = zc (mulL G B') n) (hb : DegM 0 B' b) (hU : ∀ n, b ≤ n → zc U n = 0) (e : ∀ n, zc (mulL U A) n + zc (mulL V B) n = 0) : (∀ n, zc U n = 0) ∧ ∀ n, zc V n = 0 := by
  obtain ⟨c, u, v, c0, bz⟩ := h.bez
  have hG := h.prim.ne
  -- U A' + V B' = 0
  have e1 : ∀ n, zc (mulL U A') n + zc (mulL V B') n = 0 := fun n => by
    have := mul_cancel (G := G) (P := addL (mulL U A') (mulL V B')) (Q := []) hG (fun n => by
      rw [mulL_lin (c := 1) (d := 1) (P := mulL U A') (Q := mulL V B') fun n => by rw [addL_z]; omega, mulL_nil]
      have s1 := mulL_swap U G A' n
      have s2 := mulL_swap V G B' n
      rw [mulL_congr (fun n => (eA n).symm)] at s1
      rw [mulL_congr (fun n => (eB n).symm)] at s2
      have := e n; omega) n
    rw [addL_z] at this
    exact this
  -- c = u A' + v B'
  have e2 : ∀ n, zc [c] n = zc (mulL u A') n + zc (mulL v B') n := fun n => by
    have := mul_cancel (G := G) (P := addL (mulL u A') (mulL v B')) (Q := [c]) hG (fun n => by
      rw [mulL_lin (c := 1) (d := 1) (P := mulL u A') (Q := mulL v B') fun n => by rw [addL_z]; omega, mulL_comm G [c], mulL_cons]
      have s1 := mulL_swap u G A' n
      have s2 := mulL_swap v G B' n
      rw [mulL_congr (fun n => (eA n).symm)] at s1
      rw [mulL_congr (fun n => (eB n).symm)] at s2
      have := bz n
      have z : (if n = 0 then (0 : Int) else zc (mulL [] G) (n - 1)) = 0 := by split <;> rfl
      rw [z]; omega) n
    rw [addL_z] at this
    exact this.symm
  -- c U = B' (v U - u V)
  have e3 : ∀ n, c * zc U n = zc (mulL B' (addL (mulL v U) (smL (-1) (mulL u V)))) n := fun n => by
    rw [mulL_lin (c := 1) (d := -1) (P := mulL v U) (Q := mulL u V) fun n => by rw [addL_z, smL_z]; omega]
    have a1 : c * zc U n = zc (mulL [c] U) n := by
      rw [mulL_cons]
      have z : (if n = 0 then (0 : Int) else zc (mulL [] U) (n - 1)) = 0 := by split <;> rfl
      rw [z]; omega
    have a2 : zc (mulL [c] U) n = 1 * zc (mulL (mulL u A') U) n + 1 * zc (mulL (mulL v B') U) n := mulL_lin' (fun n => by rw [e2]; omega) n
    have a3 : zc (mulL (mulL u A') U) n = zc (mulL u (mulL U A')) n := by rw [mulL_assoc]; exact mulL_congr (mulL_comm A' U) n
    have a4 : zc (mulL u (mulL U A')) n = -1 * zc (mulL u (mulL V B')) n := by
      have := mulL_lin (G := u) (R := mulL U A') (P := mulL V B') (Q := []) (c := -1) (d := 0) (fun n => by have := e1 n; omega) n
      rw [this]; omega
    have a5 : zc (mulL u (mulL V B')) n = zc (mulL B' (mulL u V)) n := by
      rw [← mulL_assoc]; exact mulL_comm (mulL u V) B' n
    have a6 : zc (mulL (mulL v B') U) n = zc (mulL B' (mulL v U)) n := by
      rw [mulL_congr' (mulL_comm v B'), mulL_assoc]
    omega
  have U0 : ∀ n, zc U n = 0 := by
    refine Classical.byContradiction fun z => ?_
    obtain ⟨i, hi⟩ := Classical.not_forall.mp z
    have ne : ∃ j, ¬ (0 : Int) ∣ zc (addL (mulL v U) (smL (-1) (mulL u V))) j := Classical.not_forall.mp fun y => by
      have := e3 i
      rw [mulL_sum] at this
      have z0 : sumI (fun k => zc B' k * zc (addL (mulL v U) (smL (-1) (mulL u V))) (i - k)) (i + 1) = 0 := Int.zero_dvd.mp (sumI_dvd_all fun k hk => Int.dvd_mul_of_dvd_right (y _))
      rw [z0] at this
      rcases Int.mul_eq_zero.mp this with a | a
      · exact c0 a
      · exact hi a
    obtain ⟨d, hd⟩ := degM_ex ne
    have m := (degM_mul prI_zero hb hd).1
    rw [← e3, hU _ (by omega), Int.mul_zero] at m
    exact m (Int.dvd_refl 0)
  refine ⟨U0, fun n => ?_⟩
  have := mul_cancel (G := B') (P := V) (Q := []) ⟨b, fun z => hb.1 (by rw [z]; exact Int.dvd_refl 0)⟩ (fun n => by
    rw [mulL_nil, mulL_comm B' V]
    have a := e1 n
    have b : zc (mulL U A') n = 0 := by
      rw [mulL_congr' (Q := []) (fun n => U0 n)]; rfl
    omega) n
  exact this
end Fp

namespace Fp
/-! ### the common part is small -/
theorem sumI_none {f : Nat → Int} : ∀ {n : Nat}, (∀ i, i < n → f i = 0) → sumI f n = 0
  | 0, _ => rfl
  | n + 1, h => by
    show sumI f n + f n = 0
    rw [sumI_none fun i hi => h i (by omega), h n (by omega)]; rfl
theorem sumI_pad {f : Nat → Int} {b : Nat} (h : ∀ k, b ≤ k → f k = 0) (m : Nat) : sumI f m = sumI (fun k => if k < m then f k else 0) b := by
  have e1 : sumI f m = sumI (fun k => if k < m then f k else 0) m := sumI_congr fun i hi => by rw [if_pos hi]
  have e2 : sumI (fun k => if k < m then f k else 0) (m + b) = sumI (fun k => if k < m then f k else 0) m := by
    rw [sumI_split, sumI_none (f := fun i => if m + i < m then f (m + i) else 0) fun i hi => by rw [if_neg (by omega)]]; omega
  have e3 : sumI (fun k => if k < m then f k else 0) (b + m) = sumI (fun k => if k < m then f k else 0) b := by
    rw [sumI_split, sumI_none (f := fun i => if b + i < m then f (b + i) else 0) fun i hi => by rw [h (b + i) (by omega)]; split <;> rfl]; omega
  rw [e1, ← e2, Nat.add_comm, e3]
def mkZ (f : Nat → Int) (n : Nat) : List Int := (List.range n).map f
theorem mkZ_at (f : Nat → Int) (n k : Nat) : zc (mkZ f n) k = if k < n then f k else 0 := by
  show ((List.range n).map f).getD k 0 = _
  rw [List.getD_eq_getElem?_getD, List.getElem?_map]
  by_cases h : k < n
  · rw [List.getElem?_range h, if_pos h]; rfl
  · rw [List.getElem?_eq_none (by rw [List.length_range]; omega), if_neg h]; rfl
/-- a product's place, over a few -/
theorem mulL_few {U A : List Int} {b : Nat} (h : ∀ k, b ≤ k → zc U k = 0) (n : Nat) : zc (mulL U A) n = sumI (fun k => (if k ≤ n then zc A (n - k) else 0) * zc U k) b := by
  rw [mulL_sum, sumI_pad (b := b) fun k hk => by rw [h k hk, Int.zero_mul]]
  refine sumI_congr fun k hk => ?_
  by_cases c : k ≤ n
  · rw [if_pos (by omega), if_pos c, Int.mul_comm]
  · rw [if_neg (by omega), if_neg c, Int.zero_mul]
theorem mulL_le {U A : List Int} {b C X : Nat} (h : ∀ k, b ≤ k → zc U k = 0) (hA : ∀ k, (zc A k).natAbs ≤ C) (hU : ∀ k, (zc U k).natAbs ≤ X) (n : Nat) : (zc (mulL U A) n).natAbs ≤ b * (C * X) := by
  rw [mulL_few h]
  refine sumI_le fun k hk => ?_
  rw [Int.natAbs_mul]
  refine Nat.mul_le_mul ?_ (hU k)
  split
  · exact hA _
  · exact Nat.zero_le _
theorem DegM.zero {P : List Int} {d : Nat} (h : DegM 0 P d) : zc P d ≠ 0 ∧ ∀ n, d < n → zc P n = 0 := ⟨fun z => h.1 (by rw [z]; exact Int.dvd_refl 0), fun n hn => Int.zero_dvd.mp (h.2 n hn)⟩
theorem mulL_const {G : List Int} {c : Int} {S : List Int} (h0 : zc S 0 = c) (h : ∀ n, 0 < n → zc S n = 0) (n : Nat) : zc (mulL G S) n = c * zc G n := by
  rw [mulL_congr (Q := [c]) (fun n => by
    by_cases z : n = 0
    · subst z; exact h0
    · rw [h n (by omega), zc_cons, if_neg z]; rfl), mulL_comm, mulL_cons]
  have : (if n = 0 then (0 : Int) else zc (mulL [] G) (n - 1)) = 0 := by split <;> rfl
  rw [this]; omega
/-- few and small factors that bring down to the common part -/
theorem GcdL.small {A B G A' B' : List Int} {g a b C : Nat} (h : GcdL A B G) (eA : ∀ n, zc A n = zc (mulL G A') n) (eB : ∀ n, zc B n = zc (mulL G B') n) (hg : DegM 0 G g) (ha : DegM 0 A' a) (hb : DegM 0 B' b) (CA : ∀ i, (zc A i).natAbs ≤ C) (CB : ∀ i, (zc B i).natAbs ≤ C) (C0 : 0 < C) :
    ∃ (c : Int) (U V : List Int), c ≠ 0 ∧ (∀ n, c * zc G n = zc (mulL U A) n + zc (mulL V B) n) ∧ ∀ n, (c * zc G n).natAbs ≤ (a + b + 1) * (C * (2 * (a + b) * C) ^ (a + b)) := by
  by_cases z : a + b = 0
  · obtain ⟨rfl, rfl⟩ : a = 0 ∧ b = 0 := by omega
    have e := mulL_const (G := G) (c := zc A' 0) (S := A') rfl (fun n hn => ha.zero.2 n hn)
    refine ⟨zc A' 0, [1], [], ha.zero.1, fun n => ?_, fun n => ?_⟩
    · rw [← e, ← eA, mulL_cons]
      have : (if n = 0 then (0 : Int) else zc (mulL [] A) (n - 1)) = 0 := by split <;> rfl
      rw [this]
      show _ = _ + zc [] n
      have : zc [] n = 0 := rfl
      rw [this]; omega
    · rw [← e, ← eA]
      have := CA n
      show (zc A n).natAbs ≤ 1 * (C * 1)
      omega
  · have dA := degM_mul prI_zero hg ha
    have dB := degM_mul prI_zero hg hb
    have dA' : ∀ n, g + a < n → zc A n = 0 := fun n hn => by rw [eA]; exact dA.zero.2 n hn
    have dB' : ∀ n, g + b < n → zc B n = 0 := fun n hn => by rw [eB]; exact dB.zero.2 n hn
    obtain ⟨x, hx, ⟨i0, hi0, hxi⟩, eq⟩ := siegel (N := a + b) (M := a + b - 1) (C := C)
      (fun j i => if i < b then (if i ≤ g + 1 + j then zc A (g + 1 + j - i) else 0) else (if i - b ≤ g + 1 + j then zc B (g + 1 + j - (i - b)) else 0))
      (fun j i _ _ => by
        split <;> split
        · exact CA _
        · exact Nat.zero_le _
        · exact CB _
        · exact Nat.zero_le _) C0 (by omega)
    have U0 : ∀ k, b ≤ k → zc (mkZ x b) k = 0 := fun k hk => by rw [mkZ_at, if_neg (by omega)]
    have V0 : ∀ k, a ≤ k → zc (mkZ (fun i => x (b + i)) a) k = 0 := fun k hk => by rw [mkZ_at, if_neg (by omega)]
    have W : ∀ n, g < n → zc (mulL (mkZ x b) A) n + zc (mulL (mkZ (fun i => x (b + i)) a) B) n = 0 := fun n hn => by
      by_cases big : g + a + b ≤ n
      · have z1 : zc (mulL (mkZ x b) A) n = 0 := by
          rw [mulL_few U0]
          refine sumI_none fun k hk => ?_
          rw [if_pos (by omega), dA' _ (by omega), Int.zero_mul]
        have z2 : zc (mulL (mkZ (fun i => x (b + i)) a) B) n = 0 := by
          rw [mulL_few V0]
          refine sumI_none fun k hk => ?_
          rw [if_pos (by omega), dB' _ (by omega), Int.zero_mul]
        rw [z1, z2]; rfl
      · have e := eq (n - (g + 1)) (by omega)
        rw [show g + 1 + (n - (g + 1)) = n by omega, Nat.add_comm a b, sumI_split] at e
        rw [mulL_few U0, mulL_few V0]
        refine Eq.trans ?_ e
        congr 1
        · exact sumI_congr fun k hk => by rw [if_pos hk, mkZ_at, if_pos hk]
        · refine sumI_congr fun k hk => ?_
          rw [mkZ_at, if_pos hk, if_neg (show ¬ b + k < b by omega), show b + k - b = k by omega]
    -- over the common part
    have s1 : ∀ n, zc (mulL (mkZ x b) A) n + zc (mulL (mkZ (fun i => x (b + i)) a) B) n = zc (mulL G (addL (mulL (mkZ x b) A') (mulL (mkZ (fun i => x (b + i)) a) B'))) n := fun n => by
      rw [mulL_lin (R := addL (mulL (mkZ x b) A') (mulL (mkZ (fun i => x (b + i)) a) B')) (c := 1) (d := 1) (P := mulL (mkZ x b) A') (Q := mulL (mkZ (fun i => x (b + i)) a) B') fun n => by rw [addL_z]; omega, mulL_congr (G := mkZ x b) eA, mulL_congr (G := mkZ (fun i => x (b + i)) a) eB, mulL_swap (mkZ x b) G A', mulL_swap (mkZ (fun i => x (b + i)) a) G B']
      omega
    generalize addL (mulL (mkZ x b) A') (mulL (mkZ (fun i => x (b + i)) a) B') = S at s1
    have ne : ∃ i, ¬ (0 : Int) ∣ zc S i := Classical.not_forall.mp fun c => by
      have zz : ∀ n, zc (mulL (mkZ x b) A) n + zc (mulL (mkZ (fun i => x (b + i)) a) B) n = 0 := fun n => by
        rw [s1, mulL_sum]
        refine sumI_none fun k hk => ?_
        rw [Int.zero_dvd.mp (c _), Int.mul_zero]
      obtain ⟨u0, v0⟩ := h.cop eA eB hb U0 zz
      by_cases ib : i0 < b
      · have := u0 i0
        rw [mkZ_at, if_pos ib] at this
        exact hxi this
      · have := v0 (i0 - b)
        rw [mkZ_at, if_pos (by omega), show b + (i0 - b) = i0 by omega] at this
        exact hxi this
    obtain ⟨d, hd⟩ := degM_ex ne
    have d0 : d = 0 := by
      refine Classical.byContradiction fun c => ?_
      have m := (degM_mul prI_zero hg hd).zero.1
      rw [← s1, W _ (by omega)] at m
      exact m rfl
    subst d0
    have e := mulL_const (G := G) (c := zc S 0) (S := S) rfl (fun n hn => hd.zero.2 n hn)
    refine ⟨zc S 0, mkZ x b, mkZ (fun i => x (b + i)) a, hd.zero.1, fun n => by rw [s1, e], fun n => ?_⟩
    rw [← e, ← s1]
    have X0 : 0 < 2 * (a + b) * C := Nat.mul_pos (by omega) C0
    have le : (2 * (a + b) * C) ^ (a + b - 1) ≤ (2 * (a + b) * C) ^ (a + b) := Nat.pow_le_pow_right X0 (by omega)
    have h1 := mulL_le U0 CA (X := (2 * (a + b) * C) ^ (a + b - 1)) (fun k => by rw [mkZ_at]; split; exact hx _; exact Nat.zero_le _) n
    have h2 := mulL_le V0 CB (X := (2 * (a + b) * C) ^ (a + b - 1)) (fun k => by rw [mkZ_at]; split; exact hx _; exact Nat.zero_le _) n
    have h3 : b * (C * (2 * (a + b) * C) ^ (a + b - 1)) + a * (C * (2 * (a + b) * C) ^ (a + b - 1)) = (a + b) * (C * (2 * (a + b) * C) ^ (a + b - 1)) := by
      rw [← Nat.add_mul, Nat.add_comm]
    have h4 : (a + b) * (C * (2 * (a + b) * C) ^ (a + b - 1)) ≤ (a + b + 1) * (C * (2 * (a + b) * C) ^ (a + b)) := Nat.mul_le_mul (by omega) (Nat.mul_le_mul_left _ le)
    have h5 := Int.natAbs_add_le (zc (mulL (mkZ x b) A) n) (zc (mulL (mkZ (fun i => x (b + i)) a) B) n)
    omega
end Fp

namespace Fp
/-! ### common parts modulo a prime (or, modulo 0, of whole polynomials up to factors) -/
theorem not_dvd_mul {q : Int} (hq : PrI q) {a b : Int} (ha : ¬ q ∣ a) (hb : ¬ q ∣ b) : ¬ q ∣ a * b := fun h => (hq a b h).elim ha hb
/-- D divides X, but for a factor that counts -/
def DvM (q : Int) (D X : List Int) : Prop := ∃ (N : Int) (Q : List Int), ¬ q ∣ N ∧ ∀ n, q ∣ N * zc X n - zc (mulL D Q) n
/-- F is put together of A and B, but for a factor that counts -/
def CombM (q : Int) (A B F : List Int) : Prop := ∃ (c : Int) (U V : List Int), ¬ q ∣ c ∧ ∀ n, q ∣ c * zc F n - (zc (mulL U A) n + zc (mulL V B) n)
theorem one_not {q : Int} (h : q ≠ 1 ∧ q ≠ -1) : ¬ q ∣ 1 := fun c => by
  have := Int.natAbs_dvd_natAbs.mpr c
  have : q.natAbs = 1 := Nat.dvd_one.mp this
  omega
theorem mulL_one (D : List Int) (n : Nat) : zc (mulL D [1]) n = zc D n := by
  rw [mulL_const (c := 1) rfl (fun n hn => by rw [zc_cons, if_neg (by omega)]; rfl)]; omega
theorem mulL_one' (D : List Int) (n : Nat) : zc (mulL [1] D) n = zc D n := by rw [mulL_comm, mulL_one]
theorem DvM.self {q : Int} (h : ¬ q ∣ 1) (D : List Int) : DvM q D D := ⟨1, [1], h, fun n => by rw [mulL_one]; exact ⟨0, by omega⟩⟩
theorem DvM.none {q : Int} (h : ¬ q ∣ 1) (D : List Int) {X : List Int} (z : ∀ n, q ∣ zc X n) : DvM q D X := ⟨1, [], h, fun n => by
  rw [mulL_nil]; obtain ⟨k, hk⟩ := z n; exact ⟨k, by omega⟩⟩
theorem CombM.one {q : Int} (h : ¬ q ∣ 1) (A B : List Int) : CombM q A B A := ⟨1, [1], [], h, fun n => by
  rw [mulL_one']
  have : zc (mulL [] B) n = 0 := rfl
  rw [this]; exact ⟨0, by omega⟩⟩
theorem CombM.two {q : Int} (h : ¬ q ∣ 1) (A B : List Int) : CombM q A B B := ⟨1, [], [1], h, fun n => by
  rw [mulL_one']
  have : zc (mulL [] A) n = 0 := rfl
  rw [this]; exact ⟨0, by omega⟩⟩
/-- h X is Z modulo q -/
def SmM (q h : Int) (X Z : List Int) : Prop := ∀ n, q ∣ h * zc X n - zc Z n
theorem DvM.up {q : Int} (hq : PrI q) {D X Z : List Int} {h : Int} (hh : ¬ q ∣ h) (e : SmM q h X Z) (d : DvM q D Z) : DvM q D X := by
  obtain ⟨N, Q, hN, eN⟩ := d
  refine ⟨N * h, Q, not_dvd_mul hq hN hh, fun n => ?_⟩
  obtain ⟨a, ha⟩ := e n
  obtain ⟨b, hb⟩ := eN n
  exact ⟨N * a + b, by grind⟩
theorem DvM.down {q : Int} {D X Z : List Int} {h : Int} (e : SmM q h X Z) (d : DvM q D X) : DvM q D Z := by
  obtain ⟨N, Q, hN, eN⟩ := d
  refine ⟨N, smL h Q, hN, fun n => ?_⟩
  have l := mulL_lin (G := D) (P := Q) (Q := []) (R := smL h Q) (c := h) (d := 0) (fun n => by rw [Int.zero_mul, Int.add_zero]; exact smL_at h Q n) n
  rw [l]
  obtain ⟨a, ha⟩ := e n
  obtain ⟨b, hb⟩ := eN n
  exact ⟨h * b - N * a, by grind⟩
theorem CombM.up {q : Int} (hq : PrI q) {A B X Z : List Int} {h : Int} (hh : ¬ q ∣ h) (e : SmM q h X Z) (d : CombM q A B Z) : CombM q A B X := by
  obtain ⟨c, U, V, hc, eN⟩ := d
  refine ⟨c * h, U, V, not_dvd_mul hq hc hh, fun n => ?_⟩
  obtain ⟨a, ha⟩ := e n
  obtain ⟨b, hb⟩ := eN n
  exact ⟨c * a + b, by grind⟩
theorem CombM.down {q : Int} {A B X Z : List Int} {h : Int} (e : SmM q h X Z) (d : CombM q A B X) : CombM q A B Z := by
  obtain ⟨c, U, V, hc, eN⟩ := d
  refine ⟨c, smL h U, smL h V, hc, fun n => ?_⟩
  have l := mulL_lin' (G := A) (P := U) (Q := []) (R := smL h U) (c := h) (d := 0) (fun n => by rw [Int.zero_mul, Int.add_zero]; exact smL_at h U n) n
  have l2 := mulL_lin' (G := B) (P := V) (Q := []) (R := smL h V) (c := h) (d := 0) (fun n => by rw [Int.zero_mul, Int.add_zero]; exact smL_at h V n) n
  rw [l, l2]
  obtain ⟨a, ha⟩ := e n
  obtain ⟨b, hb⟩ := eN n
  exact ⟨h * b - c * a, by grind⟩
theorem DvM.lin {q : Int} (hq : PrI q) {D X Y Z : List Int} {c d : Int} (x : DvM q D X) (y : DvM q D Y) (e : ∀ n, q ∣ zc Z n - (c * zc X n + d * zc Y n)) : DvM q D Z := by
  obtain ⟨N, Q, hN, eN⟩ := x
  obtain ⟨M, R, hM, eM⟩ := y
  refine ⟨N * M, addL (smL (c * M) Q) (smL (d * N) R), not_dvd_mul hq hN hM, fun n => ?_⟩
  have l := mulL_lin (G := D) (P := Q) (Q := R) (R := addL (smL (c * M) Q) (smL (d * N) R)) (c := c * M) (d := d * N) (fun n => by rw [addL_z, smL_z, smL_z]) n
  rw [l]
  obtain ⟨a, ha⟩ := e n
  obtain ⟨b, hb⟩ := eN n
  obtain ⟨f, hf⟩ := eM n
  exact ⟨N * M * a + c * M * b + d * N * f, by grind⟩
theorem CombM.lin {q : Int} (hq : PrI q) {A B X Y Z : List Int} {c d : Int} (x : CombM q A B X) (y : CombM q A B Y) (e : ∀ n, q ∣ zc Z n - (c * zc X n + d * zc Y n)) : CombM q A B Z := by
  obtain ⟨N, U, V, hN, eN⟩ := x
  obtain ⟨M, R, S, hM, eM⟩ := y
  refine ⟨N * M, addL (smL (c * M) U) (smL (d * N) R), addL (smL (c * M) V) (smL (d * N) S), not_dvd_mul hq hN hM, fun n => ?_⟩
  have l := mulL_lin' (G := A) (P := U) (Q := R) (R := addL (smL (c * M) U) (smL (d * N) R)) (c := c * M) (d := d * N) (fun n => by rw [addL_z, smL_z, smL_z]) n
  have l2 := mulL_lin' (G := B) (P := V) (Q := S) (R := addL (smL (c * M) V) (smL (d * N) S)) (c := c * M) (d := d * N) (fun n => by rw [addL_z, smL_z, smL_z]) n
  rw [l, l2]
  obtain ⟨a, ha⟩ := e n
  obtain ⟨b, hb⟩ := eN n
  obtain ⟨f, hf⟩ := eM n
  exact ⟨N * M * a + c * M * b + d * N * f, by grind⟩
theorem DvM.shift {q : Int} {D X : List Int} (k : Nat) (x : DvM q D X) : DvM q D (upL k X) := by
  obtain ⟨N, Q, hN, eN⟩ := x
  refine ⟨N, upL k Q, hN, fun n => ?_⟩
  rw [mulL_upL, upL_at]
  split
  · exact ⟨0, by omega⟩
  · exact eN _
theorem mulL_upL' (Q G : List Int) (k n : Nat) : zc (mulL (upL k Q) G) n = if n < k then 0 else zc (mulL Q G) (n - k) := by
  rw [mulL_comm, mulL_upL]; split
  · rfl
  · rw [mulL_comm]
theorem CombM.shift {q : Int} {A B X : List Int} (k : Nat) (x : CombM q A B X) : CombM q A B (upL k X) := by
  obtain ⟨N, U, V, hN, eN⟩ := x
  refine ⟨N, upL k U, upL k V, hN, fun n => ?_⟩
  rw [mulL_upL', mulL_upL', upL_at]
  split
  · exact ⟨0, by omega⟩
  · exact eN _
/-- what stands in the division of Euclid, modulo q -/
structure EucM (q : Int) (A B F S : List Int) : Prop where
  cF : CombM q A B F
  cS : CombM q A B S
  dv : ∀ D, DvM q D F → DvM q D S → DvM q D A ∧ DvM q D B
theorem EucM.swap {q : Int} {A B F S : List Int} (h : EucM q A B F S) : EucM q A B S F := ⟨h.cS, h.cF, fun D a b => h.dv D b a⟩
/-- a first that stands for another -/
theorem EucM.same {q : Int} (hq : PrI q) {A B F F' S : List Int} {k : Int} (hk : ¬ q ∣ k) (e : SmM q k F' F) (h : EucM q A B F S) : EucM q A B F' S :=
  ⟨h.cF.up hq hk e, h.cS, fun D a b => h.dv D (a.down e) b⟩
theorem EucM.start {q : Int} (h1 : ¬ q ∣ 1) (A B : List Int) : EucM q A B A B := ⟨.one h1 A B, .two h1 A B, fun D a b => ⟨a, b⟩⟩
/-- a step: the first times the head of the second, less the second times another number, higher up -/
theorem EucM.step {q : Int} (hq : PrI q) (h1 : ¬ q ∣ 1) {A B F F' S : List Int} {k : Nat} {head lead : Int} (hh : ¬ q ∣ head) (e : ∀ n, q ∣ zc F' n - (head * zc F n - lead * zc (upL k S) n)) (h : EucM q A B F S) : EucM q A B F' S := by
  refine ⟨.lin hq (c := head) (d := -lead) h.cF (h.cS.shift k) fun n => ?_, h.cS, fun D a b => h.dv D ?_ b⟩
  · rw [Int.neg_mul, ← Int.sub_eq_add_neg]; exact e n
  · refine DvM.up hq (h := head) (Z := addL F' (smL lead (upL k S))) hh (fun n => ?_) (.lin hq (c := 1) (d := lead) a (b.shift k) fun n => ?_)
    · rw [addL_z, smL_z]
      obtain ⟨x, hx⟩ := e n
      exact ⟨-x, by grind⟩
    · rw [addL_z, smL_z]; exact ⟨0, by omega⟩
/-- where it ends -/
theorem EucM.last {q : Int} (h1 : ¬ q ∣ 1) {A B F S : List Int} (h : EucM q A B F S) (z : ∀ n, q ∣ zc S n) : CombM q A B F ∧ DvM q F A ∧ DvM q F B :=
  ⟨h.cF, h.dv F (.self h1 F) (.none h1 F z)⟩
theorem DvM.comb {q : Int} (hq : PrI q) {D A B F : List Int} (a : DvM q D A) (b : DvM q D B) (f : CombM q A B F) : DvM q D F := by
  obtain ⟨c, U, V, hc, e⟩ := f
  have m : ∀ {X : List Int} (W : List Int), DvM q D X → DvM q D (mulL W X) := fun {X} W x => by
    obtain ⟨N, Q, hN, eN⟩ := x
    refine ⟨N, mulL W Q, hN, fun n => ?_⟩
    have s := mulL_swap W D Q n
    have t := EqM.mul (q := q) (P := smL N X) (Q := mulL D Q) W (fun n => by rw [smL_z]; exact eN n) n
    have u := mulL_lin (G := W) (P := X) (Q := []) (R := smL N X) (c := N) (d := 0) (fun n => by rw [Int.zero_mul, Int.add_zero]; exact smL_at N X n) n
    rw [u, s] at t
    rw [Int.zero_mul, Int.add_zero] at t
    exact t
  refine DvM.up hq (h := c) (Z := addL (mulL U A) (mulL V B)) hc (fun n => ?_) (.lin hq (c := 1) (d := 1) (m U a) (m V b) fun n => ?_)
  · rw [addL_z]; exact e n
  · rw [addL_z]; exact ⟨0, by omega⟩
/-- modulo a prime it is the common part, but for a factor -/
theorem mod_gcd {q : Int} (hq : PrI q) {A B G F : List Int} (hG : ∃ i, ¬ q ∣ zc G i) (A' B' : List Int) (eA : ∀ n, zc A n = zc (mulL G A') n) (eB : ∀ n, zc B n = zc (mulL G B') n) (hc : CombM q A B G) (hF : CombM q A B F) (dA : DvM q F A) (dB : DvM q F B) :
    ∃ k w : Int, ¬ q ∣ k ∧ ¬ q ∣ w ∧ ∀ n, q ∣ k * zc F n - w * zc G n := by
  obtain ⟨N, Q, hN, eN⟩ := dA.comb hq dB hc
  obtain ⟨k, U, V, hk, e⟩ := hF
  -- k F = G S
  have e1 : ∀ n, q ∣ k * zc F n - zc (mulL G (addL (mulL U A') (mulL V B'))) n := fun n => by
    rw [mulL_lin (R := addL (mulL U A') (mulL V B')) (c := 1) (d := 1) (P := mulL U A') (Q := mulL V B') fun n => by rw [addL_z]; omega, ← mulL_swap U G A', ← mulL_swap V G B', mulL_congr (G := U) fun n => (eA n).symm, mulL_congr (G := V) fun n => (eB n).symm]
    obtain ⟨x, hx⟩ := e n
    exact ⟨x, by omega⟩
  generalize addL (mulL U A') (mulL V B') = S at e1
  -- k N G = G S Q
  have e2 : ∀ n, q ∣ zc (mulL G (mulL S Q)) n - zc (mulL G [k * N]) n := fun n => by
    have a := eN n
    have b := EqM.mul' (q := q) (P := smL k F) (Q := mulL G S) Q (fun n => by rw [smL_z]; exact e1 n) n
    have c := mulL_lin' (G := Q) (P := F) (Q := []) (R := smL k F) (c := k) (d := 0) (fun n => by rw [Int.zero_mul, Int.add_zero]; exact smL_at k F n) n
    rw [c, mulL_assoc, Int.zero_mul, Int.add_zero] at b
    rw [mulL_const (S := [k * N]) (c := k * N) rfl fun n hn => by rw [zc_cons, if_neg (by omega)]; rfl]
    obtain ⟨x, hx⟩ := a
    obtain ⟨y, hy⟩ := b
    exact ⟨-y - k * x, by grind⟩
  have e3 : ∀ n, q ∣ zc (addL (mulL S Q) (smL (-1) [k * N])) n := mul_none hq hG fun n => by
    rw [mulL_lin (R := addL (mulL S Q) (smL (-1) [k * N])) (c := 1) (d := -1) (P := mulL S Q) (Q := [k * N]) fun n => by rw [addL_z, smL_z]; omega]
    have := e2 n
    rwa [show 1 * zc (mulL G (mulL S Q)) n + -1 * zc (mulL G [k * N]) n = zc (mulL G (mulL S Q)) n - zc (mulL G [k * N]) n by omega]
  have e4 : EqM q [k * N] (mulL S Q) := EqM.symm fun n => by
    have := e3 n
    rw [addL_z, smL_z] at this
    rwa [show zc (mulL S Q) n + -1 * zc [k * N] n = zc (mulL S Q) n - zc [k * N] n by omega] at this
  have d0 : DegM q [k * N] 0 := ⟨not_dvd_mul hq hk hN, fun n hn => by
    rw [zc_cons, if_neg (by omega)]; exact Int.dvd_zero _⟩
  have d1 := e4.deg d0
  -- S is a number
  have sx : ∃ i, ¬ q ∣ zc S i := Classical.not_forall.mp fun c => d1.1 (by
    rw [mulL_sum]; exact sumI_dvd_all fun i hi => Int.dvd_mul_of_dvd_left (c _))
  have qx : ∃ i, ¬ q ∣ zc Q i := Classical.not_forall.mp fun c => d1.1 (by
    rw [mulL_sum]; exact sumI_dvd_all fun i hi => Int.dvd_mul_of_dvd_right (c _))
  obtain ⟨s, hs⟩ := degM_ex sx
  obtain ⟨t, ht⟩ := degM_ex qx
  have := degM_fn d1 (degM_mul hq hs ht)
  obtain rfl : s = 0 := by omega
  refine ⟨k, zc S 0, hk, hs.1, fun n => ?_⟩
  have a := EqM.mul (q := q) (P := S) (Q := [zc S 0]) G (fun n => by
    rw [zc_cons]
    by_cases z : n = 0
    · subst z; rw [if_pos rfl]; exact ⟨0, by omega⟩
    · rw [if_neg z]
      have := hs.2 n (by omega)
      show q ∣ zc S n - 0
      rwa [Int.sub_zero]) n
  rw [mulL_const (S := [zc S 0]) (c := zc S 0) rfl fun n hn => by rw [zc_cons, if_neg (by omega)]; rfl] at a
  obtain ⟨x, hx⟩ := e1 n
  obtain ⟨y, hy⟩ := a
  exact ⟨x + y, by rw [Int.mul_add]; omega⟩
/-- the law's own common part -/
theorem GcdL.of {A B G : List Int} (hG : PrimL G) (h : CombM 0 A B G) (a : DvM 0 G A) (b : DvM 0 G B) : GcdL A B G := by
  have z : ∀ {x : Int}, ¬ (0 : Int) ∣ x → x ≠ 0 := fun h e => h (by rw [e]; exact Int.dvd_refl 0)
  refine ⟨hG, ?_, ?_, ?_⟩
  · obtain ⟨N, Q, hN, e⟩ := a
    exact gauss hG _ (Q := Q) rfl (z hN) fun n => by have := Int.zero_dvd.mp (e n); omega
  · obtain ⟨N, Q, hN, e⟩ := b
    exact gauss hG _ (Q := Q) rfl (z hN) fun n => by have := Int.zero_dvd.mp (e n); omega
  · obtain ⟨c, U, V, hc, e⟩ := h
    exact ⟨c, U, V, z hc, fun n => by have := Int.zero_dvd.mp (e n); omega⟩
end Fp

namespace Fp
def ll (p : Nat) : Nat → Nat
  | 0 => 4
  | k + 1 => (ll p k * ll p k + (p - 2)) % p
theorem ll_pw {p : Nat} (p2 : 2 ≤ p) : ∀ k, (p : Int) ∣ 2 * (pw (2 ^ k)).1 - (ll p k : Int)
  | 0 => ⟨0, by rw [Int.mul_zero]; rfl⟩
  | k + 1 => by
    obtain ⟨c, hc⟩ := ll_pw p2 k
    have d := (pw_dbl (2 ^ k)).1
    rw [show 2 ^ k + 2 ^ k = 2 ^ (k + 1) by rw [Nat.pow_succ]; omega] at d
    have e : ((ll p (k + 1) : Nat) : Int) = ((ll p k : Int) * (ll p k : Int) + ((p : Int) - 2)) % (p : Int) := by
      show (((ll p k * ll p k + (p - 2)) % p : Nat) : Int) = _
      rw [Int.natCast_emod, Int.natCast_add, Int.natCast_mul, Int.natCast_sub p2]; rfl
    have m := Int.emod_add_mul_ediv ((ll p k : Int) * (ll p k : Int) + ((p : Int) - 2)) (p : Int)
    rw [← e] at m
    rw [d]
    generalize ((ll p k : Int) * (ll p k : Int) + ((p : Int) - 2)) / (p : Int) = t at m
    generalize (pw (2 ^ k)).1 = x at *
    generalize ((ll p k : Nat) : Int) = s at *
    generalize ((ll p (k + 1) : Nat) : Int) = u at *
    exact ⟨c * (2 * x + s) - 1 + t, by grind⟩
/-- Lucas and Lehmer -/
theorem mersenne {k p : Nat} (hp : p + 1 = 2 ^ (k + 2)) (h : ll p k = 0) : ∀ d, d ∣ p → d = 1 ∨ d = p := fun d hd => by
  have p4 : 4 ≤ p + 1 := by rw [hp, Nat.pow_add]; have := Nat.one_le_two_pow (n := k); omega
  have podd : ¬ 2 ∣ p := fun z => by
    have : (2 : Nat) ∣ 2 ^ (k + 2) := ⟨2 ^ (k + 1), by rw [Nat.pow_succ 2 (k + 1)]; omega⟩
    rw [← hp] at this
    omega
  have e := ll_pw (p := p) (by omega) k
  rw [h] at e
  have e : (p : Int) ∣ 2 * (pw (2 ^ k)).1 := by simpa using e
  have big : ∀ q, q ∣ p → 1 < q → p < q * q := fun q hq q1 => by
    have qodd : ¬ 2 ∣ q := fun z => podd (Nat.dvd_trans z hq)
    have q2 : ¬ (q : Int) ∣ 2 := fun z => by
      have := Int.natCast_dvd_natCast.mp (show ((q : Nat) : Int) ∣ ((2 : Nat) : Int) from z)
      have := Nat.le_of_dvd (by decide) this
      have : q = 2 := by omega
      omega
    have e2 : (q : Int) ∣ 2 * (pw (2 ^ k)).1 := Int.dvd_trans (Int.natCast_dvd_natCast.mpr hq) e
    have e3 : (q : Int) ∣ (pw (2 ^ k)).1 := by
      obtain ⟨c, hc⟩ := e2
      obtain ⟨j, hj⟩ : ∃ j : Int, (q : Int) = 2 * j + 1 := ⟨(q : Int) / 2, by omega⟩
      exact ⟨(pw (2 ^ k)).1 - j * c, by grind⟩
    have := big_divisor (n := k) q1 q2 e3
    omega
  obtain ⟨f, hf⟩ := hd
  have dp : d ∣ p := ⟨f, hf⟩
  have fp : f ∣ p := ⟨d, by rw [hf, Nat.mul_comm]⟩
  rcases Nat.lt_or_ge 1 d with d1 | d1
  · rcases Nat.lt_or_ge 1 f with f1 | f1
    · have a := big d dp d1
      have b := big f fp f1
      exfalso
      rcases Nat.le_total d f with l | l
      · have := Nat.mul_le_mul_left d l; omega
      · have := Nat.mul_le_mul_left f l
        rw [Nat.mul_comm f d] at this; omega
    · have : f = 1 := by
        rcases (show f = 0 ∨ f = 1 by omega) with z | z
        · rw [z, Nat.mul_zero] at hf; omega
        · exact z
      right; rw [hf, this, Nat.mul_one]
  · left
    rcases (show d = 0 ∨ d = 1 by omega) with z | z
    · rw [z, Nat.zero_mul] at hf; omega
    · exact z
abbrev p521 : Nat := 2 ^ 521 - 1
theorem ll_521 : ll (2 ^ 521 - 1) 519 = 0 := by decide +kernel
theorem prime_521 : Pr p521 := pr_of (by decide +kernel) (mersenne (k := 519) (by decide +kernel) ll_521)
end Fp

namespace Fp
/-! ### fractions out of their rests -/
/-- where the division of Euclid stands: older, newer, and their multiples -/
structure Euc (p : Nat) (x : Int) (r0 r1 b0 b1 : Int) : Prop where
  e0 : (p : Int) ∣ r0 - b0 * x
  e1 : (p : Int) ∣ r1 - b1 * x
  n1 : 0 ≤ r1
  lt : r1 < r0
  sg : ∃ s : Int, (s = 1 ∨ s = -1) ∧ 0 ≤ s * b1 ∧ s * b0 ≤ 0 ∧ s * (r0 * b1 - r1 * b0) = p
  cp : Int.gcd r0 r1 = Int.gcd p x
theorem Euc.start {p : Nat} {x : Int} (h0 : 0 ≤ x) (h1 : x < p) : Euc p x p x 0 1 :=
  ⟨⟨1, by omega⟩, ⟨0, by omega⟩, h0, h1, ⟨1, .inl rfl, by omega, by omega, by omega⟩, rfl⟩
theorem Euc.step {p : Nat} {x r0 r1 b0 b1 : Int} (h : Euc p x r0 r1 b0 b1) (h1 : 0 < r1) : Euc p x r1 (r0 - r0.fdiv r1 * r1) b1 (b0 - r0.fdiv r1 * b1) := by
  obtain ⟨⟨a, ha⟩, ⟨c, hc⟩, n1, lt, ⟨s, hs, s1, s0, det⟩, cp⟩ := h
  have q0 : 0 ≤ r0.fdiv r1 := by rw [Int.fdiv_eq_ediv_of_nonneg _ (by omega)]; exact Int.ediv_nonneg (by omega) (by omega)
  have em : r0 - r0.fdiv r1 * r1 = r0 % r1 := by
    rw [Int.fdiv_eq_ediv_of_nonneg _ (by omega)]
    have := Int.emod_add_mul_ediv r0 r1
    rw [Int.mul_comm] at this; omega
  have r2 : 0 ≤ r0 - r0.fdiv r1 * r1 ∧ r0 - r0.fdiv r1 * r1 < r1 := by
    rw [em]; exact ⟨Int.emod_nonneg _ (by omega), Int.emod_lt_of_pos _ h1⟩
  have cg : Int.gcd r1 (r0 - r0.fdiv r1 * r1) = Int.gcd r0 r1 := by
    generalize r0.fdiv r1 = q
    refine Nat.dvd_antisymm (Int.dvd_gcd_iff.mpr ⟨?_, Int.gcd_dvd_left ..⟩) (Int.dvd_gcd_iff.mpr ⟨Int.gcd_dvd_right .., ?_⟩)
    · obtain ⟨a, ha⟩ := Int.gcd_dvd_left r1 (r0 - q * r1)
      obtain ⟨b, hb⟩ := Int.gcd_dvd_right r1 (r0 - q * r1)
      exact ⟨b + q * a, by grind⟩
    · obtain ⟨a, ha⟩ := Int.gcd_dvd_left r0 r1
      obtain ⟨b, hb⟩ := Int.gcd_dvd_right r0 r1
      exact ⟨a - q * b, by grind⟩
  generalize r0.fdiv r1 = q at *
  refine ⟨⟨c, hc⟩, ⟨a - q * c, by grind⟩, r2.1, r2.2, ⟨-s, by omega, ?_, ?_, ?_⟩, by rw [cg, cp]⟩
  · have : -s * (b0 - q * b1) = q * (s * b1) - s * b0 := by grind
    rw [this]
    have := Int.mul_nonneg q0 s1
    omega
  · have : -s * b1 = -(s * b1) := by grind
    omega
  · grind
/-- the one small fraction -/
theorem recon {p L : Nat} {x r0 r1 b0 b1 t m : Int} (h : Euc p x r0 r1 b0 b1) (hp : 2 * (L * L) < p) (hL : (L : Int) < r0) (hl : r1 ≤ L) (m0 : 0 < m) (mL : m ≤ L) (tL : t.natAbs ≤ L) (c : Int.gcd t m = 1) (e : (p : Int) ∣ t - m * x) :
    (r1 = t ∧ b1 = m) ∨ (r1 = -t ∧ b1 = -m) := by
  obtain ⟨⟨a, ha⟩, ⟨d, hd⟩, n1, lt, ⟨s, hs, s1, s0, det⟩, _⟩ := h
  obtain ⟨f, hf⟩ := e
  have p0 : (0 : Int) < p := by omega
  have ss : s * s = 1 := by rcases hs with h | h <;> subst h <;> decide
  -- (t, m) = al (r0, b0) + be (r1, b1)
  obtain ⟨al, hal⟩ : ∃ al : Int, s * (t * b1 - m * r1) = p * al := ⟨s * (f * b1 - m * d), by grind⟩
  obtain ⟨be, hbe⟩ : ∃ be : Int, s * (m * r0 - t * b0) = p * be := ⟨s * (m * a - f * b0), by grind⟩
  have et : t = al * r0 + be * r1 := Int.eq_of_mul_eq_mul_left (show (p : Int) ≠ 0 by omega) (by grind)
  have em : m = al * b0 + be * b1 := Int.eq_of_mul_eq_mul_left (show (p : Int) ≠ 0 by omega) (by grind)
  have LL : (L : Int) * L = ((L * L : Nat) : Int) := (Int.natCast_mul L L).symm
  have key : al = 0 := by
    refine Classical.byContradiction fun al0 => ?_
    by_cases be0 : be = 0
    · -- |t| = |al| r0
      rw [be0, Int.zero_mul, Int.add_zero] at et
      have h1 : t.natAbs = al.natAbs * r0.natAbs := by rw [et, Int.natAbs_mul]
      have h2 : 1 * r0.natAbs ≤ al.natAbs * r0.natAbs := Nat.mul_le_mul_right _ (by omega)
      omega
    · rcases Int.lt_or_gt_of_ne al0 with an | ap <;> rcases Int.lt_or_gt_of_ne be0 with bn | bp
      · have h1 : r0 ≤ -al * r0 := by have := Int.mul_le_mul_of_nonneg_right (show 1 ≤ -al by omega) (show 0 ≤ r0 by omega); omega
        have h2 : 0 ≤ -be * r1 := Int.mul_nonneg (by omega) n1
        have h3 : -al * r0 = -(al * r0) := Int.neg_mul ..
        have h4 : -be * r1 = -(be * r1) := Int.neg_mul ..
        omega
      · -- signs differ: |b1| <= m
        have h1 : s * b1 ≤ be * (s * b1) := by have := Int.mul_le_mul_of_nonneg_right (show 1 ≤ be by omega) s1; omega
        have h2 : 0 ≤ -al * -(s * b0) := Int.mul_nonneg (by omega) (by omega)
        have h3 : s * m = -al * -(s * b0) + be * (s * b1) := by grind
        have h4 : s * b1 ≤ m := by rcases hs with h | h <;> subst h <;> omega
        have h5 : (t * (s * b1)).natAbs ≤ L * L := by
          rw [Int.natAbs_mul]; exact Nat.mul_le_mul tL (by omega)
        have h6 : 0 ≤ m * r1 := Int.mul_nonneg (by omega) n1
        have h7 : m * r1 ≤ L * L := Int.mul_le_mul mL hl n1 (by omega)
        have h8 : t * (s * b1) - s * (m * r1) = p * al := by grind
        have h9 : (p : Int) * al ≤ p * -1 := Int.mul_le_mul_of_nonneg_left (by omega) (by omega)
        rcases hs with h | h <;> subst h <;> omega
      · have h1 : s * b1 ≤ -be * (s * b1) := by have := Int.mul_le_mul_of_nonneg_right (show 1 ≤ -be by omega) s1; omega
        have h2 : 0 ≤ al * -(s * b0) := Int.mul_nonneg (by omega) (by omega)
        have h3 : s * m = -(al * -(s * b0) + -be * (s * b1)) := by grind
        have h4 : s * b1 ≤ m := by rcases hs with h | h <;> subst h <;> omega
        have h5 : (t * (s * b1)).natAbs ≤ L * L := by
          rw [Int.natAbs_mul]; exact Nat.mul_le_mul tL (by omega)
        have h6 : 0 ≤ m * r1 := Int.mul_nonneg (by omega) n1
        have h7 : m * r1 ≤ L * L := Int.mul_le_mul mL hl n1 (by omega)
        have h8 : t * (s * b1) - s * (m * r1) = p * al := by grind
        have h9 : (p : Int) * 1 ≤ p * al := Int.mul_le_mul_of_nonneg_left (by omega) (by omega)
        rcases hs with h | h <;> subst h <;> omega
      · have h1 : r0 ≤ al * r0 := by have := Int.mul_le_mul_of_nonneg_right (show 1 ≤ al by omega) (show 0 ≤ r0 by omega); omega
        have h2 : 0 ≤ be * r1 := Int.mul_nonneg (by omega) n1
        omega
  rw [key, Int.zero_mul, Int.zero_add] at et em
  have one : be.natAbs = 1 := by
    have : be.natAbs ∣ Int.gcd t m := Int.dvd_gcd_iff.mpr ⟨Int.natAbs_dvd.mpr ⟨r1, et⟩, Int.natAbs_dvd.mpr ⟨b1, em⟩⟩
    rw [c] at this
    exact Nat.dvd_one.mp this
  rcases (show be = 1 ∨ be = -1 by omega) with h | h
  · left; rw [h] at et em; omega
  · right; rw [h] at et em; omega
/-- what is prime to p has an inverse -/
theorem euc_inv {p : Nat} {x r0 r1 b0 b1 : Int} (h : Euc p x r0 r1 b0 b1) (h0 : 1 < r0) (h1 : r1 ≤ 1) (c : Int.gcd p x = 1) : (p : Int) ∣ 1 - b1 * x := by
  have e := h.e1
  have g := h.cp
  rw [c] at g
  have : r1 = 1 := by
    rcases (show r1 = 0 ∨ r1 = 1 by have := h.n1; omega) with z | z
    · rw [z, Int.gcd_zero] at g; omega
    · exact z
  rwa [this] at e
end Fp

namespace Fp
/-! ### fractions out of rests, one behind another -/
theorem pr_ndvd {p : Nat} {x : Int} (h0 : x ≠ 0) (h : x.natAbs < p) : ¬ (p : Int) ∣ x := fun c => by
  have := Nat.le_of_dvd (by omega) (Int.ofNat_dvd_left.mp c)
  omega
theorem euc_b {p : Nat} {x r0 r1 b0 b1 : Int} (h : Euc p x r0 r1 b0 b1) : b1.natAbs ≤ p := by
  obtain ⟨s, hs, s1, s0, det⟩ := h.sg
  have n1 := h.n1
  have lt := h.lt
  have i1 : 1 * (s * b1) ≤ r0 * (s * b1) := Int.mul_le_mul_of_nonneg_right (by omega) s1
  have i2 : 0 ≤ r1 * -(s * b0) := Int.mul_nonneg n1 (by omega)
  have e : r0 * (s * b1) + r1 * -(s * b0) = p := by grind
  have b1' : b1.natAbs = (s * b1).natAbs := by rcases hs with h | h <;> subst h <;> omega
  omega
theorem euc_b0 {p : Nat} {x r0 r1 b0 b1 : Int} (h : Euc p x r0 r1 b0 b1) (h1 : 0 < r1) : b0.natAbs ≤ p := by
  obtain ⟨s, hs, s1, s0, det⟩ := h.sg
  have lt := h.lt
  have i1 : 0 ≤ r0 * (s * b1) := Int.mul_nonneg (by omega) s1
  have i2 : 1 * -(s * b0) ≤ r1 * -(s * b0) := Int.mul_le_mul_of_nonneg_right (by omega) (by omega)
  have e : r0 * (s * b1) + r1 * -(s * b0) = p := by grind
  have b0' : b0.natAbs = (s * b0).natAbs := by rcases hs with h | h <;> subst h <;> omega
  omega
/-- one more fraction: e x = T modulo p, in lowest terms -/
theorem frac_one {p L : Nat} (hp : Pr p) {x e T r0 r1 b0 b1 : Int} (hL : 2 * (L * L) < p) (e0 : 0 < e) (eL : e ≤ L) (TL : T.natAbs ≤ L) (hx : (p : Int) ∣ T - e * x) (h : Euc p x r0 r1 b0 b1) (h0 : (L : Int) < r0) (h1 : r1 ≤ L) :
    ∃ t m g : Int, 0 < g ∧ T = t * g ∧ e = m * g ∧ 0 < m ∧ m ≤ L ∧ t.natAbs ≤ L ∧ ((r1 = t ∧ b1 = m) ∨ (r1 = -t ∧ b1 = -m)) := by
  have g0 : 0 < Int.gcd T e := Int.gcd_pos_of_ne_zero_right T (by omega)
  have d1 : ((Int.gcd T e : Nat) : Int) ∣ T := Int.gcd_dvd_left ..
  have d2 : ((Int.gcd T e : Nat) : Int) ∣ e := Int.gcd_dvd_right ..
  have cp := Int.gcd_ediv_gcd_ediv_gcd g0
  have eT := Int.ediv_mul_cancel d1
  have ee := Int.ediv_mul_cancel d2
  have gl : Int.gcd T e ≤ e.natAbs := Nat.le_of_dvd (by omega) (Int.ofNat_dvd_left.mp d2)
  generalize hg : ((Int.gcd T e : Nat) : Int) = g at *
  generalize T / g = t at *
  generalize e / g = m at *
  have g1 : 0 < g := by omega
  have m0 : 0 < m := by
    rcases Int.lt_or_le 0 m with h | h
    · exact h
    · have : m * g ≤ 0 * g := Int.mul_le_mul_of_nonneg_right h (by omega)
      omega
  have mL : m ≤ L := by
    have : m * 1 ≤ m * g := Int.mul_le_mul_of_nonneg_left (by omega) (by omega)
    omega
  have tL : t.natAbs ≤ L := by
    have h2 : T.natAbs = t.natAbs * g.natAbs := by rw [← eT, Int.natAbs_mul]
    have h3 : t.natAbs * 1 ≤ t.natAbs * g.natAbs := Nat.mul_le_mul_left _ (by omega)
    omega
  refine ⟨t, m, g, g1, eT.symm, ee.symm, m0, mL, tL, ?_⟩
  refine recon h hL h0 h1 m0 mL tL cp ?_
  -- g (t - m x) = T - e x
  have e1 : T - e * x = g * (t - m * x) := by rw [← eT, ← ee]; grind
  rw [e1] at hx
  rcases hp.2 _ _ hx with z | z
  · exact absurd z (pr_ndvd (by omega) (by
      have : L * 1 ≤ L * L := Nat.mul_le_mul_left _ (by omega)
      omega))
  · exact z
end Fp

namespace Fp
open PySem PySem.Spec PyProof.Rows L2
/-- the whole root of a number of up to 13499 bits -/
def rIsqrt : List V → Hp → VK → Prop := fun vs H Q => ∃ a : Int, vs = [.int a] ∧ 0 ≤ a ∧ a.toNat.log2 ≤ 13490 ∧ Q (.int ((Float64.isqrt a.toNat : Nat) : Int)) H
theorem cr_isqrt {X : Cx} : CallR X (.builtin "math.isqrt") rIsqrt := by
  intro pins s σ H vs us Q I r h
  obtain ⟨a, rfl, h0, h1, q⟩ := h
  obtain ⟨u, rfl, r⟩ : ∃ t, us = [.int a t] ∧ True := by
    cases r with
    | cons r1 r2 => cases r2; obtain ⟨t, rfl⟩ := r1; exact ⟨t, rfl, trivial⟩
  exact PySem.call_function_meets PySem.W.MGF.kind_isqrt PySem.W.MGF.plain_isqrt PySem.W.MGF.entry_isqrt (PySem.W.MGF.args_isqrt _) (PySem.W.mg_run_isqrt a u (by omega) (by omega) (by omega)).meets ⟨.int _, H, I.tok _, ⟨_, rfl⟩, q⟩
/-! ### any of a list of numbers -/
theorem any_rangeZ : ∀ zs : List Int, (List.range zs.length).any (fun i => zs.getD i 0 != 0) = zs.any (· != 0)
  | [] => rfl
  | b :: bs => by
    rw [List.length_cons, List.range_succ_eq_map, List.any_cons, List.any_map, List.any_cons, ← any_rangeZ bs]
    all_goals rfl
def rAnyI (K : PySem.W.Frag) : List V → Hp → VK → Prop := fun vs H Q => ∃ (a : Addr) (zs : List Int), vs = [V.ref a] ∧ SqL K H a (zs.map V.int) ∧ Q (.bl (zs.any (· != 0))) H
theorem cr_anyI {X : Cx} (hc : X.calm = true) : CallR X (.builtin "any") (rAnyI X.K) := by
  intro pins s σ H vs us Q I r h
  obtain ⟨a, zs, rfl, hs, q⟩ := h
  obtain ⟨its, rv, hl, _⟩ := I.list hs
  rw [Vals.ref1 r]
  have ln : its.length = zs.length := by rw [← rv.length, List.length_map]
  refine call_any_walk (iter_any hl.isList fun s₂ e2 st hne => ?_)
  subst e2
  refine ⟨_, _, _, _, _, _, fun i => zs.getD i 0 != 0, rfl, Walks.list (A := X.A.in1) (I.ok.hd hc) _ a hne its.toArray, st, fun i v s' Q' E' hv hq => ?_, fun h' tk hk => ?_⟩
  · have hv' : its[i]? = some v := by simpa using hv
    have hi : i < zs.length := by
      have := (List.getElem?_eq_some_iff.mp hv').1
      omega
    have hz : (zs.map V.int)[i]? = some (V.int (zs.getD i 0)) := by
      rw [List.getElem?_map, List.getD_eq_getElem?_getD, List.getElem?_eq_getElem hi]; rfl
    obtain ⟨u, hu, t, rfl⟩ := Vals.get rv hz
    rw [hv'] at hu
    obtain rfl := Option.some.inj hu
    exact truthy_int hq
  refine ⟨.bl _, H, I.kept fun b o eo => hk b o (fun hmem => ?_) (Heap.get?_push_of_some _ eo), ?_, q⟩
  · rcases List.mem_cons.mp hmem with e1 | hmem
    · exact absurd (e1 ▸ Heap.lt_size eo) (Nat.lt_irrefl _)
    · cases hmem
  · show Value.bool _ = Value.bool _
    rw [← any_rangeZ, List.size_toArray, ln]
theorem p521_half : ((p521 : Nat) : Int).fdiv 2 = ((2 ^ 520 - 1 : Nat) : Int) := by decide +kernel
theorem isqrt_520 : Float64.isqrt (2 ^ 520 - 1) = 2 ^ 260 - 1 := by decide +kernel
end Fp

namespace Fp
open PySem PySem.Spec PyProof.Rows L2
/-! ### a comprehension's loop at any depth, what it makes of an item left open -/
/-- slots that know at least as much -/
def Wk (a b : L2.St) : Prop := a.length = b.length ∧ ∀ (j : Nat) v, a[j]? = some (some v) → b[j]? = some (some v)
theorem Wk.refl (a : L2.St) : Wk a a := ⟨rfl, fun _ _ h => h⟩
theorem Wk.trans {a b c : L2.St} (h : Wk a b) (g : Wk b c) : Wk a c := ⟨h.1.trans g.1, fun j v e => g.2 j v (h.2 j v e)⟩
theorem wk_wipe (a : L2.St) (vs : List Nat) : Wk (wipe a vs) a := ⟨wipe_length a vs, fun j v e => (wipe_some e).1⟩
/-- what the code does at one turn -/
def Turned (e : Expr) (dp : Nat) (it acc : Value) (env : Env) (tg : Expr) (ifs : List Expr) (mk : Sem Fin → Sem Fin) : Prop := ∃ p : Pos, compTurn e dp it acc env = (do
  standAt p
  match ← pyNext it with
  | none => pure (.done .next)
  | some u =>
    letOwnedTupleGo tg it u
    assign tg env u
    let mut ok := true
    for c in ifs do
      if ok then ok ← isTrue c env (eval c env)
    if ok then mk (again (.compLoop e dp it acc env)) else again (.compLoop e dp it acc env))
section
variable {Y : Cx} {tg kx vx : Expr} {gens : List Comprehension} {scope : Scope} {pos : Pos} {dp : Nat} {it : Addr} {acc : Value} {ifs : List Expr} {mk : Sem Fin → Sem Fin} {fp : List Addr} {tn : Nat → Heap → Prop} {J : It} {g : TG} {tt : TT} {R : Result → Shared → Prop} {pl : List (Addr × Obj)} {a0 : L2.St}
theorem toE {α : Type} {t : Sem α} {Q Q' : α → Shared → Prop} {E : Value → Shared → Prop} {s : Shared} (hx : ∀ v s, ¬ Y.xe v s) (h : wpAny (model Y.prog Y.w) Y.A t Q Y.xe s) (k : ∀ a s, Q a s → Q' a s) : wpAny (model Y.prog Y.w) Y.A t Q' E s :=
  wpAny_mono h k fun v z y => absurd y (hx v z)
theorem level (eq : Turned (.DictComp kx vx gens scope pos) dp (.ref it) acc Y.env tg ifs mk) (T : Turn Y.prog Y.w Y.K tg J fp it tn) (calm : Y.calm = true) (hx : ∀ v s, ¬ Y.xe v s) (pg : PG Y tg g) (pt : PTs Y ifs tt) (W : Nat → Nat → Hp → Prop)
    (st : ∀ {b0 : L2.St} {G : Hp} {z : Shared}, Inv Y pl b0 G z → (∀ b ∈ fp, G b = none) → ∀ b ∈ fp, FpOk Y pl G b)
    (turn : ∀ i m G, W i m G → (J.stop i G ∧ ∀ z, Inv Y pl a0 G z → R (.ok .next) z) ∨ (J.go i G ∧ ∃ (Nx : Hp → Prop) (Bd : L2.St → Hp → Prop), (∀ G', Nx G' → ∃ m', m' < m ∧ W (i + 1) m' G') ∧
      (∀ x G', J.yld i G x G' → g x a0 G' fun a2 G2 => Wk a0 a2 ∧ tt a2 G2 fun b G3 => if b = true then Bd a2 G3 else Nx G3) ∧
      ∀ a2 G3 pm z, Wk a0 a2 → Bd a2 G3 → Inv Y (pl ++ pm) a2 G3 z → ∀ (kk : Sem Fin) (Qk : Fin → Shared → Prop) (Ek : Value → Shared → Prop), (∀ z' a3 G4, Inv Y (pl ++ pm) a3 G4 z' → Wk a0 a3 → Nx G4 → wpAny (model Y.prog Y.w) Y.A kk Qk Ek z') → wpAny (model Y.prog Y.w) Y.A (mk kk) Qk Ek z))
    {m : Nat} {G : Hp} {z : Shared} (I : Inv Y pl a0 G z) (t0 : tn 0 z.heap) (n0 : ∀ b ∈ fp, G b = none) (w0 : W 0 m G) : codeAny (model Y.prog Y.w) Y.A (.compLoop (.DictComp kx vx gens scope pos) dp (.ref it) acc Y.env) R z := by
  obtain ⟨p, eq⟩ := eq
  refine codeAny_loop rfl (fun k y => ∃ i F, Inv Y pl a0 F y ∧ tn i y.heap ∧ (∀ b ∈ fp, F b = none) ∧ W i k F) (fun k y ⟨i, F, J1, t1, n1, w1⟩ => ?_) m ⟨0, G, I, t0, n0, w0⟩
  show wpAny _ Y.A ((compTurn (.DictComp kx vx gens scope pos) dp (.ref it) acc Y.env).onRaise (fun x => do noteFrame x Y.env; theTreesLotGoes x)) _ _ y
  refine wpAny_noted ?_
  rw [eq]
  refine wpAny_bind (wpAny_standAt (wpAny_bind ?_))
  rcases turn i k F w1 with ⟨sp, done⟩ | ⟨go, Nx, Bd, nxt, step, run⟩
  · refine thnF (T.done Y rfl rfl rfl calm i pl y a0 F (fun _ _ => False) J1 (st J1 n1) t1 sp) fun r y1 ⟨er, J2⟩ => ?_
    subst er
    exact wpAny_pure (done y1 J2)
  · refine thnF (T.item Y rfl rfl rfl calm i pl y a0 F (fun _ _ => False) J1 (st J1 n1) t1 go) fun r y1 ⟨u, er, more⟩ => ?_
    subst er
    refine wpAny_bind (thnF more fun _ y2 ⟨x, F2, J2, rx, yx, t2, n2⟩ => ?_)
    have J2p := J2.pinned (st J2 n2) (T.obj _ _ t2)
    have back : ∀ {a3 : L2.St} {F3 : Hp} {y3 : Shared}, Inv Y (pl ++ pinsAt fp y2.heap) a3 F3 y3 → Wk a0 a3 → Nx F3 → ∃ j, j < k ∧ ∃ i F, Inv Y pl a0 F y3 ∧ tn i y3.heap ∧ (∀ b ∈ fp, F b = none) ∧ W i j F := fun {a3 F3 y3} J3 wk nx => by
      obtain ⟨j, lt, w'⟩ := nxt F3 nx
      have pin' : ∀ b ∈ fp, ∀ o, y2.heap.get? b = some o → y3.heap.get? b = some o ∧ F3 b = none := fun b hb o eo =>
        have q := J3.pin (b, o) (List.mem_append_right _ (List.mem_append_right _ (mem_pinsAt hb eo)))
        ⟨q.1, q.2.1⟩
      exact ⟨j, lt, i + 1, F3, J3.unpinned.weak wk.1 wk.2, T.keep _ _ _ t2 fun b hb o eo => (pin' b hb o eo).1, fun b hb => let ⟨o, eo, _⟩ := T.obj _ _ t2 b hb; (pin' b hb o eo).2, w'⟩
    refine wpAny_bind (toE hx (pg.run _ y2 _ F2 x u _ J2p rx (step x F2 yx)) fun _ y3 ⟨a3, F3, J3, wk3, q3⟩ => ?_)
    refine wpAny_bind (toE hx (pt.run _ y3 a3 F3 _ J3 q3) fun b y4 ⟨F4, J4, q4⟩ => ?_)
    cases b with
    | false =>
      simp only [Bool.false_eq_true, if_false] at q4 ⊢
      exact wpAny_pure ⟨rfl, back J4 wk3 q4⟩
    | true =>
      simp only [if_true] at q4 ⊢
      exact run a3 F4 _ y4 wk3 q4 J4 _ _ _ fun y5 a5 F5 J5 wk5 nx => wpAny_pure ⟨rfl, back J5 wk5 nx⟩
theorem wipe_not {a : L2.St} {i : Nat} {vs : List Nat} (h : i ∉ vs) : (wipe a vs)[i]? = a[i]? := wipe_out h
theorem Wk.inner {a b : L2.St} {vs vs1 : List Nat} (h : Wk (wipe a vs) b) (sub : ∀ i ∈ vs1, i ∈ vs) : Wk (wipe a vs) (wipe b vs1) :=
  ⟨h.1.trans (wipe_length b vs1).symm, fun j v e => by
    have n : j ∉ vs1 := fun z => (wipe_some e).2 (sub j z)
    rw [wipe_not n]; exact h.2 j v e⟩
end
/-- {k: v for tg in iter if .. for tg1 in iter1 if ..} -/
def tDc2 (wi : TI) (g : TG) (tt : TT) (wi1 : TI) (g1 : TG) (tt1 : TT) (tk tv : TE) (vs vs1 : List Nat) : TE := fun a G Q => wi a G fun J G1 => ∀ D, G1 D = none → ∃ W : Nat → Nat → Hp → Prop, (∃ m, W 0 m (upd G1 D (.dK []))) ∧
  ∀ i m F, W i m F → (J.stop i F ∧ Q (.ref D) F) ∨ (J.go i F ∧ ∃ Nx : Hp → Prop, (∀ F', Nx F' → ∃ m', m' < m ∧ W (i + 1) m' F') ∧ ∀ x F', J.yld i F x F' → g x (wipe a vs) F' fun a2 F2 => Wk (wipe a vs) a2 ∧ tt a2 F2 fun b F3 =>
    if b = true then wi1 a2 F3 fun J1 F4 => ∃ W1 : Nat → Nat → Hp → Prop, (∃ m, W1 0 m F4) ∧ ∀ j k F, W1 j k F → (J1.stop j F ∧ Nx F) ∨ (J1.go j F ∧ ∃ Nx1 : Hp → Prop, (∀ F', Nx1 F' → ∃ k', k' < k ∧ W1 (j + 1) k' F') ∧ ∀ x F', J1.yld j F x F' →
      g1 x (wipe a2 vs1) F' fun a3 F5 => Wk (wipe a2 vs1) a3 ∧ tt1 a3 F5 fun b F6 => if b = true then tk a3 F6 fun y F7 => tv a3 F7 fun z F8 => ∃ kvs kk, y = kV kk ∧ F8 D = some (.dK kvs) ∧ kvs.length < sizeLine ∧ Nx1 (upd F8 D (.dK (putK kvs kk z))) else Nx1 F6)
    else Nx F3)
section
variable {X : Cx} {kx vx tg iter tg1 iter1 : Expr} {ifs ifs1 : List Expr} {scope : Scope} {pos : Pos}
theorem turned_in (kx vx tg iter tg1 iter1 : Expr) (ifs ifs1 : List Expr) (scope : Scope) (pos : Pos) (it : Value) (D : Addr) (env : Env) : Turned (.DictComp kx vx [⟨tg, iter, ifs, 0⟩, ⟨tg1, iter1, ifs1, 0⟩] scope pos) 1 it (.ref D) env tg1 ifs1 (fun kk => (do
    let p ← eval kx env
    let q ← holding [p] (eval vx env)
    standAt { kx.pos with endLine := vx.pos.endLine, endCol := vx.pos.endCol }
    holding [p, q] (dictSet D p q)) >>= fun _ => kk) := ⟨iter1.pos, rfl⟩
theorem turned_out (kx vx tg iter tg1 iter1 : Expr) (ifs ifs1 : List Expr) (scope : Scope) (pos : Pos) (it acc : Value) (env : Env) : Turned (.DictComp kx vx [⟨tg, iter, ifs, 0⟩, ⟨tg1, iter1, ifs1, 0⟩] scope pos) 0 it acc env tg ifs (fun kk => do
    let w ← eval iter1 env
    standAt iter1.pos
    let w ← foldedSetIterable iter1 env w
    let _ ← runOwn (.compStart (.DictComp kx vx [⟨tg, iter, ifs, 0⟩, ⟨tg1, iter1, ifs1, 0⟩] scope pos) 1 (← holding [w] (pyIter w)) acc env) env
    kk) := ⟨iter.pos, rfl⟩
theorem start_in {P : Program} {w : World} {A : Around} {R : Result → Shared → Prop} {z : Shared} {it acc : Value} {env : Env} (h0 : codeAny (model P w) A (.compLoop (.DictComp kx vx [⟨tg, iter, ifs, 0⟩, ⟨tg1, iter1, ifs1, 0⟩] scope pos) 1 it acc env) R z)
    (h1 : wpAny (model P w) A (pyIter it) (fun it' z' => codeAny (model P w) A (.compLoop (.DictComp kx vx [⟨tg, iter, ifs, 0⟩, ⟨tg1, iter1, ifs1, 0⟩] scope pos) 1 it' acc env) R z') (notedBy (model P w) A env fun x z' => R (.error x) z') z) :
    codeAny (model P w) A (.compStart (.DictComp kx vx [⟨tg, iter, ifs, 0⟩, ⟨tg1, iter1, ifs1, 0⟩] scope pos) 1 it acc env) R z := by
  refine codeAny_of_tree ?_
  show wpAny _ _ ((compStart (.DictComp kx vx [⟨tg, iter, ifs, 0⟩, ⟨tg1, iter1, ifs1, 0⟩] scope pos) 1 it acc env).onRaise (fun x => do noteFrame x env; standAt theWindowsPlace)) _ _ z
  refine wpAny_notedAt ?_
  unfold compStart
  show wpAny _ _ (ask >>= _) _ _ z
  refine wpAny_bind (wpAny_askSetting (wpAny_ite ?_))
  split
  · first
      | exact wpAny_bind (wpAny_pure (wpAny_pure ⟨rfl, h0⟩))
      | exact wpAny_pure ⟨rfl, h0⟩
  · refine wpAny_bind (wpAny_rule ?_)
    show wpAny _ _ (standAt iter1.pos >>= _) _ _ z
    exact wpAny_bind (wpAny_standAt (wpAny_bind (thn h1 fun it' z' h' => wpAny_pure ⟨rfl, h'⟩)))
/-- the outer source is walked; for each of its items the inner one; each item of that is put in -/
theorem pe_dc2 {own : List (Str × Nat)} {vs1 : List Nat} {wi wi1 : TI} {g g1 : TG} {tt tt1 : TT} {tk tv : TE} (calm : X.calm = true) (nd : X.N.Nodup) (src : PI X tg iter wi) (blk : BlkOk X.N X.env.scope scope own) (sub : ∀ i ∈ vs1, i ∈ own.map (·.2))
    (ug : ∀ (a : Shared) (F : Hp) (c : Addr) (cl : List (Str × Addr)) (fq : List Addr), PG (X.blk a F scope (compEnvC scope cl c X.env) fq) tg g)
    (ut : ∀ (a : Shared) (F : Hp) (c : Addr) (cl : List (Str × Addr)) (fq : List Addr), PTs (X.blk a F scope (compEnvC scope cl c X.env) fq) ifs tt)
    (ui1 : ∀ (a : Shared) (F : Hp) (c : Addr) (cl : List (Str × Addr)) (fq : List Addr), PI (X.blk a F scope (compEnvC scope cl c X.env) fq) tg1 iter1 wi1)
    (ug1 : ∀ (a : Shared) (F : Hp) (c : Addr) (cl : List (Str × Addr)) (fq : List Addr), PG (X.blk a F scope (compEnvC scope cl c X.env) fq) tg1 g1)
    (ut1 : ∀ (a : Shared) (F : Hp) (c : Addr) (cl : List (Str × Addr)) (fq : List Addr), PTs (X.blk a F scope (compEnvC scope cl c X.env) fq) ifs1 tt1)
    (uk : ∀ (a : Shared) (F : Hp) (c : Addr) (cl : List (Str × Addr)) (fq : List Addr), PE (X.blk a F scope (compEnvC scope cl c X.env) fq) kx tk)
    (uv : ∀ (a : Shared) (F : Hp) (c : Addr) (cl : List (Str × Addr)) (fq : List Addr), PE (X.blk a F scope (compEnvC scope cl c X.env) fq) vx tv)
    (f0 : ∀ x, foldedSetIterable iter X.env x = pure x := by intro _; rfl) (f1 : ∀ env x, foldedSetIterable iter1 env x = pure x := by intro _ _; rfl) :
    PE X (.DictComp kx vx [⟨tg, iter, ifs, 0⟩, ⟨tg1, iter1, ifs1, 0⟩] scope pos) (tDc2 wi g tt wi1 g1 tt1 tk tv (own.map (·.2)) vs1) := by
  refine ⟨fun pl z0 a G Q I0 w => ?_⟩
  rw [arm_eval_DictComp]
  have clo : ∀ y ∈ scope.names, y.2 = .free → ∃ c, X.env.cells.lookup y.1 = some c := fun y hy e => (blk.free y hy e).elim (fun k => I0.ok.has _ (.inl k)) fun k => I0.ok.has _ (.inr k)
  refine wpAny_comprehension_free (use := none) rfl f0 (closure_ok clo) blk.kind (fun y hy e => by rw [blk.uniq y hy, e]) (thn (src.run pl z0 a G _ I0 w) fun _ z1 q1 => thn q1 fun _ z2 q2 => ?_)
  obtain ⟨it, fp, tn, J, G2, rfl, I2, T, t2, f2, q⟩ := q2
  refine wpAny_newObj_type (newEnv_comp ?_)
  generalize eD : z2.heap.objs.size = D
  have dn : G2 D = none := I2.hok.fresh (Nat.le_of_eq eD)
  obtain ⟨W, ⟨m0, w0⟩, turn⟩ := q D dn
  generalize ez : ({ z2 with heap := z2.heap.push { cls := .type "dict", data := .dict #[] } } : Shared) = z3
  have hz : z3.heap = z2.heap.push { cls := .type "dict", data := .dict #[] } := by rw [← ez]
  have I3 : Inv X pl a (upd G2 D (.dK [])) z3 := by
    rw [← ez]
    exact I2.laid (t' := z2.toks) (fun b o e => Heap.get?_push_of_some _ e) (Nat.le_of_eq eD) (by rw [← eD]; exact dk_empty z2.heap I2.big)
  have young : ∀ b ∈ fp, b < z2.heap.objs.size := fun b hb => let ⟨o, eo, _⟩ := T.obj _ _ t2 b hb; Heap.lt_size eo
  have f3 : ∀ b ∈ fp, FpOk X pl (upd G2 D (.dK [])) b ∧ b < z3.heap.objs.size := fun b hb => by
    have lt := young b hb
    refine ⟨⟨?_, (f2 b hb).2⟩, by rw [hz, Heap.size_push]; exact Nat.lt_succ_of_lt lt⟩
    rw [upd_ne (by rw [← eD]; exact Nat.ne_of_lt lt)]
    exact (f2 b hb).1
  have t3 : tn 0 z3.heap := T.keep _ _ _ t2 fun b _ o eo => by rw [hz]; exact Heap.get?_push_of_some _ eo
  have I4 := block_start I3 blk nd f3
  have pg := ug z3 (upd G2 D (.dK [])) z3.heap.objs.size (cellsFrom (z3.heap.objs.size + 1) scope.names (cloFrom X.env.cells scope.names [])) fp
  have pt := ut z3 (upd G2 D (.dK [])) z3.heap.objs.size (cellsFrom (z3.heap.objs.size + 1) scope.names (cloFrom X.env.cells scope.names [])) fp
  have pi1 := ui1 z3 (upd G2 D (.dK [])) z3.heap.objs.size (cellsFrom (z3.heap.objs.size + 1) scope.names (cloFrom X.env.cells scope.names [])) fp
  have pg1 := ug1 z3 (upd G2 D (.dK [])) z3.heap.objs.size (cellsFrom (z3.heap.objs.size + 1) scope.names (cloFrom X.env.cells scope.names [])) fp
  have pt1 := ut1 z3 (upd G2 D (.dK [])) z3.heap.objs.size (cellsFrom (z3.heap.objs.size + 1) scope.names (cloFrom X.env.cells scope.names [])) fp
  have pk := uk z3 (upd G2 D (.dK [])) z3.heap.objs.size (cellsFrom (z3.heap.objs.size + 1) scope.names (cloFrom X.env.cells scope.names [])) fp
  have pv := uv z3 (upd G2 D (.dK [])) z3.heap.objs.size (cellsFrom (z3.heap.objs.size + 1) scope.names (cloFrom X.env.cells scope.names [])) fp
  show codeAny _ _ (.compStart _ 0 (.ref it) (.ref D) (compEnvC scope (cellsFrom (z3.heap.objs.size + 1) scope.names (cloFrom X.env.cells scope.names [])) z3.heap.objs.size X.env)) (compPost (model X.prog X.w) X.A X.xe none (EP X pl a Q) (.ref D) z3.heap.objs.size) { z3 with heap := pushCells (z3.heap.push { cls := .type "dict", data := .dict #[] }) scope.names }
  have nf : ∀ b ∈ fp, (upd G2 D (.dK [])) b = none := fun b hb => (f3 b hb).1.1
  generalize ec : compEnvC scope (cellsFrom (z3.heap.objs.size + 1) scope.names (cloFrom X.env.cells scope.names [])) z3.heap.objs.size X.env = cn at I4 pg pt pi1 pg1 pt1 pk pv ⊢
  have cl : cn.locals = z3.heap.objs.size := by subst ec; rfl
  generalize eG : upd G2 D (.dK []) = G3 at I3 I4 pg pt pi1 pg1 pt1 pk pv w0 nf f3
  generalize e4 : ({ z3 with heap := pushCells (z3.heap.push { cls := .type "dict", data := .dict #[] }) scope.names } : Shared) = z4 at I4 ⊢
  have t4 : tn 0 z4.heap := T.keep _ _ _ t3 fun b _ o eo => by rw [← e4]; exact pushCells_keeps _ _ _ _ (Heap.get?_push_of_some _ eo)
  have noxe : ∀ v y, ¬ (X.blk z3 G3 scope cn fp).xe v y := fun _ _ h => h
  have loop : codeAny (model X.prog X.w) X.A (.compLoop (.DictComp kx vx [⟨tg, iter, ifs, 0⟩, ⟨tg1, iter1, ifs1, 0⟩] scope pos) 0 (.ref it) (.ref D) cn) (compPost (model X.prog X.w) X.A X.xe none (EP X pl a Q) (.ref D) z3.heap.objs.size) z4 := by
    refine level (Y := X.blk z3 G3 scope cn fp) (a0 := wipe a (own.map (·.2))) (pl := []) (turned_out _ _ _ _ _ _ _ _ _ _ _ _ _) T calm noxe pg pt W (fun J0 n0 b hb => ?_) (fun i m F wi' => ?_) I4 t4 nf w0
    · exact ⟨n0 b hb, (J0.ok.exf b hb).1, J0.ok.exfs b hb, .inl hb, fun x c ex => (J0.ok.exf b hb).2 x c ex, fun p hp => by cases hp⟩
    rcases turn i m F wi' with ⟨sp, qq⟩ | ⟨go, Nx, nxt, step⟩
    · refine .inl ⟨sp, fun y J6 => ?_⟩
      have J7 : Inv X pl a F y := I3.call' (ch := fp) J6.os J6.base J6.hok J6.bare fun b hb => ⟨(f3 b hb).1.2.2.2.1, (f3 b hb).1.2.1, (f3 b hb).1.2.2.2.2.1, (f3 b hb).1.2.2.2.2.2⟩
      have nc : F z3.heap.objs.size = none := by rw [← cl]; exact J6.free
      obtain ⟨mm, hn, _⟩ := J6.loc
      have hn : y.heap.Ns cn.locals mm := hn
      rw [cl] at hn
      obtain ⟨k0, k1, _, k3, k4, k5⟩ := I3.fpOk (H' := F) (Nat.le_refl _) nc
      exact ⟨mm, hn, fun h'' sb => ⟨.ref D, F, J7.turned (t' := y.toks) (fun b o hb eo => (sb.2 b hb).trans eo) k0 k1 k3 k4 k5, rfl, qq⟩⟩
    · refine .inr ⟨go, Nx, _, nxt, step, fun a2 F3 pm y wk2 bd J2 kk Qk Ek after => ?_⟩
      refine wpAny_bind (toE (Y := X.blk z3 G3 scope cn fp) noxe (pi1.run _ y a2 F3 _ J2 bd) fun v1 y1 h1 => ?_)
      refine wpAny_bind (wpAny_standAt (wpAny_bind (wpAny_of_eq (f1 cn v1) (wpAny_bind (wpAny_holding (toE (Y := X.blk z3 G3 scope cn fp) noxe h1 fun v2 y2 h2 => ?_))))))
      obtain ⟨it1, fp1, tn1, J1, F4, rfl, J4, T1, s1, k1, W1, ⟨m1, w1⟩, turn1⟩ := h2
      refine wpAny_bind (wpAny_runOwn ?_)
      rw [Around.mark_none]
      have pins1 : ∀ {F' : Hp}, (∀ b ∈ fp1, F' b = none) → ∀ b ∈ fp1, FpOk (X.blk z3 G3 scope cn fp) ([] ++ pm) F' b := fun n0 b hb => ⟨n0 b hb, (k1 b hb).2⟩
      have loop1 : codeAny (model X.prog X.w) X.A (.compLoop (.DictComp kx vx [⟨tg, iter, ifs, 0⟩, ⟨tg1, iter1, ifs1, 0⟩] scope pos) 1 (.ref it1) (.ref D) cn) (fun r y' => match r with
          | .ok _ => ∃ a3 G4, Inv (X.blk z3 G3 scope cn fp) ([] ++ pm) a3 G4 y' ∧ Wk (wipe a (own.map (·.2))) a3 ∧ Nx G4
          | .error _ => False) y2 := by
        refine level (Y := X.blk z3 G3 scope cn fp) (a0 := wipe a2 vs1) (pl := [] ++ pm) (turned_in _ _ _ _ _ _ _ _ _ _ _ _ _) T1 calm noxe pg1 pt1 W1 (fun _ n0 => pins1 n0) (fun j k F' w' => ?_) (J4.weak (wk_wipe a2 vs1).1 (wk_wipe a2 vs1).2) s1 (fun b hb => (k1 b hb).1) w1
        rcases turn1 j k F' w' with ⟨sp, nx⟩ | ⟨go1, Nx1, nxt1, step1⟩
        · exact .inl ⟨sp, fun y6 J6 => ⟨_, _, J6, wk2.inner sub, nx⟩⟩
        · refine .inr ⟨go1, Nx1, _, nxt1, step1, fun a3 F6 pm1 y6 wk3 bd1 J6 kk1 Qk1 Ek1 after1 => ?_⟩
          refine wpAny_bind ?_
          refine wpAny_bind (toE (Y := X.blk z3 G3 scope cn fp) noxe (pk.run _ y6 a3 F6 _ J6 bd1) fun u1 y7 ⟨x1, F7, J7, r7, q7⟩ => ?_)
          refine wpAny_bind (wpAny_holding (toE (Y := X.blk z3 G3 scope cn fp) noxe (pv.run _ y7 a3 F7 _ J7 q7) fun u2 y8 ⟨x2, F8, J8, r8, kvs, kk2, ek, hD, lz, nx1⟩ => ?_))
          subst ek
          refine wpAny_bind (wpAny_standAt (wpAny_holding ?_))
          exact d_dictSet (X := X.blk z3 G3 scope cn fp) J8 hD lz r7 r8 fun y9 J9 => after1 y9 a3 _ J9 wk3 nx1
      refine codeAny_mono (start_in loop1 (T1.self X.A 0 _ _ _ s1 loop1)) fun r y' hr => ?_
      cases r with
      | ok fl => obtain ⟨a3, G4, J9, wk9, nx9⟩ := hr; exact after y' a3 G4 J9 wk9 nx9
      | error e => exact hr.elim
  exact codeAny_compStart_dict loop (T.self X.A 0 _ _ _ t4 loop)
end
end Fp

namespace Fp
open PySem PySem.Spec PyProof.Rows L2
/-! ### every other item -/
def evens {α : Type} : List α → List α
  | [] => []
  | [x] => [x]
  | x :: _ :: r => x :: evens r
theorem evens_len {α : Type} : ∀ xs : List α, (evens xs).length = (xs.length + 1) / 2
  | [] => by simp [evens]
  | [_] => by simp [evens]
  | _ :: _ :: r => by
    show (evens r).length + 1 = (r.length + 2 + 1) / 2
    rw [evens_len r]; omega
theorem evens_at {α : Type} : ∀ (xs : List α) (i : Nat), (evens xs)[i]? = xs[2 * i]?
  | [], i => by simp [evens]
  | [x], i => by
    cases i with
    | zero => rfl
    | succ i => show ([] : List α)[i]? = ([] : List α)[2 * i + 1]?; simp
  | x :: y :: r, 0 => rfl
  | x :: y :: r, i + 1 => evens_at r i
theorem vals_evens : ∀ {xs : List V} {us : List Value}, Vals xs us → Vals (evens xs) (evens us)
  | _, _, .nil => .nil
  | _, _, .cons r .nil => .cons r .nil
  | _, _, .cons r (.cons _ q) => .cons r (vals_evens q)
theorem vals_tail : ∀ {xs : List V} {us : List Value}, Vals xs us → Vals (xs.drop 1) (us.drop 1)
  | _, _, .nil => .nil
  | _, _, .cons _ q => q
theorem pick_evens (items : Array Value) (d : Nat) : ((List.range ((items.size - d + 1) / 2)).map (fun k => d + 2 * k)).filterMap (items[·]?) = evens (items.toList.drop d) := by
  have e : ∀ n, n ≤ (items.size - d + 1) / 2 → ((List.range n).map (fun k => d + 2 * k)).filterMap (items[·]?) = (evens (items.toList.drop d)).take n := fun n => by
    induction n with
    | zero => intro _; simp
    | succ n ih =>
      intro h
      have l : (evens (items.toList.drop d)).length = (items.size - d + 1) / 2 := by rw [evens_len, List.length_drop, Array.length_toList]
      have hn : (evens (items.toList.drop d))[n]? = some ((evens (items.toList.drop d))[n]'(by omega)) := List.getElem?_eq_getElem _
      have h2 : items[d + 2 * n]? = (evens (items.toList.drop d))[n]? := by rw [evens_at, List.getElem?_drop, Array.getElem?_toList]
      rw [List.range_succ, List.map_append, List.filterMap_append, ih (by omega), List.take_add_one, hn]
      congr 1
      show List.filterMap (fun x => items[x]?) [d + 2 * n] = _
      rw [List.filterMap_cons, h2, hn]; rfl
  rw [e _ (Nat.le_refl _), List.take_of_length_le]
  rw [evens_len, List.length_drop, Array.length_toList]; exact Nat.le_refl _
theorem range_two (n d : Nat) (h : d ≤ n) : sliceRange (d : Int) (n : Int) 2 = (List.range ((n - d + 1) / 2)).map fun k => d + 2 * k := by
  unfold sliceRange
  have c : (if (2 : Int) > 0 then (if (d : Int) < n then ((n : Int) - d + 2 - 1) / 2 else 0) else (if (d : Int) > n then ((d : Int) - n - 2 - 1) / (-2) else 0)) = (((n - d + 1) / 2 : Nat) : Int) := by
    rw [if_pos (by decide)]
    split <;> omega
  simp only [c, Int.toNat_natCast]
  refine List.map_congr_left fun k _ => ?_
  omega
theorem step_pick0 (items : Array Value) : slicePick items none none (some 2) = (evens items.toList).toArray := by
  unfold slicePick
  have b : sliceBounds none none (some 2) items.size = (((0 : Nat) : Int), (items.size : Int), 2) := rfl
  rw [b]
  have := pick_evens items 0
  rw [List.drop_zero] at this
  show ((sliceRange ((0 : Nat) : Int) (items.size : Int) 2).filterMap (items[·]?)).toArray = _
  rw [range_two _ _ (Nat.zero_le _), this]
theorem step_pick1 (items : Array Value) : slicePick items (some 1) none (some 2) = (evens (items.toList.drop 1)).toArray := by
  unfold slicePick
  by_cases h : 1 ≤ items.size
  · have b : sliceBounds (some 1) none (some 2) items.size = (((1 : Nat) : Int), (items.size : Int), 2) := by
      show (max 0 (min 1 (items.size : Int)), (items.size : Int), (2 : Int)) = _
      rw [show max 0 (min 1 (items.size : Int)) = ((1 : Nat) : Int) by omega]
    rw [b]
    show ((sliceRange ((1 : Nat) : Int) (items.size : Int) 2).filterMap (items[·]?)).toArray = _
    rw [range_two _ _ h, pick_evens items 1]
  · have e : items.size = 0 := by omega
    have b : sliceBounds (some 1) none (some 2) items.size = (((0 : Nat) : Int), (items.size : Int), 2) := by
      show (max 0 (min 1 (items.size : Int)), (items.size : Int), (2 : Int)) = _
      rw [show max 0 (min 1 (items.size : Int)) = ((0 : Nat) : Int) by omega]
    rw [b]
    show ((sliceRange ((0 : Nat) : Int) (items.size : Int) 2).filterMap (items[·]?)).toArray = _
    have l : items.toList = [] := List.length_eq_zero_iff.mp (by rw [Array.length_toList]; exact e)
    rw [range_two _ _ (Nat.zero_le _), e, l]
    rfl
theorem du {n : Nat} (h : n + 64 < cLine) : n + 1 < cLine := by omega
abbrev rShl : R2 := fun x y F Q => ∃ (i : Int) (n : Nat), x = .int i ∧ y = .int (n : Int) ∧ CShl i (n : Int) ∧ Q (.int (i * 2 ^ n)) F
abbrev rShr : R2 := fun x y F Q => ∃ (i : Int) (n : Nat), x = .int i ∧ y = .int (n : Int) ∧ Q (.int (i / 2 ^ n)) F
abbrev rAndM : R2 := fun x y F Q => ∃ (i : Int) (n : Nat), x = .int i ∧ y = .int (2 ^ n - 1) ∧ Q (.int (i % 2 ^ n)) F
section
variable {X : Cx}
/-- xs[::2] -/
def tStep0 (K : PySem.W.Frag) (te : TE) : TE := fun a F Q => te a F fun x F1 => ∃ l xs, x = .ref l ∧ SqL K F1 l xs ∧ ∀ p, F1 p = none → Q (.ref p) (upd F1 p (.lst (evens xs)))
/-- xs[1::2] -/
def tStep1 (K : PySem.W.Frag) (te : TE) : TE := fun a F Q => te a F fun x F1 => ∃ l xs, x = .ref l ∧ SqL K F1 l xs ∧ ∀ p, F1 p = none → Q (.ref p) (upd F1 p (.lst (evens (xs.drop 1))))
theorem evens_le {α : Type} (xs : List α) : (evens xs).length ≤ xs.length := by rw [evens_len]; omega
theorem pe_step0 {e : Expr} {te : TE} {k : Nat} {p1 p3 pos : Pos} (he : PE X e te) : PE X (.Subscript e (.Slice none none (some (.Constant (.int 2) k p1)) p3) pos) (tStep0 X.K te) := by
  refine ⟨fun pl z a G Q I h => ?_⟩
  refine Subscript_ (thn (he.run pl z a G _ I h) fun v z1 ⟨x, G1, I1, rx, w⟩ => ?_)
  obtain ⟨l, xs, rfl, hx, q⟩ := w
  cases rx
  refine wpAny_Slice (thn (po_none.run pl z1 a G1 (fun o F => o = none ∧ F = G1) I1 ⟨rfl, rfl⟩) fun v1 z2 ⟨o1, G2, I2, q1, w1, w2⟩ => ?_)
  subst w1 w2
  refine thn (po_none.run pl z2 a G2 (fun o F => o = none ∧ F = G2) I2 ⟨rfl, rfl⟩) fun v2 z3 ⟨o2, G3, I3, q2, w1, w2⟩ => ?_
  subst w1 w2
  refine thn ((po_some pe_int).run pl z3 a G3 (fun o F => o = some 2 ∧ F = G3) I3 ⟨2, rfl, rfl, rfl⟩) fun v3 z4 ⟨o3, G4, I4, q3, w1, w2⟩ => ?_
  subst w1 w2
  have I5 : Inv X pl a G4 { z4 with heap := z4.heap.push { cls := .type "slice", data := .fields #[v1, v2, v3] } } := I4.kept (t' := z4.toks) fun b o eo => Heap.get?_push_of_some _ eo
  obtain ⟨us, r, at_, sz⟩ := I5.list hx
  have len := r.length
  refine tail_any (ops := [.ref l, .ref z4.heap.objs.size]) at_.isList.typeIs PySem.slot_list_getitem.lookup ?_ (by with_unfolding_all rfl)
  refine wpAny_getItem_list_slice at_.isList (Heap.IsSliceOf.new _ v1 v2 v3) q1 q2 q3 (by decide) ?_ (by rw [List.size_toArray]; omega)
  rw [step_pick0]
  exact ⟨.ref _, _, I5.laid (t' := z4.toks) (o := .lst (evens xs)) (fun b o eo => Heap.get?_push_of_some _ eo) (Nat.le_refl _) ⟨Nat.le_trans (evens_le xs) sz, _, 0, vals_evens r, Heap.get?_push_size _ rfl⟩, rfl, q _ (I5.hok.fresh (Nat.le_refl _))⟩
theorem pe_step1 {e : Expr} {te : TE} {k k1 : Nat} {p1 p2 p3 pos : Pos} (he : PE X e te) : PE X (.Subscript e (.Slice (some (.Constant (.int 1) k1 p2)) none (some (.Constant (.int 2) k p1)) p3) pos) (tStep1 X.K te) := by
  refine ⟨fun pl z a G Q I h => ?_⟩
  refine Subscript_ (thn (he.run pl z a G _ I h) fun v z1 ⟨x, G1, I1, rx, w⟩ => ?_)
  obtain ⟨l, xs, rfl, hx, q⟩ := w
  cases rx
  refine wpAny_Slice (thn ((po_some pe_int).run pl z1 a G1 (fun o F => o = some 1 ∧ F = G1) I1 ⟨1, rfl, rfl, rfl⟩) fun v1 z2 ⟨o1, G2, I2, q1, w1, w2⟩ => ?_)
  subst w1 w2
  refine thn (po_none.run pl z2 a G2 (fun o F => o = none ∧ F = G2) I2 ⟨rfl, rfl⟩) fun v2 z3 ⟨o2, G3, I3, q2, w1, w2⟩ => ?_
  subst w1 w2
  refine thn ((po_some pe_int).run pl z3 a G3 (fun o F => o = some 2 ∧ F = G3) I3 ⟨2, rfl, rfl, rfl⟩) fun v3 z4 ⟨o3, G4, I4, q3, w1, w2⟩ => ?_
  subst w1 w2
  have I5 : Inv X pl a G4 { z4 with heap := z4.heap.push { cls := .type "slice", data := .fields #[v1, v2, v3] } } := I4.kept (t' := z4.toks) fun b o eo => Heap.get?_push_of_some _ eo
  obtain ⟨us, r, at_, sz⟩ := I5.list hx
  have len := r.length
  refine tail_any (ops := [.ref l, .ref z4.heap.objs.size]) at_.isList.typeIs PySem.slot_list_getitem.lookup ?_ (by with_unfolding_all rfl)
  refine wpAny_getItem_list_slice at_.isList (Heap.IsSliceOf.new _ v1 v2 v3) q1 q2 q3 (by decide) ?_ (by rw [List.size_toArray]; omega)
  rw [step_pick1]
  have lt : (evens (xs.drop 1)).length ≤ sizeLine := Nat.le_trans (evens_le _) (by rw [List.length_drop]; omega)
  exact ⟨.ref _, _, I5.laid (t' := z4.toks) (o := .lst (evens (xs.drop 1))) (fun b o eo => Heap.get?_push_of_some _ eo) (Nat.le_refl _) ⟨lt, _, 0, vals_evens (vals_tail r), Heap.get?_push_size _ rfl⟩, rfl, q _ (I5.hok.fresh (Nat.le_refl _))⟩
end
end Fp

namespace K21
open PySem PySem.Spec PyProof.Rows L2 Fp
section
variable {P : Program} {w : World} {K : PySem.W.Frag} {mg : Str → Option Value} {base : Heap} {k : Nat} {C fI fR : Addr}
def gcdI (xs : List Int) : Nat := xs.foldl (fun g x => Int.gcd g x) 0
def sp_primes (K : PySem.W.Frag) : Sp := fun vs H Q _ => vs = [] ∧ ∀ a H' ps, Same H H' → H a = none → H' a = some (.lst (VI (((p521 : Nat) : Int) :: ps))) → Q (.ref a) H'
def sp_shrunk (K : PySem.W.Frag) : Sp := fun vs H Q _ => ∃ (a : Addr) (xs : List Int) (p : Int), vs = [.ref a, .int p] ∧ H a = some (.lst (VI xs)) ∧ xs.length ≤ 2000 ∧ 0 < p ∧ ∀ c H', Same H H' → H c = none → H' c = some (.lst (VI (xs.map (· % p)))) → Q (.ref c) H'
def sp_primitive (K : PySem.W.Frag) : Sp := fun vs H Q _ => ∃ (a : Addr) (xs : List Int), vs = [.ref a] ∧ H a = some (.lst (VI xs)) ∧ xs.length ≤ 2000 ∧ (∀ x ∈ xs, LbI 8990 x) ∧ ∀ c H', Same H H' → H c = none → H' c = some (.lst (VI (xs.map (· / (gcdI xs : Int))))) → Q (.ref c) H'
def sp_small_multiple (K : PySem.W.Frag) : Sp := fun vs H Q _ => ∃ (x : Int) (p L : Nat), vs = [.int x, .int p, .int L] ∧ 0 ≤ x ∧ x < p ∧ L < p ∧ LbI 4000 p ∧ ∀ t H' r0 r1 b0 b1, Same H H' → H t = none → H' t = some (.tup [.int r1, .int b1]) → Euc p x r0 r1 b0 b1 → (L : Int) < r0 → r1 ≤ L → Q (.ref t) H'
def sp_inverse (K : PySem.W.Frag) : Sp := fun vs H Q _ => ∃ (x : Int) (p : Nat), vs = [.int x, .int p] ∧ 0 ≤ x ∧ x < p ∧ 1 < p ∧ LbI 4000 p ∧ Int.gcd p x = 1 ∧ ∀ (b : Int) H', Same H H' → 0 ≤ b → b < p → (p : Int) ∣ 1 - b * x → Q (.int b) H'
def sp_fraction_of (K : PySem.W.Frag) : Sp := fun vs H Q _ => ∃ (x e T : Int) (p L : Nat), vs = [.int x, .int p, .int L] ∧ 0 ≤ x ∧ x < p ∧ Pr p ∧ 2 * (L * L) < p ∧ LbI 4000 p ∧ 0 < e ∧ e ≤ L ∧ T.natAbs ≤ L ∧ (p : Int) ∣ T - e * x ∧
  ∀ t H' s m g, Same H H' → H t = none → H' t = some (.tup [.int s, .int m]) → 0 < g → T = s * g → e = m * g → 0 < m → m ≤ L → Q (.ref t) H'
theorem fm_mapI (xs : List Int) (g : Int → V) : (List.range (VI xs).length).filterMap (fun i => (xs[i]?).map g) = xs.map g := by
  have := fm_all xs fun z : Int => some (g z)
  rw [vi_len]
  have e2 : (fun i : Nat => (xs[i]?).map g) = fun i : Nat => (xs[i]?).bind fun z : Int => some (g z) := by
    funext i; cases xs[i]? <;> rfl
  rw [e2, this, List.filterMap_eq_map']
theorem vi_mapc (f : Int → Int) (a : Int) (l : List Int) : (a :: l).map (fun j => V.int (f j)) = VI (f a :: l.map f) := by
  unfold VI; rw [List.map_cons, List.map_cons, List.map_map]; rfl
theorem vi_map (f : Int → Int) (l : List Int) : l.map (fun j => V.int (f j)) = VI (l.map f) := by
  unfold VI; rw [List.map_map]; rfl
theorem gcdI_snoc (l : List Int) (x : Int) : gcdI (l ++ [x]) = Int.gcd (gcdI l) x := by
  unfold gcdI; rw [List.foldl_append]; rfl
theorem gcdI_app (l r : List Int) : gcdI (l ++ r) ∣ gcdI l := by
  induction r generalizing l with
  | nil => rw [List.append_nil]; exact Nat.dvd_refl _
  | cons x r ih =>
    rw [show l ++ x :: r = (l ++ [x]) ++ r by simp]
    refine Nat.dvd_trans (ih _) ?_
    rw [gcdI_snoc]
    exact Int.natCast_dvd_natCast.mp (Int.gcd_dvd_left ..)
theorem gcdI_dvd {xs : List Int} {x : Int} (h : x ∈ xs) : (gcdI xs : Int) ∣ x := by
  obtain ⟨l, r, rfl⟩ := List.append_of_mem h
  rw [show l ++ x :: r = (l ++ [x]) ++ r by simp]
  refine Int.dvd_trans (Int.natCast_dvd_natCast.mpr (gcdI_app _ _)) ?_
  rw [gcdI_snoc]
  exact Int.gcd_dvd_right ..
theorem gcdI_great {xs : List Int} {d : Int} (h : ∀ x ∈ xs, d ∣ x) : d ∣ (gcdI xs : Int) := by
  have : ∀ n, n ≤ xs.length → d ∣ (gcdI (xs.take n) : Int) := fun n => by
    induction n with
    | zero => intro _; exact Int.dvd_zero _
    | succ n ih =>
      intro hn
      have e := List.getElem?_eq_getElem (show n < xs.length by omega)
      rw [takeS e, gcdI_snoc]
      exact Int.dvd_coe_gcd (ih (by omega)) (h _ (List.getElem_mem _))
  have := this xs.length (Nat.le_refl _)
  rwa [List.take_length] at this
-- slots: power 0; cells: 
abbrev s_primes : Stmt := top 19
abbrev N_primes : List Str := ["power"]
theorem sc_primes : FnScope N_primes [] (defScope s_primes) := ⟨rfl, rfl, rfl, by decide +kernel, rfl, by decide +kernel, by decide +kernel⟩
theorem d_primes (B : Bnd K mg "primes" s_primes) (M : Mg2 mg) {TP : Addr} (PP : mg "PRIME_POWERS" = some (.ref TP)) (PQ : ∀ H, SqT K H TP (VI [521, 1279, 2203, 4423, 9689, 19937, 44497]))  : Def P w K mg base (k + 1) "primes" s_primes [] (sp_primes K) := by
  refine def_of B sc_primes (by rintro _ _ _ _ ⟨rfl, _⟩; rfl) (fun _ _ _ _ _ _ us hl => match us, hl with | [], _ => rfl) fun f cdv A outer s H vs Q E hr h => ?_
  obtain ⟨rfl, q⟩ := h
  have hu := hr.units
  refine ⟨_, pss_one (ps_ret (pe_lc (own := [("power", 0)]) (g := (gName 0)) (tt := tYes) (te := (tOp _ (tOp rShl (tC (.int 1)) (tVar 0)) (tC (.int 1)))) rfl sc_primes.nd (pi_sq (pe_glob (v := .ref TP) (by rfl) PP rfl)) (blkOk_by (own := [("power", 0)]) (N := N_primes) (sc := defScope s_primes) (by decide +kernel)) (fun _ _ _ _ _ => pg_name (i := 0) sc_primes.nd rfl (.inl rfl)) (fun _ _ _ _ _ => pts_nil) (fun _ _ _ _ _ => pe_op op_sub (pe_op (r := rShl) op_shlN pe_int (pv 0)) pe_int))), ?_⟩
  have pb : ∀ j ∈ ([521, 1279, 2203, 4423, 9689, 19937, 44497] : List Int), 0 ≤ j ∧ j ≤ 44497 := by decide
  refine lc_sq (xs := VI [521, 1279, 2203, 4423, 9689, 19937, 44497]) (fun i => (([521, 1279, 2203, 4423, 9689, 19937, 44497] : List Int)[i]?).map fun j => V.int (2 ^ j.toNat - 1)) (fun R r => r) (.inr (PQ H)) (by rw [sizeLine_eq]; decide) (fun i v H1 hv s1 Y N y nn => ?_) (fun D H1 s1 hD hD2 => ?_)
  · obtain ⟨j, hj, rfl⟩ := vi_at hv
    have b := pb j (List.mem_of_getElem? hj)
    refine ⟨rfl, _, rfl, 1, j.toNat, rfl, by rw [Int.toNat_of_nonneg b.1], ⟨by omega, ?_⟩, _, _, rfl, rfl, y _ _ (Same.refl _) ?_⟩
    · have e1 : Builtin.Int.intBits 1 = 1 := by decide +kernel
      rw [e1, Int.toNat_of_nonneg b.1]
      have : (2 : Int) ^ 27 = 134217728 := by decide +kernel
      omega
    · show (([521, 1279, 2203, 4423, 9689, 19937, 44497] : List Int)[i]?).map _ = _
      rw [hj]
      show some (V.int _) = some (V.int _)
      rw [Int.one_mul]
  · refine q D H1 (([1279, 2203, 4423, 9689, 19937, 44497] : List Int).map fun j => 2 ^ j.toNat - 1) s1 hD ?_
    rw [hD2]
    have e0 : (2 : Int) ^ (521 : Int).toNat - 1 = ((p521 : Nat) : Int) := by decide +kernel
    have e := fm_mapI [521, 1279, 2203, 4423, 9689, 19937, 44497] fun j => V.int (2 ^ j.toNat - 1)
    rw [e, vi_mapc (fun j => 2 ^ j.toNat - 1), e0]
-- slots: wholes 0, prime 1, whole 2; cells: prime
abbrev s_shrunk : Stmt := top 20
abbrev N_shrunk : List Str := ["wholes", "prime", "whole"]
theorem sc_shrunk : FnScope N_shrunk ["wholes", "prime"] (defScope s_shrunk) := ⟨rfl, rfl, rfl, by decide +kernel, rfl, by decide +kernel, by decide +kernel⟩
theorem d_shrunk (B : Bnd K mg "shrunk" s_shrunk) (M : Mg2 mg)  (D_primitive : Def P w K mg base k "primitive" s_primitive ["wholes"] (sp_primitive K)) : Def P w K mg base (k + 1) "shrunk" s_shrunk ["wholes", "prime"] (sp_shrunk K) := by
  refine def_of B sc_shrunk (by rintro _ _ _ _ ⟨a, xs, p, rfl, _⟩; rfl) (fun _ _ _ _ _ _ us hl => match us, hl with | [_, _], _ => rfl) fun f cdv A outer s H vs Q E hr h => ?_
  obtain ⟨a, xs, p, rfl, ha, lx, p0, q⟩ := h
  have hu := hr.units
  refine ⟨_, C8.pss_cut (ps_if (pt_cmpR op_ne (pv 1) pe_int (nomark _))
      (pss_one (ps_ret (pe_lc (own := [("whole", 2)]) (g := (gName 2)) (tt := tYes) (te := (tOp _ (tVar 2) (tVar 1))) rfl sc_shrunk.nd (pi_list (pv 0)) (blkOk_by (own := [("whole", 2)]) (N := N_shrunk) (sc := defScope s_shrunk) (by decide +kernel)) (fun _ _ _ _ _ => pg_name (i := 2) sc_shrunk.nd rfl (.inl rfl)) (fun _ _ _ _ _ => pts_nil) (fun _ _ _ _ _ => pe_op op_mod (pv 2) (pv 1)))))
      (pss_nil))
    (pss_one (ps_ret (pe_d D_primitive hr (by rfl) (pa_cons (pv 0) pa_nil)))), ?_⟩
  have lv := vi_len xs
  refine ⟨fun _ _ => False, ⟨_, rfl, rfl, _, rfl, iteT2 (by rw [decide_eq_false (fun z => by injection z with z; omega)]; rfl) ?_⟩, fun _ _ h => h.elim⟩
  refine ⟨_, rfl, a, rfl, ⟨_, SqL.of ha⟩, fun D nD => ?_⟩
  refine lc_l (fun i => (xs[i]?).map fun x => V.int (x % p)) (SqL.of ha) nD (by rw [lv, sizeLine_eq]; omega) (fun i v H2 hv s3 Y N y nn => ?_) (fun H2 s3 hE => ?_)
  · obtain ⟨d, hd, rfl⟩ := vi_at hv
    refine ⟨rfl, _, rfl, _, rfl, _, _, rfl, rfl, p0, y _ _ (Same.refl _) ?_⟩
    show (xs[i]?).map _ = _
    rw [hd]; rfl
  · rw [fm_mapI, vi_map] at hE
    exact q D H2 s3 nD hE
-- slots: wholes 0, shared 1, whole 2; cells: shared
abbrev s_primitive : Stmt := top 21
abbrev N_primitive : List Str := ["wholes", "shared", "whole"]
theorem sc_primitive : FnScope N_primitive ["wholes"] (defScope s_primitive) := ⟨rfl, rfl, rfl, by decide +kernel, rfl, by decide +kernel, by decide +kernel⟩
theorem d_primitive (B : Bnd K mg "primitive" s_primitive) (M : Mg2 mg)   : Def P w K mg base (k + 1) "primitive" s_primitive ["wholes"] (sp_primitive K) := by
  refine def_of B sc_primitive (by rintro _ _ _ _ ⟨a, xs, rfl, _⟩; rfl) (fun _ _ _ _ _ _ us hl => match us, hl with | [_], _ => rfl) fun f cdv A outer s H vs Q E hr h => ?_
  obtain ⟨a, xs, rfl, ha, lx, bx, q⟩ := h
  have hu := hr.units
  refine ⟨_, pss_cons (ps_set (i := 1) sc_primitive.nd rfl (.inr rfl) pe_int)
    (pss_cons (ps_for PassesOwn.never rfl (pi_list (pv 0)) (pg_name (i := 2) sc_primitive.nd rfl (.inl rfl))
      (pss_cons (ps_set (i := 1) sc_primitive.nd rfl (.inr rfl) (pe_callBfun cr_gcd (by rfl) M.gcd  (pa_cons (pv 1) (pa_cons (pv 2) pa_nil))))
      (pss_one (ps_if (pt_cmpR op_eq (pv 1) pe_int (nomark _))
        (pss_one (ps_ret (pe_callTy call_list_of (by rfl) M.list (by decide +kernel) (pa_cons (pv 0) pa_nil))))
        (pss_nil)))))
    (C8.pss_cut (ps_if (pt_cmpR op_eq (pv 1) pe_int (nomark _))
      (pss_one (ps_ret (pe_callTy call_list_of (by rfl) M.list (by decide +kernel) (pa_cons (pv 0) pa_nil))))
      (pss_nil))
    (pss_one (ps_ret (pe_lc (own := [("whole", 2)]) (g := (gName 2)) (tt := tYes) (te := (tOp _ (tVar 2) (tVar 1))) rfl sc_primitive.nd (pi_list (pv 0)) (blkOk_by (own := [("whole", 2)]) (N := N_primitive) (sc := defScope s_primitive) (by decide +kernel)) (fun _ _ _ _ _ => pg_name (i := 2) sc_primitive.nd rfl (.inl rfl)) (fun _ _ _ _ _ => pts_nil) (fun _ _ _ _ _ => pe_op op_fdivNW (pv 2) (pv 1))))))), ?_⟩
  have lv := vi_len xs
  refine ⟨_, rfl, a, rfl, ⟨_, SqL.of ha⟩, ?_⟩
  have one : gcdI xs = 1 → xs.map (· / (gcdI xs : Int)) = xs := fun e => by
    rw [e]
    exact List.map_id'' (fun x => Int.ediv_one x) xs
  refine for_list (xs := VI xs) (fun i σ G => ∃ (o : Option V), σ = [some (.ref a), some (.int (gcdI (xs.take i) : Int)), o] ∧ G = H)
    ⟨none, rfl, rfl⟩ (fun i σ G _ ⟨_, e, eG⟩ => by rw [eG]; exact SqL.of ha) (fun i v σ G hv ⟨o, e, eG⟩ => ?_) (fun σ G ⟨o, e, eG⟩ => ?_)
  · subst e eG
    obtain ⟨x, hx, rfl⟩ := vi_at hv
    refine ⟨_, rfl, _, rfl, _, x, rfl, _, rfl, rfl, _, rfl, ite2 (fun z => ?_) (fun z => ?_)⟩
    · have e1 : gcdI (xs.take (i + 1)) = 1 := by
        rw [takeS hx, gcdI_snoc]
        have := of_decide_eq_true z
        injection this with this
        exact Int.ofNat_inj.mp this
      have e2 : gcdI xs = 1 := Nat.dvd_one.mp (by
        rw [← e1]
        have := gcdI_app (xs.take (i + 1)) (xs.drop (i + 1))
        rwa [List.take_append_drop] at this)
      refine ⟨_, rfl, a, _, rfl, .inl (SqL.of ha), fun c nc => q c _ (same_new nc) nc ?_⟩
      rw [one e2, upd_same]
    · exact ⟨_, by rw [takeS hx, gcdI_snoc]; rfl, rfl⟩
  · subst e eG
    rw [lv, List.take_length]
    refine ⟨fun σ' G' => σ' = [some (.ref a), some (.int (gcdI xs : Int)), o] ∧ G' = G ∧ (gcdI xs : Int) ≠ 0, ⟨_, rfl, rfl, _, rfl, ite2 (fun z => ?_) (fun z => ?_)⟩, ?_⟩
    · have z2 : (gcdI xs : Int) = 0 := by
        have := of_decide_eq_true z
        injection this with this
      refine ⟨_, rfl, a, _, rfl, .inl (SqL.of ha), fun c nc => q c _ (same_new nc) nc ?_⟩
      have : xs.map (· / (gcdI xs : Int)) = xs := by
        refine List.ext_getElem (by simp) fun n h1 h2 => ?_
        rw [List.getElem_map]
        have := gcdI_dvd (List.getElem_mem h2)
        rw [z2] at this
        rw [Int.zero_dvd.mp this]
        exact Int.zero_ediv _
      rw [this, upd_same]
    · exact ⟨rfl, rfl, fun e => z (decide_eq_true (by rw [e]))⟩
    rintro _ _ ⟨rfl, rfl, g0⟩
    refine ⟨_, rfl, a, rfl, ⟨_, SqL.of ha⟩, fun D nD => ?_⟩
    obtain ⟨y, hy, y0⟩ : ∃ y ∈ xs, y ≠ 0 := Classical.byContradiction fun c => g0 (by
      refine Int.zero_dvd.mp (gcdI_great fun x hx => ?_)
      exact Int.zero_dvd.mpr (Classical.byContradiction fun e => c ⟨x, hx, e⟩))
    have gB : LbI 8990 (gcdI xs : Int) := Nat.lt_of_le_of_lt (Nat.le_of_dvd (by omega) (Int.natAbs_dvd_natAbs.mpr (gcdI_dvd hy))) (bx y hy)
    refine lc_l (fun i => (xs[i]?).map fun x => V.int (x / (gcdI xs : Int))) (SqL.of ha) nD (by rw [lv, sizeLine_eq]; omega) (fun i v H2 hv s3 Y N y nn => ?_) (fun H2 s3 hE => ?_)
    · obtain ⟨d, hd, rfl⟩ := vi_at hv
      refine ⟨rfl, _, rfl, _, rfl, _, _, rfl, rfl, gB.div (by omega) g0, y _ _ (Same.refl _) ?_⟩
      show (xs[i]?).map _ = _
      rw [hd]
      show some (V.int (d / (gcdI xs : Int))) = some (V.int (d.fdiv (gcdI xs : Int)))
      rw [Int.fdiv_eq_ediv_of_nonneg d (by omega)]
    · rw [fm_mapI, vi_map (· / (gcdI xs : Int))] at hE
      exact q D H2 s3 nD hE
-- slots: rest 0, prime 1, limit 2, older 3, old_bottom 4, newer 5, bottom 6, often 7; cells: 
abbrev s_small_multiple : Stmt := top 22
abbrev N_small_multiple : List Str := ["rest", "prime", "limit", "older", "old_bottom", "newer", "bottom", "often"]
theorem sc_small_multiple : FnScope N_small_multiple ["rest", "prime", "limit"] (defScope s_small_multiple) := ⟨rfl, rfl, rfl, by decide +kernel, rfl, by decide +kernel, by decide +kernel⟩
theorem d_small_multiple (B : Bnd K mg "small_multiple" s_small_multiple) (M : Mg2 mg)   : Def P w K mg base (k + 1) "small_multiple" s_small_multiple ["rest", "prime", "limit"] (sp_small_multiple K) := by
  refine def_of B sc_small_multiple (by rintro _ _ _ _ ⟨x, p, L, rfl, _⟩; rfl) (fun _ _ _ _ _ _ us hl => match us, hl with | [_, _, _], _ => rfl) fun f cdv A outer s H vs Q E hr h => ?_
  obtain ⟨x, p, L, rfl, x0, xp, Lp, bp, q⟩ := h
  have hu := hr.units
  refine ⟨_, pss_cons (ps_par (i := 3) (j := 4) rfl sc_small_multiple.nd rfl rfl (by decide) rfl rfl (pa_cons (pv 1) (pa_cons pe_int pa_nil)) (by rfl))
    (pss_cons (ps_par (i := 5) (j := 6) rfl sc_small_multiple.nd rfl rfl (by decide) rfl rfl (pa_cons (pv 0) (pa_cons pe_int pa_nil)) (by rfl))
    (pss_cons (ps_while PassesOwn.never (pt_cmpR op_gt (pv 5) (pv 2) (nomark _))
      (pss_cons (ps_set (i := 7) sc_small_multiple.nd rfl (.inl rfl) (pe_op op_fdivNW (pv 3) (pv 5)))
      (pss_cons (ps_par (i := 3) (j := 5) rfl sc_small_multiple.nd rfl rfl (by decide) rfl rfl (pa_cons (pv 5) (pa_cons (pe_op op_sub (pv 3) (pe_op op_mulW (pv 7) (pv 5))) pa_nil)) (by rfl))
      (pss_one (ps_par (i := 4) (j := 6) rfl sc_small_multiple.nd rfl rfl (by decide) rfl rfl (pa_cons (pv 6) (pa_cons (pe_op op_sub (pv 4) (pe_op op_mulW (pv 7) (pv 6))) pa_nil)) (by rfl))))))
    (pss_one (ps_ret (pe_tup (pa_cons (pv 5) (pa_cons (pv 6) pa_nil))))))), ?_⟩
  refine ⟨_, rfl, _, _, rfl, ?_⟩
  refine ⟨_, rfl, _, _, rfl, ?_⟩
  refine ⟨fun mm σ G => ∃ (r0 r1 b0 b1 : Int) (o : Option V), σ = [some (.int x), some (.int p), some (.int L), some (.int r0), some (.int b0), some (.int r1), some (.int b1), o] ∧ G = H ∧ mm = r1.toNat ∧ Euc p x r0 r1 b0 b1 ∧ (L : Int) < r0 ∧ r0 ≤ p, ⟨x.toNat, p, x, 0, 1, none, rfl, rfl, rfl, Euc.start x0 xp, by omega, by omega⟩, ?_⟩
  rintro mm σ G ⟨r0, r1, b0, b1, o, rfl, rfl, rfl, E, l0, lp⟩
  have n1 := E.n1
  have lt := E.lt
  have B : ∀ {z : Int}, z.natAbs ≤ p → LbI 4000 z := fun h => Nat.lt_of_le_of_lt h bp
  refine ⟨_, rfl, _, rfl, _, _, rfl, rfl, _, rfl, ite2 (fun z => ?_) (fun z => ?_)⟩
  · have z2 : (L : Int) < r1 := of_decide_eq_true z
    have q0 : (r0.fdiv r1).natAbs ≤ p := by
      rw [Int.fdiv_eq_ediv_of_nonneg _ (by omega)]
      have h1 : 0 ≤ r0 / r1 := Int.ediv_nonneg (by omega) (by omega)
      have h2 : r0 / r1 ≤ r0 := Int.ediv_le_self _ (by omega)
      omega
    have E2 := E.step (by omega)
    have lt2 := E2.lt
    have bb1 := euc_b E
    have bb0 := euc_b0 E (by omega)
    refine ⟨fun σ' G' => ∃ m' : Nat, m' < r1.toNat ∧ _, fun σ' G' h => h, ?_⟩
    refine ⟨_, rfl, _, rfl, _, _, rfl, rfl, LbI.div (n := 4000) (B (by omega)) (by omega) (by omega), ?_⟩
    refine ⟨_, rfl, _, rfl, _, rfl, _, rfl, _, _, rfl, rfl, LbI.cm (n := 4000) (m := 4000) (B q0) (B (by omega)) (by omega), _, _, rfl, rfl, _, _, rfl, ?_⟩
    refine ⟨_, rfl, _, rfl, _, rfl, _, rfl, _, _, rfl, rfl, LbI.cm (n := 4000) (m := 4000) (B q0) (B bb1) (by omega), _, _, rfl, rfl, _, _, rfl, ?_⟩
    exact ⟨_, by omega, r1, _, b1, _, _, rfl, rfl, rfl, E2, z2, by omega⟩
  · have z2 : r1 ≤ L := by
      rcases Int.lt_or_le (L : Int) r1 with h | h
      · exact absurd (decide_eq_true h) z
      · exact h
    refine ⟨_, rfl, _, rfl, by show 2 ≤ sizeLine; decide, fun t nt => ?_⟩
    exact q t _ r0 r1 b0 b1 (same_new nt) nt upd_same E l0 z2
-- slots: rest 0, prime 1, _ 2, bottom 3; cells: 
abbrev s_inverse : Stmt := top 23
abbrev N_inverse : List Str := ["rest", "prime", "_", "bottom"]
theorem sc_inverse : FnScope N_inverse ["rest", "prime"] (defScope s_inverse) := ⟨rfl, rfl, rfl, by decide +kernel, rfl, by decide +kernel, by decide +kernel⟩
theorem d_inverse (B : Bnd K mg "inverse" s_inverse) (M : Mg2 mg)  (D_small_multiple : Def P w K mg base k "small_multiple" s_small_multiple ["rest", "prime", "limit"] (sp_small_multiple K)) : Def P w K mg base (k + 1) "inverse" s_inverse ["rest", "prime"] (sp_inverse K) := by
  refine def_of B sc_inverse (by rintro _ _ _ _ ⟨x, p, rfl, _⟩; rfl) (fun _ _ _ _ _ _ us hl => match us, hl with | [_, _], _ => rfl) fun f cdv A outer s H vs Q E hr h => ?_
  obtain ⟨x, p, rfl, x0, xp, p1, bp, cp, q⟩ := h
  have hu := hr.units
  refine ⟨_, pss_cons (ps_asg (pe_d D_small_multiple hr (by rfl) (pa_cons (pv 0) (pa_cons (pv 1) (pa_cons pe_int pa_nil)))) (pg_tup rfl (pgs_cons (pg_name (i := 2) sc_inverse.nd rfl (.inl rfl)) (pgs_cons (pg_name (i := 3) sc_inverse.nd rfl (.inl rfl)) pgs_nil))))
    (pss_one (ps_ret (pe_op op_mod (pv 3) (pv 1)))), ?_⟩
  refine ⟨_, rfl, _, rfl, x, p, 1, rfl, x0, xp, p1, bp, fun t H1 r0 r1 b0 b1 s1 nt ht E l0 l1 => ?_⟩
  refine ⟨t, _, rfl, SqT.of ht, rfl, _, _, rfl, _, _, rfl, rfl, ?_⟩
  refine ⟨_, rfl, _, rfl, _, _, rfl, rfl, by omega, ?_⟩
  have d := euc_inv E (by omega) l1 cp
  have e := Int.emod_add_mul_ediv b1 p
  refine q (b1 % p) H1 s1 (Int.emod_nonneg _ (by omega)) (Int.emod_lt_of_pos _ (by omega)) ?_
  obtain ⟨y, hy⟩ := d
  exact ⟨y + b1 / p * x, by rw [Int.mul_add, ← hy]; have : b1 % p = b1 - p * (b1 / p) := by omega
                            rw [this]; grind⟩
-- slots: rest 0, prime 1, limit 2, top 3, bottom 4; cells: 
abbrev s_fraction_of : Stmt := top 24
abbrev N_fraction_of : List Str := ["rest", "prime", "limit", "top", "bottom"]
theorem sc_fraction_of : FnScope N_fraction_of ["rest", "prime", "limit"] (defScope s_fraction_of) := ⟨rfl, rfl, rfl, by decide +kernel, rfl, by decide +kernel, by decide +kernel⟩
theorem d_fraction_of (B : Bnd K mg "fraction_of" s_fraction_of) (M : Mg2 mg)  (D_small_multiple : Def P w K mg base k "small_multiple" s_small_multiple ["rest", "prime", "limit"] (sp_small_multiple K)) : Def P w K mg base (k + 1) "fraction_of" s_fraction_of ["rest", "prime", "limit"] (sp_fraction_of K) := by
  refine def_of B sc_fraction_of (by rintro _ _ _ _ ⟨x, e, T, p, L, rfl, _⟩; rfl) (fun _ _ _ _ _ _ us hl => match us, hl with | [_, _, _], _ => rfl) fun f cdv A outer s H vs Q E hr h => ?_
  obtain ⟨x, e, T, p, L, rfl, x0, xp, pr, hL, bp, e0, eL, TL, hx, q⟩ := h
  have hu := hr.units
  refine ⟨_, pss_cons (ps_asg (pe_d D_small_multiple hr (by rfl) (pa_cons (pv 0) (pa_cons (pv 1) (pa_cons (pv 2) pa_nil)))) (pg_tup rfl (pgs_cons (pg_name (i := 3) sc_fraction_of.nd rfl (.inl rfl)) (pgs_cons (pg_name (i := 4) sc_fraction_of.nd rfl (.inl rfl)) pgs_nil))))
    (C8.pss_cut (ps_if (pt_cmpR op_gt (pe_callB call_abs (by rfl) M.abs (by decide +kernel) (pa_cons (pv 4) pa_nil)) (pv 2) (nomark _))
      (pss_one (ps_ret pe_non))
      (pss_nil))
    (pss_one (ps_ret (pe_ifExp (pt_cmpR op_lt (pv 4) pe_int (nomark _)) (pe_tup (pa_cons (pe_un un_neg (pv 3)) (pa_cons (pe_un un_neg (pv 4)) pa_nil))) (pe_tup (pa_cons (pv 3) (pa_cons (pv 4) pa_nil))))))), ?_⟩
  have LL : L ≤ L * L := Nat.le_mul_self L
  have L1 : 1 ≤ L := by omega
  refine ⟨_, rfl, _, rfl, _, rfl, x, p, L, rfl, x0, xp, by omega, bp, fun t H1 r0 r1 b0 b1 s1 nt ht E l0 l1 => ?_⟩
  obtain ⟨s, m, g, g0, eT, ee, m0, mL, sL, alt⟩ := frac_one pr hL e0 eL TL hx E l0 l1
  refine ⟨t, _, rfl, SqT.of ht, rfl, _, _, rfl, _, _, rfl, rfl, ?_⟩
  refine ⟨fun σ' G => σ' = [some (.int x), some (.int p), some (.int L), some (.int r1), some (.int b1)] ∧ G = H1, ⟨_, rfl, _, rfl, _, rfl, _, _, rfl, rfl, _, rfl, iteF2 ?_ ⟨rfl, rfl⟩⟩, ?_⟩
  · refine decide_eq_false ?_
    rcases alt with ⟨h1, h2⟩ | ⟨h1, h2⟩ <;> split <;> omega
  rintro _ _ ⟨rfl, rfl⟩
  refine ⟨_, rfl, _, _, rfl, rfl, _, rfl, ite2 (fun z => ?_) (fun z => ?_)⟩
  · have z2 : b1 < 0 := of_decide_eq_true z
    refine ⟨_, rfl, _, rfl, _, rfl, _, rfl, by show 2 ≤ sizeLine; decide, fun t nt => ?_⟩
    refine q t _ s m g (s1.trans (same_new nt)) (s1.free nt) ?_ g0 eT ee m0 mL
    rw [upd_same]
    show some (HO.tup [V.int (-r1), V.int (-b1)]) = _
    rw [show -r1 = s by omega, show -b1 = m by omega]
  · have z2 : ¬ b1 < 0 := fun h => z (decide_eq_true h)
    refine ⟨_, rfl, _, rfl, by show 2 ≤ sizeLine; decide, fun t nt => ?_⟩
    refine q t _ s m g (s1.trans (same_new nt)) (s1.free nt) ?_ g0 eT ee m0 mL
    rw [upd_same, show r1 = s by omega, show b1 = m by omega]
end
end K21

namespace K21
open PySem PySem.Spec PyProof.Rows L2 Fp
section
variable {P : Program} {w : World} {K : PySem.W.Frag} {mg : Str → Option Value} {base : Heap} {k : Nat} {C fI fR : Addr}
def sp_wn (K : PySem.W.Frag) : Sp := fun vs H Q _ => ∃ (a : Addr) (xs : List Int), vs = [.ref a] ∧ H a = some (.lst (VI xs)) ∧ xs.length ≤ 2000 ∧ ∀ c H', Same H H' → H c = none → H' c = some (.lst (VI (trimI xs))) → Q (.ref c) H'
def sp_fractions_of (K : PySem.W.Frag) : Sp := fun vs H Q _ => ∃ (a : Addr) (xs Ts : List Int) (D : Int) (p L : Nat), vs = [.ref a, .int p] ∧ H a = some (.lst (VI xs)) ∧ xs.length = Ts.length ∧ Ts.length ≤ 100 ∧ (∀ x ∈ xs, 0 ≤ x ∧ x < p) ∧ Pr p ∧ 2 * (L * L) < p ∧ LbI 4000 p ∧ Float64.isqrt ((p : Int) / 2).toNat = L ∧ 0 < D ∧ D ≤ L ∧ (∀ i, (zc Ts i).natAbs ≤ L) ∧ (∀ i, (p : Int) ∣ zc Ts i - D * zc xs i) ∧
  ∀ (t l : Addr) H' (tops : List Int) (bottom : Int), Same H H' → H t = none → H' t = some (.tup [.ref l, .int bottom]) → H' l = some (.lst (VI tops)) → tops.length = Ts.length → 0 < bottom → bottom ≤ L → (∀ i, zc tops i * D = zc Ts i * bottom) → (∀ i, (zc tops i).natAbs ≤ L) → Q (.ref t) H'
def offZ (xs ys : List Int) (place : Nat) (head lead : Int) : List Int := (xs.take place).map (· * head) ++ (List.zipWith (fun a b => a * head - b * lead) (xs.drop place) ys).dropLast
def sp_taken_off (K : PySem.W.Frag) : Sp := fun vs H Q _ => ∃ (a b : Addr) (xs ys : List Int) (n m : Nat), vs = [.ref a, .ref b] ∧ H a = some (.lst (VI xs)) ∧ H b = some (.lst (VI ys)) ∧ ys ≠ [] ∧ ys.length ≤ xs.length ∧ xs.length ≤ 400 ∧ (∀ x ∈ xs, LbI n x) ∧ (∀ x ∈ ys, LbI m x) ∧ n + m ≤ 900000 ∧
  ∀ c H', Same H H' → H c = none → H' c = some (.lst (VI (offZ xs ys (xs.length - ys.length) (zc ys (ys.length - 1)) (zc xs (xs.length - 1))))) → Q (.ref c) H'
-- slots: wholes 0, size 1; cells: 
abbrev s_without_noughts : Stmt := top 26
abbrev N_without_noughts : List Str := ["wholes", "size"]
theorem sc_without_noughts : FnScope N_without_noughts ["wholes"] (defScope s_without_noughts) := ⟨rfl, rfl, rfl, by decide +kernel, rfl, by decide +kernel, by decide +kernel⟩
theorem d_without_noughts (B : Bnd K mg "without_noughts" s_without_noughts) (M : Mg2 mg)   : Def P w K mg base (k + 1) "without_noughts" s_without_noughts ["wholes"] (sp_wn K) := by
  refine def_of B sc_without_noughts (by rintro _ _ _ _ ⟨a, xs, rfl, _⟩; rfl) (fun _ _ _ _ _ _ us hl => match us, hl with | [_], _ => rfl) fun f cdv A outer s H vs Q E hr h => ?_
  obtain ⟨a, xs, rfl, ha, lx, q⟩ := h
  have hu := hr.units
  refine ⟨_, pss_cons (ps_set (i := 1) sc_without_noughts.nd rfl (.inl rfl) (pe_callB call_len_seq (by rfl) M.len boot_len (pa_cons (pv 0) pa_nil)))
    (pss_cons (ps_while PassesOwn.never (PW.pt (pw_and (pt_cmpR op_gt (pv 1) pe_int (nomark _)) (pw_and1 (pt_cmpR op_eq (pe_ix (r := rIxL K) ix_list (pv 0) (pe_op op_sub (pv 1) pe_int) (fun _ _ => rfl)) pe_int (nomark _)))))
      (pss_one (ps_aug (i := 1) sc_without_noughts.nd rfl (.inl rfl) pe_int ip_sub)))
    (pss_one (ps_ret (pe_slice (r := rSlL K) sl_list (pv 0) po_none (po_some (pv 1)))))), ?_⟩
  have lv := vi_len xs
  refine ⟨_, rfl, a, _, rfl, .inl (SqL.of ha), ?_⟩
  refine ⟨fun mm σ G => σ = [some (.ref a), some (.int (mm : Int))] ∧ G = H ∧ mm ≤ xs.length ∧ trimI (xs.take mm) = trimI xs, ⟨xs.length, by rw [← lv]; rfl, rfl, Nat.le_refl _, by rw [List.take_length]⟩, ?_⟩
  rintro mm σ G ⟨rfl, rfl, nl, tp⟩
  have fin : xs.take mm = trimI xs → (tRet (tSl (rSlL K) (tVar 0) tNoPart (tPart (tVar 1)))) { nx := fun _ H1 => Q .non H1, rt := Q } [some (.ref a), some (.int (mm : Int))] G := fun e => by
    refine ⟨_, rfl, _, rfl, mm, rfl, a, _, rfl, SqL.of ha, fun c nc => q c _ (same_new nc) nc ?_⟩
    rw [cut_to, ← e, upd_same]
    unfold VI; rw [List.map_take]
  refine ⟨_, rfl, _, _, rfl, rfl, _, rfl, ite2 (fun z => ?_) (fun z => ?_)⟩
  · have z2 : 0 < mm := by have := of_decide_eq_true z; omega
    have hv : xs[mm - 1]? = some xs[mm - 1] := List.getElem?_eq_getElem (by omega)
    have tk : xs.take mm = xs.take (mm - 1) ++ [xs[mm - 1]] := by
      have := takeS hv
      rwa [show mm - 1 + 1 = mm by omega] at this
    refine ⟨_, rfl, _, rfl, _, 1, rfl, rfl, a, _, _, _, rfl, rfl, SqL.of ha, at_of (j := mm - 1) (by show (mm : Int) - 1 = _; omega) (show (VI xs)[mm - 1]? = some (.int xs[mm - 1]) by rw [List.getElem?_map, hv]; rfl), rfl, _, rfl, ite2 (fun z3 => ?_) (fun z3 => ?_)⟩
    · have p0 : xs[mm - 1] = 0 := by
        have := of_decide_eq_true z3
        injection this
      refine ⟨fun σ' H1 => σ' = [some (.ref a), some (.int ((mm - 1 : Nat) : Int))] ∧ H1 = G, fun σ' H1 ⟨e1, e2⟩ => ⟨mm - 1, by omega, e1, e2, by omega, by rw [← tp, tk, trimI_zero p0]⟩, ?_⟩
      refine ⟨_, rfl, _, 1, rfl, rfl, ?_, rfl⟩
      show [some (V.ref a), some (V.int ((mm : Int) - 1))] = _
      rw [show (mm : Int) - 1 = ((mm - 1 : Nat) : Int) by omega]
    · have p0 : xs[mm - 1] ≠ 0 := fun e => z3 (decide_eq_true (by rw [e]))
      exact fin (by rw [← tp, tk, trimI_nz p0])
  · have z2 : mm = 0 := by
      by_cases e : mm = 0
      · exact e
      · exact absurd (decide_eq_true (by omega)) z
    subst z2
    exact fin (by rw [← tp]; rfl)

theorem zc_app (xs : List Int) (x : Int) (n : Nat) : zc (xs ++ [x]) n = if n = xs.length then x else zc xs n := by
  unfold zc
  rw [List.getD_eq_getElem?_getD, List.getD_eq_getElem?_getD]
  rcases Nat.lt_trichotomy n xs.length with h | h | h
  · rw [List.getElem?_append_left h, if_neg (by omega)]
  · subst h; rw [List.getElem?_append_right (Nat.le_refl _), Nat.sub_self, if_pos rfl]; rfl
  · rw [List.getElem?_append_right (by omega), if_neg (by omega), List.getElem?_eq_none (l := xs) (by omega), List.getElem?_eq_none (by simp; omega)]
theorem zc_map (f : Int → Int) (f0 : f 0 = 0) (xs : List Int) (n : Nat) : zc (xs.map f) n = f (zc xs n) := by
  unfold zc
  rw [List.getD_eq_getElem?_getD, List.getD_eq_getElem?_getD, List.getElem?_map]
  cases xs[n]? with
  | none => exact f0.symm
  | some x => rfl
theorem zc_at {xs : List Int} {n : Nat} {x : Int} (h : xs[n]? = some x) : zc xs n = x := by
  unfold zc; rw [List.getD_eq_getElem?_getD, h]; rfl
theorem lb_le {p : Nat} {n : Nat} {z : Int} (h : LbI n p) (l : z.natAbs ≤ p) : LbI n z := Nat.lt_of_le_of_lt l h
-- slots: rests 0, prime 1, limit 2, tops 3, bottom 4, rest 5, found 6, top 7, more 8, one 9; cells: more
abbrev s_fractions_of : Stmt := top 25
abbrev N_fractions_of : List Str := ["rests", "prime", "limit", "tops", "bottom", "rest", "found", "top", "more", "one"]
theorem sc_fractions_of : FnScope N_fractions_of ["rests", "prime"] (defScope s_fractions_of) := ⟨rfl, rfl, rfl, by decide +kernel, rfl, by decide +kernel, by decide +kernel⟩
theorem d_fractions_of (B : Bnd K mg "fractions_of" s_fractions_of) (M : Mg2 mg)  (D_fraction_of : Def P w K mg base k "fraction_of" s_fraction_of ["rest", "prime", "limit"] (sp_fraction_of K)) : Def P w K mg base (k + 1) "fractions_of" s_fractions_of ["rests", "prime"] (sp_fractions_of K) := by
  refine def_of B sc_fractions_of (by rintro _ _ _ _ ⟨a, xs, Ts, D, p, L, rfl, _⟩; rfl) (fun _ _ _ _ _ _ us hl => match us, hl with | [_, _], _ => rfl) fun f cdv A outer s H vs Q E hr h => ?_
  obtain ⟨a, xs, Ts, D, p, L, rfl, ha, lx, l100, xb, pr, hL, bp, hI, D0, DL, TL, hx, q⟩ := h
  have hu := hr.units
  refine ⟨_, pss_cons (ps_set (i := 2) sc_fractions_of.nd rfl (.inl rfl) (pe_callBfun cr_isqrt (by rfl) M.isqrt  (pa_cons (pe_op op_fdiv (pv 1) pe_int) pa_nil)))
    (pss_cons (ps_par (i := 3) (j := 4) rfl sc_fractions_of.nd rfl rfl (by decide) rfl rfl (pa_cons (pe_lst pa_nil) (pa_cons pe_int pa_nil)) (by rfl))
    (pss_cons (ps_for PassesOwn.never rfl (pi_list (pv 0)) (pg_name (i := 5) sc_fractions_of.nd rfl (.inl rfl))
      (pss_cons (ps_set (i := 6) sc_fractions_of.nd rfl (.inl rfl) (pe_d D_fraction_of hr (by rfl) (pa_cons (pe_op op_mod (pe_op op_mulW (pv 5) (pv 4)) (pv 1)) (pa_cons (pv 1) (pa_cons (pv 2) pa_nil)))))
      (C8.pss_cut (ps_if (pt_cmpR op_isN (pv 6) pe_non (nomark _))
        (pss_one (ps_ret pe_non))
        (pss_nil))
      (pss_cons (ps_asg (pv 6) (pg_tup rfl (pgs_cons (pg_name (i := 7) sc_fractions_of.nd rfl (.inl rfl)) (pgs_cons (pg_name (i := 8) sc_fractions_of.nd rfl (.inr rfl)) pgs_nil))))
      (pss_cons (ps_set (i := 3) sc_fractions_of.nd rfl (.inl rfl) (pe_op op_cat (pe_lc (own := [("one", 9)]) (g := (gName 9)) (tt := tYes) (te := (tOp _ (tVar 9) (tVar 8))) rfl sc_fractions_of.nd (pi_list (pv 3)) (blkOk_by (own := [("one", 9)]) (N := N_fractions_of) (sc := defScope s_fractions_of) (by decide +kernel)) (fun _ _ _ _ _ => pg_name (i := 9) sc_fractions_of.nd rfl (.inl rfl)) (fun _ _ _ _ _ => pts_nil) (fun _ _ _ _ _ => pe_op op_mulW (pv 9) (pv 8))) (pe_lst (pa_cons (pv 7) pa_nil))))
      (pss_cons (ps_set (i := 4) sc_fractions_of.nd rfl (.inl rfl) (pe_op op_mulW (pv 4) (pv 8)))
      (pss_one (ps_if (pt_cmpR op_gt (pv 4) (pv 2) (nomark _))
        (pss_one (ps_ret pe_non))
        (pss_nil)))))))))
    (pss_one (ps_ret (pe_tup (pa_cons (pv 3) (pa_cons (pv 4) pa_nil))))))), ?_⟩
  have lv := vi_len xs
  have LL : L ≤ L * L := Nat.le_mul_self L
  refine ⟨_, rfl, _, _, rfl, rfl, ⟨by decide, by decide⟩, _, rfl, by omega, ?_, ?_⟩
  · have h1 : LbI 4000 ((p : Int) / 2) := lb_le bp (by omega)
    have := h1.log
    rw [show ((p : Int) / 2).toNat = ((p : Int) / 2).natAbs by omega]
    omega
  rw [hI]
  refine ⟨Nat.zero_le _, fun l3 nl3 => ⟨_, _, rfl, ?_⟩⟩
  have s0 := same_new (o := .lst []) nl3
  refine ⟨_, rfl, a, rfl, ⟨_, SqL.of (s0 _ _ ha)⟩, ?_⟩
  refine for_list (xs := VI xs) (fun i σ G => ∃ (l : Addr) (tops : List Int) (bot e : Int) (o5 o6 o7 o8 : Option V), σ = [some (.ref a), some (.int p), some (.int L), some (.ref l), some (.int bot), o5, o6, o7, o8, none] ∧ Same H G ∧ H l = none ∧ G l = some (.lst (VI tops)) ∧ tops.length = i ∧ 0 < bot ∧ 0 < e ∧ D = bot * e ∧ (∀ j, j < i → zc tops j * D = zc Ts j * bot) ∧ ∀ j, (zc tops j).natAbs ≤ L)
    ⟨l3, [], 1, D, none, none, none, none, rfl, s0, nl3, upd_same, rfl, by decide, D0, by omega, fun j h => absurd h (Nat.not_lt_zero _), fun j => by show (0 : Int).natAbs ≤ L; simp⟩ (fun i σ G _ ⟨_, _, _, _, _, _, _, _, _, sm, _⟩ => SqL.of (sm _ _ ha)) (fun i v σ G hv ⟨l, tops, bot, e, o5, o6, o7, o8, eσ, sm, nl, hl, lt, b0, e0, De, hj, hb⟩ => ?_) (fun σ G ⟨l, tops, bot, e, o5, o6, o7, o8, eσ, sm, nl, hl, lt, b0, e0, De, hj, hb⟩ => ?_)
  · subst eσ
    obtain ⟨x, hxi, rfl⟩ := vi_at hv
    have il := (List.getElem?_eq_some_iff.mp hxi).1
    have ex := zc_at hxi
    have bL : bot ≤ L := by
      have : bot * 1 ≤ bot * e := Int.mul_le_mul_of_nonneg_left (by omega) (by omega)
      omega
    have eL : e ≤ L := by
      have : 1 * e ≤ bot * e := Int.mul_le_mul_of_nonneg_right (by omega) (by omega)
      omega
    have p0 : (0 : Int) < p := by omega
    have hp := pr.1
    have cong : (p : Int) ∣ zc Ts i - e * (x * bot % p) := by
      obtain ⟨y, hy⟩ := hx i
      rw [ex] at hy
      have em := Int.emod_add_mul_ediv (x * bot) p
      exact ⟨y + e * (x * bot / p), by
        have : x * bot % p = x * bot - p * (x * bot / p) := by omega
        rw [this]; grind⟩
    refine ⟨_, rfl, _, rfl, _, _, rfl, rfl, ?_, _, rfl, _, _, rfl, rfl, p0, _, rfl, _, rfl, x * bot % p, e, zc Ts i, p, L, rfl, Int.emod_nonneg _ (by omega), Int.emod_lt_of_pos _ p0, pr, hL, bp, e0, eL, TL i, cong, fun t H1 s m g s1 nt ht g0 eT ee m0 mL => ?_⟩
    · have := xb x (List.mem_of_getElem? hxi)
      exact LbI.cm (n := 4000) (m := 4000) (lb_le bp (by omega)) (lb_le bp (by omega)) (by omega)
    refine ⟨fun σ' G' => σ' = [some (.ref a), some (.int p), some (.int L), some (.ref l), some (.int bot), some (.int x), some (.ref t), o7, o8, none] ∧ G' = H1, ⟨_, rfl, rfl, _, rfl, iteF2 rfl ⟨rfl, rfl⟩⟩, ?_⟩
    rintro _ _ ⟨rfl, rfl⟩
    refine ⟨_, rfl, t, _, rfl, SqT.of ht, rfl, _, _, rfl, _, _, rfl, rfl, ?_⟩
    have hl1 := s1 _ _ hl
    have lv2 := vi_len tops
    refine ⟨_, rfl, l, rfl, ⟨_, SqL.of hl1⟩, fun D2 nD => ?_⟩
    refine lc_l (fun i => (tops[i]?).map fun x => V.int (x * m)) (SqL.of hl1) nD (by rw [lv2, sizeLine_eq]; omega) (fun i v H2 hv s3 Y N y nn => ?_) (fun H2 s3 hE => ?_)
    · obtain ⟨d, hd, rfl⟩ := vi_at hv
      have := hb i
      rw [zc_at hd] at this
      refine ⟨rfl, _, rfl, _, rfl, _, _, rfl, rfl, LbI.cm (n := 4000) (m := 4000) (lb_le bp (by omega)) (lb_le bp (by omega)) (by omega), y _ _ (Same.refl _) ?_⟩
      show (tops[i]?).map _ = _
      rw [hd]; rfl
    rw [fm_mapI, vi_map (· * m)] at hE
    refine ⟨_, rfl, by show 1 ≤ sizeLine; decide, fun c nc => ?_⟩
    have sc := same_new (o := .lst [V.int s]) nc
    refine ⟨D2, c, _, _, rfl, rfl, sc _ _ hE, upd_same, by rw [vi_len, List.length_map, sizeLine_eq]; simp only [List.length_cons, List.length_nil]; omega, fun c3 n3 => ?_⟩
    have s4 := same_new (o := .lst (VI (tops.map (· * m)) ++ [V.int s])) n3
    have mm : m ≤ e := by
      have : m * 1 ≤ m * g := Int.mul_le_mul_of_nonneg_left (by omega) (by omega)
      omega
    have De2 : D = bot * m * g := by rw [De, ee, Int.mul_assoc]
    have bm0 : 0 < bot * m := Int.mul_pos b0 m0
    have bmL : bot * m ≤ L := by
      have : bot * m * 1 ≤ bot * m * g := Int.mul_le_mul_of_nonneg_left (by omega) (by omega)
      omega
    refine ⟨_, rfl, _, rfl, _, _, rfl, rfl, LbI.cm (n := 4000) (m := 4000) (lb_le bp (by omega)) (lb_le bp (by omega)) (by omega), ?_⟩
    refine ⟨_, rfl, _, rfl, _, _, rfl, rfl, _, rfl, iteF2 (decide_eq_false (by omega)) ?_⟩
    have sAll := (((sm.trans s1).trans s3).trans sc).trans s4
    have eqs : ∀ j, j < i + 1 → zc (tops.map (· * m) ++ [s]) j * D = zc Ts j * (bot * m) := fun j hj1 => by
      rw [zc_app, List.length_map, lt]
      by_cases h : j = i
      · subst h
        rw [if_pos rfl, De2, eT]; grind
      · rw [if_neg h, zc_map (· * m) (Int.zero_mul m)]
        have := hj j (by omega)
        grind
    refine ⟨c3, tops.map (· * m) ++ [s], bot * m, g, _, _, _, _, rfl, sAll, (((sm.trans s1).trans s3).trans sc).free n3, ?_, by rw [List.length_append, List.length_map, lt]; rfl, bm0, g0, De2, eqs, fun j => ?_⟩
    · rw [upd_same]; unfold VI; rw [List.map_append]; rfl
    · by_cases h : j < i + 1
      · have e1 := eqs j h
        have e2 := TL j
        have e3 : (zc (tops.map (· * m) ++ [s]) j * D).natAbs = (zc Ts j).natAbs * (bot * m).natAbs := by rw [e1, Int.natAbs_mul]
        rw [Int.natAbs_mul] at e3
        have d1 : (bot * m).natAbs ≤ D.natAbs := by
          have : bot * m * 1 ≤ bot * m * g := Int.mul_le_mul_of_nonneg_left (by omega) (by omega)
          omega
        have e4 : (zc Ts j).natAbs * (bot * m).natAbs ≤ L * D.natAbs := Nat.mul_le_mul e2 d1
        rw [← e3] at e4
        exact Nat.le_of_mul_le_mul_right e4 (by omega)
      · rw [zc_out (by rw [List.length_append, List.length_map, lt]; simp only [List.length_cons, List.length_nil]; omega)]
        simp
  · subst eσ
    rw [lv] at lt hj
    have bL : bot ≤ L := by
      have : bot * 1 ≤ bot * e := Int.mul_le_mul_of_nonneg_left (by omega) (by omega)
      omega
    refine ⟨_, rfl, _, rfl, by show 2 ≤ sizeLine; decide, fun t nt => ?_⟩
    have st := same_new (o := .tup [.ref l, .int bot]) nt
    refine q t l _ tops bot (sm.trans st) (sm.free nt) upd_same (st _ _ hl) (by omega) b0 bL (fun i => ?_) hb
    by_cases h : i < xs.length
    · exact hj i h
    · rw [zc_out (by omega), zc_out (by omega), Int.zero_mul, Int.zero_mul]
theorem at_end {xs : List Int} (h : xs ≠ []) : atI (VI xs) (-1) = some (.int (zc xs (xs.length - 1))) := by
  obtain ⟨A, v, rfl⟩ := snoc_of (l := xs) h
  rw [zc_app, if_pos (by simp)]
  unfold VI
  rw [List.map_append]
  exact atI_last _ _
theorem zc_bound {n : Nat} {xs : List Int} (h : ∀ x ∈ xs, LbI n x) (i : Nat) : LbI n (zc xs i) := by
  by_cases l : i < xs.length
  · rw [zc_at (List.getElem?_eq_getElem l)]; exact h _ (List.getElem_mem _)
  · rw [zc_out (by omega)]; exact LbI.zero
-- slots: first 0, second 1, place 2, lead 3, head 4, low 5, high 6, one 7, two 8; cells: head lead
abbrev s_taken_off : Stmt := top 31
abbrev N_taken_off : List Str := ["first", "second", "place", "lead", "head", "low", "high", "one", "two"]
theorem sc_taken_off : FnScope N_taken_off ["first", "second"] (defScope s_taken_off) := ⟨rfl, rfl, rfl, by decide +kernel, rfl, by decide +kernel, by decide +kernel⟩
theorem d_taken_off (B : Bnd K mg "taken_off" s_taken_off) (M : Mg2 mg)   : Def P w K mg base (k + 1) "taken_off" s_taken_off ["first", "second"] (sp_taken_off K) := by
  refine def_of B sc_taken_off (by rintro _ _ _ _ ⟨a, b, xs, ys, n, m, rfl, _⟩; rfl) (fun _ _ _ _ _ _ us hl => match us, hl with | [_, _], _ => rfl) fun f cdv A outer s H vs Q E hr h => ?_
  obtain ⟨a, b, xs, ys, n, m, rfl, ha, hb, y0, lyx, lx, bx, by_, nm, q⟩ := h
  have hu := hr.units
  refine ⟨_, pss_cons (ps_set (i := 2) sc_taken_off.nd rfl (.inl rfl) (pe_op op_sub (pe_callB call_len_seq (by rfl) M.len boot_len (pa_cons (pv 0) pa_nil)) (pe_callB call_len_seq (by rfl) M.len boot_len (pa_cons (pv 1) pa_nil))))
    (pss_cons (ps_asg (pe_tup (pa_cons (pe_ix (r := rIxL K) ix_list (pv 0) (pe_un un_neg pe_int) (fun _ _ => rfl)) (pa_cons (pe_ix (r := rIxL K) ix_list (pv 1) (pe_un un_neg pe_int) (fun _ _ => rfl)) pa_nil))) (pg_tup rfl (pgs_cons (pg_name (i := 3) sc_taken_off.nd rfl (.inr rfl)) (pgs_cons (pg_name (i := 4) sc_taken_off.nd rfl (.inr rfl)) pgs_nil))))
    (pss_cons (ps_setLc (i := 5) (own := [("one", 7)]) (g := (gName 7)) (tt := tYes) (te := (tOp _ (tVar 7) (tVar 4))) rfl sc_taken_off.nd rfl rfl (sw_true rfl rfl rfl (by decide +kernel)) (pi_list (pe_slice (r := rSlL K) sl_list (pv 0) po_none (po_some (pv 2)))) (blkOk_by (own := [("one", 7)]) (N := N_taken_off) (sc := defScope s_taken_off) (by decide +kernel)) (fun _ _ _ _ _ => pg_name (i := 7) sc_taken_off.nd rfl (.inl rfl)) (fun _ _ _ _ _ => pts_nil) (fun _ _ _ _ _ => pe_op op_mulW (pv 7) (pv 4)))
    (pss_cons (ps_setLc (i := 6) (own := [("one", 7), ("two", 8)]) (g := (gTup K 2 (gCons (gName 7) (gCons (gName 8) gNil)))) (tt := tYes) (te := (tOp _ (tOp _ (tVar 7) (tVar 4)) (tOp _ (tVar 8) (tVar 3)))) rfl sc_taken_off.nd rfl rfl (sw_true rfl rfl rfl (by decide +kernel)) (pi_zipS (by rfl) M.zip (pa_cons (pe_slice (r := rSlL K) sl_list (pv 0) (po_some (pv 2)) po_none) (pa_cons (pv 1) pa_nil))) (blkOk_by (own := [("one", 7), ("two", 8)]) (N := N_taken_off) (sc := defScope s_taken_off) (by decide +kernel)) (fun _ _ _ _ _ => pg_tup rfl (pgs_cons (pg_name (i := 7) sc_taken_off.nd rfl (.inl rfl)) (pgs_cons (pg_name (i := 8) sc_taken_off.nd rfl (.inl rfl)) pgs_nil))) (fun _ _ _ _ _ => pts_nil) (fun _ _ _ _ _ => pe_op op_sub (pe_op op_mulW (pv 7) (pv 4)) (pe_op op_mulW (pv 8) (pv 3))))
    (pss_one (ps_ret (pe_op op_cat (pv 5) (pe_slice (r := rSlL K) sl_list (pv 6) po_none (po_some (pe_un un_neg pe_int))))))))), ?_⟩
  have lvx := vi_len xs
  have lvy := vi_len ys
  have ly0 : 0 < ys.length := List.length_pos_iff.mpr y0
  have x0 : xs ≠ [] := fun e => by
    have : ys.length ≤ 0 := by rw [e] at lyx; exact lyx
    omega
  refine ⟨_, rfl, a, _, rfl, .inl (SqL.of ha), _, rfl, b, _, rfl, .inl (SqL.of hb), _, _, rfl, rfl, ?_⟩
  refine ⟨_, rfl, 1, rfl, a, _, -1, _, rfl, rfl, SqL.of ha, at_end x0, _, rfl, 1, rfl, b, _, -1, _, rfl, rfl, SqL.of hb, at_end y0, by show 2 ≤ sizeLine; decide, fun T nT => ?_⟩
  have sT := same_new (o := .tup [V.int (zc xs (xs.length - 1)), V.int (zc ys (ys.length - 1))]) nT
  refine ⟨T, _, rfl, SqT.of upd_same, rfl, _, _, rfl, _, _, rfl, rfl, ?_⟩
  generalize upd H T (.tup [V.int (zc xs (xs.length - 1)), V.int (zc ys (ys.length - 1))]) = H1 at *
  have bl := zc_bound bx (xs.length - 1)
  have bh := zc_bound by_ (ys.length - 1)
  have ep : ((VI xs).length : Int) - ((VI ys).length : Int) = ((xs.length - ys.length : Nat) : Int) := by omega
  dsimp only
  rw [ep]
  generalize zc xs (xs.length - 1) = lead at *
  generalize zc ys (ys.length - 1) = head at *
  generalize hpl : xs.length - ys.length = place at *
  refine ⟨_, rfl, _, rfl, _, rfl, a, _, rfl, SqL.of (sT _ _ ha), fun c1 n1 => ?_⟩
  rw [cut_to]
  have s1 := same_new (o := .lst ((VI xs).take place)) n1
  have ev1 : (VI xs).take place = VI (xs.take place) := by unfold VI; rw [List.map_take]
  rw [ev1] at s1 ⊢
  have lvt := vi_len (xs.take place)
  refine ⟨c1, rfl, ⟨_, SqL.of upd_same⟩, fun D1 nD1 => ?_⟩
  have hc1 : (upd H1 c1 (.lst (VI (xs.take place)))) c1 = some (.lst (VI (xs.take place))) := upd_same
  generalize upd H1 c1 (.lst (VI (xs.take place))) = H2 at *
  refine lc_l (fun i => ((xs.take place)[i]?).map fun x => V.int (x * head)) (SqL.of hc1) nD1 (by rw [lvt, List.length_take, sizeLine_eq]; omega) (fun i v H3 hv s3 Y N y nn => ?_) (fun H3 s3 hE => ?_)
  · obtain ⟨d, hd, rfl⟩ := vi_at hv
    refine ⟨rfl, _, rfl, _, rfl, _, _, rfl, rfl, LbI.cm (n := n) (m := m) (bx _ (List.mem_of_mem_take (List.mem_of_getElem? hd))) bh (by omega), y _ _ (Same.refl _) ?_⟩
    show ((xs.take place)[i]?).map _ = _
    rw [hd]; rfl
  rw [fm_mapI, vi_map (· * head)] at hE
  have sA := (sT.trans s1).trans s3
  refine ⟨_, rfl, _, rfl, _, rfl, a, _, rfl, SqL.of (sA _ _ ha), fun c2 n2 => ?_⟩
  rw [cut_from]
  have ev2 : (VI xs).drop place = VI (xs.drop place) := by unfold VI; rw [List.map_drop]
  have s4 := same_new (o := .lst ((VI xs).drop place)) n2
  rw [ev2] at s4 ⊢
  have hc2 : (upd H3 c2 (.lst (VI (xs.drop place)))) c2 = some (.lst (VI (xs.drop place))) := upd_same
  generalize upd H3 c2 (.lst (VI (xs.drop place))) = H4 at *
  have sB := sA.trans s4
  obtain ⟨κ1, k1⟩ := sqk_of (sq_lst (K := K) hc2)
  obtain ⟨κ2, k2⟩ := sqk_of (sq_lst (K := K) (sB _ _ hb))
  have lvd := vi_len (xs.drop place)
  refine ⟨_, rfl, c2, b, _, _, κ1, κ2, rfl, k1, k2, fun D2 nD2 => ?_⟩
  have lz : (List.zipWith (fun a b => a * head - b * lead) (xs.drop place) ys).length = ys.length := by rw [List.length_zipWith, List.length_drop]; omega
  refine lc_rel (walk_zipS (n := ys.length) (by rw [lvd, lvy, List.length_drop]; omega)) (fun i acc Hh => acc = VI ((List.zipWith (fun a b => a * head - b * lead) (xs.drop place) ys).take i)) nD2 (by rw [sizeLine_eq]; omega) (fun Hh sh => ⟨k1.same sh, k2.same sh⟩) rfl (fun i acc A B s r => r) (fun i v acc Ha Hb hi sa ha1 hr hy2 Yc Nc yc nc => ?_) (fun acc H5 s5 ha5 hr => ?_)
  · obtain ⟨Tt, v1, v2, rfl, nTt, rfl, hx1, hx2⟩ := hy2
    obtain ⟨x1, h1, rfl⟩ := vi_at hx1
    obtain ⟨x2, h2, rfl⟩ := vi_at hx2
    have sTt := same_new (o := .tup [V.int x1, V.int x2]) nTt
    refine ⟨Tt, _, rfl, SqT.of upd_same, rfl, _, _, rfl, _, _, rfl, rfl, rfl, _, rfl, _, rfl, _, _, rfl, rfl, LbI.cm (n := n) (m := m) (bx _ (List.mem_of_mem_drop (List.mem_of_getElem? h1))) bh (by omega), _, rfl, _, rfl, _, _, rfl, rfl, LbI.cm (n := m) (m := n) (by_ _ (List.mem_of_getElem? h2)) bl (by omega), _, _, rfl, rfl, yc _ _ sTt ?_⟩
    subst hr
    have hz : (List.zipWith (fun a b => a * head - b * lead) (xs.drop place) ys)[i]? = some (x1 * head - x2 * lead) := by rw [List.getElem?_zipWith, h1, h2]
    rw [takeS hz]
    unfold VI
    rw [List.map_append]; rfl
  · subst hr
    rw [List.take_of_length_le (by omega)] at ha5
    have zne : List.zipWith (fun a b => a * head - b * lead) (xs.drop place) ys ≠ [] := fun e => by rw [e] at lz; simp at lz; omega
    have hcut : cutV (VI (List.zipWith (fun a b => a * head - b * lead) (xs.drop place) ys)) none (some (-1)) = VI (List.zipWith (fun a b => a * head - b * lead) (xs.drop place) ys).dropLast := by
      obtain ⟨A, v, e⟩ := snoc_of zne
      rw [e, List.dropLast_concat]
      unfold VI
      rw [List.map_append]
      exact cut_last _ _
    refine ⟨_, rfl, _, rfl, 1, rfl, _, rfl, D2, _, rfl, SqL.of ha5, fun c3 n3 => ?_⟩
    rw [hcut]
    have s6 := same_new (o := .lst (VI (List.zipWith (fun a b => a * head - b * lead) (xs.drop place) ys).dropLast)) n3
    refine ⟨D1, c3, _, _, rfl, rfl, s6 _ _ (s5 _ _ (s4 _ _ hE)), upd_same, by rw [vi_len, vi_len, List.length_map, List.length_take, List.length_dropLast, sizeLine_eq]; omega, fun c4 n4 => ?_⟩
    have s7 := same_new (o := .lst (VI ((xs.take place).map (· * head)) ++ VI (List.zipWith (fun a b => a * head - b * lead) (xs.drop place) ys).dropLast)) n4
    refine q c4 _ (((sB.trans s5).trans s6).trans s7) (((sB.trans s5).trans s6).free n4) ?_
    rw [upd_same]
    unfold offZ VI
    rw [List.map_append]
end
end K21

namespace Fp
open PySem PySem.Spec PyProof.Rows L2
/-- divmod by any number but 0, not too great -/
theorem call_divmodN {X : Cx} : CallR X (.builtin "divmod") (fun xs H Q => ∃ i j, xs = [.int i, .int j] ∧ CDivNW i j ∧ ∀ p, H p = none → Q (.ref p) (upd H p (.tup [.int (i.fdiv j), .int (i.fmod j)]))) := by
  intro pins s σ H xs us Q I r h
  obtain ⟨i, j, rfl, ⟨h1, h2⟩, q⟩ := h
  obtain ⟨u, w', rfl, ⟨t, rfl⟩, ⟨t', rfl⟩⟩ := vals2 r
  refine divmod_int h1 ?_ (.inl (PyProof.noPylong_of_log2 h2))
  have hn : H s.heap.objs.size = none := I.hok.fresh (Nat.le_refl _)
  refine ⟨.ref s.heap.objs.size, _, ?_, rfl, q _ hn⟩
  refine I.laid (fun b o e => Heap.get?_push_of_some _ e) (Nat.le_refl _) ⟨by simp only [List.length_cons, List.length_nil]; rw [sizeLine_eq]; decide, [.int (i.fdiv j) s.toks, .int (i.fmod j) (s.toks + 1)], .cons ⟨_, rfl⟩ (.cons ⟨_, rfl⟩ .nil), ?_⟩
  exact ⟨_, Heap.get?_push_size s.heap rfl, rfl, 0, rfl⟩
end Fp

namespace K21
open PySem PySem.Spec PyProof.Rows L2 Fp
section
variable {P : Program} {w : World} {K : PySem.W.Frag} {mg : Str → Option Value} {base : Heap} {k : Nat} {C fI fR : Addr}
theorem ixn {n j : Nat} {z : Int} (e : z = (j : Int)) (h : j < n) : ixN n z = some j := by
  unfold ixN
  rw [if_pos (by omega), if_pos (by omega), e]; simp
theorem zeros (k : Nat) : (List.replicate k [V.int 0]).flatten = VI (List.replicate k 0) := by
  induction k with
  | zero => rfl
  | succ k ih => rw [List.replicate_succ, List.flatten_cons, ih]; rfl
/-- what stands when one is taken off another -/
theorem cutz_at {f : Int → Int → Int} {g : Int → Int} {xs ys : List Int} {k : Nat} (h : ys.length + k = xs.length) (y0 : 0 < ys.length) (n : Nat) :
    zc ((xs.take k).map g ++ (List.zipWith f (xs.drop k) ys).dropLast) n = if n < k then g (zc xs n) else if n < xs.length - 1 then f (zc xs n) (zc ys (n - k)) else 0 := by
  have l1 : ((xs.take k).map g).length = k := by rw [List.length_map, List.length_take]; omega
  have l2 : (List.zipWith f (xs.drop k) ys).length = ys.length := by rw [List.length_zipWith, List.length_drop]; omega
  unfold zc
  rw [List.getD_eq_getElem?_getD]
  by_cases h1 : n < k
  · rw [if_pos h1, List.getElem?_append_left (by omega), List.getElem?_map, List.getElem?_take, if_pos h1, List.getD_eq_getElem?_getD, List.getElem?_eq_getElem (show n < xs.length by omega)]; rfl
  · rw [if_neg h1, List.getElem?_append_right (by omega), l1, List.getElem?_dropLast]
    by_cases h2 : n < xs.length - 1
    · rw [if_pos h2, if_pos (by omega), List.getElem?_zipWith, List.getElem?_drop, show k + (n - k) = n by omega, List.getD_eq_getElem?_getD, List.getD_eq_getElem?_getD, List.getElem?_eq_getElem (show n < xs.length by omega), List.getElem?_eq_getElem (show n - k < ys.length by omega)]; rfl
    · rw [if_neg h2, if_neg (by omega)]; rfl
theorem offZ_at {xs ys : List Int} (y0 : ys ≠ []) (l : ys.length ≤ xs.length) (n : Nat) :
    zc (offZ xs ys (xs.length - ys.length) (zc ys (ys.length - 1)) (zc xs (xs.length - 1))) n = zc ys (ys.length - 1) * zc xs n - zc xs (xs.length - 1) * zc (upL (xs.length - ys.length) ys) n := by
  have ly : 0 < ys.length := List.length_pos_iff.mpr y0
  unfold offZ
  rw [cutz_at (by omega) ly, upL_at]
  by_cases h1 : n < xs.length - ys.length
  · rw [if_pos h1, if_pos h1, Int.mul_zero, Int.sub_zero, Int.mul_comm]
  · rw [if_neg h1, if_neg h1]
    by_cases h2 : n < xs.length - 1
    · rw [if_pos h2, Int.mul_comm, Int.mul_comm (zc ys (n - _))]
    · rw [if_neg h2]
      by_cases h3 : n = xs.length - 1
      · subst h3
        rw [show xs.length - 1 - (xs.length - ys.length) = ys.length - 1 by omega, Int.mul_comm]; omega
      · rw [zc_out (zs := xs) (by omega), zc_out (zs := ys) (n := n - _) (by omega)]; omega
theorem offZ_len {xs ys : List Int} (y0 : ys ≠ []) (l : ys.length ≤ xs.length) (a b : Int) : (offZ xs ys (xs.length - ys.length) a b).length = xs.length - 1 := by
  have ly : 0 < ys.length := List.length_pos_iff.mpr y0
  unfold offZ
  rw [List.length_append, List.length_map, List.length_take, List.length_dropLast, List.length_zipWith, List.length_drop]; omega
theorem degM_last {ys : List Int} (y0 : ys ≠ []) (h : zc ys (ys.length - 1) ≠ 0) : DegM 0 ys (ys.length - 1) := ⟨fun z => h (Int.zero_dvd.mp z), fun n hn => by
  have ly : 0 < ys.length := List.length_pos_iff.mpr y0
  rw [zc_out (by omega)]; exact Int.dvd_refl 0⟩
/-- the quotient ends where it must -/
theorem q_deg {xs ys q0 : List Int} (y0 : ys ≠ []) (yl : zc ys (ys.length - 1) ≠ 0) (eq : ∀ i, zc xs i = zc (mulL ys q0) i) (k : Nat) (h : xs.length < k + ys.length) : zc q0 k = 0 := by
  have ly : 0 < ys.length := List.length_pos_iff.mpr y0
  refine Classical.byContradiction fun c => ?_
  obtain ⟨d, hd⟩ := degM_ex (q := 0) (P := q0) ⟨k, fun z => c (Int.zero_dvd.mp z)⟩
  have hk : k ≤ d := by
    refine Classical.byContradiction fun l => c ?_
    exact Int.zero_dvd.mp (hd.2 k (by omega))
  have := (degM_mul prI_zero (degM_last y0 yl) hd).zero.1
  rw [← eq, zc_out (by omega)] at this
  exact this rfl
def cutQ (xs ys : List Int) (k : Nat) (p : Int) : List Int := (xs.take k) ++ (List.zipWith (fun a b => a - p * b) (xs.drop k) ys).dropLast
theorem cutQ_eq (xs ys : List Int) (k : Nat) (p : Int) : cutQ xs ys k p = (xs.take k).map (fun x => x) ++ (List.zipWith (fun a b => a - p * b) (xs.drop k) ys).dropLast := by
  unfold cutQ; rw [List.map_id']
/-- one step of the division -/
theorem wq_step {rs ys q0 : List Int} {k : Nat} (y0 : ys ≠ []) (l : ys.length + k = rs.length) (eq : ∀ n, zc rs n = zc (mulL ys (mkZ (zc q0) (k + 1))) n) :
    zc rs (rs.length - 1) = zc ys (ys.length - 1) * zc q0 k ∧ ∀ n, zc (cutQ rs ys k (zc q0 k)) n = zc (mulL ys (mkZ (zc q0) k)) n := by
  have ly : 0 < ys.length := List.length_pos_iff.mpr y0
  have top : zc rs (rs.length - 1) = zc ys (ys.length - 1) * zc q0 k := by
    rw [eq, mulL_sum]
    have := sumI_dvd (q := 0) (f := fun i => zc ys i * zc (mkZ (zc q0) (k + 1)) (rs.length - 1 - i)) (m := ys.length - 1) (n := rs.length - 1 + 1) (by omega) fun i hi ne => by
      by_cases z : i < ys.length - 1
      · rw [mkZ_at, if_neg (by omega), Int.mul_zero]; exact Int.dvd_refl 0
      · rw [zc_out (zs := ys) (by omega), Int.zero_mul]; exact Int.dvd_refl 0
    have := Int.zero_dvd.mp this
    rw [mkZ_at, if_pos (by omega), show rs.length - 1 - (ys.length - 1) = k by omega] at this
    omega
  refine ⟨top, fun n => ?_⟩
  have e1 : ∀ n, zc (mkZ (zc q0) (k + 1)) n = 1 * zc (mkZ (zc q0) k) n + zc q0 k * zc (upL k [1]) n := fun n => by
    rw [mkZ_at, mkZ_at, upL_at]
    rcases Nat.lt_trichotomy n k with h | h | h
    · rw [if_pos (by omega), if_pos h, if_pos h]; omega
    · subst h; rw [if_pos (by omega), if_neg (by omega), if_neg (by omega), Nat.sub_self]; show _ = _ + _ * 1; omega
    · rw [if_neg (by omega), if_neg (by omega), if_neg (by omega), zc_cons, if_neg (by omega)]; show _ = _ + _ * 0; omega
  have e2 := mulL_lin (G := ys) e1 n
  rw [← eq, mulL_upL, mulL_one] at e2
  rw [cutQ_eq, cutz_at (by omega) ly]
  by_cases h1 : n < k
  · rw [if_pos h1] at e2 ⊢; omega
  · rw [if_neg h1] at e2 ⊢
    by_cases h2 : n < rs.length - 1
    · rw [if_pos h2]; omega
    · rw [if_neg h2]
      by_cases h3 : n = rs.length - 1
      · subst h3
        rw [show rs.length - 1 - k = ys.length - 1 by omega, top, Int.mul_comm] at e2; omega
      · rw [zc_out (zs := rs) (by omega), zc_out (zs := ys) (by omega)] at e2; omega
def sp_whole_quotient (K : PySem.W.Frag) : Sp := fun vs H Q _ => ∃ (a b : Addr) (xs ys q0 : List Int) (n m d : Nat), vs = [.ref a, .ref b] ∧ H a = some (.lst (VI xs)) ∧ H b = some (.lst (VI ys)) ∧ ys ≠ [] ∧ zc ys (ys.length - 1) ≠ 0 ∧ ys.length ≤ xs.length ∧ xs.length ≤ 60 ∧ (∀ x ∈ xs, LbI n x) ∧ (∀ x ∈ ys, LbI m x) ∧ m ≤ 4000 ∧ n + (m + 1) * 61 ≤ 400000 ∧ (∀ i, zc xs i = zc (mulL ys q0) i) ∧
  ∀ c H' qs, Same H H' → H c = none → H' c = some (.lst (VI qs)) → qs.length = xs.length + 1 - ys.length → (∀ i, zc qs i = zc q0 i) → Q (.ref c) H'
/-- how it stands at the loop's head -/
def WQ (H : Hp) (a b D : Addr) (xs ys q0 : List Int) (n m : Nat) (mm : Nat) (σ : L2.St) (G : Hp) : Prop := ∃ (l3 : Addr) (rs fs : List Int) (o4 o5 o6 o7 : Option V), σ = [some (.ref a), some (.ref b), some (.ref l3), some (.ref D), o4, o5, o6, o7, none, none] ∧ mm = rs.length ∧ Same H (wo D G) ∧ G D = some (.lst (VI fs)) ∧ (wo D G) l3 = some (.lst (VI rs)) ∧ fs.length + rs.length = xs.length ∧ ys.length ≤ rs.length + 1 ∧
  (∀ j, j < fs.length → zc fs j = zc q0 (xs.length - ys.length - j)) ∧ (∀ i, zc rs i = zc (mulL ys (mkZ (zc q0) (rs.length + 1 - ys.length))) i) ∧ ∀ z ∈ rs, LbI (n + (m + 1) * fs.length) z
-- slots: first 0, second 1, rest 2, found 3, part 4, more 5, place 6, high 7, one 8, two 9; cells: part
abbrev s_whole_quotient : Stmt := top 27
abbrev N_whole_quotient : List Str := ["first", "second", "rest", "found", "part", "more", "place", "high", "one", "two"]
theorem sc_whole_quotient : FnScope N_whole_quotient ["first", "second"] (defScope s_whole_quotient) := ⟨rfl, rfl, rfl, by decide +kernel, rfl, by decide +kernel, by decide +kernel⟩
theorem d_whole_quotient (B : Bnd K mg "whole_quotient" s_whole_quotient) (M : Mg2 mg)   : Def P w K mg base (k + 1) "whole_quotient" s_whole_quotient ["first", "second"] (sp_whole_quotient K) := by
  refine def_of B sc_whole_quotient (by rintro _ _ _ _ ⟨a, b, xs, ys, q0, n, m, d, rfl, _⟩; rfl) (fun _ _ _ _ _ _ us hl => match us, hl with | [_, _], _ => rfl) fun f cdv A outer s H vs Q E hr h => ?_
  obtain ⟨a, b, xs, ys, q0, n, m, d, rfl, ha, hb, y0, yl, lyx, lx, bx, by_, m4, nm, eq, q⟩ := h
  have hu := hr.units
  refine ⟨_, pss_cons (ps_par (i := 2) (j := 3) rfl sc_whole_quotient.nd rfl rfl (by decide) rfl rfl (pa_cons (pv 0) (pa_cons (pe_lst pa_nil) pa_nil)) (by rfl))
    (pss_cons (ps_while PassesOwn.never (pt_cmpR op_ge (pe_callB call_len_seq (by rfl) M.len boot_len (pa_cons (pv 2) pa_nil)) (pe_callB call_len_seq (by rfl) M.len boot_len (pa_cons (pv 1) pa_nil)) (nomark _))
      (pss_cons (ps_asg (pe_callB call_divmodN (by rfl) M.divmod (by decide +kernel) (pa_cons (pe_ix (r := rIxL K) ix_list (pv 2) (pe_un un_neg pe_int) (fun _ _ => rfl)) (pa_cons (pe_ix (r := rIxL K) ix_list (pv 1) (pe_un un_neg pe_int) (fun _ _ => rfl)) pa_nil))) (pg_tup rfl (pgs_cons (pg_name (i := 4) sc_whole_quotient.nd rfl (.inr rfl)) (pgs_cons (pg_name (i := 5) sc_whole_quotient.nd rfl (.inl rfl)) pgs_nil))))
      (C8.pss_cut (ps_if (pt_cmpR op_ne (pv 5) pe_int (nomark _))
        (pss_one (ps_ret pe_non))
        (pss_nil))
      (pss_cons (ps_set (i := 6) sc_whole_quotient.nd rfl (.inl rfl) (pe_op op_sub (pe_callB call_len_seq (by rfl) M.len boot_len (pa_cons (pv 2) pa_nil)) (pe_callB call_len_seq (by rfl) M.len boot_len (pa_cons (pv 1) pa_nil))))
      (pss_cons (ps_setLc (i := 7) (own := [("one", 8), ("two", 9)]) (g := (gTup K 2 (gCons (gName 8) (gCons (gName 9) gNil)))) (tt := tYes) (te := (tOp _ (tVar 8) (tOp _ (tVar 4) (tVar 9)))) rfl sc_whole_quotient.nd rfl rfl (sw_true rfl rfl rfl (by decide +kernel)) (pi_zipS (by rfl) M.zip (pa_cons (pe_slice (r := rSlL K) sl_list (pv 2) (po_some (pv 6)) po_none) (pa_cons (pv 1) pa_nil))) (blkOk_by (own := [("one", 8), ("two", 9)]) (N := N_whole_quotient) (sc := defScope s_whole_quotient) (by decide +kernel)) (fun _ _ _ _ _ => pg_tup rfl (pgs_cons (pg_name (i := 8) sc_whole_quotient.nd rfl (.inl rfl)) (pgs_cons (pg_name (i := 9) sc_whole_quotient.nd rfl (.inl rfl)) pgs_nil))) (fun _ _ _ _ _ => pts_nil) (fun _ _ _ _ _ => pe_op op_sub (pv 8) (pe_op op_mulW (pv 4) (pv 9))))
      (pss_cons (ps_set (i := 2) sc_whole_quotient.nd rfl (.inl rfl) (pe_op op_cat (pe_slice (r := rSlL K) sl_list (pv 2) po_none (po_some (pv 6))) (pe_slice (r := rSlL K) sl_list (pv 7) po_none (po_some (pe_un un_neg pe_int)))))
      (pss_one (ps_expr (pe_bm PySem.F.plainAttrs_list PySem.F.slot_list_append PySem.F.type_list_append mt_append (pv 3) (pa_cons (pv 4) pa_nil))))))))))
    (C8.pss_cut (ps_if (pt_val (pe_callB (cr_anyI rfl) (by rfl) M.any boot_any (pa_cons (pv 2) pa_nil)))
      (pss_one (ps_ret pe_non))
      (pss_nil))
    (pss_one (ps_ret (pe_revL (pv 3)))))), ?_⟩
  have ly : 0 < ys.length := List.length_pos_iff.mpr y0
  have lvy := vi_len ys
  refine ⟨_, rfl, Nat.zero_le _, fun D nD => ⟨_, _, rfl, ?_⟩⟩
  refine ⟨WQ H a b D xs ys q0 n m, ⟨xs.length, a, xs, [], none, none, none, none, rfl, rfl, same_wo nD (same_new nD), upd_same, same_wo nD (same_new nD) _ _ ha, by simp, by omega, fun j h => absurd h (Nat.not_lt_zero _), fun i => ?_, fun z hz => ?_⟩, ?_⟩
  · rw [eq]
    refine mulL_congr (fun k => ?_) i
    rw [mkZ_at]
    by_cases h : k < xs.length + 1 - ys.length
    · rw [if_pos h]
    · rw [if_neg h]; exact q_deg y0 (by omega) eq k (by omega)
  · show LbI (n + (m + 1) * 0) z
    rw [Nat.mul_zero]; exact bx z hz
  rintro mm σ G ⟨l3, rs, fs, o4, o5, o6, o7, rfl, rfl, sm, hD, h3, ln, lr, hf, er, br⟩
  have g3 : G l3 = some (.lst (VI rs)) := wo_le _ _ h3
  have sG : Same H G := sm.trans wo_le
  have gb := sG _ _ hb
  have lvr := vi_len rs
  refine ⟨_, rfl, l3, _, rfl, .inl (SqL.of g3), _, rfl, b, _, rfl, .inl (SqL.of gb), _, _, rfl, rfl, _, rfl, ite2 (fun z => ?_) (fun z => ?_)⟩
  · have hl : ys.length ≤ rs.length := by have := of_decide_eq_true z; omega
    have r0 : rs ≠ [] := fun e => by
      have : ys.length ≤ 0 := by rw [e] at hl; exact hl
      omega
    have ek : rs.length + 1 - ys.length = rs.length - ys.length + 1 := by omega
    rw [ek] at er
    obtain ⟨top, st⟩ := wq_step y0 (show ys.length + (rs.length - ys.length) = rs.length by omega) er
    have ep : ((VI rs).length : Int) - ((VI ys).length : Int) = ((rs.length - ys.length : Nat) : Int) := by omega
    have bt := zc_bound br (rs.length - 1)
    have byl := zc_bound by_ (ys.length - 1)
    have sz : (m + 1) * fs.length + (m + 1) ≤ (m + 1) * 61 := by
      rw [← Nat.mul_succ]; exact Nat.mul_le_mul_left _ (by omega)
    refine ⟨fun σ' G' => ∃ m', m' < rs.length ∧ WQ H a b D xs ys q0 n m m' σ' G', fun _ _ h => h, ?_⟩
    generalize hkp : rs.length - ys.length = kp at *
    have bq : LbI (n + (m + 1) * fs.length) (zc q0 kp) := by
      refine Nat.lt_of_le_of_lt ?_ bt
      rw [top, Int.natAbs_mul]
      exact Nat.le_mul_of_pos_left _ (by omega)
    have e1 : (zc rs (rs.length - 1)).fdiv (zc ys (ys.length - 1)) = zc q0 kp := by rw [top]; exact Int.mul_fdiv_cancel_left _ yl
    have e2 : (zc rs (rs.length - 1)).fmod (zc ys (ys.length - 1)) = 0 := by rw [top]; exact Int.mul_fmod_right _ _
    refine ⟨_, rfl, 1, rfl, l3, _, -1, _, rfl, rfl, SqL.of g3, at_end r0, _, rfl, 1, rfl, b, _, -1, _, rfl, rfl, SqL.of gb, at_end y0, _, _, rfl, byl.div (by omega) yl, fun T nT => ?_⟩
    have sT := same_new (o := .tup [V.int ((zc rs (rs.length - 1)).fdiv (zc ys (ys.length - 1))), V.int ((zc rs (rs.length - 1)).fmod (zc ys (ys.length - 1)))]) nT
    refine ⟨T, _, rfl, SqT.of upd_same, rfl, _, _, rfl, _, _, rfl, rfl, ?_⟩
    generalize upd G T (.tup [V.int ((zc rs (rs.length - 1)).fdiv (zc ys (ys.length - 1))), V.int ((zc rs (rs.length - 1)).fmod (zc ys (ys.length - 1)))]) = G1 at *
    rw [e1, e2]
    refine ⟨fun σ' G' => σ' = [some (.ref a), some (.ref b), some (.ref l3), some (.ref D), some (.int (zc q0 kp)), some (.int 0), o6, o7, none, none] ∧ G' = G1, ⟨_, rfl, rfl, _, rfl, iteF2 rfl ⟨rfl, rfl⟩⟩, ?_⟩
    rintro _ _ ⟨rfl, rfl⟩
    rename_i G1
    generalize hpart : zc q0 kp = part at *
    have sm1 := wo_mono (D := D) sT
    refine ⟨_, rfl, l3, _, rfl, .inl (SqL.of (sT _ _ g3)), _, rfl, b, _, rfl, .inl (SqL.of (sT _ _ gb)), _, _, rfl, rfl, ?_⟩
    dsimp only
    rw [ep]
    refine ⟨_, rfl, _, rfl, _, rfl, l3, _, rfl, SqL.of (sT _ _ g3), fun c2 n2 => ?_⟩
    rw [cut_from]
    have ev2 : (VI rs).drop kp = VI (rs.drop kp) := by unfold VI; rw [List.map_drop]
    have s4 := same_new (o := .lst ((VI rs).drop kp)) n2
    rw [ev2] at s4 ⊢
    have hc2 : (upd G1 c2 (.lst (VI (rs.drop kp)))) c2 = some (.lst (VI (rs.drop kp))) := upd_same
    generalize upd G1 c2 (.lst (VI (rs.drop kp))) = G4 at *
    have sB := sT.trans s4
    obtain ⟨κ1, k1⟩ := sqk_of (sq_lst (K := K) hc2)
    obtain ⟨κ2, k2⟩ := sqk_of (sq_lst (K := K) (sB _ _ gb))
    have lvd := vi_len (rs.drop kp)
    refine ⟨_, rfl, c2, b, _, _, κ1, κ2, rfl, k1, k2, fun D2 nD2 => ?_⟩
    have lz : (List.zipWith (fun a b => a - part * b) (rs.drop kp) ys).length = ys.length := by rw [List.length_zipWith, List.length_drop]; omega
    refine lc_rel (walk_zipS (n := ys.length) (by rw [lvd, lvy, List.length_drop]; omega)) (fun i acc Hh => acc = VI ((List.zipWith (fun a b => a - part * b) (rs.drop kp) ys).take i)) nD2 (by rw [sizeLine_eq]; omega) (fun Hh sh => ⟨k1.same sh, k2.same sh⟩) rfl (fun i acc A B s r => r) (fun i v acc Ha Hb hi sa ha1 hr hy2 Yc Nc yc nc => ?_) (fun acc H5 s5 ha5 hr => ?_)
    · obtain ⟨Tt, v1, v2, rfl, nTt, rfl, hx1, hx2⟩ := hy2
      obtain ⟨x1, h1, rfl⟩ := vi_at hx1
      obtain ⟨x2, h2, rfl⟩ := vi_at hx2
      have sTt := same_new (o := .tup [V.int x1, V.int x2]) nTt
      refine ⟨Tt, _, rfl, SqT.of upd_same, rfl, _, _, rfl, _, _, rfl, rfl, rfl, _, rfl, _, rfl, _, rfl, _, _, rfl, rfl, LbI.cm (n := n + (m + 1) * fs.length) (m := m) bq (by_ _ (List.mem_of_getElem? h2)) (by omega), _, _, rfl, rfl, yc _ _ sTt ?_⟩
      subst hr
      have hz : (List.zipWith (fun a b => a - part * b) (rs.drop kp) ys)[i]? = some (x1 - part * x2) := by rw [List.getElem?_zipWith, h1, h2]
      rw [takeS hz]
      unfold VI
      rw [List.map_append]; rfl
    · subst hr
      rw [List.take_of_length_le (by omega)] at ha5
      have zne : List.zipWith (fun a b => a - part * b) (rs.drop kp) ys ≠ [] := fun e => by rw [e] at lz; simp at lz; omega
      have hcut : cutV (VI (List.zipWith (fun a b => a - part * b) (rs.drop kp) ys)) none (some (-1)) = VI (List.zipWith (fun a b => a - part * b) (rs.drop kp) ys).dropLast := by
        obtain ⟨A, v, e⟩ := snoc_of zne
        rw [e, List.dropLast_concat]
        unfold VI
        rw [List.map_append]
        exact cut_last _ _
      have s5' := sB.trans s5
      refine ⟨_, rfl, _, rfl, _, rfl, l3, _, rfl, SqL.of (s5' _ _ g3), fun c1 n1 => ?_⟩
      rw [cut_to]
      have t1 := same_new (o := .lst ((VI rs).take kp)) n1
      refine ⟨_, rfl, 1, rfl, _, rfl, D2, _, rfl, SqL.of (t1 _ _ ha5), fun c3 n3 => ?_⟩
      rw [hcut]
      have t2 := same_new (o := .lst (VI (List.zipWith (fun a b => a - part * b) (rs.drop kp) ys).dropLast)) n3
      refine ⟨c1, c3, _, _, rfl, rfl, t2 _ _ upd_same, upd_same, by rw [vi_len, List.length_take, List.length_dropLast, sizeLine_eq]; omega, fun c4 n4 => ?_⟩
      have t3 := same_new (o := .lst ((VI rs).take kp ++ VI (List.zipWith (fun a b => a - part * b) (rs.drop kp) ys).dropLast)) n4
      have ev : (VI rs).take kp ++ VI (List.zipWith (fun a b => a - part * b) (rs.drop kp) ys).dropLast = VI (cutQ rs ys kp part) := by
        unfold cutQ VI; rw [List.map_append, List.map_take]
      have sG3 := ((s5'.trans t1).trans t2).trans t3
      have nc4 : G c4 = none := ((s5'.trans t1).trans t2).free n4
      rw [ev] at sG3 ⊢
      have h4 : (upd (upd (upd H5 c1 (.lst ((VI rs).take kp))) c3 (.lst (VI (List.zipWith (fun a b => a - part * b) (rs.drop kp) ys).dropLast))) c4 (.lst (VI (cutQ rs ys kp part)))) c4 = some (.lst (VI (cutQ rs ys kp part))) := upd_same
      generalize upd (upd (upd H5 c1 (.lst ((VI rs).take kp))) c3 (.lst (VI (List.zipWith (fun a b => a - part * b) (rs.drop kp) ys).dropLast))) c4 (.lst (VI (cutQ rs ys kp part))) = G5 at *
      have hD3 := sG3 _ _ hD
      have n3D : c4 ≠ D := fun z => by rw [z, hD] at nc4; cases nc4
      have lvf := vi_len fs
      have lc : (cutQ rs ys kp part).length = rs.length - 1 := by
        unfold cutQ; rw [List.length_append, List.length_take, List.length_dropLast, lz]; omega
      refine ⟨_, rfl, Or.inl ⟨rfl, _, SqL.of hD3⟩, _, rfl, D, _, .int part, rfl, rfl, hD3, by rw [sizeLine_eq]; omega, ?_⟩
      refine ⟨rs.length - 1, by omega, c4, cutQ rs ys kp part, fs ++ [part], _, _, _, _, rfl, by omega, ?_, ?_, ?_, by rw [List.length_append, lc]; simp only [List.length_cons, List.length_nil]; omega, by omega, fun j hj => ?_, ?_, fun z hz => ?_⟩
      · rw [wo_upd]; exact sm.trans (wo_mono sG3)
      · rw [upd_same]; unfold VI; rw [List.map_append]; rfl
      · rw [wo_upd, wo_ne n3D]; exact h4
      · rw [List.length_append] at hj
        simp only [List.length_cons, List.length_nil] at hj
        rw [zc_app]
        by_cases e : j = fs.length
        · rw [if_pos e, ← hpart]; congr 1; omega
        · rw [if_neg e]; exact hf j (by omega)
      · rw [lc, show rs.length - 1 + 1 - ys.length = kp by omega]; exact st
      · rw [List.length_append]
        show LbI (n + (m + 1) * (fs.length + 1)) z
        have hb2 : ∀ {u v : Int}, LbI (n + (m + 1) * fs.length) u → LbI (n + (m + 1) * fs.length + m) v → LbI (n + (m + 1) * (fs.length + 1)) (u - v) := fun {u v} hu hv => by
          have h1 : u.natAbs < 2 ^ (n + (m + 1) * fs.length) := hu
          have h2 : v.natAbs < 2 ^ (n + (m + 1) * fs.length + m) := hv
          have h3 : 2 ^ (n + (m + 1) * fs.length) ≤ 2 ^ (n + (m + 1) * fs.length + m) := Nat.pow_le_pow_right (by decide) (by omega)
          show (u - v).natAbs < 2 ^ (n + (m + 1) * (fs.length + 1))
          rw [Nat.mul_succ, show n + ((m + 1) * fs.length + (m + 1)) = n + (m + 1) * fs.length + m + 1 by omega, Nat.pow_succ]
          omega
        have h0 : LbI (n + (m + 1) * fs.length + m) 0 := LbI.zero
        unfold cutQ at hz
        rcases List.mem_append.mp hz with hz | hz
        · have := hb2 (br z (List.mem_of_mem_take hz)) h0
          rwa [Int.sub_zero] at this
        · obtain ⟨j, hj⟩ := List.getElem?_of_mem (List.dropLast_subset _ hz)
          rw [List.getElem?_zipWith] at hj
          cases h1 : (rs.drop kp)[j]? with
          | none => rw [h1] at hj; cases hj
          | some u =>
            cases h2 : ys[j]? with
            | none => rw [h1, h2] at hj; cases hj
            | some v =>
              rw [h1, h2] at hj
              obtain rfl := Option.some.inj hj
              exact hb2 (br u (List.mem_of_mem_drop (List.mem_of_getElem? h1))) (bq.mul (by_ v (List.mem_of_getElem? h2)))
  · have hl : rs.length + 1 = ys.length := by
      have : ¬ ys.length ≤ rs.length := fun e => z (decide_eq_true (by omega))
      omega
    have nul : rs.any (· != 0) = false := by
      refine List.any_eq_false.mpr fun z hz => ?_
      obtain ⟨j, hj⟩ := List.getElem?_of_mem hz
      have := er j
      rw [zc_at hj, show rs.length + 1 - ys.length = 0 by omega] at this
      have e0 : zc (mulL ys (mkZ (zc q0) 0)) j = 0 := mulL_nil ys j
      rw [e0] at this
      subst this; simp
    refine ⟨fun σ' G' => σ' = [some (.ref a), some (.ref b), some (.ref l3), some (.ref D), o4, o5, o6, o7, none, none] ∧ G' = G, ⟨_, rfl, l3, rs, rfl, SqL.of g3, _, rfl, iteF2 nul ⟨rfl, rfl⟩⟩, ?_⟩
    rintro _ _ ⟨rfl, rfl⟩
    refine ⟨_, rfl, D, _, rfl, SqL.of hD, fun c1 n1 => ?_⟩
    have s1 := same_new (o := .lst (VI fs).reverse) n1
    refine q c1 _ fs.reverse (sG.trans s1) (sG.free n1) ?_ (by rw [List.length_reverse]; omega) fun i => ?_
    · rw [upd_same]; unfold VI; rw [List.map_reverse]
    · by_cases h : i < fs.length
      · rw [zc_at (List.getElem?_reverse h ▸ List.getElem?_eq_getElem (show fs.length - 1 - i < fs.length by omega)), ← zc_at (List.getElem?_eq_getElem (show fs.length - 1 - i < fs.length by omega)), hf _ (by omega)]
        congr 1; omega
      · rw [zc_out (by rw [List.length_reverse]; omega), q_deg y0 (by omega) eq i (by omega)]
end
end K21

namespace K21
open PySem PySem.Spec PyProof.Rows L2 Fp
section
variable {P : Program} {w : World} {K : PySem.W.Frag} {mg : Str → Option Value} {base : Heap} {k : Nat} {C fI fR : Addr}
def sp_common_steps (K : PySem.W.Frag) : Sp := fun vs H Q _ => ∃ (a b : Addr) (xs ys : List Int) (p : Nat), vs = [.ref a, .ref b, .int p] ∧ H a = some (.lst (VI xs)) ∧ H b = some (.lst (VI ys)) ∧ Pr p ∧ LbI 4000 p ∧ xs.length ≤ 400 ∧ ys.length ≤ 400 ∧
  ∀ c H' F, Same H H' → H c = none → H' c = some (.lst (VI F)) → (∀ x ∈ F, 0 ≤ x ∧ x < p) → trimI F = F → F.length ≤ 400 → CombM p xs ys F → DvM p F xs → DvM p F ys → Q (.ref c) H'
theorem zc_trim_idem : ∀ (n : Nat) (zs : List Int), zs.length = n → (∀ i, zc (trimI zs) i = zc zs i) ∧ trimI (trimI zs) = trimI zs
  | 0, zs, h => by obtain rfl := List.length_eq_zero_iff.mp h; exact ⟨fun _ => rfl, rfl⟩
  | n + 1, zs, h => by
    obtain ⟨A, v, rfl⟩ := snoc_of (l := zs) (fun e => by rw [e] at h; cases h)
    rw [List.length_append, List.length_singleton] at h
    by_cases v0 : v = 0
    · have ih := zc_trim_idem n A (by omega)
      rw [trimI_zero v0]
      refine ⟨fun i => ?_, ih.2⟩
      rw [ih.1, zc_app]
      by_cases e : i = A.length
      · rw [if_pos e, v0, zc_out (by omega)]
      · rw [if_neg e]
    · rw [trimI_nz v0]
      exact ⟨fun _ => rfl, trimI_nz v0⟩
theorem zc_trim (zs : List Int) (i : Nat) : zc (trimI zs) i = zc zs i := (zc_trim_idem _ zs rfl).1 i
theorem trim_idem (zs : List Int) : trimI (trimI zs) = trimI zs := (zc_trim_idem _ zs rfl).2
theorem trim_last {zs : List Int} (h : trimI zs = zs) (z0 : zs ≠ []) : zc zs (zs.length - 1) ≠ 0 := by
  obtain ⟨A, v, rfl⟩ := snoc_of (l := zs) z0
  intro e
  rw [zc_app, if_pos (by simp)] at e
  rw [trimI_zero e] at h
  have := congrArg List.length h
  have l := trimI_len A
  rw [List.length_append, List.length_singleton] at this
  omega
/-- rests modulo p, without noughts at the end -/
def RT (p : Nat) (F : List Int) : Prop := (∀ x ∈ F, 0 ≤ x ∧ x < p) ∧ trimI F = F
theorem RT.mk {p : Nat} (p0 : 0 < p) (zs : List Int) : RT p (trimI (zs.map (· % (p : Int)))) := ⟨fun x hx => by
  obtain ⟨y, hy, rfl⟩ := List.mem_map.mp (trimI_mem hx)
  exact ⟨Int.emod_nonneg _ (by omega), Int.emod_lt_of_pos _ (by omega)⟩, trim_idem _⟩
theorem RT.head {p : Nat} {F : List Int} (h : RT p F) (f0 : F ≠ []) : ¬ (p : Int) ∣ zc F (F.length - 1) := by
  have l := List.length_pos_iff.mpr f0
  have b := h.1 (zc F (F.length - 1)) (by rw [zc_at (List.getElem?_eq_getElem (show F.length - 1 < F.length by omega))]; exact List.getElem_mem _)
  have n := trim_last h.2 f0
  exact pr_ndvd n (by omega)
theorem RT.lb {p n : Nat} {F : List Int} (h : RT p F) (bp : LbI n p) : ∀ x ∈ F, LbI n x := fun x hx => lb_le bp (by have := h.1 x hx; omega)
theorem zc_tm (p : Nat) (zs : List Int) (n : Nat) : zc (trimI (zs.map (· % (p : Int)))) n = zc zs n % p := by
  rw [zc_trim, zc_map (· % (p : Int)) (Int.zero_emod _)]
theorem mod_dvd (p : Nat) (x : Int) : (p : Int) ∣ x - x % p := by
  have := Int.emod_add_mul_ediv x p
  exact ⟨x / p, by omega⟩
theorem tm_len (p : Nat) (zs : List Int) : (trimI (zs.map (· % (p : Int)))).length ≤ zs.length := by
  have := trimI_len (zs.map (· % (p : Int)))
  rwa [List.length_map] at this
def CSt (H : Hp) (xs ys : List Int) (p : Nat) (mm : Nat) (σ : L2.St) (G : Hp) : Prop := ∃ (l1 l2 : Addr) (F S : List Int), σ = [some (.ref l1), some (.ref l2), some (.int p)] ∧ mm = S.length ∧ Same H G ∧ H l1 = none ∧ H l2 = none ∧ G l1 = some (.lst (VI F)) ∧ G l2 = some (.lst (VI S)) ∧ RT p F ∧ RT p S ∧ EucM p xs ys F S ∧ F.length ≤ 400 ∧ S.length ≤ 400
-- slots: first 0, second 1, prime 2; cells: 
abbrev s_common_steps : Stmt := top 30
abbrev N_common_steps : List Str := ["first", "second", "prime"]
theorem sc_common_steps : FnScope N_common_steps ["first", "second", "prime"] (defScope s_common_steps) := ⟨rfl, rfl, rfl, by decide +kernel, rfl, by decide +kernel, by decide +kernel⟩
theorem d_common_steps (B : Bnd K mg "common_steps" s_common_steps) (M : Mg2 mg)  (D_shrunk : Def P w K mg base k "shrunk" s_shrunk ["wholes", "prime"] (sp_shrunk K)) (D_without_noughts : Def P w K mg base k "without_noughts" s_without_noughts ["wholes"] (sp_wn K)) (D_taken_off : Def P w K mg base k "taken_off" s_taken_off ["first", "second"] (sp_taken_off K)) : Def P w K mg base (k + 1) "common_steps" s_common_steps ["first", "second", "prime"] (sp_common_steps K) := by
  refine def_of B sc_common_steps (by rintro _ _ _ _ ⟨a, b, xs, ys, p, rfl, _⟩; rfl) (fun _ _ _ _ _ _ us hl => match us, hl with | [_, _, _], _ => rfl) fun f cdv A outer s H vs Q E hr h => ?_
  obtain ⟨a, b, xs, ys, p, rfl, ha, hb, pr, bp, lx, ly, q⟩ := h
  have hu := hr.units
  refine ⟨_, pss_cons (ps_set (i := 0) sc_common_steps.nd rfl (.inl rfl) (pe_d D_without_noughts hr (by rfl) (pa_cons (pe_d D_shrunk hr (by rfl) (pa_cons (pv 0) (pa_cons (pv 2) pa_nil))) pa_nil)))
    (pss_cons (ps_set (i := 1) sc_common_steps.nd rfl (.inl rfl) (pe_d D_without_noughts hr (by rfl) (pa_cons (pe_d D_shrunk hr (by rfl) (pa_cons (pv 1) (pa_cons (pv 2) pa_nil))) pa_nil)))
    (pss_cons (ps_while PassesOwn.never (pt_truth (pv 1) (by intro _; rfl))
      (pss_cons (ps_while PassesOwn.never (pt_cmpR op_ge (pe_callB call_len_seq (by rfl) M.len boot_len (pa_cons (pv 0) pa_nil)) (pe_callB call_len_seq (by rfl) M.len boot_len (pa_cons (pv 1) pa_nil)) (nomark _))
        (pss_one (ps_set (i := 0) sc_common_steps.nd rfl (.inl rfl) (pe_d D_without_noughts hr (by rfl) (pa_cons (pe_d D_shrunk hr (by rfl) (pa_cons (pe_d D_taken_off hr (by rfl) (pa_cons (pv 0) (pa_cons (pv 1) pa_nil))) (pa_cons (pv 2) pa_nil))) pa_nil)))))
      (pss_one (ps_par (i := 0) (j := 1) rfl sc_common_steps.nd rfl rfl (by decide) rfl rfl (pa_cons (pv 1) (pa_cons (pv 0) pa_nil)) (by rfl)))))
    (pss_one (ps_ret (pv 0))))), ?_⟩
  have p1 := pr.1
  have pI : PrI p := pr.i
  have n1 : ¬ (p : Int) ∣ 1 := one_not (by omega)
  refine ⟨_, rfl, _, rfl, a, xs, p, rfl, ha, by omega, by omega, fun c1 H1 s1 nc1 hc1 => ?_⟩
  refine ⟨c1, _, rfl, hc1, by rw [List.length_map]; omega, fun f1 H2 s2 nf1 hf1 => ?_⟩
  have sA := s1.trans s2
  refine ⟨_, rfl, _, rfl, b, ys, p, rfl, sA _ _ hb, by omega, by omega, fun c2 H3 s3 nc2 hc2 => ?_⟩
  refine ⟨c2, _, rfl, hc2, by rw [List.length_map]; omega, fun f2 H4 s4 nf2 hf2 => ?_⟩
  have sB := s3.trans s4
  have st : EucM p xs ys (trimI (xs.map (· % (p : Int)))) (trimI (ys.map (· % (p : Int)))) := by
    have e := EucM.start n1 xs ys
    have r1 : SmM p 1 (trimI (xs.map (· % (p : Int)))) xs := fun n => by
      rw [zc_tm]; have := mod_dvd p (zc xs n); rw [← Int.dvd_neg] at this; rwa [show 1 * (zc xs n % p) - zc xs n = -(zc xs n - zc xs n % p) by omega]
    have r2 : SmM p 1 (trimI (ys.map (· % (p : Int)))) ys := fun n => by
      rw [zc_tm]; have := mod_dvd p (zc ys n); rw [← Int.dvd_neg] at this; rwa [show 1 * (zc ys n % p) - zc ys n = -(zc ys n - zc ys n % p) by omega]
    exact (((e.same pI n1 r1).swap).same pI n1 r2).swap
  have t1 := tm_len p xs
  have t2 := tm_len p ys
  refine ⟨CSt H xs ys p, ⟨_, f1, f2, _, _, rfl, rfl, sA.trans sB, s1.free nf1, (sA.trans s3).free nf2, sB _ _ hf1, hf2, .mk (by omega) _, .mk (by omega) _, st, by omega, by omega⟩, ?_⟩
  rintro mm σ G ⟨l1, l2, F, S, rfl, rfl, sm, nl1, nl2, h1, h2, rF, rS, eu, lF, lS⟩
  by_cases s0 : S = []
  · refine ⟨_, rfl, false, .inl ⟨_, SqL.of h2, by rw [s0]; rfl⟩, iteF ⟨_, rfl, ?_⟩⟩
    obtain ⟨cF, dA, dB⟩ := eu.last n1 (fun n => by rw [s0]; exact Int.dvd_zero _)
    exact q l1 G F sm nl1 h1 rF.1 rF.2 lF cF dA dB
  · refine ⟨_, rfl, true, .inl ⟨_, SqL.of h2, by cases S; exact absurd rfl s0; rfl⟩, iteT ?_⟩
    have lS0 := List.length_pos_iff.mpr s0
    refine ⟨fun σ' G' => ∃ m', m' < S.length ∧ CSt H xs ys p m' σ' G', fun _ _ h => h, ?_⟩
    refine ⟨fun mm σ' G' => ∃ (k1 : Addr) (F' : List Int), σ' = [some (.ref k1), some (.ref l2), some (.int p)] ∧ mm = F'.length ∧ Same G G' ∧ H k1 = none ∧ G' k1 = some (.lst (VI F')) ∧ RT p F' ∧ EucM p xs ys F' S ∧ F'.length ≤ 400, ⟨_, l1, F, rfl, rfl, Same.refl _, nl1, h1, rF, eu, lF⟩, ?_⟩
    rintro mm σ' G' ⟨k1, F', rfl, rfl, sg, nk1, hk1, rF', eu', lF'⟩
    have lvF := vi_len F'
    have lvS := vi_len S
    have h2' := sg _ _ h2
    refine ⟨_, rfl, k1, _, rfl, .inl (SqL.of hk1), _, rfl, l2, _, rfl, .inl (SqL.of h2'), _, _, rfl, rfl, _, rfl, ite2 (fun z => ?_) (fun z => ?_)⟩
    · have hl : S.length ≤ F'.length := by have := of_decide_eq_true z; omega
      refine ⟨fun σ2 G2 => ∃ m', m' < F'.length ∧ _, fun _ _ h => h, ?_⟩
      have bF := rF'.lb bp
      have bS := rS.lb bp
      refine ⟨_, rfl, _, rfl, k1, l2, F', S, 4000, 4000, rfl, hk1, h2', s0, hl, lF', bF, bS, by omega, fun c3 H5 s5 nc3 hc3 => ?_⟩
      refine ⟨_, rfl, c3, _, p, rfl, hc3, by rw [offZ_len s0 hl]; omega, by omega, fun c4 H6 s6 nc4 hc4 => ?_⟩
      refine ⟨c4, _, rfl, hc4, by rw [List.length_map, offZ_len s0 hl]; omega, fun c5 H7 s7 nc5 hc5 => ?_⟩
      have tl := tm_len p (offZ F' S (F'.length - S.length) (zc S (S.length - 1)) (zc F' (F'.length - 1)))
      rw [offZ_len s0 hl] at tl
      refine ⟨_, by omega, c5, _, rfl, rfl, ((sg.trans s5).trans s6).trans s7, (sm.trans ((sg.trans s5).trans s6)).free nc5, hc5, .mk (by omega) _, ?_, by omega⟩
      refine EucM.step pI n1 (k := F'.length - S.length) (lead := zc F' (F'.length - 1)) (rS.head s0) (fun n => ?_) eu'
      rw [zc_tm, offZ_at s0 hl]
      have := mod_dvd p (zc S (S.length - 1) * zc F' n - zc F' (F'.length - 1) * zc (upL (F'.length - S.length) S) n)
      rw [← Int.dvd_neg] at this
      rwa [Int.neg_sub] at this
    · have hl : F'.length < S.length := by
        have : ¬ S.length ≤ F'.length := fun e => z (decide_eq_true (by omega))
        omega
      refine ⟨_, rfl, _, rfl, _, _, rfl, ?_⟩
      exact ⟨F'.length, hl, l2, k1, S, F', rfl, rfl, sm.trans sg, nl2, nk1, h2', hk1, rS, rF', eu'.swap, lS, lF'⟩
end
end K21

namespace K21
open PySem PySem.Spec PyProof.Rows L2 Fp
section
variable {P : Program} {w : World} {K : PySem.W.Frag} {mg : Str → Option Value} {base : Heap} {k : Nat} {C fI fR : Addr}
theorem pr_cop {p : Nat} (h : Pr p) {x : Int} (n : ¬ (p : Int) ∣ x) : Int.gcd p x = 1 := by
  obtain ⟨e, he⟩ := Int.gcd_dvd_left (p : Int) x
  have hx := Int.gcd_dvd_right (p : Int) x
  have p1 := h.1
  generalize hd : ((Int.gcd p x : Nat) : Int) = d at *
  rcases h.2 d e ⟨1, by rw [← he]; omega⟩ with z | z
  · exact absurd (Int.dvd_trans z hx) n
  · obtain ⟨f, hf⟩ := z
    have : (p : Int) * (d * f) = p * 1 := by rw [Int.mul_one]; calc (p : Int) * (d * f) = d * (p * f) := by grind
        _ = p := by rw [← hf, ← he]
    have := Int.eq_of_mul_eq_mul_left (show (p : Int) ≠ 0 by omega) this
    have := Int.eq_one_of_mul_eq_one_right (by omega) this
    omega
/-- what is tried: the common part of two, G, of which all is known, and that is small -/
structure TrG (xs ys G : List Int) (p L : Nat) (Cb : Nat) : Prop where
  gc : GcdL xs ys G
  gt : trimI G = G
  xt : trimI xs = xs
  yt : trimI ys = ys
  x0 : xs ≠ []
  y0 : ys ≠ []
  gl : 0 < zc G (G.length - 1)
  bx : ∀ i, (zc xs i).natAbs ≤ Cb
  by_ : ∀ i, (zc ys i).natAbs ≤ Cb
  cbL : Cb ≤ L
  gi : ∀ i, (zc G i).natAbs ≤ L
  cG : CombM p xs ys G
  pr : Pr p
  hL : 2 * (L * L) < p
  bp : LbI 4000 p
  hI : Float64.isqrt ((p : Int) / 2).toNat = L
  lx : xs.length ≤ 60
  ly : ys.length ≤ 60
theorem TrG.g0 {xs ys G : List Int} {p L Cb : Nat} (h : TrG xs ys G p L Cb) : G ≠ [] := fun e => by
  have := h.gl
  rw [e] at this
  exact absurd this (by decide)
theorem TrG.part {xs ys G : List Int} {p L Cb : Nat} (h : TrG xs ys G p L Cb) {X : List Int} (hx : trimI X = X) (X0 : X ≠ []) {A : List Int} (e : ∀ n, zc X n = zc (mulL G A) n) : ∃ a, DegM 0 A a ∧ X.length = G.length + a ∧ zc X (X.length - 1) = zc G (G.length - 1) * zc A a := by
  have gl := h.gl
  have xl := trim_last hx X0
  have lx := List.length_pos_iff.mpr X0
  have lg := List.length_pos_iff.mpr h.g0
  have dG := degM_last h.g0 (show zc G (G.length - 1) ≠ 0 by omega)
  have dX := degM_last X0 xl
  obtain ⟨a, ha⟩ := degM_ex (q := 0) (P := A) (Classical.not_forall.mp fun c => xl (by
    rw [e, mulL_sum]; exact sumI_none fun k hk => by rw [Int.zero_dvd.mp (c _), Int.mul_zero]))
  have dE := degM_mul prI_zero dG ha
  have eq : EqM 0 X (mulL G A) := .of e
  have := degM_fn (eq.deg dX) dE
  refine ⟨a, ha, by omega, ?_⟩
  rw [e, this, mulL_sum]
  have := sumI_dvd (q := 0) (f := fun i => zc G i * zc A (G.length - 1 + a - i)) (m := G.length - 1) (n := G.length - 1 + a + 1) (by omega) fun i hi ne => by
    by_cases z : i < G.length - 1
    · rw [ha.zero.2 _ (by omega), Int.mul_zero]; exact Int.dvd_refl 0
    · rw [zc_out (zs := G) (by omega), Int.zero_mul]; exact Int.dvd_refl 0
  have := Int.zero_dvd.mp this
  rw [show G.length - 1 + a - (G.length - 1) = a by omega] at this
  omega
theorem TrG.comb {xs ys G : List Int} {p L Cb : Nat} (h : TrG xs ys G p L Cb) : CombM p xs ys G ∧ (∀ i, (zc G i).natAbs ≤ L) ∧ L < p := by
  have LL : L ≤ L * L := Nat.le_mul_self L
  have hL := h.hL
  exact ⟨h.cG, h.gi, by omega⟩
theorem TrG.cb {xs ys G : List Int} {p L Cb : Nat} (h : TrG xs ys G p L Cb) : Cb ≤ L := h.cbL
theorem TrG.deg {xs ys G F : List Int} {p L Cb : Nat} (h : TrG xs ys G p L Cb) (rF : RT p F) (cF : CombM p xs ys F) (dA : DvM p F xs) (dB : DvM p F ys) :
    F.length = G.length ∧ F ≠ [] ∧ ∃ k w : Int, ¬ (p : Int) ∣ k ∧ ¬ (p : Int) ∣ w ∧ ∀ n, (p : Int) ∣ k * zc F n - w * zc G n := by
  obtain ⟨A, eA⟩ := h.gc.dA
  obtain ⟨B, eB⟩ := h.gc.dB
  obtain ⟨cG, gi, Lp⟩ := h.comb
  have pI := h.pr.i
  have gl := h.gl
  obtain ⟨k, w, hk, hw, e⟩ := mod_gcd pI (h.gc.prim.neM h.pr) A B eA eB cG cF dA dB
  have gN : ¬ (p : Int) ∣ zc G (G.length - 1) := pr_ndvd (by omega) (by have := gi (G.length - 1); omega)
  have lg := List.length_pos_iff.mpr h.g0
  have dG : DegM p (smL w G) (G.length - 1) := ⟨by rw [smL_z]; exact not_dvd_mul pI hw gN, fun n hn => by rw [smL_z, zc_out (by omega), Int.mul_zero]; exact Int.dvd_zero _⟩
  have eq : EqM p (smL k F) (smL w G) := fun n => by rw [smL_z, smL_z]; exact e n
  have f0 : F ≠ [] := fun z => by
    have := (eq.symm.deg dG).1
    rw [smL_z, z] at this
    exact this (by show (p : Int) ∣ k * 0; rw [Int.mul_zero]; exact Int.dvd_zero _)
  have lf := List.length_pos_iff.mpr f0
  have dF : DegM p (smL k F) (F.length - 1) := ⟨by rw [smL_z]; exact not_dvd_mul pI hk (rF.head f0), fun n hn => by rw [smL_z, zc_out (by omega), Int.mul_zero]; exact Int.dvd_zero _⟩
  have := degM_fn (eq.deg dF) dG
  exact ⟨by omega, f0, k, w, hk, hw, e⟩
/-- the tops of the fractions, without a common divisor, are the common part -/
theorem prim_tops {G tops : List Int} (hG : PrimL G) {D b : Int} (D0 : 0 < D) (b0 : 0 < b) (ln : tops.length = G.length) (gn : ∃ i, zc G i ≠ 0) (e : ∀ i, zc tops i * D = zc G i * b) : tops.map (· / (gcdI tops : Int)) = G := by
  have dv : ∀ i, (gcdI tops : Int) ∣ zc tops i := fun i => by
    by_cases l : i < tops.length
    · rw [zc_at (List.getElem?_eq_getElem l)]; exact gcdI_dvd (List.getElem_mem _)
    · rw [zc_out (by omega)]; exact Int.dvd_zero _
  have g0 : (gcdI tops : Int) ≠ 0 := fun z => by
    obtain ⟨i, hi⟩ := gn
    have h1 := dv i
    rw [z] at h1
    have h2 := e i
    rw [Int.zero_dvd.mp h1, Int.zero_mul] at h2
    rcases Int.mul_eq_zero.mp h2.symm with h | h
    · exact hi h
    · omega
  have gg : ∀ d : Int, (∀ i, d ∣ zc tops i) → d ∣ (gcdI tops : Int) := fun d hd => gcdI_great fun x hx => by
    obtain ⟨j, hj⟩ := List.getElem?_of_mem hx
    rw [← zc_at hj]; exact hd j
  have gp : (0 : Int) < (gcdI tops : Int) := by omega
  generalize (gcdI tops : Int) = g at *
  have h0 : 0 < Int.gcd (g * D) b := Int.gcd_pos_of_ne_zero_right _ (by omega)
  have d1 : ((Int.gcd (g * D) b : Nat) : Int) ∣ g * D := Int.gcd_dvd_left ..
  have d2 : ((Int.gcd (g * D) b : Nat) : Int) ∣ b := Int.gcd_dvd_right ..
  have cp := Int.gcd_ediv_gcd_ediv_gcd h0
  have e1 := Int.ediv_mul_cancel d1
  have e2 := Int.ediv_mul_cancel d2
  have gD := Int.mul_pos gp D0
  generalize hh : ((Int.gcd (g * D) b : Nat) : Int) = h at *
  generalize g * D / h = x at *
  generalize b / h = y at *
  have hp : 0 < h := by omega
  have x0 : 0 < x := by
    rcases Int.lt_or_le 0 x with z | z
    · exact z
    · have : x * h ≤ 0 * h := Int.mul_le_mul_of_nonneg_right z (by omega); omega
  have y0 : 0 < y := by
    rcases Int.lt_or_le 0 y with z | z
    · exact z
    · have : y * h ≤ 0 * h := Int.mul_le_mul_of_nonneg_right z (by omega); omega
  -- tops = g u, x u = G y
  have key : ∀ i, ∃ u, zc tops i = g * u ∧ x * u = zc G i * y := fun i => by
    obtain ⟨u, hu⟩ := dv i
    refine ⟨u, hu, ?_⟩
    have := e i
    rw [hu, ← e2] at this
    refine Int.eq_of_mul_eq_mul_left (show h ≠ 0 by omega) ?_
    calc h * (x * u) = (x * h) * u := by grind
      _ = g * D * u := by rw [e1]
      _ = zc G i * (y * h) := by rw [← this]; grind
      _ = h * (zc G i * y) := by grind
  have y1 : y = 1 := by
    have : y * g ∣ g := gg _ fun i => by
      obtain ⟨u, hu, hx⟩ := key i
      have : y ∣ u := by
        have : y ∣ x * u := ⟨zc G i, by rw [hx, Int.mul_comm]⟩
        exact Int.natAbs_dvd_natAbs.mp (Nat.Coprime.dvd_of_dvd_mul_left (m := x.natAbs) (show Nat.gcd y.natAbs x.natAbs = 1 by rw [Nat.gcd_comm]; exact cp) (by rw [← Int.natAbs_mul]; exact Int.natAbs_dvd_natAbs.mpr this))
      rw [hu, Int.mul_comm y]
      exact Int.mul_dvd_mul_left _ this
    have := Int.le_of_dvd gp this
    have l2 : 1 * g ≤ y * g := Int.mul_le_mul_of_nonneg_right (by omega) (by omega)
    have : y * g = 1 * g := by omega
    exact Int.eq_of_mul_eq_mul_right (by omega) this
  have x1 : x = 1 := by
    have := hG x.natAbs fun i => by
      obtain ⟨u, hu, hx⟩ := key i
      rw [y1, Int.mul_one] at hx
      exact Int.natAbs_dvd.mpr ⟨u, hx.symm⟩
    omega
  refine List.ext_getElem (by rw [List.length_map, ln]) fun n h1 h2 => ?_
  rw [List.length_map] at h1
  obtain ⟨u, hu, hx⟩ := key n
  rw [zc_at (List.getElem?_eq_getElem h1)] at hu
  rw [zc_at (List.getElem?_eq_getElem h2), x1, y1, Int.one_mul, Int.mul_one] at hx
  rw [List.getElem_map, hu, Int.mul_ediv_cancel_left _ (by omega), hx]
def sp_tried_common (K : PySem.W.Frag) : Sp := fun vs H Q _ => ∃ (a b : Addr) (xs ys G : List Int) (p L Cb : Nat), vs = [.ref a, .ref b, .int p] ∧ H a = some (.lst (VI xs)) ∧ H b = some (.lst (VI ys)) ∧ TrG xs ys G p L Cb ∧
  ∀ c H', Same H H' → H c = none → H' c = some (.lst (VI G)) → Q (.ref c) H'
-- slots: first 0, second 1, prime 2, rests 3, back 4, found 5, tried 6, rest 7; cells: back prime
abbrev s_tried_common : Stmt := top 29
abbrev N_tried_common : List Str := ["first", "second", "prime", "rests", "back", "found", "tried", "rest"]
theorem sc_tried_common : FnScope N_tried_common ["first", "second", "prime"] (defScope s_tried_common) := ⟨rfl, rfl, rfl, by decide +kernel, rfl, by decide +kernel, by decide +kernel⟩
theorem d_tried_common (B : Bnd K mg "tried_common" s_tried_common) (M : Mg2 mg)  (D_primitive : Def P w K mg base k "primitive" s_primitive ["wholes"] (sp_primitive K)) (D_inverse : Def P w K mg base k "inverse" s_inverse ["rest", "prime"] (sp_inverse K)) (D_fractions_of : Def P w K mg base k "fractions_of" s_fractions_of ["rests", "prime"] (sp_fractions_of K)) (D_whole_quotient : Def P w K mg base k "whole_quotient" s_whole_quotient ["first", "second"] (sp_whole_quotient K)) (D_common_steps : Def P w K mg base k "common_steps" s_common_steps ["first", "second", "prime"] (sp_common_steps K)) : Def P w K mg base (k + 1) "tried_common" s_tried_common ["first", "second", "prime"] (sp_tried_common K) := by
  refine def_of B sc_tried_common (by rintro _ _ _ _ ⟨a, b, xs, ys, G, p, L, Cb, rfl, _⟩; rfl) (fun _ _ _ _ _ _ us hl => match us, hl with | [_, _, _], _ => rfl) fun f cdv A outer s H vs Q E hr h => ?_
  obtain ⟨a, b, xs, ys, G, p, L, Cb, rfl, ha, hb, tg, q⟩ := h
  have hu := hr.units
  refine ⟨_, C8.pss_cut (ps_if (pt_cmpR op_eq (pe_op op_mod (pe_ix (r := rIxL K) ix_list (pv 0) (pe_un un_neg pe_int) (fun _ _ => rfl)) (pv 2)) pe_int (nomark _))
      (pss_one (ps_ret pe_non))
      (pss_nil))
    (pss_cons (ps_set (i := 3) sc_tried_common.nd rfl (.inl rfl) (pe_d D_common_steps hr (by rfl) (pa_cons (pv 0) (pa_cons (pv 1) (pa_cons (pv 2) pa_nil)))))
    (C8.pss_cut (ps_if (pt_cmpR op_eq (pe_callB call_len_seq (by rfl) M.len boot_len (pa_cons (pv 3) pa_nil)) pe_int (nomark _))
      (pss_one (ps_ret (pe_lst (pa_cons pe_int pa_nil))))
      (pss_nil))
    (pss_cons (ps_set (i := 4) sc_tried_common.nd rfl (.inr rfl) (pe_d D_inverse hr (by rfl) (pa_cons (pe_ix (r := rIxL K) ix_list (pv 3) (pe_un un_neg pe_int) (fun _ _ => rfl)) (pa_cons (pv 2) pa_nil))))
    (pss_cons (ps_set (i := 5) sc_tried_common.nd rfl (.inl rfl) (pe_d D_fractions_of hr (by rfl) (pa_cons (pe_lc (own := [("rest", 7)]) (g := (gName 7)) (tt := tYes) (te := (tOp _ (tOp _ (tVar 7) (tVar 4)) (tVar 2))) rfl sc_tried_common.nd (pi_list (pv 3)) (blkOk_by (own := [("rest", 7)]) (N := N_tried_common) (sc := defScope s_tried_common) (by decide +kernel)) (fun _ _ _ _ _ => pg_name (i := 7) sc_tried_common.nd rfl (.inl rfl)) (fun _ _ _ _ _ => pts_nil) (fun _ _ _ _ _ => pe_op op_mod (pe_op op_mulW (pv 7) (pv 4)) (pv 2))) (pa_cons (pv 2) pa_nil))))
    (C8.pss_cut (ps_if (pt_cmpR op_isN (pv 5) pe_non (nomark _))
      (pss_one (ps_ret pe_non))
      (pss_nil))
    (pss_cons (ps_set (i := 6) sc_tried_common.nd rfl (.inl rfl) (pe_d D_primitive hr (by rfl) (pa_cons (pe_ix (r := rIxT K) ix_tup (pv 5) pe_int (fun _ _ => rfl)) pa_nil)))
    (C8.pss_cut (ps_if (PW.pt (pw_or (pt_cmpR op_isN (pe_d D_whole_quotient hr (by rfl) (pa_cons (pv 0) (pa_cons (pv 6) pa_nil))) pe_non (nomark _)) (pw_or1 (pt_cmpR op_isN (pe_d D_whole_quotient hr (by rfl) (pa_cons (pv 1) (pa_cons (pv 6) pa_nil))) pe_non (nomark _)))))
      (pss_one (ps_ret pe_non))
      (pss_nil))
    (pss_one (ps_ret (pv 6)))))))))), ?_⟩
  obtain ⟨cG, gi, Lp⟩ := tg.comb
  have p1 := tg.pr.1
  have gl := tg.gl
  obtain ⟨A, eA⟩ := tg.gc.dA
  obtain ⟨B, eB⟩ := tg.gc.dB
  obtain ⟨da, hda, la, _⟩ := tg.part tg.xt tg.x0 eA
  obtain ⟨db, hdb, lb, _⟩ := tg.part tg.yt tg.y0 eB
  have lx := tg.lx
  have ly := tg.ly
  refine ⟨fun σ' G' => σ' = [some (.ref a), some (.ref b), some (.int p), none, none, none, none, none] ∧ G' = H, ⟨_, rfl, 1, rfl, a, _, -1, _, rfl, rfl, SqL.of ha, at_end tg.x0, _, rfl, _, _, rfl, rfl, by omega, rfl, _, rfl, iteF2 (decide_eq_false fun z => ?_) ⟨rfl, rfl⟩⟩, ?_⟩
  · have z2 : zc xs (xs.length - 1) % p = 0 := by injection z
    have cb := tg.cb
    have := tg.bx (xs.length - 1)
    exact pr_ndvd (trim_last tg.xt tg.x0) (by omega) (Int.dvd_of_emod_eq_zero z2)
  rintro _ _ ⟨rfl, rfl⟩
  rename_i H
  refine ⟨_, rfl, _, rfl, _, rfl, a, b, xs, ys, p, rfl, ha, hb, tg.pr, tg.bp, by omega, by omega, fun f1 H1 F s1 nf1 hf1 Fb Ft lF cF dA dB => ?_⟩
  obtain ⟨fl, f0, k', w', hk, hw, e⟩ := tg.deg ⟨Fb, Ft⟩ cF dA dB
  have lvF := vi_len F
  have lg := List.length_pos_iff.mpr tg.g0
  refine ⟨fun σ' G' => σ' = [some (.ref a), some (.ref b), some (.int p), some (.ref f1), none, none, none, none] ∧ G' = H1, ⟨_, rfl, f1, _, rfl, .inl (SqL.of hf1), rfl, _, rfl, ite2 (fun z => ?_) (fun z => ?_)⟩, ?_⟩
  · have z2 : G.length = 1 := by
      have := of_decide_eq_true z
      injection this with this
      omega
    obtain ⟨g, rfl⟩ : ∃ g, G = [g] := List.length_eq_one_iff.mp z2
    have g1 : g = 1 := by
      have : 0 < g := gl
      have := tg.gc.prim g.natAbs fun n => by
        rw [zc_cons]
        split
        · exact Int.natAbs_dvd.mpr (Int.dvd_refl _)
        · exact Int.dvd_zero _
      omega
    subst g1
    exact ⟨by show 1 ≤ sizeLine; decide, fun c nc => q c _ (s1.trans (same_new nc)) (s1.free nc) upd_same⟩
  · exact ⟨rfl, rfl⟩
  rintro _ _ ⟨rfl, rfl⟩
  rename_i H1
  have hF := RT.head ⟨Fb, Ft⟩ f0
  have fb := Fb (zc F (F.length - 1)) (by rw [zc_at (List.getElem?_eq_getElem (show F.length - 1 < F.length by omega))]; exact List.getElem_mem _)
  refine ⟨_, rfl, 1, rfl, f1, _, -1, _, rfl, rfl, SqL.of hf1, at_end f0, _, rfl, _, p, rfl, fb.1, fb.2, p1, tg.bp, pr_cop tg.pr hF, fun back H2 s2 b0 bp' inv => ?_⟩
  have hf2 := s2 _ _ hf1
  refine ⟨_, rfl, f1, rfl, ⟨_, SqL.of hf2⟩, fun D1 nD1 => ?_⟩
  refine lc_l (fun i => (F[i]?).map fun x => V.int (x * back % p)) (SqL.of hf2) nD1 (by rw [lvF, sizeLine_eq]; omega) (fun i v H3 hv s3 Y N y nn => ?_) (fun H3 s3 hE => ?_)
  · obtain ⟨d, hd, rfl⟩ := vi_at hv
    have := Fb d (List.mem_of_getElem? hd)
    refine ⟨rfl, _, rfl, _, rfl, _, _, rfl, rfl, LbI.cm (n := 4000) (m := 4000) (lb_le tg.bp (by omega)) (lb_le tg.bp (by omega)) (by omega), _, rfl, _, _, rfl, rfl, by omega, y _ _ (Same.refl _) ?_⟩
    show (F[i]?).map _ = _
    rw [hd]; rfl
  rw [fm_mapI, vi_map (· * back % (p : Int))] at hE
  have cong : ∀ i, (p : Int) ∣ zc G i - zc G (G.length - 1) * zc (F.map (· * back % (p : Int))) i := fun i => by
    rw [zc_map (· * back % (p : Int)) (by rw [Int.zero_mul, Int.zero_emod])]
    have h1 := e i
    have h2 := e (F.length - 1)
    have h3 := mod_dvd p (zc F i * back)
    rw [fl] at inv h2
    generalize zc F (G.length - 1) = fg at *
    generalize zc F i * back % p = r at *
    obtain ⟨u1, h1⟩ := h1
    obtain ⟨u2, h2⟩ := h2
    obtain ⟨u3, h3⟩ := h3
    obtain ⟨u4, h4⟩ := inv
    have : (p : Int) ∣ w' * (zc G i - zc G (G.length - 1) * r) := ⟨-u1 + u4 * k' * zc F i + u2 * back * zc F i + w' * zc G (G.length - 1) * u3, by grind⟩
    rcases tg.pr.2 _ _ this with h | h
    · exact absurd h hw
    · exact h
  refine ⟨_, rfl, D1, _, G, zc G (G.length - 1), p, L, rfl, hE, by rw [List.length_map]; exact fl, by omega, fun x hx => ?_, tg.pr, tg.hL, tg.bp, tg.hI, gl, by have := gi (G.length - 1); omega, gi, cong, fun t l H4 tops bottom s4 nt ht hl lt b0' bL eq tL => ?_⟩
  · obtain ⟨y, _, rfl⟩ := List.mem_map.mp hx
    exact ⟨Int.emod_nonneg _ (by omega), Int.emod_lt_of_pos _ (by omega)⟩
  refine ⟨fun σ' G' => σ' = [some (.ref a), some (.ref b), some (.int p), some (.ref f1), some (.int back), some (.ref t), none, none] ∧ G' = H4, ⟨_, rfl, rfl, _, rfl, iteF2 rfl ⟨rfl, rfl⟩⟩, ?_⟩
  rintro _ _ ⟨rfl, rfl⟩
  rename_i H4
  have lbt : ∀ x ∈ tops, LbI 8990 x := fun x hx => by
    obtain ⟨j, hj⟩ := List.getElem?_of_mem hx
    have := tL j
    rw [zc_at hj] at this
    have : LbI 4000 x := lb_le tg.bp (by omega)
    exact this.mono (by omega)
  refine ⟨_, rfl, t, _, 0, .ref l, rfl, rfl, SqT.of ht, rfl, l, tops, rfl, hl, by omega, lbt, fun c H5 s5 nc hc => ?_⟩
  rw [prim_tops tg.gc.prim gl b0' lt tg.gc.prim.ne eq] at hc
  have sA := ((s1.trans s2).trans s3).trans (s4.trans s5)
  have lb : ∀ {X : List Int}, (∀ i, (zc X i).natAbs ≤ L) → ∀ x ∈ X, LbI 4000 x := fun {X} h x hx => by
    obtain ⟨j, hj⟩ := List.getElem?_of_mem hx
    have := h j
    rw [zc_at hj] at this
    exact lb_le tg.bp (by omega)
  have cb := tg.cb
  refine ⟨fun σ' G' => σ' = [some (.ref a), some (.ref b), some (.int p), some (.ref f1), some (.int back), some (.ref t), some (.ref c), none] ∧ Same H5 G', ?_, ?_⟩
  · refine ⟨_, rfl, _, rfl, a, c, xs, G, A, 4000, 4000, 0, rfl, sA _ _ ha, hc, tg.g0, by omega, by omega, tg.lx, lb (fun i => by have := tg.bx i; omega), lb gi, by omega, by omega, eA, fun c2 H6 qs s6 n6 h6 l6 _ => ⟨rfl, _, rfl, iteF2 rfl ?_⟩⟩
    refine ⟨_, rfl, _, rfl, b, c, ys, G, B, 4000, 4000, 0, rfl, s6 _ _ (sA _ _ hb), s6 _ _ hc, tg.g0, by omega, by omega, tg.ly, lb (fun i => by have := tg.by_ i; omega), lb gi, by omega, by omega, eB, fun c3 H7 qs s7 n7 h7 l7 _ => ⟨rfl, _, rfl, iteF2 rfl ⟨rfl, s6.trans s7⟩⟩⟩
  rintro _ H7 ⟨rfl, s7⟩
  exact ⟨_, rfl, q c H7 (sA.trans s7) ((((s1.trans s2).trans s3).trans s4).free nc) (s7 _ _ hc)⟩
end
end K21

namespace K21
open PySem PySem.Spec PyProof.Rows L2 Fp
section
variable {P : Program} {w : World} {K : PySem.W.Frag} {mg : Str → Option Value} {base : Heap} {k : Nat} {C fI fR : Addr}
def L260 : Nat := 2 ^ 260 - 1
def sp_whole_common (K : PySem.W.Frag) : Sp := fun vs H Q _ => ∃ (a b : Addr) (xs ys G : List Int), vs = [.ref a, .ref b] ∧ H a = some (.lst (VI xs)) ∧ H b = some (.lst (VI ys)) ∧ xs.length ≤ 400 ∧ ys.length ≤ 400 ∧ (((xs = [] ∨ ys = []) ∧ G = xs ++ ys) ∨ ∃ Cb, TrG xs ys G p521 L260 Cb) ∧
  ∀ c H', Same H H' → H c = none → H' c = some (.lst (VI G)) → Q (.ref c) H'
-- slots: first 0, second 1, prime 2, found 3; cells: 
abbrev s_whole_common : Stmt := top 28
theorem bk_primes_0 : BindK 0 0 false "primes" s_primes [] [] := fun _ _ _ _ _ _ us ws hu hw => match us, ws, hu, hw with | [], [], _, _ => rfl
abbrev N_whole_common : List Str := ["first", "second", "prime", "found"]
theorem sc_whole_common : FnScope N_whole_common ["first", "second"] (defScope s_whole_common) := ⟨rfl, rfl, rfl, by decide +kernel, rfl, by decide +kernel, by decide +kernel⟩
theorem d_whole_common (B : Bnd K mg "whole_common" s_whole_common) (M : Mg2 mg)  (D_primes : Def P w K mg base k "primes" s_primes [] (sp_primes K)) (D_tried_common : Def P w K mg base k "tried_common" s_tried_common ["first", "second", "prime"] (sp_tried_common K)) (D_common_steps : Def P w K mg base k "common_steps" s_common_steps ["first", "second", "prime"] (sp_common_steps K)) : Def P w K mg base (k + 1) "whole_common" s_whole_common ["first", "second"] (sp_whole_common K) := by
  refine def_of B sc_whole_common (by rintro _ _ _ _ ⟨a, b, xs, ys, G, rfl, _⟩; rfl) (fun _ _ _ _ _ _ us hl => match us, hl with | [_, _], _ => rfl) fun f cdv A outer s H vs Q E hr h => ?_
  obtain ⟨a, b, xs, ys, G, rfl, ha, hb, lx, ly, alt, q⟩ := h
  have hu := hr.units
  refine ⟨_, C8.pss_cut (ps_if (PW.pt (pw_or (pt_not (pt_truth (pv 0) (by intro _; rfl))) (pw_or1 (pt_not (pt_truth (pv 1) (by intro _; rfl))))))
      (pss_one (ps_ret (pe_op op_cat (pv 0) (pv 1))))
      (pss_nil))
    (pss_cons (ps_for PassesOwn.never rfl (pi_list (pe_dk0 D_primes hr (by rfl) 0 false [] bk_primes_0 pk_nil)) (pg_name (i := 2) sc_whole_common.nd rfl (.inl rfl))
      (pss_cons (ps_set (i := 3) sc_whole_common.nd rfl (.inl rfl) (pe_d D_tried_common hr (by rfl) (pa_cons (pv 0) (pa_cons (pv 1) (pa_cons (pv 2) pa_nil)))))
      (pss_one (ps_if (pt_cmpR op_notN (pv 3) pe_non (nomark _))
        (pss_one (ps_ret (pv 3)))
        (pss_nil)))))
    (pss_one (ps_ret (pe_d D_common_steps hr (by rfl) (pa_cons (pv 0) (pa_cons (pv 1) (pa_cons pe_int pa_nil))))))), ?_⟩
  have lvx := vi_len xs
  have lvy := vi_len ys
  have nilCase : G = xs ++ ys → ∀ c, H c = none → Q (.ref c) (upd H c (.lst (VI xs ++ VI ys))) := fun e c nc => by
    refine q c _ (same_new nc) nc ?_
    rw [upd_same, e]; unfold VI; rw [List.map_append]
  have sz : (VI xs).length + (VI ys).length ≤ sizeLine := by rw [lvx, lvy, sizeLine_eq]; omega
  refine ⟨fun σ' G' => σ' = [some (.ref a), some (.ref b), none, none] ∧ G' = H ∧ xs ≠ [] ∧ ys ≠ [], ?_, ?_⟩
  · by_cases e1 : xs = []
    · have eG : G = xs ++ ys := by
        rcases alt with ⟨_, e⟩ | ⟨Cb, tg⟩
        · exact e
        · exact absurd e1 tg.x0
      exact ⟨_, rfl, false, .inl ⟨_, SqL.of ha, by rw [e1]; rfl⟩, iteT (iteT ⟨_, rfl, _, rfl, a, b, _, _, rfl, rfl, ha, hb, sz, fun c nc => nilCase eG c nc⟩)⟩
    · refine ⟨_, rfl, true, .inl ⟨_, SqL.of ha, by cases xs; exact absurd rfl e1; rfl⟩, iteF ?_⟩
      by_cases e2 : ys = []
      · have eG : G = xs ++ ys := by
          rcases alt with ⟨_, e⟩ | ⟨Cb, tg⟩
          · exact e
          · exact absurd e2 tg.y0
        exact ⟨_, rfl, false, .inl ⟨_, SqL.of hb, by rw [e2]; rfl⟩, iteT ⟨_, rfl, _, rfl, a, b, _, _, rfl, rfl, ha, hb, sz, fun c nc => nilCase eG c nc⟩⟩
      · exact ⟨_, rfl, true, .inl ⟨_, SqL.of hb, by cases ys; exact absurd rfl e2; rfl⟩, iteF ⟨rfl, rfl, e1, e2⟩⟩
  rintro _ _ ⟨rfl, rfl, x0, y0⟩
  rename_i H
  obtain ⟨Cb, tg⟩ : ∃ Cb, TrG xs ys G p521 L260 Cb := by
    rcases alt with ⟨e | e, _⟩ | h
    · exact absurd e x0
    · exact absurd e y0
    · exact h
  refine ⟨rfl, rfl, rfl, fun D H1 ps s1 nD hD => ?_⟩
  generalize hz : ((p521 : Nat) : Int) :: ps = zs at *
  refine ⟨D, rfl, ⟨_, SqL.of hD⟩, ?_⟩
  refine for_list (xs := VI zs) (fun i σ G' => i = 0 ∧ σ = [some (.ref a), some (.ref b), none, none] ∧ Same H1 G')
    ⟨rfl, rfl, Same.refl _⟩ (fun i σ G' _ ⟨_, _, sm⟩ => SqL.of (sm _ _ hD)) (fun i v σ G' hv ⟨i0, e, sm⟩ => ?_) (fun σ G' ⟨i0, e, sm⟩ => ?_)
  · subst i0 e
    have hv2 : v = .int ((p521 : Nat) : Int) := by
      rw [← hz] at hv
      exact (Option.some.inj hv).symm
    subst hv2
    refine ⟨_, rfl, _, rfl, _, rfl, a, b, xs, ys, G, p521, L260, Cb, rfl, sm _ _ (s1 _ _ ha), sm _ _ (s1 _ _ hb), tg, fun c H2 s2 nc hc => ?_⟩
    exact ⟨_, rfl, rfl, _, rfl, iteT2 rfl ⟨_, rfl, q c H2 ((s1.trans sm).trans s2) ((s1.trans sm).free nc) hc⟩⟩
  · rw [← hz] at i0
    cases i0
end
end K21

namespace K21
open PySem PySem.Spec PyProof.Rows L2 Fp
section
variable {P : Program} {w : World} {K : PySem.W.Frag} {mg : Str → Option Value} {base : Heap} {k : Nat} {C fI fR : Addr}
theorem RatL.wo {D : Addr} {H : Hp} {us acc : List V} {ps : List (Int × Int)} (r : RatL C H us ps) (hD : H D = some (.lst acc)) : RatL C (wo D H) us ps :=
  ⟨r.len, fun i v hv => let ⟨pq, a, h1, h2, h3⟩ := r.at_ i v hv; ⟨pq, a, h1, h2, h3.wo hD⟩⟩
/-- a polynomial of any kind that is told as xs -/
def PolyQ (C : Addr) (H : Hp) (x : V) (xs : List Rat) : Prop := Sk C H 1 x ∧ isPolyV H x = true ∧ toldP H x = xs.map nd
theorem PolyQ.same {H H' : Hp} {x : V} {xs : List Rat} (h : PolyQ C H x xs) (e : Same H H') : PolyQ C H' x xs := ⟨h.1.same e, by rw [isPolyV_same h.1 e]; exact h.2.1, by rw [toldP_same h.1 e]; exact h.2.2⟩
/-- a new list of numbers -/
def NewQ (C : Addr) (H H' : Hp) (v : V) (xs : List Rat) : Prop := ∃ a us, v = .ref a ∧ H a = none ∧ H' a = some (.lst us) ∧ QL C H' us xs
def sp_over_one (C : Addr) : Sp := fun vs H Q _ => ∃ (l : Addr) (us : List V) (xs : List Rat) (n m : Nat) (B : Nat), vs = [.ref l] ∧ H l = some (.lst us) ∧ QL C H us xs ∧ xs.length ≤ 49 ∧ AllB n xs ∧ n ≤ 4000 ∧ 0 < B ∧ B < 2 ^ m ∧ m ≤ 63 ∧ (∀ x ∈ xs, x.den ∣ B) ∧
  ∀ (t a : Addr) (H' : Hp) (bo : Int) (ts : List Int), Same H H' → H' t = some (.tup [.ref a, .int bo]) → H' a = some (.lst (VI ts)) → 0 < bo → LbI m bo → ratsOf bo ts = xs → BN (2 ^ (n + m)) ts → Q (.ref t) H'
theorem fm_map {α : Type} (xs : List α) (g : α → V) : (List.range xs.length).filterMap (fun i => (xs[i]?).map g) = xs.map g := by
  have e : ∀ n, n ≤ xs.length → (List.range n).filterMap (fun i => (xs[i]?).map g) = (xs.take n).map g := fun n => by
    induction n with
    | zero => intro _; simp
    | succ n ih =>
      intro h
      have hn := List.getElem?_eq_getElem (show n < xs.length by omega)
      rw [fm_succ, ih (by omega), takeS hn, List.map_append, hn]; rfl
  rw [e xs.length (Nat.le_refl _), List.take_length]
theorem allB_of {b : Int} {zs : List Int} {N n : Nat} (h : BN N zs) (hN : N < 2 ^ n) (b0 : 0 < b) (hb : LbI n b) : AllB n (ratsOf b zs) := fun x hx => by
  obtain ⟨z, hz, rfl⟩ := List.mem_map.mp hx
  rw [← Rat.divInt_eq_div]
  exact Bits.divInt (Nat.lt_of_le_of_lt (h z hz) hN) hb (by omega)
theorem told_of {b : Int} {zs : List Int} (b0 : 0 < b) (h : trimI zs = zs) : Told (ratsOf b zs) := by rw [← h, ratsOf_trim (by omega)]; exact trimQ_told _
-- slots: numbers 0, fractions 1, bottom 2, fraction 3, number 4; cells: bottom
abbrev s_over_one_bottom : Stmt := top 16
abbrev N_over_one_bottom : List Str := ["numbers", "fractions", "bottom", "fraction", "number"]
theorem sc_over_one_bottom : FnScope N_over_one_bottom ["numbers"] (defScope s_over_one_bottom) := ⟨rfl, rfl, rfl, by decide +kernel, rfl, by decide +kernel, by decide +kernel⟩
theorem d_over_one_bottom (B : Bnd K mg "over_one_bottom" s_over_one_bottom) (M : Mg2 mg) (R : RCls K mg C fI fR) {kr : Nat} (PT : PropX P w K mg base kr C "top" (spTopR C)) (PB : PropX P w K mg base kr C "bottom" (spBotR C)) (hk : kr + 8 ≤ k) (D_as_ratio : Def P w K mg base k "as_ratio" s_as_ratio ["number"] (spAs C)) : Def P w K mg base (k + 1) "over_one_bottom" s_over_one_bottom ["numbers"] (sp_over_one C) := by
  refine def_of B sc_over_one_bottom (by rintro _ _ _ _ ⟨l, us, xs, n, m, B, rfl, _⟩; rfl) (fun _ _ _ _ _ _ us hl => match us, hl with | [_], _ => rfl) fun f cdv A outer s H vs Q E hr h => ?_
  obtain ⟨l, us, xs, n, m, B, rfl, hl, hQ, lx, bx, n4, B0, Bm, m3, dv, q⟩ := h
  have hu := hr.units
  refine ⟨_, pss_cons (ps_setLc (i := 1) (own := [("number", 4)]) (g := (gName 4)) (tt := tYes) (te := (tD _ (tCons (tVar 4) tNil))) rfl sc_over_one_bottom.nd rfl rfl (sw_true rfl rfl rfl (by decide +kernel)) (pi_list (pv 0)) (blkOk_by (own := [("number", 4)]) (N := N_over_one_bottom) (sc := defScope s_over_one_bottom) (by decide +kernel)) (fun _ _ _ _ _ => pg_name (i := 4) sc_over_one_bottom.nd rfl (.inl rfl)) (fun _ _ _ _ _ => pts_nil) (fun _ _ _ _ _ => pe_d D_as_ratio hr (by rfl) (pa_cons (pv 4) pa_nil)))
    (pss_cons (ps_set (i := 2) sc_over_one_bottom.nd rfl (.inr rfl) pe_int)
    (pss_cons (ps_for PassesOwn.never rfl (pi_list (pv 1)) (pg_name (i := 3) sc_over_one_bottom.nd rfl (.inl rfl))
      (pss_one (ps_set (i := 2) sc_over_one_bottom.nd rfl (.inr rfl) (pe_callBfun cr_lcm (by rfl) M.lcm  (pa_cons (pv 2) (pa_cons (pe_propX PB (hr.mono (by omega)) R.cl (pv 3) (by rfl)) pa_nil))))))
    (pss_one (ps_ret (pe_tup (pa_cons (pe_lc (own := [("fraction", 3)]) (g := (gName 3)) (tt := tYes) (te := (tOp _ (tProp _ _ [] E0 (tVar 3)) (tOp _ (tVar 2) (tProp _ _ [] E0 (tVar 3))))) rfl sc_over_one_bottom.nd (pi_list (pv 1)) (blkOk_by (own := [("fraction", 3)]) (N := N_over_one_bottom) (sc := defScope s_over_one_bottom) (by decide +kernel)) (fun _ _ _ _ _ => pg_name (i := 3) sc_over_one_bottom.nd rfl (.inl rfl)) (fun _ _ _ _ _ => pts_nil) (fun _ _ _ _ _ => pe_op op_mulW (pe_propX PT (hr.mono (by omega)) R.cl (pv 3) (by rfl)) (pe_op op_fdivNW (pv 2) (pe_propX PB (hr.mono (by omega)) R.cl (pv 3) (by rfl))))) (pa_cons (pv 2) pa_nil))))))), ?_⟩
  have lu := QL.len hQ
  refine ⟨_, rfl, l, rfl, ⟨us, SqL.of hl⟩, fun D nD => ?_⟩
  refine lc_rel (walk_list (K := K) (a := l) (xs := us)) (fun i acc Hh => QL C Hh acc (xs.take i)) nD (by rw [sizeLine_eq]; omega) (fun Hh sh => SqL.of (sh _ _ hl)) QL.nil (fun i acc A B s r => RatL.same r s) (fun i v acc Ha Hb hi sa ha hr hy Yc Nc yc nc => ?_) (fun acc H1 s1 hD hr => ?_)
  · obtain ⟨rfl, hv⟩ := hy
    obtain ⟨x, a, hx, rfl, rx⟩ := QL.at hQ hv
    have r1 := rx.same sa
    refine ⟨rfl, _, rfl, .ref a, _, _, rfl, r1.nq, fun m' H4 s4 rm => yc _ H4 s4 ?_⟩
    rw [takeS hx]
    exact QL.snoc (RatL.same hr (wo_mono s4)) (Rat2.wo rm (s4 _ _ ha))
  rw [lu, List.take_length] at hr
  have hF := RatL.same hr (wo_le (D := D))
  have la := QL.len hF
  refine ⟨_, rfl, D, rfl, ⟨acc, SqL.of hD⟩, ?_⟩
  refine for_list (xs := acc) (fun i σ G => ∃ (L : Nat) (o3 : Option V), σ = [some (.ref l), some (.ref D), some (.int (L : Nat)), o3, none] ∧ Same H1 G ∧ 0 < L ∧ L ∣ B ∧ ∀ (j : Nat) (x : Rat), j < i → xs[j]? = some x → x.den ∣ L)
    ⟨1, none, rfl, Same.refl _, by decide, Nat.one_dvd _, fun j x h => absurd h (Nat.not_lt_zero _)⟩ (fun i σ G _ ⟨L, o, _, sm, _⟩ => SqL.of (sm _ _ hD)) (fun i v σ G hv ⟨L, o, e, sm, L0, LB, Ld⟩ => ?_) (fun σ G ⟨L, o, e, sm, L0, LB, Ld⟩ => ?_)
  · subst e
    obtain ⟨x, a, hx, rfl, rx⟩ := QL.at hF hv
    have r1 := rx.same sm
    obtain ⟨dx, r2⟩ := id r1
    have dB := dv x (List.mem_of_getElem? hx)
    have lB := Nat.le_of_dvd B0 LB
    have dl := Nat.le_of_dvd B0 dB
    have B63 : B < 2 ^ 63 := Nat.lt_of_lt_of_le Bm (Nat.pow_le_pow_right (by decide) m3)
    obtain ⟨g1, g2, g3, g4⟩ := lcm_step LB dB L0 x.den_pos
    refine ⟨_, rfl, _, rfl, a, dx, _, rfl, r2, a, _, _, rfl, r1, (L : Int), (x.den : Int), rfl, by omega, by omega, ?_⟩
    refine ⟨Nat.lcm L x.den, _, rfl, sm, g2, g1, fun j y hj hy => ?_⟩
    by_cases e : j = i
    · subst e
      rw [hx] at hy
      obtain rfl := Option.some.inj hy
      exact g4
    · exact Nat.dvd_trans (Ld j y (by omega) hy) g3
  · subst e
    have hdv : ∀ (j : Nat) (x : Rat), xs[j]? = some x → (x.den : Int) ∣ (L : Int) := fun j x hx => by
      have := Ld j x (by have := (List.getElem?_eq_some_iff.mp hx).1; omega) hx
      exact Int.natCast_dvd_natCast.mpr this
    have Lm : LbI m (L : Int) := Nat.lt_of_le_of_lt (Nat.le_of_dvd B0 LB) Bm
    have L0' : (0 : Int) < L := by omega
    have hF2 := RatL.same hF sm
    refine ⟨_, rfl, D, rfl, ⟨acc, SqL.of (sm _ _ hD)⟩, fun E nE => ?_⟩
    refine lc_l (fun i => (xs[i]?).map fun x : Rat => V.int (x.num * (L : Int).fdiv x.den)) (SqL.of (sm _ _ hD)) nE (by rw [sizeLine_eq]; omega) (fun i v H2 hv s2 Y N y nn => ?_) (fun H2 s2 hE => ?_)
    · obtain ⟨x, a, hx, rfl, rx⟩ := QL.at hF2 hv
      have r1 := rx.same s2
      obtain ⟨dx, r2⟩ := id r1
      have bX := bx x (List.mem_of_getElem? hx)
      obtain ⟨z1, z2, z3⟩ := ownZ L0' (hdv i x hx) bX Lm
      refine ⟨rfl, _, rfl, a, dx, _, rfl, r2, a, _, _, rfl, r1, _, rfl, _, rfl, a, dx, _, rfl, r2, a, _, _, rfl, r1, (L : Int), x.den, rfl, rfl, (bX.2).div (by omega) (by have := den_pos x; omega), x.num, _, rfl, rfl, bX.1.cm z3 (by omega), ?_⟩
      exact y _ _ (Same.refl _) (by show (xs[i]?).map _ = _; rw [hx]; rfl)
    · have hE : H2 E = some (.lst (VI (xs.map fun x : Rat => x.num * (L : Int).fdiv x.den))) := by
        rw [hE, la, fm_map]; unfold VI; rw [List.map_map]; rfl
      refine ⟨_, rfl, by show 2 ≤ sizeLine; decide, fun t nt => ?_⟩
      have st := same_new (o := .tup [V.ref E, V.int (L : Int)]) nt
      refine q t E _ (L : Int) (xs.map fun x : Rat => x.num * (L : Int).fdiv x.den) (((s1.trans sm).trans s2).trans st) upd_same (st _ _ hE) L0' Lm ?_ fun z hz => ?_
      · unfold ratsOf
        rw [List.map_map]
        conv => rhs; rw [← List.map_id xs]
        refine List.map_congr_left fun x hx => ?_
        obtain ⟨j, hj⟩ := List.getElem?_of_mem hx
        exact (ownZ L0' (hdv j x hj) (bx x hx) Lm).1
      · obtain ⟨x, hx, rfl⟩ := List.mem_map.mp hz
        obtain ⟨j, hj⟩ := List.getElem?_of_mem hx
        exact Nat.le_of_lt (ownZ L0' (hdv j x hj) (bx x hx) Lm).2.1

/-- without a common divisor -/
def primI (ws : List Int) : List Int := ws.map (· / (gcdI ws : Int))
theorem ne_last {ws : List Int} (h : trimI ws = ws) (w0 : ws ≠ []) : ∃ i, zc ws i ≠ 0 := ⟨_, trim_last h w0⟩
theorem gcdI_pos {ws : List Int} (h : ∃ i, zc ws i ≠ 0) : 0 < (gcdI ws : Int) := by
  refine Classical.byContradiction fun c => ?_
  obtain ⟨i, hi⟩ := h
  have l : i < ws.length := Nat.lt_of_not_le fun l => hi (zc_out l)
  have := gcdI_dvd (List.getElem_mem l)
  rw [show (gcdI ws : Int) = 0 by omega] at this
  rw [zc_at (List.getElem?_eq_getElem l)] at hi
  exact hi (Int.zero_dvd.mp this)
theorem primI_at (ws : List Int) (i : Nat) : zc (primI ws) i * (gcdI ws : Int) = zc ws i := by
  unfold primI
  rw [zc_map (· / (gcdI ws : Int)) (Int.zero_ediv _)]
  by_cases l : i < ws.length
  · rw [zc_at (List.getElem?_eq_getElem l)]
    exact Int.ediv_mul_cancel (gcdI_dvd (List.getElem_mem l))
  · rw [zc_out (by omega), Int.zero_ediv, Int.zero_mul]
theorem primI_len (ws : List Int) : (primI ws).length = ws.length := List.length_map _
theorem primI_prim {ws : List Int} (h : ∃ i, zc ws i ≠ 0) : PrimL (primI ws) := fun d hd => by
  have g := gcdI_pos h
  have : (d : Int) * (gcdI ws : Int) ∣ (gcdI ws : Int) := gcdI_great fun x hx => by
    obtain ⟨j, hj⟩ := List.getElem?_of_mem hx
    rw [← zc_at hj, ← primI_at]
    exact Int.mul_dvd_mul_right _ (hd j)
  have l := Int.le_of_dvd g this
  have d0 : d ≠ 0 := fun e => by
    rw [e] at this
    simp at this
    omega
  have l2 : (1 : Int) * (gcdI ws : Int) ≤ d * (gcdI ws : Int) := Int.mul_le_mul_of_nonneg_right (by omega) (by omega)
  have : (d : Int) * (gcdI ws : Int) = 1 * (gcdI ws : Int) := by omega
  have := Int.eq_of_mul_eq_mul_right (by omega) this
  omega
theorem primI_trim {ws : List Int} (h : trimI ws = ws) : trimI (primI ws) = primI ws := by
  by_cases w0 : ws = []
  · subst w0; rfl
  · have n := trim_last h w0
    have e := primI_at ws (ws.length - 1)
    have p0 : primI ws ≠ [] := fun e => w0 (by have := primI_len ws; rw [e] at this; exact List.length_eq_zero_iff.mp this.symm)
    obtain ⟨A, v, hv⟩ := snoc_of p0
    have ln := primI_len ws
    rw [hv] at e ln ⊢
    rw [List.length_append, List.length_singleton] at ln
    refine trimI_nz fun v0 => n ?_
    rw [← e, zc_app, if_pos (by omega), v0, Int.zero_mul]
theorem primI_le {ws : List Int} {N : Nat} (h : ∀ i, (zc ws i).natAbs ≤ N) (i : Nat) : (zc (primI ws) i).natAbs ≤ N := by
  have e := primI_at ws i
  have hi := h i
  by_cases z : (gcdI ws : Int) = 0
  · unfold primI
    rw [zc_map (· / (gcdI ws : Int)) (Int.zero_ediv _), z, Int.ediv_zero]; simp
  · rw [← e, Int.natAbs_mul] at hi
    have : (zc (primI ws) i).natAbs * 1 ≤ (zc (primI ws) i).natAbs * (gcdI ws : Int).natAbs := Nat.mul_le_mul_left _ (by omega)
    omega
def sp_whole_poly (C : Addr) : Sp := fun vs H Q _ => ∃ (x : V) (b : Int) (ws : List Int), vs = [x] ∧ PolyQ C H x (ratsOf b ws) ∧ 0 < b ∧ b < 2 ^ 30 ∧ trimI ws = ws ∧ (∀ i, (zc ws i).natAbs < 2 ^ 30) ∧ ws.length ≤ 49 ∧ ∀ c H', Same H H' → H c = none → H' c = some (.lst (VI (primI ws))) → Q (.ref c) H'
-- slots: poly 0, tops 1, _ 2; cells: 
abbrev s_whole_poly : Stmt := top 42
abbrev N_whole_poly : List Str := ["poly", "tops", "_"]
theorem sc_whole_poly : FnScope N_whole_poly ["poly"] (defScope s_whole_poly) := ⟨rfl, rfl, rfl, by decide +kernel, rfl, by decide +kernel, by decide +kernel⟩
theorem d_whole_poly (B : Bnd K mg "whole_poly" s_whole_poly) (M : Mg2 mg) (R : RCls K mg C fI fR)  (D_over_one_bottom : Def P w K mg base k "over_one_bottom" s_over_one_bottom ["numbers"] (sp_over_one C)) (D_primitive : Def P w K mg base k "primitive" s_primitive ["wholes"] (sp_primitive K)) (D_told : Def P w K mg base k "told" s_told ["poly"] (sp_told C)) : Def P w K mg base (k + 1) "whole_poly" s_whole_poly ["poly"] (sp_whole_poly C) := by
  refine def_of B sc_whole_poly (by rintro _ _ _ _ ⟨x, b, ws, rfl, _⟩; rfl) (fun _ _ _ _ _ _ us hl => match us, hl with | [_], _ => rfl) fun f cdv A outer s H vs Q E hr h => ?_
  obtain ⟨x, b, ws, rfl, hx, b0, b12, wt, wb, lw, q⟩ := h
  have hu := hr.units
  refine ⟨_, pss_cons (ps_asg (pe_d D_over_one_bottom hr (by rfl) (pa_cons (pe_d D_told hr (by rfl) (pa_cons (pv 0) pa_nil)) pa_nil)) (pg_tup rfl (pgs_cons (pg_name (i := 1) sc_whole_poly.nd rfl (.inl rfl)) (pgs_cons (pg_name (i := 2) sc_whole_poly.nd rfl (.inl rfl)) pgs_nil))))
    (pss_one (ps_ret (pe_d D_primitive hr (by rfl) (pa_cons (pv 1) pa_nil)))), ?_⟩
  refine ⟨_, rfl, x, 1, rfl, hx.1, hx.2.1, fun a1 H1 u1 s1 n1 h1 r1 => ?_⟩
  rw [hx.2.2] at r1
  have r1 : QL C H1 u1 (ratsOf b ws) := r1
  have bn : BN (2 ^ 30) ws := fun z hz => by
    obtain ⟨j, hj⟩ := List.getElem?_of_mem hz
    have := wb j
    rw [zc_at hj] at this
    exact Nat.le_of_lt this
  have lbb : LbI 31 b := by show b.natAbs < 2 ^ 31; omega
  refine ⟨a1, u1, ratsOf b ws, 31, 31, b.natAbs, rfl, h1, r1, by rw [ratsOf_len]; exact lw, allB_of bn (by decide) b0 lbb, by decide, by omega, lbb, by decide, ?_, fun t l H2 bo ts s2 ht hl bo0 lbo er btn => ?_⟩
  · intro x hx
    obtain ⟨z, hz, rfl⟩ := List.mem_map.mp hx
    rw [← Rat.divInt_eq_div, Rat.den_divInt, if_neg (by omega)]
    exact Nat.div_dvd_of_dvd (Int.natCast_dvd_natCast.mp (by rw [Int.dvd_natAbs]; exact Int.gcd_dvd_left ..))
  have ll : ts.length = ws.length := by have := congrArg List.length er; rwa [ratsOf_len, ratsOf_len] at this
  have cr := (cross_iff (b1 := bo) (b2 := b) (by omega) (by omega)).mpr er
  have eq : ∀ i, zc ts i * b = zc ws i * bo := fun i => by
    have := congrArg (fun l => zc l i) cr
    rwa [zc_map (fun z => z * b) (Int.zero_mul b), zc_map (fun z => z * bo) (Int.zero_mul bo)] at this
  refine ⟨t, _, rfl, SqT.of ht, rfl, _, _, rfl, _, _, rfl, rfl, ?_⟩
  refine ⟨_, rfl, l, ts, rfl, hl, by omega, fun z hz => ?_, fun c H3 s3 nc hc => ?_⟩
  · exact Nat.lt_of_le_of_lt (btn z hz) (Nat.pow_lt_pow_right (by decide) (by decide))
  refine q c H3 ((s1.trans s2).trans s3) ((s1.trans s2).free nc) ?_
  rw [hc]
  congr 2
  by_cases w0 : ws = []
  · subst w0
    obtain rfl := List.length_eq_zero_iff.mp ll
    rfl
  · have wn := ne_last wt w0
    have gp := gcdI_pos wn
    have pp := primI_prim wn
    exact congrArg VI (prim_tops pp b0 (Int.mul_pos gp bo0) (by rw [ll, primI_len]) pp.ne fun i => by
      rw [eq, ← primI_at ws i]; grind)
def sp_with_head_one (C : Addr) : Sp := fun vs H Q _ => ∃ (a : Addr) (zs : List Int), vs = [.ref a] ∧ H a = some (.lst (VI zs)) ∧ zs.length ≤ 200 ∧ (zs ≠ [] → zc zs (zs.length - 1) ≠ 0) ∧ (∀ x ∈ zs, LbI 4000 x) ∧ ∀ v H', Same H H' → NewQ C H H' v (ratsOf (zc zs (zs.length - 1)) zs) → Q v H'
-- slots: wholes 0, whole 1; cells: wholes
abbrev s_with_head_one : Stmt := top 43
abbrev N_with_head_one : List Str := ["wholes", "whole"]
theorem sc_with_head_one : FnScope N_with_head_one ["wholes"] (defScope s_with_head_one) := ⟨rfl, rfl, rfl, by decide +kernel, rfl, by decide +kernel, by decide +kernel⟩
theorem d_with_head_one (B : Bnd K mg "with_head_one" s_with_head_one) (M : Mg2 mg) (R : RCls K mg C fI fR) {kr : Nat} (DQ : RDefQ P w K mg base kr C) (hk : kr + 8 ≤ k)  : Def P w K mg base (k + 1) "with_head_one" s_with_head_one ["wholes"] (sp_with_head_one C) := by
  refine def_of B sc_with_head_one (by rintro _ _ _ _ ⟨a, zs, rfl, _⟩; rfl) (fun _ _ _ _ _ _ us hl => match us, hl with | [_], _ => rfl) fun f cdv A outer s H vs Q E hr h => ?_
  obtain ⟨a, zs, rfl, ha, lz, z0, bz, q⟩ := h
  have hu := hr.units
  refine ⟨_, pss_one (ps_ret (pe_lc (own := [("whole", 1)]) (g := (gName 1)) (tt := tYes) (te := (tRatQ C (tCons (tVar 1) (tCons (tOp (rIxL K) (tVar 0) (tUn _ (tC (.int 1)))) tNil)))) rfl sc_with_head_one.nd (pi_list (pv 0)) (blkOk_by (own := [("whole", 1)]) (N := N_with_head_one) (sc := defScope s_with_head_one) (by decide +kernel)) (fun _ _ _ _ _ => pg_name (i := 1) sc_with_head_one.nd rfl (.inl rfl)) (fun _ _ _ _ _ => pts_nil) (fun _ _ _ _ _ => pe_ratQ DQ (hr.mono (by omega)) (by rfl) (pa_cons (pv 1) (pa_cons (pe_ix (r := rIxL K) ix_list (pv 0) (pe_un un_neg pe_int) (fun _ _ => rfl)) pa_nil))))), ?_⟩
  have lv := vi_len zs
  refine ⟨_, rfl, a, rfl, ⟨_, SqL.of ha⟩, fun D nD => ?_⟩
  refine lc_rel (walk_list (K := K) (a := a) (xs := VI zs)) (fun i acc Hh => QL C Hh acc ((ratsOf (zc zs (zs.length - 1)) zs).take i)) nD (by rw [lv, sizeLine_eq]; omega) (fun Hh sh => SqL.of (sh _ _ ha)) QL.nil (fun i acc A B s r => RatL.same r s) (fun i v acc Ha Hb hi sa hA hr hy Yc Nc yc nc => ?_) (fun acc H4 s4 hD hr => ?_)
  · obtain ⟨rfl, hv⟩ := hy
    obtain ⟨z, hz, rfl⟩ := vi_at hv
    have zne : zs ≠ [] := fun e => by rw [e] at hz; cases hz
    have lb := zc_bound bz (zs.length - 1)
    refine ⟨rfl, _, rfl, _, rfl, 1, rfl, a, _, -1, _, rfl, rfl, SqL.of (sa _ _ ha), at_end zne, z, zc zs (zs.length - 1), rfl, z0 zne, lb.mono (by omega), fun c H4 nc s4 rc => yc _ H4 s4 ?_⟩
    have hx : (ratsOf (zc zs (zs.length - 1)) zs)[i]? = some ((z : Rat) / ((zc zs (zs.length - 1) : Int) : Rat)) := by unfold ratsOf; rw [List.getElem?_map, hz]; rfl
    rw [takeS hx]
    rw [Rat.divInt_eq_div] at rc
    exact QL.snoc (RatL.same hr (wo_mono s4)) (Rat2.wo rc (s4 _ _ hA))
  · rw [lv, List.take_of_length_le (by rw [ratsOf_len]; exact Nat.le_refl _)] at hr
    have hZ := RatL.same hr (wo_le (D := D))
    exact q _ H4 s4 ⟨D, acc, rfl, nD, hD, hZ⟩
end
end K21

namespace K21
open PySem PySem.Spec PyProof.Rows L2 Fp
section
variable {P : Program} {w : World} {K : PySem.W.Frag} {mg : Str → Option Value} {base : Heap} {k : Nat} {C fI fR : Addr}
/-- a polynomial that is handed in, its own numbers ws over b, and not too great -/
structure PoH (C : Addr) (H : Hp) (x : V) (b : Int) (ws : List Int) : Prop where
  p : PolyQ C H x (ratsOf b ws)
  b0 : 0 < b
  b12 : b < 2 ^ 30
  wt : trimI ws = ws
  wb : ∀ i, (zc ws i).natAbs < 2 ^ 30
  lw : ws.length ≤ 49
theorem PoH.same {H H' : Hp} {x : V} {b : Int} {ws : List Int} (h : PoH C H x b ws) (s : Same H H') : PoH C H' x b ws := ⟨h.p.same s, h.b0, h.b12, h.wt, h.wb, h.lw⟩
def ComG (xs ys G : List Int) : Prop := ((xs = [] ∨ ys = []) ∧ G = xs ++ ys) ∨ ∃ Cb, TrG xs ys G p521 L260 Cb
theorem timesI_z (xs ys : List Int) (n : Nat) : zc (timesI xs ys) n = zc (mulL xs ys) n := by
  rw [mulL_few (b := xs.length) fun k hk => zc_out hk]
  show (timesI xs ys).getD n 0 = _
  rw [timesI_getD]
  unfold prodI
  refine sumI_congr fun i hi => ?_
  rw [Int.mul_comm]
  show shI i ys n * zc xs i = _
  unfold shI
  by_cases h : i ≤ n
  · rw [if_neg (by omega), if_pos h]
    try rfl
  · rw [if_pos (by omega), if_neg h]
theorem NewQ.of {H H1 H2 : Hp} {v : V} {xs : List Rat} (h : NewQ C H1 H2 v xs) (s : Same H H1) : NewQ C H H2 v xs := let ⟨a, us, e, na, ha, hq⟩ := h; ⟨a, us, e, s.free na, ha, hq⟩
theorem L260_lt : L260 < 2 ^ 260 := by decide +kernel
theorem PoH.pl {H : Hp} {x : V} {b : Int} {ws : List Int} (h : PoH C H x b ws) : ∀ z ∈ primI ws, LbI 30 z := fun z hz => by
  obtain ⟨j, hj⟩ := List.getElem?_of_mem hz
  have := primI_le (ws := ws) (N := 2 ^ 30 - 1) (fun i => by have := h.wb i; omega) j
  rw [zc_at hj] at this
  show z.natAbs < 2 ^ 30
  omega
theorem ComG.ok {H H2 : Hp} {x y : V} {b1 b2 : Int} {ws1 ws2 G : List Int} (hx : PoH C H x b1 ws1) (hy : PoH C H2 y b2 ws2) (h : ComG (primI ws1) (primI ws2) G) : trimI G = G ∧ (∀ z ∈ G, LbI 4000 z) ∧ G.length ≤ 100 := by
  have l1 := hx.lw
  have l2 := hy.lw
  rcases h with ⟨e | e, rfl⟩ | ⟨Cb, tg⟩
  · rw [e, List.nil_append]
    exact ⟨primI_trim hy.wt, fun z hz => (hy.pl z hz).mono (by omega), by rw [primI_len]; omega⟩
  · rw [e, List.append_nil]
    exact ⟨primI_trim hx.wt, fun z hz => (hx.pl z hz).mono (by omega), by rw [primI_len]; omega⟩
  · obtain ⟨_, gi, _⟩ := tg.comb
    obtain ⟨A, eA⟩ := tg.gc.dA
    obtain ⟨a, _, la, _⟩ := tg.part tg.xt tg.x0 eA
    rw [primI_len] at la
    refine ⟨tg.gt, fun z hz => ?_, by omega⟩
    obtain ⟨j, hj⟩ := List.getElem?_of_mem hz
    have := gi j
    rw [zc_at hj] at this
    have l := L260_lt
    have h1 : LbI 260 z := Nat.lt_of_le_of_lt this l
    exact h1.mono (by omega)
def sp_common (C : Addr) : Sp := fun vs H Q _ => ∃ (x y : V) (b1 b2 : Int) (ws1 ws2 G : List Int), vs = [x, y] ∧ PoH C H x b1 ws1 ∧ PoH C H y b2 ws2 ∧ ComG (primI ws1) (primI ws2) G ∧ ∀ v H', Same H H' → NewQ C H H' v (ratsOf (zc G (G.length - 1)) G) → Q v H'
-- slots: poly 0, other 1, first 2, second 3; cells: 
abbrev s_common : Stmt := top 40
abbrev N_common : List Str := ["poly", "other", "first", "second"]
theorem sc_common : FnScope N_common ["poly", "other"] (defScope s_common) := ⟨rfl, rfl, rfl, by decide +kernel, rfl, by decide +kernel, by decide +kernel⟩
theorem d_common (B : Bnd K mg "common" s_common) (M : Mg2 mg) (R : RCls K mg C fI fR)  (D_whole_common : Def P w K mg base k "whole_common" s_whole_common ["first", "second"] (sp_whole_common K)) (D_whole_poly : Def P w K mg base k "whole_poly" s_whole_poly ["poly"] (sp_whole_poly C)) (D_with_head_one : Def P w K mg base k "with_head_one" s_with_head_one ["wholes"] (sp_with_head_one C)) : Def P w K mg base (k + 1) "common" s_common ["poly", "other"] (sp_common C) := by
  refine def_of B sc_common (by rintro _ _ _ _ ⟨x, y, b1, b2, ws1, ws2, G, rfl, _⟩; rfl) (fun _ _ _ _ _ _ us hl => match us, hl with | [_, _], _ => rfl) fun f cdv A outer s H vs Q E hr h => ?_
  obtain ⟨x, y, b1, b2, ws1, ws2, G, rfl, hx, hy, cg, q⟩ := h
  have hu := hr.units
  refine ⟨_, pss_cons (ps_set (i := 2) sc_common.nd rfl (.inl rfl) (pe_d D_whole_poly hr (by rfl) (pa_cons (pv 0) pa_nil)))
    (pss_cons (ps_set (i := 3) sc_common.nd rfl (.inl rfl) (pe_d D_whole_poly hr (by rfl) (pa_cons (pv 1) pa_nil)))
    (pss_one (ps_ret (pe_d D_with_head_one hr (by rfl) (pa_cons (pe_d D_whole_common hr (by rfl) (pa_cons (pv 2) (pa_cons (pv 3) pa_nil))) pa_nil))))), ?_⟩
  refine ⟨_, rfl, x, b1, ws1, rfl, hx.p, hx.b0, hx.b12, hx.wt, hx.wb, hx.lw, fun a H1 s1 na ha => ?_⟩
  have hy1 := hy.same s1
  refine ⟨_, rfl, y, b2, ws2, rfl, hy1.p, hy1.b0, hy1.b12, hy1.wt, hy1.wb, hy1.lw, fun b H2 s2 nb hb => ?_⟩
  have l1 := hx.lw
  have l2 := hy.lw
  refine ⟨_, rfl, _, rfl, a, b, primI ws1, primI ws2, G, rfl, s2 _ _ ha, hb, by rw [primI_len]; omega, by rw [primI_len]; omega, cg, fun c H3 s3 nc hc => ?_⟩
  obtain ⟨gt, gb, gl⟩ := cg.ok hx hy1
  exact ⟨c, G, rfl, hc, by omega, fun g0 => trim_last gt g0, gb, fun v H4 s4 nq => q v H4 (((s1.trans s2).trans s3).trans s4) (nq.of ((s1.trans s2).trans s3))⟩
end
end K21

namespace K21
open PySem PySem.Spec PyProof.Rows L2 Fp
section
variable {P : Program} {w : World} {K : PySem.W.Frag} {mg : Str → Option Value} {base : Heap} {k : Nat} {C fI fR : Addr}
theorem zc_ext {xs ys : List Int} (l : ys.length = xs.length) (h : ∀ n, zc ys n = zc xs n) : ys = xs := List.ext_getElem l fun n a b => by
  have := h n
  rwa [zc_at (List.getElem?_eq_getElem a), zc_at (List.getElem?_eq_getElem b)] at this
/-- what is known of one that is left: its common part with the other one, what is left then, what it leaves of the first one -/
structure PJ (X Y : List Int) (Cb : Nat) (J R : List Int → Prop) (L G A F : List Int) : Prop where
  fin : G.length = 1 → R F
  tg : TrG L Y G p521 L260 Cb
  l40 : L.length ≤ 40
  eA : ∀ n, zc L n = zc (mulL G A) n
  lA : A.length + G.length = L.length + 1
  nx : 1 < G.length → J A
  eF : ∀ n, zc X n = zc (mulL L F) n
  bF : ∀ i, LbI 4000 (zc F i)
/-- what may be left on the way -/
structure PartJ (X Y : List Int) (Cb : Nat) (J R : List Int → Prop) : Prop where
  start : J X
  step : ∀ L, J L → ∃ G A F, PJ X Y Cb J R L G A F
def sp_part_with (C : Addr) : Sp := fun vs H Q _ => ∃ (x y : V) (b1 b2 : Int) (ws1 ws2 : List Int) (Cb : Nat) (J R : List Int → Prop), vs = [x, y] ∧ PoH C H x b1 ws1 ∧ PoH C H y b2 ws2 ∧ PartJ (primI ws1) (primI ws2) Cb J R ∧
  ∀ v H' F F', Same H H' → R F → (∀ n, zc F' n = zc F n) → F' ≠ [] → zc F' (F'.length - 1) ≠ 0 → NewQ C H H' v (ratsOf (zc F' (F'.length - 1)) F') → Q v H'
def PLt (H : Hp) (v1 v2 : V) (f s : Addr) (X Y : List Int) (Cb : Nat) (J R : List Int → Prop) (mm : Nat) (σ : L2.St) (G' : Hp) : Prop := ∃ (l c : Addr) (L G A F : List Int), σ = [some v1, some v2, some (.ref f), some (.ref s), some (.ref l), some (.ref c)] ∧ mm = L.length ∧ Same H G' ∧ G' l = some (.lst (VI L)) ∧ G' c = some (.lst (VI G)) ∧ J L ∧ PJ X Y Cb J R L G A F
-- slots: poly 0, other 1, first 2, second 3, left 4, shared 5; cells: 
abbrev s_part_with : Stmt := top 41
abbrev N_part_with : List Str := ["poly", "other", "first", "second", "left", "shared"]
theorem sc_part_with : FnScope N_part_with ["poly", "other"] (defScope s_part_with) := ⟨rfl, rfl, rfl, by decide +kernel, rfl, by decide +kernel, by decide +kernel⟩
theorem d_part_with (B : Bnd K mg "part_with" s_part_with) (M : Mg2 mg) (R : RCls K mg C fI fR)  (D_whole_quotient : Def P w K mg base k "whole_quotient" s_whole_quotient ["first", "second"] (sp_whole_quotient K)) (D_whole_common : Def P w K mg base k "whole_common" s_whole_common ["first", "second"] (sp_whole_common K)) (D_whole_poly : Def P w K mg base k "whole_poly" s_whole_poly ["poly"] (sp_whole_poly C)) (D_with_head_one : Def P w K mg base k "with_head_one" s_with_head_one ["wholes"] (sp_with_head_one C)) : Def P w K mg base (k + 1) "part_with" s_part_with ["poly", "other"] (sp_part_with C) := by
  refine def_of B sc_part_with (by rintro _ _ _ _ ⟨x, y, b1, b2, ws1, ws2, Cb, J, R_, rfl, _⟩; rfl) (fun _ _ _ _ _ _ us hl => match us, hl with | [_, _], _ => rfl) fun f cdv A outer s H vs Q E hr h => ?_
  obtain ⟨x, y, b1, b2, ws1, ws2, Cb, J, R_, rfl, hx, hy, pj, q⟩ := h
  have hu := hr.units
  refine ⟨_, pss_cons (ps_set (i := 2) sc_part_with.nd rfl (.inl rfl) (pe_d D_whole_poly hr (by rfl) (pa_cons (pv 0) pa_nil)))
    (pss_cons (ps_set (i := 3) sc_part_with.nd rfl (.inl rfl) (pe_d D_whole_poly hr (by rfl) (pa_cons (pv 1) pa_nil)))
    (pss_cons (ps_if (PW.pt (pw_or (pt_not (pt_truth (pv 2) (by intro _; rfl))) (pw_or1 (pt_not (pt_truth (pv 3) (by intro _; rfl)))))) pss_never pss_nil)
    (pss_cons (ps_set (i := 4) sc_part_with.nd rfl (.inl rfl) (pv 2))
    (pss_cons (ps_set (i := 5) sc_part_with.nd rfl (.inl rfl) (pe_d D_whole_common hr (by rfl) (pa_cons (pv 4) (pa_cons (pv 3) pa_nil))))
    (pss_cons (ps_while PassesOwn.never (pt_cmpR op_gt (pe_callB call_len_seq (by rfl) M.len boot_len (pa_cons (pv 5) pa_nil)) pe_int (nomark _))
      (pss_cons (ps_set (i := 4) sc_part_with.nd rfl (.inl rfl) (pe_d D_whole_quotient hr (by rfl) (pa_cons (pv 4) (pa_cons (pv 5) pa_nil))))
      (pss_one (ps_set (i := 5) sc_part_with.nd rfl (.inl rfl) (pe_d D_whole_common hr (by rfl) (pa_cons (pv 4) (pa_cons (pv 3) pa_nil)))))))
    (pss_one (ps_ret (pe_d D_with_head_one hr (by rfl) (pa_cons (pe_d D_whole_quotient hr (by rfl) (pa_cons (pv 2) (pa_cons (pv 4) pa_nil))) pa_nil))))))))), ?_⟩
  refine ⟨_, rfl, x, b1, ws1, rfl, hx.p, hx.b0, hx.b12, hx.wt, hx.wb, hx.lw, fun a H1 s1 na ha => ?_⟩
  have hy1 := hy.same s1
  refine ⟨_, rfl, y, b2, ws2, rfl, hy1.p, hy1.b0, hy1.b12, hy1.wt, hy1.wb, hy1.lw, fun b H2 s2 nb hb => ?_⟩
  have l1 := hx.lw
  have l2 := hy.lw
  have p1 := primI_len ws1
  have p2 := primI_len ws2
  have ha2 := s2 _ _ ha
  obtain ⟨G0, A0, F0, P0⟩ := pj.step _ pj.start
  have x0 := P0.tg.x0
  have y0 := P0.tg.y0
  have px := hx.pl
  have xt := P0.tg.xt
  refine ⟨_, rfl, true, .inl ⟨_, SqL.of ha2, by cases h : primI ws1; exact absurd h x0; rfl⟩, iteF ⟨_, rfl, true, .inl ⟨_, SqL.of hb, by cases h : primI ws2; exact absurd h y0; rfl⟩, iteF ?_⟩⟩
  generalize primI ws1 = X at *
  generalize primI ws2 = Y at *
  have lx := List.length_pos_iff.mpr x0
  have xl := trim_last xt x0
  refine ⟨_, rfl, _, rfl, _, rfl, a, b, X, Y, G0, rfl, ha2, hb, by omega, by omega, .inr ⟨Cb, P0.tg⟩, fun c H3 s3 nc hc => ?_⟩
  refine ⟨PLt H2 x y a b X Y Cb J R_, ⟨X.length, a, c, X, G0, A0, F0, rfl, rfl, s3, s3 _ _ ha2, hc, pj.start, P0⟩, ?_⟩
  rintro mm σ G' ⟨l, c1, L, G, A, F, rfl, rfl, sm, hl, hc1, hJ, P⟩
  have lvG := vi_len G
  have tg := P.tg
  have L0 := tg.x0
  have Lt := trim_last tg.xt L0
  have lL := List.length_pos_iff.mpr L0
  have g0 := tg.g0
  have gl := tg.gl
  have lG := List.length_pos_iff.mpr g0
  have lA := P.lA
  obtain ⟨da, _, la, _⟩ := tg.part tg.xt tg.x0 P.eA
  have l40 := P.l40
  have p521b := tg.bp
  obtain ⟨_, gi, LLp⟩ := tg.comb
  have lb : ∀ {X : List Int}, (∀ i, (zc X i).natAbs ≤ L260) → ∀ x ∈ X, LbI 4000 x := fun {X} h x hx => by
    obtain ⟨j, hj⟩ := List.getElem?_of_mem hx
    have := h j
    rw [zc_at hj] at this
    have l := L260_lt
    exact LbI.mono (n := 260) (Nat.lt_of_le_of_lt this l) (by omega)
  have bL : ∀ i, (zc L i).natAbs ≤ L260 := fun i => Nat.le_trans (tg.bx i) tg.cbL
  refine ⟨_, rfl, c1, _, rfl, .inl (SqL.of hc1), _, _, rfl, rfl, _, rfl, ite2 (fun z => ?_) (fun z => ?_)⟩
  · have hG1 : 1 < G.length := by have := of_decide_eq_true z; omega
    refine ⟨fun σ' G' => ∃ m', m' < L.length ∧ PLt H2 x y a b X Y Cb J R_ m' σ' G', fun _ _ h => h, ?_⟩
    refine ⟨_, rfl, _, rfl, l, c1, L, G, A, 4000, 4000, 0, rfl, hl, hc1, g0, by omega, by omega, by omega, lb bL, lb gi, by omega, by omega, P.eA, fun c2 H4 qs s4 n4 h4 lq eq => ?_⟩
    have eqs : qs = A := zc_ext (by omega) eq
    subst eqs
    have hJ2 := P.nx hG1
    obtain ⟨G2, A2, F2, P2⟩ := pj.step _ hJ2
    have sA := sm.trans s4
    refine ⟨_, rfl, _, rfl, c2, b, qs, Y, G2, rfl, h4, sA _ _ hb, by omega, by omega, .inr ⟨Cb, P2.tg⟩, fun c3 H5 s5 n5 h5 => ?_⟩
    exact ⟨qs.length, by omega, c2, c3, qs, G2, A2, F2, rfl, rfl, sA.trans s5, s5 _ _ h4, h5, hJ2, P2⟩
  · have hG1 : G.length = 1 := by
      have : ¬ 1 < G.length := fun e => z (decide_eq_true (by omega))
      omega
    have ha3 := sm _ _ ha2
    have dX := degM_last x0 xl
    have dL := degM_last L0 Lt
    obtain ⟨f, hf⟩ := degM_ex (q := 0) (P := F) (Classical.not_forall.mp fun c => xl (by
      rw [P.eF, mulL_sum]; exact sumI_none fun k hk => by rw [Int.zero_dvd.mp (c _), Int.mul_zero]))
    have dg := degM_fn ((EqM.of (q := 0) P.eF).deg dX) (degM_mul prI_zero dL hf)
    refine ⟨_, rfl, _, rfl, a, l, X, L, F, 30, 4000, 0, rfl, ha3, hl, L0, Lt, by omega, by omega, px, lb bL, by omega, by omega, P.eF, fun c2 H4 qs s4 n4 h4 lq eq => ?_⟩
    have hq : zc qs (qs.length - 1) ≠ 0 := by rw [eq, show qs.length - 1 = f by omega]; exact hf.zero.1
    refine ⟨c2, qs, rfl, h4, by omega, fun _ => hq, fun z hz => ?_, fun v H5 s5 nq => ?_⟩
    · obtain ⟨j, hj⟩ := List.getElem?_of_mem hz
      rw [← zc_at hj, eq]; exact P.bF j
    · exact q v H5 F qs ((((s1.trans s2).trans sm).trans s4).trans s5) (P.fin hG1) eq (fun e => by rw [e] at lq; simp at lq; omega) hq (nq.of (((s1.trans s2).trans sm).trans s4))
end
end K21

namespace K21
open PySem PySem.Spec PyProof.Rows L2 Fp
section
variable {P : Program} {w : World} {K : PySem.W.Frag} {mg : Str → Option Value} {base : Heap} {k : Nat} {C fI fR : Addr}
/-- small enough to reckon with -/
def Fit (D : Int) (M : Nat) : Prop := D ≠ 0 ∧ LbI 4000 D ∧ M < 2 ^ 4000
def FitN (D s : Int) (M G T : Nat) : Prop := ∀ e, e ≤ T → Fit (D * s ^ e) (M * G ^ e)
theorem Fit.all {D : Int} {M : Nat} {xs : List Rat} (h : Fit D M) (g : AllS D M xs) : AllB 4000 xs := g.bits h.1 h.2.1 h.2.2
theorem Fit.one {D : Int} {M : Nat} {x : Rat} (h : Fit D M) (g : Sc D M x) : Bits 4000 x := g.bits h.1 h.2.1 h.2.2
def sp_qr (C : Addr) : Sp := fun vs H Q _ => ∃ (l1 l2 : Addr) (us ws : List V) (xs ys : List Rat) (D E s : Int) (M S : Nat), vs = [.ref l1, .ref l2] ∧ H l1 = some (.lst us) ∧ H l2 = some (.lst ws) ∧ QL C H us xs ∧ QL C H ws ys ∧ Told xs ∧ ByQ E s S ys ∧ AllS D M xs ∧ LbI 100 E ∧ S < 2 ^ 100 ∧
  FitN D s M (2 * S * E.natAbs) (xs.length + 1 - ys.length) ∧ xs.length ≤ 49 ∧ ∀ (t a1 a2 : Addr) (H' : Hp) (u1 u2 : List V) (qs rs : List Rat), Same H H' → H t = none → H a1 = none → H a2 = none → H' t = some (.tup [.ref a1, .ref a2]) → H' a1 = some (.lst u1) → H' a2 = some (.lst u2) → QL C H' u1 qs → QL C H' u2 rs → DivS xs ys D E s M S qs rs → Q (.ref t) H'
/-- how it stands at the loop's head -/
def QSt (C : Addr) (H : Hp) (l1 l2 D : Addr) (xs ys : List Rat) (E0 E s : Int) (M S : Nat) (mm : Nat) (σ : L2.St) (G : Hp) : Prop := ∃ (l3 : Addr) (rv qv : List V) (xs' qs : List Rat) (o4 o5 o6 : Option V), σ = [some (.ref l1), some (.ref l2), some (.ref D), some (.ref l3), o4, o5, o6, none, none] ∧ mm = xs'.length ∧ Same H (wo D G) ∧ G D = some (.lst qv) ∧ QL C (wo D G) qv qs ∧ (wo D G) l3 = some (.lst rv) ∧ QL C (wo D G) rv xs' ∧ QSt2 xs ys E0 E s M S xs' qs
-- slots: first 0, second 1, quotient 2, rest 3, part 4, place 5, high 6, one 7, two 8; cells: part
abbrev s_quotient_and_rest : Stmt := top 38
abbrev N_quotient_and_rest : List Str := ["first", "second", "quotient", "rest", "part", "place", "high", "one", "two"]
theorem sc_quotient_and_rest : FnScope N_quotient_and_rest ["first", "second"] (defScope s_quotient_and_rest) := ⟨rfl, rfl, rfl, by decide +kernel, rfl, by decide +kernel, by decide +kernel⟩
theorem d_quotient_and_rest (B : Bnd K mg "quotient_and_rest" s_quotient_and_rest) (M : Mg2 mg) (R : RCls K mg C fI fR) {kr : Nat} (SU : BinX P w K mg base kr C .Sub (spSubQ C)) (MU : BinX P w K mg base kr C .Mult (spMulQ C)) (OV : C8.Met P w K mg base kr C "over" (spOverQ C) []) (hk : kr + 8 ≤ k) (D_trimmed : Def P w K mg base k "trimmed" s_trimmed ["numbers"] (sp_trimmed C)) : Def P w K mg base (k + 1) "quotient_and_rest" s_quotient_and_rest ["first", "second"] (sp_qr C) := by
  refine def_of B sc_quotient_and_rest (by rintro _ _ _ _ ⟨l1, l2, us, ws, xs, ys, E0, E1, sg, nM, nS, rfl, _⟩; rfl) (fun _ _ _ _ _ _ us hl => match us, hl with | [_, _], _ => rfl) fun f cdv A outer s H vs Q E hr h => ?_
  obtain ⟨l1, l2, us, ws, xs, ys, E0, E1, sg, nM, nS, rfl, h1, h2, R1, R2, tx, B, bx, eL, sL, fit, lx, q⟩ := h
  have hu := hr.units
  refine ⟨_, pss_cons (ps_par (i := 2) (j := 3) rfl sc_quotient_and_rest.nd rfl rfl (by decide) rfl rfl (pa_cons (pe_lst pa_nil) (pa_cons (pv 0) pa_nil)) (by rfl))
    (pss_cons (ps_while PassesOwn.never (pt_cmpR op_ge (pe_callB call_len_seq (by rfl) M.len boot_len (pa_cons (pv 3) pa_nil)) (pe_callB call_len_seq (by rfl) M.len boot_len (pa_cons (pv 1) pa_nil)) (nomark _))
      (pss_cons (ps_set (i := 4) sc_quotient_and_rest.nd rfl (.inr rfl) (C8.pe_mt OV (hr.mono (by omega)) (Nat.le_refl _) (pe_ix (r := rIxL K) ix_list (pv 3) (pe_un un_neg pe_int) (fun _ _ => rfl)) (pa_cons (pe_ix (r := rIxL K) ix_list (pv 1) (pe_un un_neg pe_int) (fun _ _ => rfl)) pa_nil)))
      (pss_cons (ps_set (i := 5) sc_quotient_and_rest.nd rfl (.inl rfl) (pe_op op_sub (pe_callB call_len_seq (by rfl) M.len boot_len (pa_cons (pv 3) pa_nil)) (pe_callB call_len_seq (by rfl) M.len boot_len (pa_cons (pv 1) pa_nil))))
      (pss_cons (ps_setLc (i := 6) (own := [("one", 7), ("two", 8)]) (g := (gTup K 2 (gCons (gName 7) (gCons (gName 8) gNil)))) (tt := tYes) (te := (tOp (rOwn C (spSubQ C)) (tVar 7) (tOp (rOwn C (spMulQ C)) (tVar 4) (tVar 8)))) rfl sc_quotient_and_rest.nd rfl rfl (sw_true rfl rfl rfl (by decide +kernel)) (pi_zipS (by rfl) M.zip (pa_cons (pe_slice (r := rSlL K) sl_list (pv 3) (po_some (pv 5)) po_none) (pa_cons (pv 1) pa_nil))) (blkOk_by (own := [("one", 7), ("two", 8)]) (N := N_quotient_and_rest) (sc := defScope s_quotient_and_rest) (by decide +kernel)) (fun _ _ _ _ _ => pg_tup rfl (pgs_cons (pg_name (i := 7) sc_quotient_and_rest.nd rfl (.inl rfl)) (pgs_cons (pg_name (i := 8) sc_quotient_and_rest.nd rfl (.inl rfl)) pgs_nil))) (fun _ _ _ _ _ => pts_nil) (fun _ _ _ _ _ => pe_op (op_ownX SU (hr.mono (by omega))) (pv 7) (pe_op (op_ownX MU (hr.mono (by omega))) (pv 4) (pv 8))))
      (pss_cons (ps_set (i := 3) sc_quotient_and_rest.nd rfl (.inl rfl) (pe_op op_cat (pe_slice (r := rSlL K) sl_list (pv 3) po_none (po_some (pv 5))) (pe_slice (r := rSlL K) sl_list (pv 6) po_none (po_some (pe_un un_neg pe_int)))))
      (pss_one (ps_expr (pe_bm PySem.F.plainAttrs_list PySem.F.slot_list_append PySem.F.type_list_append mt_append (pv 2) (pa_cons (pv 4) pa_nil)))))))))
    (pss_one (ps_ret (pe_tup (pa_cons (pe_revL (pv 2)) (pa_cons (pe_d D_trimmed hr (by rfl) (pa_cons (pv 3) pa_nil)) pa_nil)))))), ?_⟩
  have y0 := B.ne
  have ty := B.told
  have by_ : AllB 100 ys := B.sc.bits B.E0 eL sL
  refine ⟨Nat.zero_le _, fun D nD => ⟨_, rfl, _, _, rfl, ?_⟩⟩
  refine ⟨QSt C H l1 l2 D xs ys E0 E1 sg nM nS, ⟨xs.length, l1, us, [], xs, [], none, none, none, rfl, rfl, same_wo nD (same_new nD), upd_same, QL.nil, ?_, ?_, QSt2.start bx⟩, ?_⟩
  · exact same_wo nD (same_new nD) _ _ h1
  · exact RatL.same R1 (same_wo nD (same_new nD))
  rintro mm σ G ⟨l3, rv, qv, xs', qs, o4, o5, o6, rfl, rfl, sm, hD, hQ, h3, hR, I⟩
  have g3 : G l3 = some (.lst rv) := wo_le _ _ h3
  have sG : Same H G := sm.trans wo_le
  have g2 := sG _ _ h2
  have l3n := hR.len
  have l2n := R2.len
  have ly : 0 < ys.length := List.length_pos_iff.mpr y0
  have ll := I.len
  refine ⟨_, rfl, l3, rv, rfl, .inl (SqL.of g3), _, rfl, l2, ws, rfl, .inl (SqL.of g2), _, _, rfl, rfl, _, rfl, ite2 (fun z => ?_) (fun z => ?_)⟩
  · have hl : ys.length ≤ xs'.length := by have := of_decide_eq_true z; omega
    have t0 := told_top ty y0
    have x0 : xs' ≠ [] := fun z => by rw [z] at hl; exact absurd (Nat.le_zero.mp hl) (by omega)
    have ep : (rv.length : Int) - (ws.length : Int) = ((xs'.length - ys.length : Nat) : Int) := by omega
    refine ⟨fun σ' G' => ∃ m', m' < xs'.length ∧ QSt C H l1 l2 D xs ys E0 E1 sg nM nS m' σ' G', fun _ _ h => h, ?_⟩
    have a1 : rv[xs'.length - 1]? = some (rv[xs'.length - 1]'(by omega)) := List.getElem?_eq_getElem _
    have a2 : ws[ys.length - 1]? = some (ws[ys.length - 1]'(by omega)) := List.getElem?_eq_getElem _
    have e1 : atI rv (-1) = some (rv[xs'.length - 1]'(by omega)) := by
      obtain ⟨A, v, e⟩ := snoc_of (l := rv) (fun z => by rw [z] at l3n; simp at l3n; omega)
      subst e
      rw [atI_last]
      congr 1
      rw [List.length_append, List.length_singleton] at l3n
      rw [List.getElem_append_right (by omega)]
      simp
    have e2 : atI ws (-1) = some (ws[ys.length - 1]'(by omega)) := by
      obtain ⟨A, v, e⟩ := snoc_of (l := ws) (fun z => by rw [z] at l2n; simp at l2n; omega)
      subst e
      rw [atI_last]
      congr 1
      rw [List.length_append, List.length_singleton] at l2n
      rw [List.getElem_append_right (by omega)]
      simp
    obtain ⟨x, ax, gx, ex, rx⟩ := hR.at a1
    obtain ⟨y, ay, gy, ey, ry⟩ := QL.at (RatL.same R2 sm) a2
    have cx : co xs' (xs'.length - 1) = x := co_at gx
    have cy : co ys (ys.length - 1) = y := co_at gy
    have fq := fit qs.length (by omega)
    have mono : nM * (2 * nS) ^ qs.length ≤ nM * (2 * nS * E1.natAbs) ^ qs.length := Nat.mul_le_mul_left _ (Nat.pow_le_pow_left (Nat.le_mul_of_pos_right _ (by have := B.E0; omega)) _)
    have bA : AllB 4000 xs' := fun z hz => fq.one ((I.bx z hz).mono mono)
    have bX : Bits 4000 x := bA x (List.mem_of_getElem? gx)
    have bY : Bits 100 y := by_ y (List.mem_of_getElem? gy)
    have y00 : y ≠ 0 := by rw [← cy]; exact t0
    rw [ex] at e1
    rw [ey] at e2
    obtain ⟨dx, rx2⟩ := id (rx.same wo_le)
    have IS := I.step B hl tx
    rw [cx, cy] at IS
    have bP : Bits 4000 (x / y) := (fit (qs ++ [x / y]).length (by rw [List.length_append, List.length_singleton]; omega)).one (IS.bq (x / y) (List.mem_append_right _ (List.mem_singleton.mpr rfl)))
    refine ⟨_, rfl, 1, rfl, l3, _, -1, _, rfl, rfl, SqL.of g3, e1, ax, dx, _, rfl, rx2, rfl, _, rfl, 1, rfl, l2, _, -1, _, rfl, rfl, SqL.of g2, e2, ax, _, x, y, 4000, 100, rfl, rx.same wo_le, (ry.same wo_le).nq, bX, bY, by omega, y00, fun p G1 s1 rp => ?_⟩
    refine ⟨_, rfl, l3, rv, rfl, .inl (SqL.of (s1 _ _ g3)), _, rfl, l2, ws, rfl, .inl (SqL.of (s1 _ _ g2)), _, _, rfl, rfl, ?_⟩
    dsimp only
    rw [ep]
    have sm1 := wo_mono (D := D) s1
    refine ⟨_, rfl, _, rfl, _, rfl, l3, rv, rfl, SqL.of (s1 _ _ g3), fun cs nc => ?_⟩
    rw [cut_from]
    have sc := same_new (o := .lst (rv.drop (xs'.length - ys.length))) nc
    have s2 := s1.trans sc
    have hc : (upd G1 cs (.lst (rv.drop (xs'.length - ys.length)))) cs = some (.lst (rv.drop (xs'.length - ys.length))) := upd_same
    generalize upd G1 cs (.lst (rv.drop (xs'.length - ys.length))) = G2 at *
    have hd := QL.drop (RatL.same hR (wo_le.trans s2)) (xs'.length - ys.length)
    have hy := RatL.same R2 (sG.trans s2)
    have rp2 := rp.same sc
    obtain ⟨dp, rp3⟩ := id rp2
    obtain ⟨κ1, k1⟩ := sqk_of (sq_lst (K := K) hc)
    obtain ⟨κ2, k2⟩ := sqk_of (sq_lst (K := K) (s2 _ _ g2))
    have hzl : (List.zipWith (fun a b => a - x / y * b) (xs'.drop (xs'.length - ys.length)) ys).length = ys.length := by rw [List.length_zipWith, List.length_drop]; omega
    refine ⟨_, rfl, cs, l2, _, ws, κ1, κ2, rfl, k1, k2, fun D2 hD2 => ?_⟩
    refine lc_rel (walk_zipS (n := ys.length) (by rw [List.length_drop]; omega)) (fun i acc Hh => QL C Hh acc ((List.zipWith (fun a b => a - x / y * b) (xs'.drop (xs'.length - ys.length)) ys).take i)) hD2 (by rw [sizeLine_eq]; omega) (fun Hh sh => ⟨k1.same sh, k2.same sh⟩) QL.nil (fun i acc A B s r => RatL.same r s) (fun i v acc Ha Hb hi sa ha hr hy2 Yc Nc yc nc => ?_) (fun acc H' sH ha hr => ?_)
    · obtain ⟨Tt, v1, v2, rfl, nT, rfl, hx1, hx2⟩ := hy2
      obtain ⟨x1, c1, q1, rfl, w1⟩ := QL.at hd hx1
      obtain ⟨x2, c2, q2, rfl, w2⟩ := QL.at hy hx2
      have sT := same_new (o := .tup [V.ref c1, V.ref c2]) nT
      have sb := sa.trans sT
      have bx1 : Bits 4000 x1 := bA x1 (List.mem_of_mem_drop (List.mem_of_getElem? q1))
      have bx2 : Bits 100 x2 := by_ x2 (List.mem_of_getElem? q2)
      obtain ⟨d1, w1b⟩ := id (w1.same sb)
      refine ⟨Tt, _, rfl, SqT.of upd_same, rfl, _, _, rfl, _, _, rfl, rfl, rfl, _, rfl, _, rfl, _, rfl, p, dp, _, rfl, sb _ _ rp3, (w2.same sb).nq.own, p, _, x / y, x2, 4000, 100, rfl, rp2.same sb, (w2.same sb).nq, bP, bx2, by omega, fun r1 H4 s4 rr => ⟨⟨r1, rfl⟩, ?_⟩⟩
      refine ⟨c1, d1, _, rfl, s4 _ _ w1b, rr.nq.own, c1, _, x1, x / y * x2, 4000, 4100, rfl, (w1.same sb).same s4, rr.nq, bx1, bP.mul bx2, by omega, fun r2 H5 s5 rr2 => ⟨⟨r2, rfl⟩, yc _ H5 ((sT.trans s4).trans s5) ?_⟩⟩
      have hD5 := ((sT.trans s4).trans s5) _ _ ha
      rw [takeS (show (List.zipWith (fun a b => a - x / y * b) (xs'.drop (xs'.length - ys.length)) ys)[i]? = some (x1 - x / y * x2) by rw [List.getElem?_zipWith, q1, q2])]
      exact QL.snoc (RatL.same hr (wo_mono ((sT.trans s4).trans s5))) (Rat2.wo rr2 hD5)
    · rw [List.take_of_length_le (Nat.le_of_eq hzl)] at hr
      have hr2 := RatL.same hr (wo_le (D := D2))
      have s3 := s2.trans sH
      have ln : acc.length = ys.length := by rw [QL.len hr2, hzl]
      have hcut : cutV acc none (some (-1)) = acc.dropLast := by
        obtain ⟨A, v, e⟩ := snoc_of (l := acc) (fun z => by rw [z] at ln; simp at ln; omega)
        rw [e, cut_last, List.dropLast_concat]
      refine ⟨_, rfl, _, rfl, _, rfl, l3, rv, rfl, SqL.of (s3 _ _ g3), fun c1 n1 => ?_⟩
      rw [cut_to]
      have t1 := same_new (o := .lst (rv.take (xs'.length - ys.length))) n1
      refine ⟨_, rfl, 1, rfl, _, rfl, D2, acc, rfl, SqL.of (t1 _ _ ha), fun c2 n2 => ?_⟩
      rw [hcut]
      have t2 := same_new (o := .lst acc.dropLast) n2
      refine ⟨c1, c2, _, _, rfl, rfl, t2 _ _ upd_same, upd_same, by rw [List.length_take, List.length_dropLast, sizeLine_eq]; omega, fun c3 n3 => ?_⟩
      have t3 := same_new (o := .lst (rv.take (xs'.length - ys.length) ++ acc.dropLast)) n3
      have h3' : (upd (upd (upd H' c1 (.lst (rv.take (xs'.length - ys.length)))) c2 (.lst acc.dropLast)) c3 (.lst (rv.take (xs'.length - ys.length) ++ acc.dropLast))) c3 = some (.lst (rv.take (xs'.length - ys.length) ++ acc.dropLast)) := upd_same
      have sG3 := ((s3.trans t1).trans t2).trans t3
      have sH3 := (t1.trans t2).trans t3
      have nc3 : G c3 = none := ((s3.trans t1).trans t2).free n3
      generalize upd (upd (upd H' c1 (.lst (rv.take (xs'.length - ys.length)))) c2 (.lst acc.dropLast)) c3 (.lst (rv.take (xs'.length - ys.length) ++ acc.dropLast)) = G3 at *
      have hD3 := sG3 _ _ hD
      have n3D : c3 ≠ D := fun z => by rw [z, hD] at nc3; cases nc3
      have ll3 := hQ.len
      refine ⟨_, rfl, Or.inl ⟨rfl, _, SqL.of hD3⟩, _, rfl, D, qv, .ref p, rfl, rfl, hD3, by rw [sizeLine_eq]; omega, ?_⟩
      refine ⟨(restOf (x / y) ys xs').length, by rw [restOf_len ly hl]; omega, c3, rv.take (xs'.length - ys.length) ++ acc.dropLast, qv ++ [.ref p], restOf (x / y) ys xs', qs ++ [x / y], _, _, _, rfl, rfl, ?_, upd_same, ?_, ?_, ?_, IS⟩
      · rw [wo_upd]; exact sm.trans (wo_mono sG3)
      · rw [wo_upd]; exact QL.snoc (RatL.same hQ (wo_mono sG3)) (Rat2.wo (rp2.same (sH.trans sH3)) hD3)
      · rw [wo_upd, wo_ne n3D]; exact h3'
      · rw [wo_upd]
        refine K21.RatL.wo (QL.app (QL.take (RatL.same hR (wo_le.trans sG3)) _) (QL.dropLast (RatL.same hr2 sH3))) hD3
  · have hl : xs'.length < ys.length := by
      by_cases e : xs'.length < ys.length
      · exact e
      · exact absurd (decide_eq_true (by omega)) z
    have dv := I.done B hl
    refine ⟨_, rfl, D, qv, rfl, SqL.of hD, fun c1 n1 => ?_⟩
    have s1 := same_new (o := .lst qv.reverse) n1
    refine ⟨_, rfl, l3, rv, xs'.map nd, rfl, s1 _ _ g3, RatL.same hR (wo_le.trans s1), by omega, fun a2 H2 w2 s2 n2 h2' R2' => ?_⟩
    rw [trimP_nd] at R2'
    refine ⟨by show 2 ≤ sizeLine; decide, fun t nt => ?_⟩
    have s3 := same_new (o := .tup [V.ref c1, V.ref a2]) nt
    have sA := (s1.trans s2).trans s3
    exact q t c1 a2 _ qv.reverse w2 qs.reverse (trimQ xs') (sG.trans sA) ((sG.trans (s1.trans s2)).free nt) (sG.free n1) ((sG.trans s1).free n2) upd_same (s3 _ _ (s2 _ _ upd_same)) (s3 _ _ h2') (RatL.same (QL.rev hQ) (wo_le.trans sA)) (RatL.same R2' s3) dv
def sp_divided (C : Addr) : Sp := fun vs H Q _ => ∃ (x y : V) (xs ys : List Rat) (D E s : Int) (M S : Nat), vs = [x, y] ∧ PolyQ C H x xs ∧ PolyQ C H y ys ∧ Told xs ∧ ByQ E s S ys ∧ AllS D M xs ∧ LbI 100 E ∧ S < 2 ^ 100 ∧
  FitN D s M (2 * S * E.natAbs) (xs.length + 1 - ys.length) ∧ xs.length ≤ 49 ∧ ∀ (t a1 a2 : Addr) (H' : Hp) (u1 u2 : List V) (qs rs : List Rat), Same H H' → H t = none → H a1 = none → H a2 = none → H' t = some (.tup [.ref a1, .ref a2]) → H' a1 = some (.lst u1) → H' a2 = some (.lst u2) → QL C H' u1 qs → QL C H' u2 rs → DivS xs ys D E s M S qs rs → Q (.ref t) H'
-- slots: poly 0, other 1, first 2, second 3; cells: 
abbrev s_divided : Stmt := top 36
abbrev N_divided : List Str := ["poly", "other", "first", "second"]
theorem sc_divided : FnScope N_divided ["poly", "other"] (defScope s_divided) := ⟨rfl, rfl, rfl, by decide +kernel, rfl, by decide +kernel, by decide +kernel⟩
theorem d_divided (B : Bnd K mg "divided" s_divided) (M : Mg2 mg) (R : RCls K mg C fI fR) (D_told : Def P w K mg base k "told" s_told ["poly"] (sp_told C)) (D_quotient_and_rest : Def P w K mg base k "quotient_and_rest" s_quotient_and_rest ["first", "second"] (sp_qr C)) : Def P w K mg base (k + 1) "divided" s_divided ["poly", "other"] (sp_divided C) := by
  refine def_of B sc_divided (by rintro _ _ _ _ ⟨x, y, xs, ys, D, E1, sg, nM, nS, rfl, _⟩; rfl) (fun _ _ _ _ _ _ us hl => match us, hl with | [_, _], _ => rfl) fun f cdv A outer s H vs Q E hr h => ?_
  obtain ⟨x, y, xs, ys, D, E1, sg, nM, nS, rfl, hx, hy, tx, B, bx, eL, sL, fit, lx, q⟩ := h
  have hu := hr.units
  refine ⟨_, pss_cons (ps_set (i := 2) sc_divided.nd rfl (.inl rfl) (pe_d D_told hr (by rfl) (pa_cons (pv 0) pa_nil)))
    (pss_cons (ps_set (i := 3) sc_divided.nd rfl (.inl rfl) (pe_d D_told hr (by rfl) (pa_cons (pv 1) pa_nil)))
    (pss_cons (ps_if (pt_not (pt_truth (pv 3) (by intro _; rfl))) pss_never pss_nil)
    (pss_one (ps_ret (pe_d D_quotient_and_rest hr (by rfl) (pa_cons (pv 2) (pa_cons (pv 3) pa_nil))))))), ?_⟩
  refine ⟨_, rfl, x, 1, rfl, hx.1, hx.2.1, fun a1 H1 u1 s1 n1 h1 r1 => ?_⟩
  have hy1 := hy.same s1
  rw [hx.2.2] at r1
  refine ⟨_, rfl, y, 1, rfl, hy1.1, hy1.2.1, fun a2 H2 u2 s2 n2 h2 r2 => ?_⟩
  rw [hy1.2.2] at r2
  have l2 := QL.len r2
  have y0 := B.ne
  have ly : 0 < ys.length := List.length_pos_iff.mpr y0
  have ne : u2.isEmpty = false := by
    cases u2 with
    | nil => simp at l2; omega
    | cons _ _ => rfl
  refine ⟨_, rfl, true, .inl ⟨u2, SqL.of h2, by rw [ne]; rfl⟩, iteF ?_⟩
  refine ⟨_, rfl, _, rfl, a1, a2, u1, u2, xs, ys, D, E1, sg, nM, nS, rfl, s2 _ _ h1, h2, RatL.same r1 s2, r2, tx, B, bx, eL, sL, fit, lx, fun t b1 b2 H' v1 v2 qs rs s3 nt nb1 nb2 ht g1 g2 Q1 Q2 dv => ?_⟩
  have s12 := s1.trans s2
  exact q _ b1 b2 H' v1 v2 qs rs (s12.trans s3) (s12.free nt) (s12.free nb1) (s12.free nb2) ht g1 g2 Q1 Q2 dv
end
end K21

namespace K21
open PySem PySem.Spec PyProof.Rows L2 Fp
section
variable {P : Program} {w : World} {K : PySem.W.Frag} {mg : Str → Option Value} {base : Heap} {k : Nat} {C fI fR : Addr}
/-! ### the law's own polynomials -/
/-- a great bound -/
def BG : Nat := 2 ^ 400500
theorem BG_lt : BG < 2 ^ 401000 := Nat.pow_lt_pow_right (by decide) (by decide)
def OwnF (H H' : Hp) (v : V) (b : Int) (zs : List Int) : Prop := ∃ t l, v = .ref t ∧ H t = none ∧ H l = none ∧ H' t = some (.tup [.int b, .ref l]) ∧ H' l = some (.lst (VI zs))
def OwnP (H : Hp) (v : V) (b : Int) (zs : List Int) : Prop := ∃ t l, v = .ref t ∧ H t = some (.tup [.int b, .ref l]) ∧ H l = some (.lst (VI zs))
def Sz (k : Nat) (N : Nat) (b : Int) : Prop := N < 2 ^ k ∧ LbI k b
def sp_law_trim (K : PySem.W.Frag) : Sp := fun vs H Q _ => ∃ (l : Addr) (zs : List Int), vs = [.ref l] ∧ H l = some (.lst (VI zs)) ∧ zs.length ≤ 1000 ∧ ∀ a H', Same H H' → H a = none → H' a = some (.lst (VI (trimI zs))) → Q (.ref a) H'
def sp_law_gcd : Sp := fun vs H Q _ => ∃ a b : Int, vs = [.int a, .int b] ∧ Ret H Q (.int (Int.gcd a b))
def sp_law_own (C : Addr) : Sp := fun vs H Q _ => ∃ (l : Addr) (us : List V) (xs : List Rat), vs = [.ref l] ∧ H l = some (.lst us) ∧ QL C H us xs ∧ AllB 8000 xs ∧ xs.length ≤ 49 ∧ ∀ v H' b zs, Same H H' → OwnF H H' v b zs → 0 < b → ratsOf b zs = xs → Sz 401000 BG b → BN BG zs → (∀ B : Int, (∀ x ∈ xs, (x.den : Int) ∣ B) → b ∣ B) → Q v H'
def sp_law_plus (K : PySem.W.Frag) : Sp := fun vs H Q _ => ∃ (v1 v2 : V) (b1 b2 : Int) (zs1 zs2 : List Int) (N1 N2 k1 k2 : Nat), vs = [v1, v2, .int 1] ∧ OwnP H v1 b1 zs1 ∧ OwnP H v2 b2 zs2 ∧ 0 < b1 ∧ 0 < b2 ∧ BN N1 zs1 ∧ BN N2 zs2 ∧ Sz k1 N1 b1 ∧ Sz k2 N2 b2 ∧ k1 + k2 ≤ 999900 ∧ zs1.length ≤ 400 ∧ zs2.length ≤ 400 ∧
  ∀ v H' zs, Same H H' → OwnF H H' v (b1 * b2) zs → Told (ratsOf (b1 * b2) zs) → (∀ n, co (ratsOf (b1 * b2) zs) n = co (ratsOf b1 zs1) n + co (ratsOf b2 zs2) n) → BN (N1 * b2.natAbs + N2 * b1.natAbs) zs → zs.length ≤ max zs1.length zs2.length → Q v H'
def sp_law_times (K : PySem.W.Frag) : Sp := fun vs H Q _ => ∃ (v1 v2 : V) (b1 b2 : Int) (zs1 zs2 : List Int) (N1 N2 k1 k2 : Nat), vs = [v1, v2] ∧ OwnP H v1 b1 zs1 ∧ OwnP H v2 b2 zs2 ∧ b1 ≠ 0 ∧ b2 ≠ 0 ∧ BN N1 zs1 ∧ BN N2 zs2 ∧ Sz k1 N1 b1 ∧ Sz k2 N2 b2 ∧ k1 + k2 ≤ 999900 ∧ zs1.length ≤ 400 ∧ zs2.length ≤ 400 ∧
  ∀ v H' zs, Same H H' → OwnF H H' v (b1 * b2) zs → Told (ratsOf (b1 * b2) zs) → (∀ n, co (ratsOf (b1 * b2) zs) n = prodc (ratsOf b1 zs1) (co (ratsOf b2 zs2)) n) → BN (zs1.length * (N1 * N2)) zs → zs.length ≤ zs1.length + zs2.length - 1 → zs = trimI (timesI zs1 zs2) → Q v H'
def sp_law_same (K : PySem.W.Frag) : Sp := fun vs H Q _ => ∃ (v1 v2 : V) (b1 b2 : Int) (zs1 zs2 : List Int) (N1 N2 k1 k2 : Nat), vs = [v1, v2] ∧ OwnP H v1 b1 zs1 ∧ OwnP H v2 b2 zs2 ∧ b1 ≠ 0 ∧ b2 ≠ 0 ∧ BN N1 zs1 ∧ BN N2 zs2 ∧ Sz k1 N1 b1 ∧ Sz k2 N2 b2 ∧ k1 + k2 ≤ 999900 ∧ zs1.length ≤ 400 ∧ zs2.length ≤ 400 ∧ ratsOf b1 zs1 = ratsOf b2 zs2 ∧ Ret H Q (.bl true)
theorem vi_take (zs : List Int) (n : Nat) : (VI zs).take n = VI (zs.take n) := List.map_take.symm
theorem atI_vi {zs : List Int} {j : Nat} {z : Int} (hj : 0 < j) (l : j ≤ zs.length) (hz : zs[j - 1]? = some z) : atI (VI (zs.take j)) (-1) = some (.int z) := by
  rw [show j = (j - 1) + 1 by omega, takeS hz]
  unfold VI
  rw [List.map_append]
  exact atI_last _ _
-- slots: _law_numbers 0, _law_found 1, _law_turn 2; cells: 
abbrev s_law_trim : Stmt := top 48
abbrev N_law_trim : List Str := ["_law_numbers", "_law_found", "_law_turn"]
theorem sc_law_trim : FnScope N_law_trim ["_law_numbers"] (defScope s_law_trim) := ⟨rfl, rfl, rfl, by decide +kernel, rfl, by decide +kernel, by decide +kernel⟩
theorem d_law_trim (B : Bnd K mg "_law_trim" s_law_trim) (M : Mg2 mg)   : Def P w K mg base (k + 1) "_law_trim" s_law_trim ["_law_numbers"] (sp_law_trim K) := by
  refine def_of B sc_law_trim (by rintro _ _ _ _ ⟨l, zs, rfl, _⟩; rfl) (fun _ _ _ _ _ _ us hl => match us, hl with | [_], _ => rfl) fun f cdv A outer s H vs Q E hr h => ?_
  obtain ⟨l, zs, rfl, hl, l1, q⟩ := h
  have hu := hr.units
  refine ⟨_, pss_cons (ps_set (i := 1) sc_law_trim.nd rfl (.inl rfl) (pe_callTy call_list_of (by rfl) M.list (by decide +kernel) (pa_cons (pv 0) pa_nil)))
    (pss_cons (ps_for PassesOwn.never rfl (pi_range1 (by rfl) M.range (pa_cons (pe_callB call_len_seq (by rfl) M.len boot_len (pa_cons (pv 0) pa_nil)) pa_nil)) (pg_name (i := 2) sc_law_trim.nd rfl (.inl rfl))
      (pss_one (ps_set (i := 1) sc_law_trim.nd rfl (.inl rfl) (pe_ifExp (pt_cmpR op_eq (pe_ix (r := rIxL K) ix_list (pv 1) (pe_un un_neg pe_int) (fun _ _ => rfl)) pe_int (nomark _)) (pe_slice (r := rSlL K) sl_list (pv 1) po_none (po_some (pe_un un_neg pe_int))) (pv 1)))))
    (pss_one (ps_ret (pv 1)))), ?_⟩
  have lv := vi_len zs
  refine ⟨_, rfl, l, _, rfl, .inl (SqL.of hl), fun a0 n0 => ?_⟩
  have s0 := same_new (o := .lst (VI zs)) n0
  have ha0 : (upd H a0 (.lst (VI zs))) a0 = some (.lst (VI zs)) := upd_same
  generalize upd H a0 (.lst (VI zs)) = H0 at *
  refine ⟨_, rfl, l, _, rfl, .inl (SqL.of (s0 _ _ hl)), _, rfl, by omega, by omega, ?_⟩
  refine for_range (lo := 0) (n := (((VI zs).length : Nat) : Int).toNat) (fun i σ H' => ∃ (a : Addr) (j : Nat) (o : Option V), σ = [some (.ref l), some (.ref a), o] ∧ Same H H' ∧ H a = none ∧ H' a = some (.lst (VI (zs.take j))) ∧ j ≤ zs.length ∧ zs.length ≤ j + i ∧ trimI (zs.take j) = trimI zs ∧ (j + i = zs.length ∨ trimI (zs.take j) = zs.take j))
    ⟨a0, zs.length, none, rfl, s0, n0, by rw [List.take_length]; exact ha0, Nat.le_refl _, by omega, by rw [List.take_length], .inl (by omega)⟩ (fun i σ H' hi ⟨a, j, o, e, sm, na, ha, j1, j2, t1, t2⟩ => ?_) (fun σ H' ⟨a, j, o, e, sm, na, ha, j1, j2, t1, t2⟩ => ?_)
  · subst e
    have hi2 : i < zs.length := by omega
    have j0 : 0 < j := by omega
    have hz : zs[j - 1]? = some zs[j - 1] := List.getElem?_eq_getElem (by omega)
    have tk : zs.take j = zs.take (j - 1) ++ [zs[j - 1]] := by
      have := takeS hz
      rwa [show j - 1 + 1 = j by omega] at this
    refine ⟨_, rfl, 1, rfl, a, _, -1, _, rfl, rfl, SqL.of ha, atI_vi j0 j1 hz, rfl, _, rfl, ite2 (fun z => ?_) (fun z => ?_)⟩
    · have z0 : zs[j - 1] = 0 := by
        have := of_decide_eq_true z
        injection this
      have cl : cutV (VI (zs.take j)) none (some (-1)) = VI (zs.take (j - 1)) := by
        rw [tk]
        unfold VI
        rw [List.map_append]
        exact cut_last _ _
      refine ⟨_, rfl, 1, rfl, _, rfl, a, _, rfl, SqL.of ha, fun c nc => ?_⟩
      rw [cl]
      have sc := same_new (o := .lst (VI (zs.take (j - 1)))) nc
      refine ⟨c, j - 1, _, rfl, sm.trans sc, sm.free nc, upd_same, by omega, by omega, by rw [← t1, tk, trimI_zero z0], ?_⟩
      rcases t2 with t2 | t2
      · exact .inl (by omega)
      · rw [tk, trimI_zero z0] at t2
        have := congrArg List.length t2
        have l2 := trimI_len (zs.take (j - 1))
        rw [List.length_append, List.length_singleton] at this
        omega
    · have z0 : zs[j - 1] ≠ 0 := fun e => z (decide_eq_true (by rw [e]))
      exact ⟨_, rfl, a, j, _, rfl, sm, na, ha, j1, by omega, t1, .inr (by rw [tk]; exact trimI_nz z0)⟩
  · subst e
    refine ⟨_, rfl, q a H' sm na ?_⟩
    rcases t2 with t2 | t2
    · have : j = 0 := by omega
      subst this
      rw [← t1, ha]; rfl
    · rw [← t1, t2, ha]
theorem gcd_step {x y : Int} (hx : 0 ≤ x) (hy : 0 < y) : Int.gcd y (x % y) = Int.gcd x y := by
  obtain ⟨n, rfl⟩ := Int.eq_ofNat_of_zero_le hx
  obtain ⟨m, rfl⟩ := Int.eq_ofNat_of_zero_le (Int.le_of_lt hy)
  show Nat.gcd m (n % m) = Nat.gcd n m
  rw [Nat.gcd_comm m, ← Nat.gcd_rec, Nat.gcd_comm]
-- slots: _law_one 0, _law_other 1; cells: 
abbrev s_law_gcd : Stmt := top 49
abbrev N_law_gcd : List Str := ["_law_one", "_law_other"]
theorem sc_law_gcd : FnScope N_law_gcd ["_law_one", "_law_other"] (defScope s_law_gcd) := ⟨rfl, rfl, rfl, by decide +kernel, rfl, by decide +kernel, by decide +kernel⟩
theorem d_law_gcd (B : Bnd K mg "_law_gcd" s_law_gcd) (M : Mg2 mg)   : Def P w K mg base (k + 1) "_law_gcd" s_law_gcd ["_law_one", "_law_other"] sp_law_gcd := by
  refine def_of B sc_law_gcd (by rintro _ _ _ _ ⟨a, b, rfl, _⟩; rfl) (fun _ _ _ _ _ _ us hl => match us, hl with | [_, _], _ => rfl) fun f cdv A outer s H vs Q E hr h => ?_
  obtain ⟨a, b, rfl, q⟩ := h
  have hu := hr.units
  refine ⟨_, pss_cons (ps_par (i := 0) (j := 1) rfl sc_law_gcd.nd rfl rfl (by decide) rfl rfl (pa_cons (pe_callB call_abs (by rfl) M.abs (by decide +kernel) (pa_cons (pv 0) pa_nil)) (pa_cons (pe_callB call_abs (by rfl) M.abs (by decide +kernel) (pa_cons (pv 1) pa_nil)) pa_nil)) (by rfl))
    (pss_cons (ps_while PassesOwn.never (pt_cmpR op_gt (pv 1) pe_int (nomark _))
      (pss_one (ps_par (i := 0) (j := 1) rfl sc_law_gcd.nd rfl rfl (by decide) rfl rfl (pa_cons (pv 1) (pa_cons (pe_op op_mod (pe_callTy call_int1 (by rfl) M.int (by decide +kernel) (pa_cons (pv 0) pa_nil)) (pv 1)) pa_nil)) (by rfl))))
    (pss_one (ps_ret (pv 0)))), ?_⟩
  refine ⟨_, rfl, _, rfl, _, rfl, _, rfl, _, _, rfl, ?_⟩
  refine ⟨fun mm σ G => ∃ x y : Int, σ = [some (.int x), some (.int y)] ∧ mm = y.toNat ∧ G = H ∧ 0 ≤ x ∧ 0 ≤ y ∧ Int.gcd x y = Int.gcd a b, ⟨_, _, _, rfl, rfl, rfl, ?_, ?_, ?_⟩, ?_⟩
  · split <;> omega
  · split <;> omega
  · have e1 : (if a < 0 then -a else a) = (a.natAbs : Int) := by split <;> omega
    have e2 : (if b < 0 then -b else b) = (b.natAbs : Int) := by split <;> omega
    rw [e1, e2]; rfl
  rintro mm σ G ⟨x, y, rfl, rfl, rfl, x0, y0, e⟩
  refine ⟨_, rfl, y, 0, rfl, rfl, _, rfl, ite2 (fun z => ?_) (fun z => ?_)⟩
  · have y1 : 0 < y := of_decide_eq_true z
    refine ⟨fun σ' G' => ∃ x' y' : Int, σ' = [some (.int x'), some (.int y')] ∧ y'.toNat < y.toNat ∧ G' = G ∧ 0 ≤ x' ∧ 0 ≤ y' ∧ Int.gcd x' y' = Int.gcd a b, fun σ' G' ⟨x', y', h1, h2, h3, h4, h5, h6⟩ => ⟨y'.toNat, h2, x', y', h1, rfl, h3, h4, h5, h6⟩, ?_⟩
    have r0 := Int.emod_nonneg x (show y ≠ 0 by omega)
    have r1 := Int.emod_lt_of_pos x y1
    exact ⟨_, rfl, _, rfl, .inl ⟨x, rfl, _, rfl, x, y, rfl, rfl, y1, _, _, rfl, y, x % y, rfl, by omega, rfl, by omega, r0, by rw [gcd_step x0 y1, e]⟩⟩
  · have y1 : y = 0 := by
      by_cases h : 0 < y
      · exact absurd (decide_eq_true h) z
      · omega
    subst y1
    refine ⟨_, rfl, ?_⟩
    have ex : x = (Int.gcd a b : Int) := by
      rw [← e, Int.gcd_zero_right]; omega
    have := q G (Same.refl G)
    rw [← ex] at this
    exact this
theorem own_dvd {B d : Int} (hB : 0 < B) (hd : 0 < d) : d ∣ B.fdiv (Int.gcd B d) * d ∧ B ∣ B.fdiv (Int.gcd B d) * d ∧ 0 < B.fdiv (Int.gcd B d) ∧ B.fdiv (Int.gcd B d) ≤ B := by
  have g1 : (Int.gcd B d : Int) ∣ B := Int.gcd_dvd_left ..
  have g2 : (Int.gcd B d : Int) ∣ d := Int.gcd_dvd_right ..
  have g0 : (0 : Int) < Int.gcd B d := by
    have := Nat.gcd_pos_of_pos_right B.natAbs (show 0 < d.natAbs by omega)
    show (0 : Int) < ((Nat.gcd B.natAbs d.natAbs : Nat) : Int)
    omega
  rw [fdiv_exact g1]
  obtain ⟨c, hc⟩ := g1
  obtain ⟨e, he⟩ := g2
  generalize (Int.gcd B d : Int) = g at *
  have q : B / g = c := by
    rw [hc]; exact Int.mul_ediv_cancel_left _ (by omega)
  rw [q]
  have c0 : 0 < c := by
    rcases Int.lt_trichotomy c 0 with z | z | z
    · have := Int.mul_neg_of_pos_of_neg g0 z; omega
    · subst z; rw [Int.mul_zero] at hc; omega
    · exact z
  refine ⟨⟨c, Int.mul_comm ..⟩, ⟨e, by rw [he, hc, ← Int.mul_assoc, Int.mul_comm c g]⟩, c0, ?_⟩
  rw [hc]
  have := Int.mul_le_mul_of_nonneg_right (show 1 ≤ g by omega) (Int.le_of_lt c0)
  omega
theorem own_lcm {B d D : Int} (hB : 0 < B) (hd : 0 < d) (h1 : B ∣ D) (h2 : d ∣ D) : B.fdiv (Int.gcd B d) * d ∣ D := by
  have g1 : (Int.gcd B d : Int) ∣ B := Int.gcd_dvd_left ..
  have g0 : (0 : Int) < Int.gcd B d := by
    have := Nat.gcd_pos_of_pos_right B.natAbs (show 0 < d.natAbs by omega)
    show (0 : Int) < ((Nat.gcd B.natAbs d.natAbs : Nat) : Int)
    omega
  rw [fdiv_exact g1]
  have e : B / (Int.gcd B d : Int) * d = (Int.lcm B d : Int) := by
    have h := Int.gcd_mul_lcm B d
    have h3 : ((Int.gcd B d : Int)) * (Int.lcm B d : Int) = B * d := by
      rw [← Int.natCast_mul, h]
      rw [Int.natCast_mul, Int.natAbs_of_nonneg (Int.le_of_lt hB), Int.natAbs_of_nonneg (Int.le_of_lt hd)]
    have h4 : (Int.gcd B d : Int) * (B / (Int.gcd B d : Int)) = B := Int.mul_ediv_cancel' g1
    refine Int.eq_of_mul_eq_mul_left (a := (Int.gcd B d : Int)) (by omega) ?_
    rw [h3, ← Int.mul_assoc, h4]
  rw [e]
  exact Int.ofNat_dvd_left.mpr (Nat.lcm_dvd (Int.natAbs_dvd_natAbs.mpr h1) (Int.natAbs_dvd_natAbs.mpr h2))
theorem lbI_le {n : Nat} {a b : Int} (h : LbI n b) (h0 : 0 ≤ a) (l : a ≤ b) : LbI n a := h.of_le (by omega)
theorem own_z {B : Int} {x : Rat} (hB : 0 < B) (hd : (x.den : Int) ∣ B) (bx : Bits 8000 x) {m : Nat} (hm : LbI m B) : ((x.num * B.fdiv x.den : Int) : Rat) / (B : Rat) = x ∧ LbI (8000 + m) (x.num * B.fdiv x.den) ∧ LbI m (B.fdiv x.den) := by
  have d0 := den_pos x
  rw [fdiv_exact hd]
  obtain ⟨c, hc⟩ := hd
  have q : B / (x.den : Int) = c := by
    rw [hc]; exact Int.mul_ediv_cancel_left _ (by omega)
  rw [q]
  have c0 : 0 < c := by
    rcases Int.lt_trichotomy c 0 with z | z | z
    · have := Int.mul_neg_of_pos_of_neg d0 z; omega
    · subst z; rw [Int.mul_zero] at hc; omega
    · exact z
  have cB : c ≤ B := by
    rw [hc]
    have := Int.mul_le_mul_of_nonneg_right (show 1 ≤ (x.den : Int) by omega) (Int.le_of_lt c0)
    omega
  have lc : LbI m c := lbI_le hm (by omega) cB
  refine ⟨?_, bx.1.mul lc, lc⟩
  rw [hc, ← Rat.divInt_eq_div, Rat.divInt_mul_right (by omega)]
  exact divInt_self x
-- slots: _law_told 0, _law_bottom 1, _law_number 2; cells: _law_bottom
abbrev s_law_own : Stmt := top 50
abbrev N_law_own : List Str := ["_law_told", "_law_bottom", "_law_number"]
theorem sc_law_own : FnScope N_law_own ["_law_told"] (defScope s_law_own) := ⟨rfl, rfl, rfl, by decide +kernel, rfl, by decide +kernel, by decide +kernel⟩
theorem d_law_own (B : Bnd K mg "_law_own" s_law_own) (M : Mg2 mg) (R : RCls K mg C fI fR) {kr : Nat} (PT : PropX P w K mg base kr C "top" (spTopR C)) (PB : PropX P w K mg base kr C "bottom" (spBotR C)) (hk : kr + 8 ≤ k) (D_law_gcd : Def P w K mg base k "_law_gcd" s_law_gcd ["_law_one", "_law_other"] sp_law_gcd) : Def P w K mg base (k + 1) "_law_own" s_law_own ["_law_told"] (sp_law_own C) := by
  refine def_of B sc_law_own (by rintro _ _ _ _ ⟨l, us, xs, rfl, _⟩; rfl) (fun _ _ _ _ _ _ us hl => match us, hl with | [_], _ => rfl) fun f cdv A outer s H vs Q E hr h => ?_
  obtain ⟨l, us, xs, rfl, hl, hQ, bx, lx, q⟩ := h
  have hu := hr.units
  refine ⟨_, pss_cons (ps_set (i := 1) sc_law_own.nd rfl (.inr rfl) pe_int)
    (pss_cons (ps_for PassesOwn.never rfl (pi_list (pv 0)) (pg_name (i := 2) sc_law_own.nd rfl (.inl rfl))
      (pss_one (ps_set (i := 1) sc_law_own.nd rfl (.inr rfl) (pe_op op_mulW (pe_op op_fdivNW (pv 1) (pe_d D_law_gcd hr (by rfl) (pa_cons (pv 1) (pa_cons (pe_propX PB (hr.mono (by omega)) R.cl (pv 2) (by rfl)) pa_nil)))) (pe_propX PB (hr.mono (by omega)) R.cl (pv 2) (by rfl))))))
    (pss_one (ps_ret (pe_tup (pa_cons (pv 1) (pa_cons (pe_lc (own := [("_law_number", 2)]) (g := (gName 2)) (tt := tYes) (te := (tOp _ (tProp _ _ [] E0 (tVar 2)) (tOp _ (tVar 1) (tProp _ _ [] E0 (tVar 2))))) rfl sc_law_own.nd (pi_list (pv 0)) (blkOk_by (own := [("_law_number", 2)]) (N := N_law_own) (sc := defScope s_law_own) (by decide +kernel)) (fun _ _ _ _ _ => pg_name (i := 2) sc_law_own.nd rfl (.inl rfl)) (fun _ _ _ _ _ => pts_nil) (fun _ _ _ _ _ => pe_op op_mulW (pe_propX PT (hr.mono (by omega)) R.cl (pv 2) (by rfl)) (pe_op op_fdivNW (pv 1) (pe_propX PB (hr.mono (by omega)) R.cl (pv 2) (by rfl))))) pa_nil)))))), ?_⟩
  have lu := QL.len hQ
  refine ⟨_, rfl, l, rfl, ⟨us, SqL.of hl⟩, ?_⟩
  refine for_list (xs := us) (fun i σ H' => ∃ (B : Int) (o : Option V), σ = [some (.ref l), some (.int B), o] ∧ Same H H' ∧ 0 < B ∧ LbI (8000 * i + 1) B ∧ (∀ (j : Nat) (x : Rat), j < i → xs[j]? = some x → (x.den : Int) ∣ B) ∧ ∀ D : Int, (∀ x ∈ xs, (x.den : Int) ∣ D) → B ∣ D)
    ⟨1, none, rfl, Same.refl _, by decide, by show (1 : Int).natAbs < 2 ^ 1; decide, fun j x h => absurd h (Nat.not_lt_zero _), fun D _ => Int.one_dvd D⟩ (fun i σ H' _ ⟨B, o, _, sm, _⟩ => SqL.of (sm _ _ hl)) (fun i v σ H' hv ⟨B, o, e, sm, B0, Bb, Bd, Bl⟩ => ?_) (fun σ H' ⟨B, o, e, sm, B0, Bb, Bd, Bl⟩ => ?_)
  · subst e
    obtain ⟨x, a, hx, rfl, rx⟩ := QL.at hQ hv
    have bX := bx x (List.mem_of_getElem? hx)
    have r1 := rx.same sm
    obtain ⟨dx, r2⟩ := id r1
    have d0 := den_pos x
    obtain ⟨k1, k2, k3, k4⟩ := own_dvd B0 d0
    have g0 : (0 : Int) < Int.gcd B x.den := by
      have := Nat.gcd_pos_of_pos_right B.natAbs (show 0 < (x.den : Int).natAbs by omega)
      show (0 : Int) < ((Nat.gcd B.natAbs (x.den : Int).natAbs : Nat) : Int)
      omega
    have gl : LbI 8000 (Int.gcd B x.den) := bX.2.of_le (by
      have := Nat.gcd_le_right B.natAbs (show 0 < (x.den : Int).natAbs by omega)
      show (((Nat.gcd B.natAbs (x.den : Int).natAbs : Nat) : Int)).natAbs ≤ _
      omega)
    have hi : i < xs.length := (List.getElem?_eq_some_iff.mp hx).1
    have lB := lbI_le Bb (by omega) k4
    refine ⟨_, rfl, _, rfl, _, rfl, a, dx, _, rfl, r2, a, _, _, rfl, r1, B, x.den, rfl, fun H2 s2 => ⟨B, _, rfl, rfl, gl.div (by omega) (by omega), _, rfl, a, dx, _, rfl, s2 _ _ r2, a, _, _, rfl, r1.same s2, _, x.den, rfl, rfl, lB.cm bX.2 (by omega), ?_⟩⟩
    refine ⟨_, _, rfl, sm.trans s2, Int.mul_pos k3 d0, (lB.mul bX.2).mono (by omega), fun j y hj hy => ?_, fun D hD => own_lcm B0 d0 (Bl D hD) (hD x (List.mem_of_getElem? hx))⟩
    by_cases e : j = i
    · subst e
      rw [hx] at hy
      obtain rfl := Option.some.inj hy
      exact k1
    · exact Int.dvd_trans (Bd j y (by omega) hy) k2
  · subst e
    have hdv : ∀ (j : Nat) (x : Rat), xs[j]? = some x → (x.den : Int) ∣ B := fun j x hx => Bd j x (by have := (List.getElem?_eq_some_iff.mp hx).1; omega) hx
    have Bm : LbI 392001 B := Bb.mono (by omega)
    refine ⟨_, rfl, _, rfl, l, rfl, ⟨us, SqL.of (sm _ _ hl)⟩, fun D nD => ?_⟩
    refine lc_l (fun i => (xs[i]?).map fun x : Rat => V.int (x.num * B.fdiv x.den)) (SqL.of (sm _ _ hl)) nD (by rw [sizeLine_eq]; omega) (fun i v H1 hv s1 Y N y nn => ?_) (fun H1 s1 hD => ?_)
    · obtain ⟨x, a, hx, rfl, rx⟩ := QL.at hQ hv
      have r1 := rx.same (sm.trans s1)
      obtain ⟨dx, r2⟩ := id r1
      have bX := bx x (List.mem_of_getElem? hx)
      obtain ⟨z1, z2, z3⟩ := own_z B0 (hdv i x hx) bX Bm
      refine ⟨rfl, _, rfl, a, dx, _, rfl, r2, a, _, _, rfl, r1, _, rfl, _, rfl, a, dx, _, rfl, r2, a, _, _, rfl, r1, B, x.den, rfl, rfl, bX.2.div (by omega) (by have := den_pos x; omega), x.num, _, rfl, rfl, bX.1.cm z3 (by omega), ?_⟩
      exact y _ _ (Same.refl _) (by show (xs[i]?).map _ = _; rw [hx]; rfl)
    · have e : (List.range us.length).filterMap (fun i => (xs[i]?).map fun x : Rat => V.int (x.num * B.fdiv x.den)) = VI (xs.map fun x : Rat => x.num * B.fdiv x.den) := by
        have := fm_all xs fun x : Rat => some (V.int (x.num * B.fdiv x.den))
        rw [lu]
        have e2 : (fun i : Nat => (xs[i]?).map fun x : Rat => V.int (x.num * B.fdiv x.den)) = fun i : Nat => (xs[i]?).bind fun x : Rat => some (V.int (x.num * B.fdiv x.den)) := by
          funext i; cases xs[i]? <;> rfl
        rw [e2, this, List.filterMap_eq_map']; unfold VI; rw [List.map_map]; rfl
      rw [e] at hD
      refine ⟨by show 2 ≤ sizeLine; decide, fun t nt => ?_⟩
      have st := same_new (o := .tup [V.int B, V.ref D]) nt
      refine q (.ref t) _ B (xs.map fun x : Rat => x.num * B.fdiv x.den) ((sm.trans s1).trans st) ⟨t, D, rfl, (sm.trans s1).free nt, sm.free nD, upd_same, st _ _ hD⟩ B0 ?_ ⟨BG_lt, Bm.mono (by omega)⟩ (fun z hz => ?_) Bl
      · unfold ratsOf
        rw [List.map_map]
        conv => rhs; rw [← List.map_id xs]
        refine List.map_congr_left fun x hx => ?_
        obtain ⟨j, hj⟩ := List.getElem?_of_mem hx
        exact (own_z B0 (hdv j x hj) (bx x hx) Bm).1
      · obtain ⟨x, hx, rfl⟩ := List.mem_map.mp hz
        obtain ⟨j, hj⟩ := List.getElem?_of_mem hx
        have := (own_z B0 (hdv j x hj) (bx x hx) Bm).2.1
        exact Nat.le_of_lt (this.mono (show 8000 + 392001 ≤ 400500 by omega))
end
end K21

namespace K21
open PySem PySem.Spec PyProof.Rows L2 Fp
section
variable {P : Program} {w : World} {K : PySem.W.Frag} {mg : Str → Option Value} {base : Heap} {k : Nat} {C fI fR : Addr}
theorem Sz.z {k N : Nat} {b z : Int} (h : Sz k N b) (l : z.natAbs ≤ N) : LbI k z := Nat.lt_of_le_of_lt l h.1
-- slots: _law_one 0, _law_other 1, _law_found 2, _law_at 3, _law_near 4, _law_to 5, _law_far 6; cells: 
abbrev s_law_times : Stmt := top 51
abbrev N_law_times : List Str := ["_law_one", "_law_other", "_law_found", "_law_at", "_law_near", "_law_to", "_law_far"]
theorem sc_law_times : FnScope N_law_times ["_law_one", "_law_other"] (defScope s_law_times) := ⟨rfl, rfl, rfl, by decide +kernel, rfl, by decide +kernel, by decide +kernel⟩
theorem d_law_times (B : Bnd K mg "_law_times" s_law_times) (M : Mg2 mg)  (D_law_trim : Def P w K mg base k "_law_trim" s_law_trim ["_law_numbers"] (sp_law_trim K)) : Def P w K mg base (k + 1) "_law_times" s_law_times ["_law_one", "_law_other"] (sp_law_times K) := by
  refine def_of B sc_law_times (by rintro _ _ _ _ ⟨v1, v2, b1, b2, zs1, zs2, N1, N2, k1, k2, rfl, _⟩; rfl) (fun _ _ _ _ _ _ us hl => match us, hl with | [_, _], _ => rfl) fun f cdv A outer s H vs Q E hr h => ?_
  obtain ⟨v1, v2, b1, b2, zs1, zs2, N1, N2, k1, k2, rfl, ⟨t1, l1, rfl, ht1, hl1⟩, ⟨t2, l2, rfl, ht2, hl2⟩, p1, p2, n1, n2, s1, s2, sk, e1, e2, q⟩ := h
  have hu := hr.units
  refine ⟨_, pss_cons (ps_set (i := 2) sc_law_times.nd rfl (.inl rfl) (pe_op op_rep (pe_lst (pa_cons pe_int pa_nil)) (pe_callB (call_max2 rfl) (by rfl) M.max (by decide +kernel) (pa_cons pe_int (pa_cons (pe_op op_sub (pe_op op_add (pe_callB call_len_seq (by rfl) M.len boot_len (pa_cons (pe_ix (r := rIxT K) ix_tup (pv 0) pe_int (fun _ _ => rfl)) pa_nil)) (pe_callB call_len_seq (by rfl) M.len boot_len (pa_cons (pe_ix (r := rIxT K) ix_tup (pv 1) pe_int (fun _ _ => rfl)) pa_nil))) pe_int) pa_nil)))))
    (pss_cons (ps_for PassesOwn.never rfl (pi_enum (by rfl) M.enum (pa_cons (pe_ix (r := rIxT K) ix_tup (pv 0) pe_int (fun _ _ => rfl)) pa_nil)) (pg_tup rfl (pgs_cons (pg_name (i := 3) sc_law_times.nd rfl (.inl rfl)) (pgs_cons (pg_name (i := 4) sc_law_times.nd rfl (.inl rfl)) pgs_nil)))
      (pss_one (ps_for PassesOwn.never rfl (pi_enum (by rfl) M.enum (pa_cons (pe_ix (r := rIxT K) ix_tup (pv 1) pe_int (fun _ _ => rfl)) pa_nil)) (pg_tup rfl (pgs_cons (pg_name (i := 5) sc_law_times.nd rfl (.inl rfl)) (pgs_cons (pg_name (i := 6) sc_law_times.nd rfl (.inl rfl)) pgs_nil)))
        (pss_one (ps_asg (pe_op op_add (pe_ix (r := rIxL K) ix_list (pv 2) (pe_op op_add (pv 3) (pv 5)) (fun _ _ => rfl)) (pe_op op_mulW (pv 4) (pv 6))) (pg_sub (pv 2) (pe_op op_add (pv 3) (pv 5)) set_list))))))
    (pss_one (ps_ret (pe_tup (pa_cons (pe_op op_mulW (pe_ix (r := rIxT K) ix_tup (pv 0) pe_int (fun _ _ => rfl)) (pe_ix (r := rIxT K) ix_tup (pv 1) pe_int (fun _ _ => rfl))) (pa_cons (pe_d D_law_trim hr (by rfl) (pa_cons (pv 2) pa_nil)) pa_nil)))))), ?_⟩
  have lv1 := vi_len zs1
  have lv2 := vi_len zs2
  refine ⟨by show 1 ≤ sizeLine; decide, fun c0 nc0 => ?_⟩
  have sc := same_new (o := .lst [V.int 0]) nc0
  refine ⟨_, rfl, t1, _, 1, .ref l1, rfl, rfl, SqT.of (sc _ _ ht1), rfl, l1, _, rfl, .inl (SqL.of (sc _ _ hl1)), _, rfl, t2, _, 1, .ref l2, rfl, rfl, SqT.of (sc _ _ ht2), rfl, l2, _, rfl, .inl (SqL.of (sc _ _ hl2)), _, _, rfl, rfl, _, 1, rfl, rfl, _, _, rfl, ?_⟩
  have em : (if (((VI zs1).length : Nat) : Int) + (((VI zs2).length : Nat) : Int) - 1 > 0 then (((VI zs1).length : Nat) : Int) + (((VI zs2).length : Nat) : Int) - 1 else 0) = ((zs1.length + zs2.length - 1 : Nat) : Int) := by split <;> omega
  rw [em]
  refine ⟨c0, _, [V.int 0], rfl, rfl, upd_same, by omega, by omega, by rw [sizeLine_eq]; simp only [List.length_cons, List.length_nil]; omega, fun F nF0 => ?_⟩
  generalize hL : zs1.length + zs2.length - 1 = L
  have e0 : (List.replicate ((L : Nat) : Int).toNat [V.int 0]).flatten = VI ((List.range L).map (prodI zs1 zs2 0)) := by
    rw [Int.toNat_natCast]
    clear em hL nF0
    have : ∀ k, (List.replicate k [V.int 0]).flatten = VI (List.replicate k 0) := fun k => by
      induction k with
      | zero => rfl
      | succ k ih => rw [List.replicate_succ, List.flatten_cons, ih]; rfl
    rw [this]
    congr 1
    refine List.ext_getElem (by simp) fun n a b => ?_
    rw [List.getElem_replicate, List.getElem_map]; rfl
  rw [e0]
  have nF : H F = none := sc.free nF0
  have sF := sc.trans (same_new (o := .lst (VI ((List.range L).map (prodI zs1 zs2 0)))) nF0)
  have hF : (upd (upd H c0 (.lst [V.int 0])) F (.lst (VI ((List.range L).map (prodI zs1 zs2 0))))) F = some (.lst (VI ((List.range L).map (prodI zs1 zs2 0)))) := upd_same
  generalize upd (upd H c0 (.lst [V.int 0])) F (.lst (VI ((List.range L).map (prodI zs1 zs2 0)))) = H0 at *
  have b10 : b1 ≠ 0 := by omega
  have b20 : b2 ≠ 0 := by omega
  have old : ∀ {G : Hp}, Same H (wo F G) → Same H G := fun s => s.trans wo_le
  refine ⟨_, rfl, t1, _, 1, .ref l1, rfl, rfl, SqT.of (sF _ _ ht1), rfl, l1, _, rfl, SqL.of (sF _ _ hl1), ?_⟩
  refine for_it (walk_enum (K := K) (a := l1) (xs := VI zs1)) (fun i σ G => ∃ (o3 o4 o5 o6 : Option V), σ = [some (.ref t1), some (.ref t2), some (.ref F), o3, o4, o5, o6] ∧ Same H (wo F G) ∧ G F = some (.lst (VI ((List.range L).map (prodI zs1 zs2 i)))))
    ⟨none, none, none, none, rfl, same_wo nF sF, hF⟩ (fun i σ G _ ⟨_, _, _, _, _, sm, _⟩ => SqL.of (old sm _ _ hl1)) (fun i v σ G G2 hi ⟨o3, o4, o5, o6, e, sm, hG⟩ hy => ?_) (fun σ G ⟨o3, o4, o5, o6, e, sm, hG⟩ => ?_)
  · subst e
    obtain ⟨T, v1, v2, rfl, nT, rfl, hx1, hx2⟩ := hy
    obtain ⟨x, hx, rfl⟩ := vi_at hx2
    obtain rfl := Option.some.inj hx1
    have sT := same_new (o := .tup [V.int (i : Nat), V.int x]) nT
    have s3 := sm.trans (wo_mono (D := F) sT)
    have hG3 := sT _ _ hG
    have hT : (upd G T (.tup [V.int (i : Nat), V.int x])) T = some (.tup [V.int (i : Nat), V.int x]) := upd_same
    generalize upd G T (.tup [V.int (i : Nat), V.int x]) = G3 at *
    have hi1 : i < zs1.length := by omega
    have ex : zs1.getD i 0 = x := by rw [List.getD_eq_getElem?_getD, hx]; rfl
    refine ⟨T, _, rfl, SqT.of hT, rfl, _, _, rfl, _, _, rfl, rfl, ?_⟩
    refine ⟨_, rfl, t2, _, 1, .ref l2, rfl, rfl, SqT.of (old s3 _ _ ht2), rfl, l2, _, rfl, SqL.of (old s3 _ _ hl2), ?_⟩
    refine for_it (walk_enum (K := K) (a := l2) (xs := VI zs2)) (fun j σ G => ∃ (o5 o6 : Option V), σ = [some (.ref t1), some (.ref t2), some (.ref F), some (.int (i : Nat)), some (.int x), o5, o6] ∧ Same H (wo F G) ∧ G F = some (.lst (VI ((List.range L).map (partI zs1 zs2 i j)))))
      ⟨_, _, rfl, s3, ?_⟩ (fun j σ G _ ⟨_, _, _, sm, _⟩ => SqL.of (old sm _ _ hl2)) (fun j v σ G G2 hj ⟨o5, o6, e, sm, hG⟩ hy => ?_) (fun σ G ⟨o5, o6, e, sm, hG⟩ => ?_)
    · rw [hG3, funext (partI_zero zs1 zs2 i)]
    · subst e
      obtain ⟨T2, v1, v2, rfl, nT2, rfl, hy1, hy2⟩ := hy
      obtain ⟨y, hy, rfl⟩ := vi_at hy2
      obtain rfl := Option.some.inj hy1
      have sT := same_new (o := .tup [V.int (j : Nat), V.int y]) nT2
      have s4 := sm.trans (wo_mono (D := F) sT)
      have hG4 := sT _ _ hG
      have hT2 : (upd G T2 (.tup [V.int (j : Nat), V.int y])) T2 = some (.tup [V.int (j : Nat), V.int y]) := upd_same
      generalize upd G T2 (.tup [V.int (j : Nat), V.int y]) = G4 at *
      have hj1 : j < zs2.length := by omega
      have hij : i + j < L := by omega
      have ey : zs2.getD j 0 = y := by rw [List.getD_eq_getElem?_getD, hy]; rfl
      have hx' := s1.z (n1 x (List.mem_of_getElem? hx))
      have hy' := s2.z (n2 y (List.mem_of_getElem? hy))
      have hat : (VI ((List.range L).map (partI zs1 zs2 i j)))[i + j]? = some (.int (partI zs1 zs2 i j (i + j))) := by
        unfold VI
        rw [List.getElem?_map, List.getElem?_map, List.getElem?_range hij]; rfl
      refine ⟨T2, _, rfl, SqT.of hT2, rfl, _, _, rfl, _, _, rfl, rfl, ?_⟩
      refine ⟨_, rfl, _, rfl, _, rfl, _, _, rfl, rfl, F, _, _, _, rfl, rfl, SqL.of hG4, at_of (j := i + j) (by omega) hat, _, rfl, _, rfl, x, y, rfl, rfl, hx'.cm hy' (by omega), _, _, rfl, rfl, ?_⟩
      refine ⟨_, rfl, _, rfl, _, rfl, _, _, rfl, rfl, F, _, _, i + j, rfl, rfl, hG4, ixn (by omega) (by rw [vi_len, List.length_map, List.length_range]; exact hij), ?_⟩
      refine ⟨_, _, rfl, ?_, ?_⟩
      · rw [wo_upd]; exact s4
      · rw [upd_same]
        have := partI_step (xs := zs1) (ys := zs2) hij
        rw [ex, ey] at this
        rw [← this]
        unfold VI
        rw [List.map_set]
    · subst e
      refine ⟨_, _, _, _, rfl, sm, ?_⟩
      rw [hG]
      have : (VI zs2).length = zs2.length := lv2
      rw [this, funext (partI_all zs1 zs2 i)]
  · subst e
    have s5 := old sm
    have hG' : G F = some (.lst (VI (timesI zs1 zs2))) := by
      rw [hG, lv1, ← hL]; rfl
    refine ⟨_, rfl, t1, _, 0, .int b1, rfl, rfl, SqT.of (s5 _ _ ht1), rfl, _, rfl, t2, _, 0, .int b2, rfl, rfl, SqT.of (s5 _ _ ht2), rfl, b1, b2, rfl, rfl, s1.2.cm s2.2 (by omega), ?_⟩
    refine ⟨_, rfl, F, _, rfl, hG', by rw [timesI_len]; omega, fun a H5 s6 na ha => ?_⟩
    refine ⟨by show 2 ≤ sizeLine; decide, fun t nt => ?_⟩
    have st := same_new (o := .tup [V.int (b1 * b2), V.ref a]) nt
    have sB := s5.trans s6
    exact q (.ref t) _ (trimI (timesI zs1 zs2)) (sB.trans st) ⟨t, a, rfl, sB.free nt, s5.free na, upd_same, st _ _ ha⟩ (told_trim (fun z => by rcases Int.mul_eq_zero.mp z with e | e <;> omega) _) (timesI_co b10 b20 zs1 zs2) (timesI_BN n1 n2).trim (by have := trimI_len (timesI zs1 zs2); rw [timesI_len] at this; exact this) rfl
-- slots: _law_one 0, _law_other 1, _law_near 2, _law_far 3; cells: _law_one _law_other
abbrev s_law_same : Stmt := top 52
abbrev N_law_same : List Str := ["_law_one", "_law_other", "_law_near", "_law_far"]
theorem sc_law_same : FnScope N_law_same ["_law_one", "_law_other"] (defScope s_law_same) := ⟨rfl, rfl, rfl, by decide +kernel, rfl, by decide +kernel, by decide +kernel⟩
theorem d_law_same (B : Bnd K mg "_law_same" s_law_same) (M : Mg2 mg)   : Def P w K mg base (k + 1) "_law_same" s_law_same ["_law_one", "_law_other"] (sp_law_same K) := by
  refine def_of B sc_law_same (by rintro _ _ _ _ ⟨v1, v2, b1, b2, zs1, zs2, N1, N2, k1, k2, rfl, _⟩; rfl) (fun _ _ _ _ _ _ us hl => match us, hl with | [_, _], _ => rfl) fun f cdv A outer s H vs Q E hr h => ?_
  obtain ⟨v1, v2, b1, b2, zs1, zs2, N1, N2, k1, k2, rfl, ⟨t1, l1, rfl, ht1, hl1⟩, ⟨t2, l2, rfl, ht2, hl2⟩, p1, p2, n1, n2, s1, s2, sk, e1, e2, eq, q⟩ := h
  have hu := hr.units
  refine ⟨_, pss_one (ps_ret (pe_cmpR (op_eqH (List Int) (dle hu (by decide))) (pe_lc (own := [("_law_near", 2)]) (g := (gName 2)) (tt := tYes) (te := (tOp _ (tVar 2) (tOp (rIxT K) (tVar 1) (tC (.int 0))))) rfl sc_law_same.nd (pi_list (pe_ix (r := rIxT K) ix_tup (pv 0) pe_int (fun _ _ => rfl))) (blkOk_by (own := [("_law_near", 2)]) (N := N_law_same) (sc := defScope s_law_same) (by decide +kernel)) (fun _ _ _ _ _ => pg_name (i := 2) sc_law_same.nd rfl (.inl rfl)) (fun _ _ _ _ _ => pts_nil) (fun _ _ _ _ _ => pe_op op_mulW (pv 2) (pe_ix (r := rIxT K) ix_tup (pv 1) pe_int (fun _ _ => rfl)))) (pe_lc (own := [("_law_far", 3)]) (g := (gName 3)) (tt := tYes) (te := (tOp _ (tVar 3) (tOp (rIxT K) (tVar 0) (tC (.int 0))))) rfl sc_law_same.nd (pi_list (pe_ix (r := rIxT K) ix_tup (pv 1) pe_int (fun _ _ => rfl))) (blkOk_by (own := [("_law_far", 3)]) (N := N_law_same) (sc := defScope s_law_same) (by decide +kernel)) (fun _ _ _ _ _ => pg_name (i := 3) sc_law_same.nd rfl (.inl rfl)) (fun _ _ _ _ _ => pts_nil) (fun _ _ _ _ _ => pe_op op_mulW (pv 3) (pe_ix (r := rIxT K) ix_tup (pv 0) pe_int (fun _ _ => rfl)))) (nomark _))), ?_⟩
  have lv1 := vi_len zs1
  have lv2 := vi_len zs2
  refine ⟨_, rfl, t1, _, 1, .ref l1, rfl, rfl, SqT.of ht1, rfl, l1, rfl, ⟨_, SqL.of hl1⟩, fun D nD => ?_⟩
  refine lc_l (fun i => (zs1[i]?).map fun z : Int => V.int (z * b2)) (SqL.of hl1) nD (by rw [sizeLine_eq]; omega) (fun i v H1 hv sm1 Y N y nn => ?_) (fun H1 sm1 hD => ?_)
  · obtain ⟨z, hz, rfl⟩ := vi_at hv
    exact ⟨rfl, _, rfl, _, rfl, t2, _, 0, .int b2, rfl, rfl, SqT.of (sm1 _ _ ht2), rfl, z, b2, rfl, rfl, (s1.z (n1 z (List.mem_of_getElem? hz))).cm s2.2 (by omega), y _ _ (Same.refl _) (by show (zs1[i]?).map _ = _; rw [hz]; rfl)⟩
  refine ⟨_, rfl, t2, _, 1, .ref l2, rfl, rfl, SqT.of (sm1 _ _ ht2), rfl, l2, rfl, ⟨_, SqL.of (sm1 _ _ hl2)⟩, fun D2 nD2 => ?_⟩
  refine lc_l (fun i => (zs2[i]?).map fun z : Int => V.int (z * b1)) (SqL.of (sm1 _ _ hl2)) nD2 (by rw [sizeLine_eq]; omega) (fun i v H2 hv sm2 Y N y nn => ?_) (fun H2 sm2 hD2 => ?_)
  · obtain ⟨z, hz, rfl⟩ := vi_at hv
    exact ⟨rfl, _, rfl, _, rfl, t1, _, 0, .int b1, rfl, rfl, SqT.of (sm2 _ _ (sm1 _ _ ht1)), rfl, z, b1, rfl, rfl, (s2.z (n2 z (List.mem_of_getElem? hz))).cm s1.2 (by omega), y _ _ (Same.refl _) (by show (zs2[i]?).map _ = _; rw [hz]; rfl)⟩
  have eF : ∀ (zs : List Int) (b : Int), (List.range (VI zs).length).filterMap (fun i => (zs[i]?).map fun z : Int => V.int (z * b)) = VI (zs.map fun z => z * b) := fun zs b => by
    have := fm_all zs fun z : Int => some (V.int (z * b))
    rw [vi_len]
    have e2 : (fun i : Nat => (zs[i]?).map fun z : Int => V.int (z * b)) = fun i : Nat => (zs[i]?).bind fun z : Int => some (V.int (z * b)) := by
      funext i; cases zs[i]? <;> rfl
    rw [e2, this, List.filterMap_eq_map']; unfold VI; rw [List.map_map]; rfl
  rw [eF] at hD hD2
  refine ⟨_, _, hd_ints (SqL.of (sm2 _ _ hD)), hd_ints (SqL.of hD2), ?_⟩
  rw [decide_eq_true (show (zs1.map fun z => z * b2) = (zs2.map fun z => z * b1) from (cross_iff (by omega) (by omega)).mpr eq)]
  exact q H2 (sm1.trans sm2)
end
end K21

namespace Fp
open PySem PySem.Spec PyProof.Rows L2
/-- == [] -/
def rEqNil : R2 := fun x y H Q => ∃ a b us, x = .ref a ∧ y = .ref b ∧ H a = some (.lst us) ∧ H b = some (.lst []) ∧ Q (.bl us.isEmpty) H
theorem op_eqNil {X : Cx} (hu : X.A.units + 64 < cLine) : OpR X (compareOp .Eq) rEqNil := by
  intro pins s σ H x y v u Q I rx ry hq
  obtain ⟨a, b, us, rfl, rfl, ha, hb, q⟩ := hq
  cases rx
  cases ry
  obtain ⟨_, its, na, rv, hl, he⟩ := I.lstM ha
  obtain ⟨_, it2, nb, rv2, hl2, he2⟩ := I.lstM hb
  have e2 : it2 = [] := List.length_eq_zero_iff.mp (by simpa using hl2.symm)
  subst e2
  show wpAny (model X.prog X.w) X.A (richCompare .Eq (.ref a) (.ref b)) (EP X pins σ Q) X.xe s
  have fin : ∀ k : Bool, k = us.isEmpty → EP X pins σ Q (.bool k) s := fun k hk => ⟨.bl k, H, I, rfl, by rw [hk]; exact q⟩
  cases us with
  | nil =>
    have e1 : its = [] := List.length_eq_zero_iff.mp (by simpa using hl.symm)
    subst e1
    exact SeqAt.RcAt.lists (e := fun _ => true) ⟨_, he, rfl, na, rfl⟩ ⟨_, he2, rfl, nb, rfl⟩ rfl (by omega) (fun j h1 => absurd h1 (by simp)) X.prog X.w X.xe _ (fin _ rfl)
  | cons z r =>
    refine SeqAt.RcAt.lists_lengths ⟨_, he, rfl, na, rfl⟩ ⟨_, he2, rfl, nb, rfl⟩ ?_ (by omega) X.prog X.w X.xe _ (fin _ rfl)
    have : its.length = r.length + 1 := by rw [← hl]; simp
    simp
    intro e
    rw [e] at this
    simp at this
end Fp
namespace K21
open PySem PySem.Spec PyProof.Rows L2 Fp
section
variable {P : Program} {w : World} {K : PySem.W.Frag} {mg : Str → Option Value} {base : Heap} {k : Nat} {C fI fR : Addr}
theorem pot_ne {H : Hp} {p b : Addr} (h : PotOk H p) (n : H b = none) : b ≠ p := fun z => by
  obtain ⟨u, v, e, _⟩ := h
  rw [z, e] at n; cases n
theorem wos_keep {S : List Addr} {H H' : Hp} {p : Addr} (pS : p ∈ S) (k : Keep p H H') : Same (wos S H) (wos S H') := fun b o e => by
  obtain ⟨h1, h2⟩ := wos_some.mp e
  exact wos_some.mpr ⟨h1, k b o (fun z => h1 (z ▸ pS)) h2⟩
theorem OwnP.same {H H' : Hp} {v : V} {b : Int} {zs : List Int} (h : OwnP H v b zs) (e : Same H H') : OwnP H' v b zs := let ⟨t, l, h1, h2, h3⟩ := h; ⟨t, l, h1, e _ _ h2, e _ _ h3⟩
/-- three is the most -/
structure Sm3 (b : Int) (zs : List Int) : Prop where
  b0 : 0 < b
  b3 : b ≤ 3
  z3 : BN 3 zs
  tr : trimI zs = zs
def sp_law_passed (C : Addr) : Sp := fun vs H Q _ => ∃ (p : Addr) (v : V) (b : Int) (zs : List Int), vs = [.ref p, v] ∧ PotOk H p ∧ OwnP (wos [p] H) v b zs ∧ 0 < b ∧ b ≤ 30 ∧ BN 40000 zs ∧ zs.length ≤ 20 ∧ trimI zs = zs ∧ ∀ x H', PotOk H' p → Keep p H H' → PolyQ C (wos [p] H') x (ratsOf b zs) → Q x H'
def sp_law_is_told (C : Addr) : Sp := fun vs H Q _ => ∃ (a : Addr) (us : List V) (xs : List Rat), vs = [.ref a] ∧ H a = some (.lst us) ∧ QL C H us xs ∧ Told xs ∧ us.length ≤ 100 ∧ Ret H Q (.bl true)
theorem RQ.wos {S : List Addr} {H : Hp} {a : Addr} {x : Rat} (r : RQ C H a x) (n : a ∉ S) : RQ C (wos S H) a x := let ⟨dx, h⟩ := r; ⟨dx, by rw [wos_ne n]; exact h⟩
theorem numOf_q {H : Hp} {v : V} {x : Rat} (h : NumQ C H v x) : Fp.numOf H v = nd x ∧ isNum H v = true := by
  rcases h with ⟨rfl, h1⟩ | ⟨a, rfl, dx, h1⟩
  · exact ⟨by show (x.num, (1 : Int)) = (x.num, (x.den : Int)); rw [h1], rfl⟩
  · constructor
    · show Fp.numOf H (.ref a) = nd x
      unfold Fp.numOf
      simp only [h1]; rfl
    · unfold isNum isOwn
      simp only [h1]; rfl
def SmQ (x : Rat) : Prop := okS x.num ∧ okS x.den
theorem PolyQ.mk {H : Hp} {a : Addr} {gs : List V} {xs : List Rat} (hl : H a = some (.lst gs) ∨ H a = some (.tup gs)) (len : gs.length = xs.length) (h : ∀ (i : Nat) v x, gs[i]? = some v → xs[i]? = some x → NumQ C H v x) (sm : ∀ x ∈ xs, SmQ x) (l49 : gs.length ≤ 49) : PolyQ C H (.ref a) (trimQ xs) := by
  have ei : itemsOf H (.ref a) = some gs := by
    unfold itemsOf
    rcases hl with hl | hl <;> simp only [hl]
  have ed : itemsD H (.ref a) = gs := by unfold itemsD; rw [ei]; rfl
  have at_ : ∀ v ∈ gs, ∃ x, x ∈ xs ∧ NumQ C H v x := fun v hv => by
    obtain ⟨i, hi⟩ := List.getElem?_of_mem hv
    have li := (List.getElem?_eq_some_iff.mp hi).1
    have hx : xs[i]? = some xs[i] := List.getElem?_eq_getElem (by omega)
    exact ⟨_, List.getElem_mem _, h i v _ hi hx⟩
  have sk : ∀ v ∈ gs, Sk C H 0 v := fun v hv => by
    obtain ⟨x, hx, nq⟩ := at_ v hv
    obtain ⟨o1, o2⟩ := sm x hx
    rcases nq with ⟨rfl, _⟩ | ⟨b, rfl, r⟩
    · exact Sk.int o1
    · exact Sk.own r o1 o2 RQ.red
  refine ⟨?_, ?_, ?_⟩
  · rcases hl with hl | hl
    · exact Sk.lst (d := 0) hl (by omega) sk
    · exact Sk.tup (d := 0) hl (by omega) sk
  · unfold isPolyV
    rw [ei]
    simp only [Bool.and_eq_true, decide_eq_true_eq, List.all_eq_true]
    exact ⟨l49, fun v hv => let ⟨x, _, nq⟩ := at_ v hv; (numOf_q nq).2⟩
  · unfold toldP
    rw [ed, ← trimP_nd]
    congr 1
    refine List.ext_getElem? fun i => ?_
    rw [List.getElem?_map, List.getElem?_map]
    cases e : gs[i]? with
    | none => rw [List.getElem?_eq_none (by have := List.getElem?_eq_none_iff.mp e; omega)]; rfl
    | some v =>
      have li := (List.getElem?_eq_some_iff.mp e).1
      have hx : xs[i]? = some xs[i] := List.getElem?_eq_getElem (by omega)
      rw [hx]
      show some (Fp.numOf H v) = some (nd xs[i])
      rw [(numOf_q (h i v _ e hx)).1]
theorem smq_of {z b : Int} (hz : z.natAbs ≤ 40000) (b0 : 0 < b) (b30 : b ≤ 30) : SmQ ((z : Rat) / (b : Rat)) := by
  rw [← Rat.divInt_eq_div]
  have := Bits.divInt (n := 16) (t := z) (b := b) (Nat.lt_of_le_of_lt hz (by decide)) (show b.natAbs < 2 ^ 16 by omega) (by omega)
  exact ⟨Nat.lt_trans this.1 (by decide), Nat.lt_trans this.2 (by decide)⟩
theorem trimI_idem (zs : List Int) : trimI (trimI zs) = trimI zs := by
  induction zs using snoc_ind with
  | h0 => rfl
  | h1 A x ih =>
    by_cases h : x = 0
    · rw [trimI_zero h]; exact ih
    · rw [trimI_nz h, trimI_nz h]
theorem keep_same {H H' : Hp} {p : Addr} {S : List Addr} (pS : p ∈ S) (k : Keep p H H') : Same (wos S H) (wos S H') := wos_keep pS k
def Its (C : Addr) (S : List Addr) (G : Hp) (gs : List V) (xs : List Rat) : Prop := gs.length = xs.length ∧ ∀ (j : Nat) v x, gs[j]? = some v → xs[j]? = some x → NumQ C (wos S G) v x
theorem Its.keep {S : List Addr} {G G' : Hp} {gs : List V} {xs : List Rat} {p : Addr} (h : Its C S G gs xs) (pS : p ∈ S) (k : Keep p G G') : Its C S G' gs xs := ⟨h.1, fun j v x a b => (h.2 j v x a b).same (wos_keep pS k)⟩
theorem Its.snoc {S : List Addr} {G : Hp} {gs : List V} {xs : List Rat} {v : V} {x : Rat} (h : Its C S G gs xs) (n : NumQ C (wos S G) v x) : Its C S G (gs ++ [v]) (xs ++ [x]) :=
  ⟨by rw [List.length_append, List.length_append, h.1]; rfl, fun j u y a b => by
    by_cases l : j < gs.length
    · rw [List.getElem?_append_left l] at a
      rw [List.getElem?_append_left (by have := h.1; omega)] at b
      exact h.2 j u y a b
    · rw [List.getElem?_append_right (by omega)] at a
      rw [List.getElem?_append_right (by have := h.1; omega), ← h.1] at b
      by_cases e : j - gs.length = 0
      · rw [e] at a b
        obtain rfl := Option.some.inj a
        obtain rfl := Option.some.inj b
        exact n
      · rw [List.getElem?_eq_none (by simp; omega)] at a; cases a⟩
theorem Its.upd {S : List Addr} {G : Hp} {gs : List V} {xs : List Rat} {F : Addr} {o : HO} (h : Its C S G gs xs) (fS : F ∈ S) : Its C S (upd G F o) gs xs := ⟨h.1, fun j v x a b => by rw [wos_upd fS]; exact h.2 j v x a b⟩
theorem rats_snoc (b : Int) (A : List Int) (x : Int) : ratsOf b (A ++ [x]) = ratsOf b A ++ [(x : Rat) / (b : Rat)] := by unfold ratsOf; rw [List.map_append]; rfl
-- slots: _law_pot_here 0, _law_own_here 1, _law_bottom 2, _law_found 3, _law_number 4, _law_is_whole 5; cells: 
abbrev s_law_passed : Stmt := top 54
abbrev N_law_passed : List Str := ["_law_pot_here", "_law_own_here", "_law_bottom", "_law_found", "_law_number", "_law_is_whole"]
theorem sc_law_passed : FnScope N_law_passed ["_law_pot_here", "_law_own_here"] (defScope s_law_passed) := ⟨rfl, rfl, rfl, by decide +kernel, rfl, by decide +kernel, by decide +kernel⟩
theorem d_law_passed (B : Bnd K mg "_law_passed" s_law_passed) (M : Mg2 mg) (R : RCls K mg C fI fR) {kr : Nat} (RD : RDef P w K mg base kr C) (DQ : RDefQ P w K mg base kr C) (hk : kr + 8 ≤ k) (D_law_draw : Def P w K mg base k "_law_draw" sDraw ["_law_pot_here", "_law_size"] spDraw) (D_law_pick : Def P w K mg base k "_law_pick" sPick ["_law_pot_here", "_law_some"] spPick) : Def P w K mg base (k + 1) "_law_passed" s_law_passed ["_law_pot_here", "_law_own_here"] (sp_law_passed C) := by
  refine def_of B sc_law_passed (by rintro _ _ _ _ ⟨p, v, b, zs, rfl, _⟩; rfl) (fun _ _ _ _ _ _ us hl => match us, hl with | [_, _], _ => rfl) fun f cdv A outer s H vs Q E hr h => ?_
  obtain ⟨p, v, b, zs, rfl, hp, ho, b0, b30, zb, zl, zt, q⟩ := h
  have hu := hr.units
  refine ⟨_, pss_cons (ps_par (i := 2) (j := 3) rfl sc_law_passed.nd rfl rfl (by decide) rfl rfl (pa_cons (pe_ix (r := rIxT K) ix_tup (pv 1) pe_int (fun _ _ => rfl)) (pa_cons (pe_lst pa_nil) pa_nil)) (by rfl))
    (pss_cons (ps_for PassesOwn.never rfl (pi_list (pe_ix (r := rIxT K) ix_tup (pv 1) pe_int (fun _ _ => rfl))) (pg_name (i := 4) sc_law_passed.nd rfl (.inl rfl))
      (pss_cons (ps_set (i := 5) sc_law_passed.nd rfl (.inl rfl) (pe_cmpR op_eq (pe_op op_mulW (pe_op op_fdivNW (pv 4) (pv 2)) (pv 2)) (pv 4) (nomark _)))
      (pss_one (ps_expr (pe_bm PySem.F.plainAttrs_list PySem.F.slot_list_append PySem.F.type_list_append mt_append (pv 3) (pa_cons (pe_ifExp (PW.pt (pw_and (pt_val (pv 5)) (pw_and1 (pt_cmpR op_eq (pe_d D_law_draw hr (by rfl) (pa_cons (pv 0) (pa_cons pe_int pa_nil))) pe_int (nomark _))))) (pe_op op_fdivNW (pv 4) (pv 2)) (pe_ratQ DQ (hr.mono (by omega)) (by rfl) (pa_cons (pv 4) (pa_cons (pv 2) pa_nil)))) pa_nil))))))
    (C8.pss_cut (ps_if (pt_cmpR op_eq (pe_d D_law_draw hr (by rfl) (pa_cons (pv 0) (pa_cons pe_int pa_nil))) pe_int (nomark _))
      (pss_one (ps_expr (pe_bm PySem.F.plainAttrs_list PySem.F.slot_list_append PySem.F.type_list_append mt_append (pv 3) (pa_cons (pe_d D_law_pick hr (by rfl) (pa_cons (pv 0) (pa_cons (pe_lst (pa_cons pe_int (pa_cons (pe_rat RD (hr.mono (by omega)) (by rfl) (pa_cons pe_int pa_nil)) pa_nil))) pa_nil))) pa_nil))))
      (pss_nil))
    (pss_one (ps_ret (pe_ifExp (pt_cmpR op_eq (pe_d D_law_draw hr (by rfl) (pa_cons (pv 0) (pa_cons pe_int pa_nil))) pe_int (nomark _)) (pv 3) (pe_callTy call_tuple_of (by rfl) M.tuple (by decide +kernel) (pa_cons (pv 3) pa_nil))))))), ?_⟩
  obtain ⟨t, l, rfl, ht', hl'⟩ := ho
  have nt : t ≠ p := fun z => by have := (wos_some.mp ht').1; simp [z] at this
  have nl : l ≠ p := fun z => by have := (wos_some.mp hl').1; simp [z] at this
  have ht : H t = some (.tup [.int b, .ref l]) := wos_le _ _ ht'
  have hl : H l = some (.lst (VI zs)) := wos_le _ _ hl'
  have lv := vi_len zs
  refine ⟨_, rfl, t, _, 0, .int b, rfl, rfl, SqT.of ht, rfl, Nat.zero_le _, fun F nF => ⟨_, _, rfl, ?_⟩⟩
  have nFp : F ≠ p := pot_ne hp nF
  have sF := same_new (o := .lst []) nF
  have pS : p ∈ [F, p] := by simp
  have fS : F ∈ [F, p] := by simp
  refine ⟨_, rfl, t, _, 1, .ref l, rfl, rfl, SqT.of (sF _ _ ht), rfl, l, rfl, ⟨_, SqL.of (sF _ _ hl)⟩, ?_⟩
  refine for_list (xs := VI zs) (fun i σ G => ∃ (o4 o5 : Option V) (gs : List V), σ = [some (.ref p), some (.ref t), some (.int b), some (.ref F), o4, o5] ∧ PotOk G p ∧ Keep p H G ∧ G F = some (.lst gs) ∧ Its C [F, p] G gs (ratsOf b (zs.take i)))
    ⟨none, none, [], rfl, hp.same sF, Keep.of sF, upd_same, rfl, fun j v x a => by cases a⟩ (fun i σ G _ ⟨_, _, gs, _, _, kk, _⟩ => SqL.of (kk _ _ nl hl)) (fun i v σ G hv ⟨o4, o5, gs, e, pk, kk, hF, it⟩ => ?_) (fun σ G ⟨o4, o5, gs, e, pk, kk, hF, it⟩ => ?_)
  · subst e
    obtain ⟨z, hz, rfl⟩ := vi_at hv
    have hz2 := zb z (List.mem_of_getElem? hz)
    have bl : LbI 8990 b := Nat.lt_of_le_of_lt (show b.natAbs ≤ 30 by omega) (Nat.lt_of_lt_of_le (show 30 < 2 ^ 5 by decide) (Nat.pow_le_pow_right (by decide) (by decide)))
    have bl5 : LbI 5 b := show b.natAbs < 2 ^ 5 by omega
    have zl8 : LbI 16 z := show z.natAbs < 2 ^ 16 by omega
    have qz : (z.fdiv b).natAbs ≤ 40000 := by
      rw [Int.fdiv_eq_ediv_of_nonneg z (by omega)]
      have := Int.natAbs_ediv_le_natAbs z b
      omega
    have ql8 : LbI 16 (z.fdiv b) := show (z.fdiv b).natAbs < 2 ^ 16 by omega
    have li : gs.length = i := by
      rw [it.1, ratsOf_len, List.length_take]
      have := (List.getElem?_eq_some_iff.mp hz).1
      omega
    have dn : CDivNW z b := bl.div (by omega) (by omega)
    have iz := (List.getElem?_eq_some_iff.mp hz).1
    refine ⟨_, rfl, _, rfl, z, b, rfl, rfl, dn, _, rfl, _, b, rfl, rfl, ql8.cm bl5 (by omega), _, rfl, rfl, ?_⟩
    refine ⟨_, rfl, Or.inl ⟨rfl, _, SqL.of hF⟩, ?_⟩
    have fin : ∀ (u : V) (G2 : Hp), Keep p G G2 → PotOk G2 p → NumQ C (wos [F, p] G2) u ((z : Rat) / b) → (rAppend (.ref F) [u]) G2 fun _ G3 => ∃ (o4 o5 : Option V) (gs : List V), [some (V.ref p), some (.ref t), some (.int b), some (.ref F), some (.int z), some (.bl (decide (V.int (z.fdiv b * b) = V.int z)))] = [some (.ref p), some (.ref t), some (.int b), some (.ref F), o4, o5] ∧ PotOk G3 p ∧ Keep p H G3 ∧ G3 F = some (.lst gs) ∧ Its C [F, p] G3 gs (ratsOf b (zs.take (i + 1))) := fun u G2 k2 pk2 nq => by
      have hF2 := k2 _ _ nFp hF
      refine ⟨F, gs, u, rfl, rfl, hF2, small (by omega), _, _, gs ++ [u], rfl, ?_, fun c o hc ho => ?_, upd_same, ?_⟩
      · obtain ⟨x, y, e, w⟩ := pk2
        exact ⟨x, y, by rw [upd_ne nFp.symm]; exact e, w⟩
      · rw [upd_ne (ne_of_none ho nF)]
        exact k2 _ _ hc (kk _ _ hc ho)
      · rw [takeS hz, rats_snoc]
        exact ((it.keep pS k2).snoc nq).upd fS
    have ratC : ∀ G2, Keep p G G2 → PotOk G2 p → tRatQ C (tCons (tVar 4) (tCons (tVar 2) tNil)) [some (V.ref p), some (.ref t), some (.int b), some (.ref F), some (.int z), some (.bl (decide (V.int (z.fdiv b * b) = V.int z)))] G2 fun y G3 => (rAppend (.ref F) [y]) G3 fun _ G3 => ∃ (o4 o5 : Option V) (gs : List V), [some (V.ref p), some (.ref t), some (.int b), some (.ref F), some (.int z), some (.bl (decide (V.int (z.fdiv b * b) = V.int z)))] = [some (.ref p), some (.ref t), some (.int b), some (.ref F), o4, o5] ∧ PotOk G3 p ∧ Keep p H G3 ∧ G3 F = some (.lst gs) ∧ Its C [F, p] G3 gs (ratsOf b (zs.take (i + 1))) := fun G2 k2 pk2 => by
      refine ⟨_, rfl, _, rfl, z, b, rfl, by omega, bl, fun a G3 na s3 r => ?_⟩
      have naF : a ≠ F := fun e => by rw [e, k2 _ _ nFp hF] at na; cases na
      have nap : a ≠ p := pot_ne pk2 na
      refine fin (.ref a) G3 (k2.trans (Keep.of s3)) (pk2.same s3) ?_
      rw [Rat.divInt_eq_div] at r
      exact (RQ.wos r (by simp [naF, nap])).nq
    refine ⟨_, rfl, _, rfl, ?_⟩
    by_cases hw : z.fdiv b * b = z
    · have hd : decide (V.int (z.fdiv b * b) = V.int z) = true := decide_eq_true (by rw [hw])
      refine iteT2 hd ⟨_, rfl, p, 2, rfl, pk, by omega, by omega, fun d G2 d0 d1 pk2 k2 => ⟨rfl, _, rfl, ite2 (fun _ => ?_) (fun _ => ?_)⟩⟩
      · refine ⟨_, rfl, _, rfl, z, b, rfl, rfl, dn, fin _ G2 k2 pk2 (.inl ?_)⟩
        have ez : (z : Rat) / b = ((z.fdiv b : Int) : Rat) := by
          have c1 := cast_ne (show b ≠ 0 by omega)
          have : (z : Rat) = ((z.fdiv b : Int) : Rat) * b := by rw [← Rat.intCast_mul, hw]
          rw [this, Rat.mul_div_cancel c1]
        rw [ez]
        exact ⟨rfl, rfl⟩
      · exact ratC G2 k2 pk2
    · have hd : decide (V.int (z.fdiv b * b) = V.int z) = false := decide_eq_false fun e => hw (V.int.inj e)
      refine iteF2 hd (iteF ?_)
      exact ratC G (Keep.refl _ _) pk
  · subst e
    rw [lv, List.take_length] at it
    have zero : (0 : Rat) = 0 := rfl
    have sm0 : ∀ x ∈ ratsOf b zs, SmQ x := fun x hx => by
      obtain ⟨z, hz, rfl⟩ := List.mem_map.mp hx
      exact smq_of (zb z hz) b0 b30
    have tr0 : trimQ (ratsOf b zs) = ratsOf b zs := by rw [← ratsOf_trim (by omega), zt]
    refine ⟨fun σ' G' => ∃ (o4 o5 : Option V) (gs : List V) (xs : List Rat), σ' = [some (.ref p), some (.ref t), some (.int b), some (.ref F), o4, o5] ∧ PotOk G' p ∧ Keep p H G' ∧ G' F = some (.lst gs) ∧ Its C [F, p] G' gs xs ∧ (∀ x ∈ xs, SmQ x) ∧ trimQ xs = ratsOf b zs ∧ xs.length ≤ 30, ?_, ?_⟩
    · refine ⟨_, rfl, p, 3, rfl, pk, by omega, by omega, fun d G2 d0 d1 pk2 k2 => ⟨rfl, _, rfl, ite2 (fun _ => ?_) (fun _ => ?_)⟩⟩
      · have hF2 := k2 _ _ nFp hF
        refine ⟨_, rfl, Or.inl ⟨rfl, _, SqL.of hF2⟩, _, rfl, 0, rfl, fun a G3 na s3 r => ⟨by show 2 ≤ sizeLine; decide, fun c nc => ?_⟩⟩
        have sc := same_new (o := .lst [V.int 0, V.ref a]) nc
        have nec : c ≠ p := pot_ne (pk2.same s3) nc
        refine ⟨p, c, _, rfl, (pk2.same s3).same sc, upd_same, nec, by show 1 ≤ 2; decide, by show 2 ≤ 1000; decide, fun x G4 hx pk4 k4 => ?_⟩
        have hF4 := k4 _ _ nFp (sc _ _ (s3 _ _ hF2))
        have k24 : Keep p G G4 := (k2.trans (Keep.of (s3.trans sc))).trans k4
        have naF : a ≠ F := fun e => by rw [e, hF2] at na; cases na
        have nap : a ≠ p := pot_ne pk2 na
        have nq : NumQ C (wos [F, p] G4) x 0 := by
          simp only [List.mem_cons, List.not_mem_nil, or_false] at hx
          rcases hx with h | h
          · exact .inl ⟨h, rfl⟩
          · subst h
            have r0 : RQ C G3 a 0 := r
            have w3 := RQ.wos (S := [F, p]) r0 (by simp [naF, nap])
            exact (w3.same ((wos_same sc).trans (wos_keep pS k4))).nq
        refine ⟨F, gs, x, rfl, rfl, hF4, small (by have := it.1; rw [ratsOf_len] at this; omega), _, _, gs ++ [x], ratsOf b zs ++ [0], rfl, ?_, fun c o hc ho => ?_, upd_same, ((it.keep pS k24).snoc nq).upd fS, fun x hx => ?_, ?_, ?_⟩
        · obtain ⟨x, y, e, w⟩ := pk4
          exact ⟨x, y, by rw [upd_ne nFp.symm]; exact e, w⟩
        · rw [upd_ne (ne_of_none ho nF)]
          exact k24 _ _ hc (kk _ _ hc ho)
        · rcases List.mem_append.mp hx with h | h
          · exact sm0 x h
          · rw [List.mem_singleton.mp h]; exact ⟨by decide, by decide⟩
        · rw [trimQ_zero rfl, tr0]
        · rw [List.length_append, ratsOf_len]; simp; omega
      · exact ⟨_, _, gs, ratsOf b zs, rfl, pk2, kk.trans k2, k2 _ _ nFp hF, it.keep pS k2, sm0, tr0, by rw [ratsOf_len]; omega⟩
    rintro _ G2 ⟨o4, o5, gs2, xs, rfl, pk2, k2, hF2, it2, sm, tr, lx⟩
    have l2 := it2.1
    refine ⟨_, rfl, p, 2, rfl, pk2, by omega, by omega, fun d G3 d0 d1 pk3 k3 => ⟨rfl, _, rfl, ite2 (fun _ => ?_) (fun _ => ?_)⟩⟩
    · have it3 := it2.keep pS k3
      have hF3 := k3 _ _ nFp hF2
      refine ⟨_, rfl, q (.ref F) G3 pk3 (k2.trans k3) ?_⟩
      rw [← tr]
      refine PolyQ.mk (.inl (by rw [wos_ne (by simp [nFp])]; exact hF3)) l2 (fun i v x a b => (it3.2 i v x a b).same (wos_sub fun c hc => ?_)) sm (by omega)
      exact .inl (by simp at hc; simp [hc])
    · have it3 := it2.keep pS k3
      have hF3 := k3 _ _ nFp hF2
      refine ⟨_, rfl, F, gs2, rfl, .inl ⟨SqL.of hF3, fun a na => ?_⟩⟩
      have sa := same_new (o := .tup gs2) na
      have nap : a ≠ p := pot_ne pk3 na
      refine q (.ref a) _ (pk3.same sa) ((k2.trans k3).trans (Keep.of sa)) ?_
      rw [← tr]
      refine PolyQ.mk (.inr (by rw [wos_ne (by simp [nap])]; exact upd_same)) l2 (fun i v x a b => ((it3.2 i v x a b).same (wos_same sa)).same (wos_sub fun c hc => ?_)) sm (by omega)
      exact .inl (by simp at hc; simp [hc])
end
end K21

namespace K21
open PySem PySem.Spec PyProof.Rows L2 Fp
section
variable {P : Program} {w : World} {K : PySem.W.Frag} {mg : Str → Option Value} {base : Heap} {k : Nat} {C fI fR : Addr}
theorem OwnF.own {H H' : Hp} {v : V} {b : Int} {zs : List Int} (h : OwnF H H' v b zs) : OwnP H' v b zs := let ⟨t, l, h1, _, _, h4, h5⟩ := h; ⟨t, l, h1, h4, h5⟩
def sp_law_is (C : Addr) : Sp := fun vs H Q _ => ∃ (a : Addr) (us : List V) (xs : List Rat) (v : V) (b : Int) (zs : List Int) (N k : Nat), vs = [.ref a, v] ∧ H a = some (.lst us) ∧ QL C H us xs ∧ AllB 8000 xs ∧ xs.length ≤ 49 ∧ OwnP H v b zs ∧ b ≠ 0 ∧ BN N zs ∧ Sz k N b ∧ k ≤ 8000 ∧ xs = ratsOf b zs ∧ Ret H Q (.bl true)
-- slots: _law_told 0, _law_own_here 1, _law_number 2; cells: 
abbrev s_law_is : Stmt := top 53
abbrev N_law_is : List Str := ["_law_told", "_law_own_here", "_law_number"]
theorem sc_law_is : FnScope N_law_is ["_law_told", "_law_own_here"] (defScope s_law_is) := ⟨rfl, rfl, rfl, by decide +kernel, rfl, by decide +kernel, by decide +kernel⟩
theorem d_law_is (B : Bnd K mg "_law_is" s_law_is) (M : Mg2 mg) (R : RCls K mg C fI fR) (J : RIsi K C) (D_law_own : Def P w K mg base k "_law_own" s_law_own ["_law_told"] (sp_law_own C)) (D_law_same : Def P w K mg base k "_law_same" s_law_same ["_law_one", "_law_other"] (sp_law_same K)) : Def P w K mg base (k + 1) "_law_is" s_law_is ["_law_told", "_law_own_here"] (sp_law_is C) := by
  refine def_of B sc_law_is (by rintro _ _ _ _ ⟨a, us, xs, v, b, zs, N, k1, rfl, _⟩; rfl) (fun _ _ _ _ _ _ us hl => match us, hl with | [_, _], _ => rfl) fun f cdv A outer s H vs Q E hr h => ?_
  obtain ⟨a, us, xs, v, b, zs, N, k1, rfl, ha, hQ, bx, lx, ho, b0, zb, sz, k9, ex, q⟩ := h
  have hu := hr.units
  refine ⟨_, C8.pss_cut (ps_if (PW.pt (pw_or (pt_not (pt_val (pe_callB call_isi (by rfl) M.isi (by decide +kernel) (pa_cons (pv 0) (pa_cons (pe_bltn (v := .ty "list") (by rfl) M.list (by decide +kernel) rfl) pa_nil))))) (pw_or1 (pt_not (pt_val (pe_callB (cr_all rfl) (by rfl) M.all boot_all (pa_cons (pe_lc (own := [("_law_number", 2)]) (g := (gName 2)) (tt := tYes) (te := (tCB (rIsi K) (tCons (tVar 2) (tCons (tC (.ref C)) tNil)))) rfl sc_law_is.nd (pi_list (pv 0)) (blkOk_by (own := [("_law_number", 2)]) (N := N_law_is) (sc := defScope s_law_is) (by decide +kernel)) (fun _ _ _ _ _ => pg_name (i := 2) sc_law_is.nd rfl (.inl rfl)) (fun _ _ _ _ _ => pts_nil) (fun _ _ _ _ _ => pe_callB (show CallR _ _ (rIsi K) from call_isi) (by rfl) M.isi (by decide +kernel) (pa_cons (pv 2) (pa_cons (pe_glob (v := .ref C) (by rfl) R.mgC rfl) pa_nil)))) pa_nil)))))))
      (pss_one (ps_ret pe_bl))
      (pss_nil))
    (pss_one (ps_ret (pe_d D_law_same hr (by rfl) (pa_cons (pe_d D_law_own hr (by rfl) (pa_cons (pv 0) pa_nil)) (pa_cons (pv 1) pa_nil))))), ?_⟩
  have lu := QL.len hQ
  refine ⟨fun σ' G => σ' = [some (.ref a), some v, none] ∧ Same H G, ?_, ?_⟩
  · refine ⟨_, rfl, _, _, _, _, true, rfl, .ty _, .base (.lst ha), kit_ty (r := true) (by decide +kernel), true, rfl, iteF ?_⟩
    refine ⟨_, rfl, a, rfl, ⟨us, SqL.of ha⟩, fun D nD => ?_⟩
    refine lc_l (fun i => (us[i]?).map fun _ => V.bl true) (SqL.of ha) nD (by rw [sizeLine_eq]; omega) (fun i v H1 hv s1 Y N y nn => ?_) (fun H1 s1 hD => ?_)
    · obtain ⟨x, c, hx, rfl, r⟩ := QL.at hQ hv
      obtain ⟨dx, r1⟩ := id (r.same s1)
      exact ⟨rfl, _, rfl, _, _, _, _, true, rfl, .own C, .base (.ins r1 R.cl R.isA R.isN R.isT R.isM), J.c, y _ _ (Same.refl _) (by show (us[i]?).map _ = _; rw [hv]; rfl)⟩
    · have e := fm_bl us (fun _ => true)
      rw [e] at hD
      refine ⟨D, us.map (fun _ => true), rfl, SqL.of hD, _, rfl, iteF2 ?_ ⟨rfl, s1⟩⟩
      have : (us.map fun _ => true).all id = true := by simp
      rw [this]; rfl
  rintro _ G ⟨rfl, sG⟩
  refine ⟨_, rfl, a, us, xs, rfl, sG _ _ ha, RatL.same hQ sG, bx, lx, fun v3 H3 b3 zs3 s3 of3 p3 e3 sz3 bn3 _ => ?_⟩
  have l3 : zs3.length = xs.length := by rw [← e3, ratsOf_len]
  have lz : zs.length = xs.length := by rw [ex, ratsOf_len]
  exact ⟨_, rfl, v3, v, b3, b, zs3, zs, _, N, 401000, k1, rfl, of3.own, ho.same (sG.trans s3), (by omega), b0, bn3, zb, sz3, sz, by omega, by omega, by omega, by rw [e3, ex], fun H4 s4 => q H4 ((sG.trans s3).trans s4)⟩
end
end K21

namespace Fp
/-! ### the common part's negative, and the common part of two that are multiplied by one -/
theorem mulL_neg (G Q : List Int) (n : Nat) : zc (mulL (smL (-1) G) (smL (-1) Q)) n = zc (mulL G Q) n := by
  have a := mulL_lin (G := smL (-1) G) (P := Q) (Q := []) (R := smL (-1) Q) (c := -1) (d := 0) (fun n => by rw [smL_z, Int.zero_mul, Int.add_zero]) n
  have b := mulL_lin' (G := Q) (P := G) (Q := []) (R := smL (-1) G) (c := -1) (d := 0) (fun n => by rw [smL_z, Int.zero_mul, Int.add_zero]) n
  rw [a, b]; omega
theorem GcdL.neg {A B G : List Int} (h : GcdL A B G) : GcdL A B (smL (-1) G) := by
  obtain ⟨p, ⟨Q, hQ⟩, ⟨R, hR⟩, ⟨c, U, V, c0, e⟩⟩ := h
  refine ⟨fun d hd => p d fun n => ?_, ⟨smL (-1) Q, fun n => by rw [mulL_neg]; exact hQ n⟩, ⟨smL (-1) R, fun n => by rw [mulL_neg]; exact hR n⟩, ⟨-c, U, V, by omega, fun n => ?_⟩⟩
  · have := hd n
    rw [smL_z] at this
    have := Int.dvd_neg.mpr this
    rwa [show -(-1 * zc G n) = zc G n by omega] at this
  · rw [smL_z, ← e]; grind
theorem PrimL.mul {G M : List Int} (g : PrimL G) (m : PrimL M) : PrimL (mulL G M) := fun d hd => by
  by_cases d1 : d = 1
  · exact d1
  by_cases d0 : d = 0
  · subst d0
    obtain ⟨i, hi⟩ := g.ne
    obtain ⟨j, hj⟩ := m.ne
    have := mul_none prI_zero (G := G) (P := M) ⟨i, fun z => hi (Int.zero_dvd.mp z)⟩ hd j
    exact absurd (Int.zero_dvd.mp this) hj
  obtain ⟨q, hq, qd⟩ := pr_exists d (by omega)
  obtain ⟨j, hj⟩ := m.neM hq
  exact absurd (mul_none hq.i (g.neM hq) (fun n => Int.dvd_trans (Int.natCast_dvd_natCast.mpr qd) (hd n)) j) hj
theorem GcdL.mulM {A B G M A2 B2 G2 : List Int} (h : GcdL A B G) (m : PrimL M) (eA : ∀ n, zc A2 n = zc (mulL A M) n) (eB : ∀ n, zc B2 n = zc (mulL B M) n) (eG : ∀ n, zc G2 n = zc (mulL G M) n) : GcdL A2 B2 G2 := by
  obtain ⟨p, ⟨Q, hQ⟩, ⟨R, hR⟩, ⟨c, U, V, c0, e⟩⟩ := h
  have sw : ∀ {X Y X2 : List Int}, (∀ n, zc X n = zc (mulL G Y) n) → (∀ n, zc X2 n = zc (mulL X M) n) → ∀ n, zc X2 n = zc (mulL G2 Y) n := fun {X Y X2} h1 h2 n => by
    rw [h2, mulL_congr' h1, mulL_assoc, mulL_congr (mulL_comm Y M), ← mulL_assoc]
    exact mulL_congr' (fun n => (eG n).symm) n
  refine ⟨fun d hd => (p.mul m) d fun n => by rw [← eG]; exact hd n, ⟨Q, sw hQ eA⟩, ⟨R, sw hR eB⟩, ⟨c, U, V, c0, fun n => ?_⟩⟩
  rw [eG]
  have l1 := mulL_lin' (G := M) (P := G) (Q := []) (R := smL c G) (c := c) (d := 0) (fun n => by rw [smL_z, Int.zero_mul, Int.add_zero]) n
  have l2 := mulL_lin' (G := M) (P := mulL U A) (Q := mulL V B) (R := smL c G) (c := 1) (d := 1) (fun n => by rw [smL_z, e, Int.one_mul, Int.one_mul]) n
  have a1 : zc (mulL U A2) n = zc (mulL (mulL U A) M) n := by rw [mulL_assoc]; exact mulL_congr eA n
  have a2 : zc (mulL V B2) n = zc (mulL (mulL V B) M) n := by rw [mulL_assoc]; exact mulL_congr eB n
  rw [a1, a2]
  omega
end Fp

namespace Fp
/-! ### products of seven polynomials that cannot be parted -/
def fac (i : Nat) : List Int := [[0, 1], [-1, 1], [2, 1], [-1, 2], [1, 0, 1], [-2, 0, 1], [1, 1, 1]].getD i []
def fdeg (i : Nat) : Nat := [1, 1, 1, 1, 2, 2, 2].getD i 0
/-- U fac i + V fac j = c -/
def cofT : List (List Int × List Int × Int) := [([], [], 0), ([1], [-1], 1), ([-1], [1], 2), ([2], [-1], 1), ([0, -1], [1], 1), ([0, 1], [-1], 2), ([-1, -1], [1], 1), ([-1], [1], 1), ([], [], 0), ([-1], [1], 3), ([-2], [1], 1), ([-1, -1], [1], 2), ([1, 1], [-1], 1), ([-2, -1], [1], 3), ([1], [-1], 2), ([1], [-1], 3), ([], [], 0), ([2], [-1], 5), ([2, -1], [1], 5), ([2, -1], [1], 2), ([1, -1], [1], 3), ([-1], [2], 1), ([1], [-2], 1), ([-1], [2], 5), ([], [], 0), ([-1, -2], [4], 5), ([1, 2], [-4], 7), ([-3, -2], [4], 7), ([1], [0, -1], 1), ([1], [-1, -1], 2), ([1], [2, -1], 5), ([4], [-1, -2], 5), ([], [], 0), ([1], [-1], 3), ([1, 1], [0, -1], 1), ([-1], [0, 1], 2), ([-1], [1, 1], 1), ([1], [2, -1], 2), ([-4], [1, 2], 7), ([-1], [1], 3), ([], [], 0), ([-2, 1], [3, -1], 7), ([1], [-1, -1], 1), ([1], [-2, -1], 3), ([1], [1, -1], 3), ([4], [-3, -2], 7), ([0, -1], [1, 1], 1), ([3, -1], [-2, 1], 7), ([], [], 0)]
abbrev EqZ (P Q : List Int) : Prop := ∀ n, zc P n = zc Q n
theorem EqZ.mul {P P' Q Q' : List Int} (h : EqZ P P') (g : EqZ Q Q') : EqZ (mulL P Q) (mulL P' Q') := fun n => by rw [mulL_congr' h, mulL_congr g]
def powL (f : List Int) : Nat → List Int
  | 0 => [1]
  | n + 1 => mulL f (powL f n)
/-- the product of the first k, the i-th e i times -/
def Pm (e : Nat → Nat) : Nat → List Int
  | 0 => [1]
  | k + 1 => mulL (powL (fac k) (e k)) (Pm e k)
theorem powL_add (f : List Int) (a : Nat) : ∀ b, EqZ (powL f (b + a)) (mulL (powL f b) (powL f a))
  | 0 => fun n => by rw [Nat.zero_add]; exact (mulL_one' _ n).symm
  | b + 1 => fun n => by
    rw [show b + 1 + a = (b + a) + 1 by omega]
    show zc (mulL f (powL f (b + a))) n = zc (mulL (mulL f (powL f b)) (powL f a)) n
    rw [mulL_assoc]
    exact mulL_congr (powL_add f a b) n
theorem mul_mid (A B C D : List Int) : EqZ (mulL (mulL A B) (mulL C D)) (mulL (mulL A C) (mulL B D)) := fun n => by
  rw [mulL_assoc, mulL_assoc]
  exact mulL_congr (fun m => mulL_swap B C D m) n
theorem Pm_add (a b : Nat → Nat) : ∀ k, EqZ (Pm (fun i => a i + b i) k) (mulL (Pm a k) (Pm b k))
  | 0 => fun n => (mulL_one' _ n).symm
  | k + 1 => fun n => by
    show zc (mulL (powL (fac k) (a k + b k)) (Pm (fun i => a i + b i) k)) n = zc (mulL (mulL (powL (fac k) (a k)) (Pm a k)) (mulL (powL (fac k) (b k)) (Pm b k))) n
    rw [mul_mid]
    exact EqZ.mul (powL_add _ _ _) (Pm_add a b k) n
theorem Pm_congr {a b : Nat → Nat} : ∀ {k : Nat}, (∀ i, i < k → a i = b i) → Pm a k = Pm b k
  | 0, _ => rfl
  | k + 1, h => by
    show mulL (powL (fac k) (a k)) (Pm a k) = mulL (powL (fac k) (b k)) (Pm b k)
    rw [h k (by omega), Pm_congr fun i hi => h i (by omega)]
/-! without a common divisor -/
theorem prim_one : PrimL [1] := fun d hd => by
  have := Int.natAbs_dvd_natAbs.mpr (hd 0)
  have e : zc [1] 0 = 1 := rfl
  rw [e] at this
  exact Nat.dvd_one.mp this
theorem fac_prim {i : Nat} (h : i < 7) : PrimL (fac i) := fun d hd => by
  obtain ⟨n, hn⟩ : ∃ n, (zc (fac i) n).natAbs = 1 := by
    have : ∀ i, i < 7 → (zc (fac i) 0).natAbs = 1 ∨ (zc (fac i) 1).natAbs = 1 ∨ (zc (fac i) 2).natAbs = 1 := by decide
    rcases this i h with h | h | h <;> exact ⟨_, h⟩
  have := Int.natAbs_dvd_natAbs.mpr (hd n)
  rw [hn] at this
  exact Nat.dvd_one.mp this
theorem powL_prim {f : List Int} (h : PrimL f) : ∀ n, PrimL (powL f n)
  | 0 => prim_one
  | n + 1 => h.mul (powL_prim h n)
theorem Pm_prim (e : Nat → Nat) : ∀ k, k ≤ 7 → PrimL (Pm e k)
  | 0, _ => prim_one
  | k + 1, h => (powL_prim (fac_prim (by omega)) _).mul (Pm_prim e k (by omega))
/-! sizes -/
def BdZ (B : Nat) (P : List Int) : Prop := ∀ n, (zc P n).natAbs ≤ B
theorem fac_bd {i : Nat} (h : i < 7) {P : List Int} {B : Nat} (b : BdZ B P) : BdZ (3 * B) (mulL (fac i) P) := fun n => by
  have out : ∀ k, 3 ≤ k → zc (fac i) k = 0 := fun k hk => zc_out (by
    have : ∀ i, i < 7 → (fac i).length ≤ 3 := by decide
    have := this i h; omega)
  have e : ∀ i, i < 7 → (zc (fac i) 0).natAbs + (zc (fac i) 1).natAbs + (zc (fac i) 2).natAbs ≤ 3 := by decide
  have e := e i h
  rw [mulL_few out]
  have g : ∀ m, (if m ≤ n then zc P (n - m) else 0).natAbs ≤ B := fun m => by
    split
    · exact b _
    · exact Nat.zero_le _
  have m : ∀ k, ((if k ≤ n then zc P (n - k) else 0) * zc (fac i) k).natAbs ≤ B * (zc (fac i) k).natAbs := fun k => by
    rw [Int.natAbs_mul]; exact Nat.mul_le_mul_right _ (g k)
  have s : sumI (fun k => (if k ≤ n then zc P (n - k) else 0) * zc (fac i) k) 3 = (if 0 ≤ n then zc P (n - 0) else 0) * zc (fac i) 0 + (if 1 ≤ n then zc P (n - 1) else 0) * zc (fac i) 1 + (if 2 ≤ n then zc P (n - 2) else 0) * zc (fac i) 2 := by
    simp only [sumI]; omega
  rw [s]
  have m0 := m 0
  have m1 := m 1
  have m2 := m 2
  have l : B * (zc (fac i) 0).natAbs + B * (zc (fac i) 1).natAbs + B * (zc (fac i) 2).natAbs ≤ B * 3 := by
    rw [← Nat.mul_add, ← Nat.mul_add]; exact Nat.mul_le_mul_left _ e
  omega
theorem powL_bd {i : Nat} (h : i < 7) {P : List Int} {B : Nat} (b : BdZ B P) : ∀ m, BdZ (3 ^ m * B) (mulL (powL (fac i) m) P)
  | 0 => fun n => by
    show (zc (mulL [1] P) n).natAbs ≤ _
    rw [mulL_one', Nat.pow_zero, Nat.one_mul]; exact b n
  | m + 1 => fun n => by
    show (zc (mulL (mulL (fac i) (powL (fac i) m)) P) n).natAbs ≤ _
    rw [mulL_assoc, Nat.pow_succ, Nat.mul_comm (3 ^ m) 3, Nat.mul_assoc]
    exact fac_bd h (powL_bd h b m) n
def sumE (e : Nat → Nat) : Nat → Nat
  | 0 => 0
  | k + 1 => e k + sumE e k
theorem Pm_bd (e : Nat → Nat) : ∀ k, k ≤ 7 → BdZ (3 ^ sumE e k) (Pm e k)
  | 0, _ => fun n => by
    show (zc [1] n).natAbs ≤ 1
    rw [zc_cons]; split
    · decide
    · exact Nat.zero_le _
  | k + 1, h => fun n => by
    show (zc (mulL (powL (fac k) (e k)) (Pm e k)) n).natAbs ≤ 3 ^ (e k + sumE e k)
    rw [Nat.pow_add]
    exact powL_bd (by omega) (Pm_bd e k (by omega)) (e k) n
/-! heads -/
def Top (P : List Int) (d : Nat) : Prop := (∀ n, d < n → zc P n = 0) ∧ 0 < zc P d
theorem Top.mul {P Q : List Int} {d e : Nat} (h : Top P d) (g : Top Q e) : Top (mulL P Q) (d + e) := by
  constructor
  · intro n hn
    rw [mulL_sum]
    refine Int.zero_dvd.mp (sumI_dvd_all fun i hi => ?_)
    by_cases c : i ≤ d
    · rw [g.1 _ (by omega), Int.mul_zero]; exact Int.dvd_refl 0
    · rw [h.1 _ (by omega), Int.zero_mul]; exact Int.dvd_refl 0
  · rw [mulL_sum]
    have := sumI_dvd (q := 0) (f := fun i => zc P i * zc Q (d + e - i)) (m := d) (n := d + e + 1) (by omega) fun i hi ne => by
      by_cases z : i < d
      · rw [g.1 _ (by omega), Int.mul_zero]; exact Int.dvd_refl 0
      · rw [h.1 _ (by omega), Int.zero_mul]; exact Int.dvd_refl 0
    have := Int.zero_dvd.mp this
    rw [show d + e - d = e by omega] at this
    have m := Int.mul_pos h.2 g.2
    omega
theorem top_one : Top [1] 0 := ⟨fun n hn => by rw [zc_cons, if_neg (by omega)]; rfl, by decide⟩
theorem fac_top {i : Nat} (h : i < 7) : Top (fac i) (fdeg i) := by
  have a : ∀ i, i < 7 → 0 < zc (fac i) (fdeg i) ∧ (fac i).length = fdeg i + 1 := by decide
  obtain ⟨x, y⟩ := a i h
  exact ⟨fun n hn => zc_out (by omega), x⟩
theorem powL_top {f : List Int} {d : Nat} (h : Top f d) : ∀ n, Top (powL f n) (n * d)
  | 0 => by rw [Nat.zero_mul]; exact top_one
  | n + 1 => by
    have := h.mul (powL_top h n)
    rw [Nat.succ_mul, Nat.add_comm (n * d)]; exact this
def degE (e : Nat → Nat) : Nat → Nat
  | 0 => 0
  | k + 1 => e k * fdeg k + degE e k
theorem Pm_top (e : Nat → Nat) : ∀ k, k ≤ 7 → Top (Pm e k) (degE e k)
  | 0, _ => top_one
  | k + 1, h => (powL_top (fac_top (by omega)) _).mul (Pm_top e k (by omega))
/-! without a common part: together they make a number that p does not divide -/
def Cop (p : Nat) (A B : List Int) : Prop := ∃ (c : Int) (U V : List Int), ¬ (p : Int) ∣ c ∧ ∀ n, zc (mulL U A) n + zc (mulL V B) n = c * zc [1] n
theorem Cop.symm {p : Nat} {A B : List Int} (h : Cop p A B) : Cop p B A := let ⟨c, U, V, h1, h2⟩ := h; ⟨c, V, U, h1, fun n => by rw [Int.add_comm]; exact h2 n⟩
theorem Cop.one {p : Nat} (hp : Pr p) (A : List Int) : Cop p A [1] := ⟨1, [], [1], pr_ndvd (by decide) (by have := hp.1; omega), fun n => by
  have : zc (mulL [] A) n = 0 := rfl
  rw [this, mulL_one]; omega⟩
theorem mulL_sm1 (c : Int) (C : List Int) (n : Nat) : zc (mulL (smL c [1]) C) n = c * zc C n := by
  rw [mulL_lin' (P := [1]) (Q := []) (c := c) (d := 0) (fun n => by rw [smL_z]; omega) n, mulL_one']; omega
theorem Cop.mul {p : Nat} (hp : Pr p) {A B C : List Int} (h : Cop p A B) (g : Cop p A C) : Cop p A (mulL B C) := by
  obtain ⟨c, U, V, hc, e⟩ := h
  obtain ⟨c', U', W, hc', e'⟩ := g
  have eC : ∀ n, c * zc C n = zc (mulL (mulL U A) C) n + zc (mulL (mulL V B) C) n := fun n => by
    have := mulL_lin' (G := C) (P := mulL U A) (Q := mulL V B) (R := smL c [1]) (c := 1) (d := 1) (fun n => by rw [smL_z, ← e n]; omega) n
    rw [mulL_sm1] at this; omega
  have eWC : ∀ n, c * zc (mulL W C) n = zc (mulL W (mulL (mulL U A) C)) n + zc (mulL W (mulL (mulL V B) C)) n := fun n => by
    have a := mulL_lin (G := W) (P := C) (Q := []) (R := smL c C) (c := c) (d := 0) (fun n => by rw [smL_z]; omega) n
    have b := mulL_lin (G := W) (P := mulL (mulL U A) C) (Q := mulL (mulL V B) C) (R := smL c C) (c := 1) (d := 1) (fun n => by rw [smL_z, eC]; omega) n
    omega
  refine ⟨c * c', addL (smL c U') (mulL W (mulL U C)), mulL W V, not_dvd_mul hp.i hc hc', fun n => ?_⟩
  have h1 := mulL_lin' (G := A) (P := U') (Q := mulL W (mulL U C)) (R := addL (smL c U') (mulL W (mulL U C))) (c := c) (d := 1) (fun n => by rw [addL_z, smL_z]; omega) n
  have h2 : zc (mulL (mulL W (mulL U C)) A) n = zc (mulL W (mulL (mulL U A) C)) n := by
    rw [mulL_assoc]
    refine mulL_congr (fun m => ?_) n
    rw [mulL_assoc, mulL_assoc]
    exact mulL_congr (fun m => mulL_comm C A m) m
  have h3 : zc (mulL (mulL W V) (mulL B C)) n = zc (mulL W (mulL (mulL V B) C)) n := by
    rw [mulL_assoc]
    exact mulL_congr (fun m => (mulL_assoc V B C m).symm) n
  rw [h1, h2, h3]
  have := eWC n
  have k := e' n
  have k2 : c * zc (mulL U' A) n + c * zc (mulL W C) n = c * (c' * zc [1] n) := by rw [← Int.mul_add, k]
  rw [Int.mul_assoc]
  omega
def cof (i j : Nat) : List Int × List Int × Int := cofT.getD (7 * i + j) ([], [], 0)
theorem cof_ok : ∀ i, i < 7 → ∀ j, j < 7 → i ≠ j → (cof i j).2.2 ≠ 0 ∧ (cof i j).2.2.natAbs ≤ 7 ∧ ∀ n, n < 12 → (addL (mulL (cof i j).1 (fac i)) (mulL (cof i j).2.1 (fac j))).getD n 0 = (cof i j).2.2 * [1].getD n 0 ∧ (addL (mulL (cof i j).1 (fac i)) (mulL (cof i j).2.1 (fac j))).length ≤ 12 := by decide +kernel
theorem fac_cop {p : Nat} (hp : Pr p) (h7 : 7 < p) {i j : Nat} (hi : i < 7) (hj : j < 7) (ne : i ≠ j) : Cop p (fac i) (fac j) := by
  obtain ⟨c0, c7, e⟩ := cof_ok i hi j hj ne
  refine ⟨(cof i j).2.2, (cof i j).1, (cof i j).2.1, pr_ndvd c0 (by omega), fun n => ?_⟩
  rw [← addL_z]
  by_cases h : n < 12
  · exact (e n h).1
  · have l := (e 0 (by decide)).2
    rw [zc_out (by omega), zc_cons, if_neg (by omega)]
    show (0 : Int) = _ * 0
    omega
theorem Cop.pow {p : Nat} (hp : Pr p) {A f : List Int} (h : Cop p A f) : ∀ n, Cop p A (powL f n)
  | 0 => Cop.one hp A
  | n + 1 => Cop.mul hp h (Cop.pow hp h n)
theorem Cop.prod {p : Nat} (hp : Pr p) {A : List Int} {e : Nat → Nat} : ∀ {k : Nat}, (∀ i, i < k → Cop p A (powL (fac i) (e i))) → Cop p A (Pm e k)
  | 0, _ => Cop.one hp A
  | k + 1, h => Cop.mul hp (h k (by omega)) (Cop.prod hp fun i hi => h i (by omega))
/-- of unlike ones -/
theorem Pm_cop {p : Nat} (hp : Pr p) (h7 : 7 < p) {a b : Nat → Nat} (h : ∀ i, i < 7 → a i = 0 ∨ b i = 0) : Cop p (Pm a 7) (Pm b 7) := by
  refine Cop.prod hp fun j hj => (Cop.prod hp fun i hi => ?_).symm
  by_cases e : i = j
  · subst e
    rcases h i hi with z | z
    · rw [z]; exact Cop.one hp _
    · rw [z]; exact (Cop.one hp _).symm
  · exact Cop.pow hp (Cop.pow hp (fac_cop hp h7 hi hj e) _).symm _
end Fp

namespace K21
open PySem PySem.Spec PyProof.Rows L2 Fp
section
variable {P : Program} {w : World} {K : PySem.W.Frag} {mg : Str → Option Value} {base : Heap} {k : Nat} {C fI fR : Addr}
/-- the seven, a list of lists -/
def Facs (H : Hp) (a : Addr) : Prop := ∃ as : List Addr, as.length = 7 ∧ H a = some (.lst (as.map V.ref)) ∧ ∀ i ai, as[i]? = some ai → H ai = some (.lst (VI (fac i)))
abbrev VN (es : List Nat) : List Int := es.map fun n : Nat => (n : Int)
abbrev eF (es : List Nat) : Nat → Nat := fun i => es.getD i 0
def sp_law_factors : Sp := fun vs H Q _ => vs = [] ∧ ∀ a H', Same H H' → H a = none → Facs H' a → Q (.ref a) H'
def sp_law_often (K : PySem.W.Frag) : Sp := fun vs H Q _ => ∃ (p : Addr) (most : Nat), vs = [.ref p, .int (most : Nat)] ∧ PotOk H p ∧ most ≤ 20 ∧ ∀ a H' es, PotOk H' p → Keep p H H' → H a = none → H' a = some (.lst (VI (VN es))) → es.length = 7 → sumE (eF es) 7 ≤ 5 → degE (eF es) 7 ≤ most → Q (.ref a) H'
def sp_law_product (K : PySem.W.Frag) : Sp := fun vs H Q _ => ∃ (l t : Addr) (es : List Nat) (n0 n1 : Int), vs = [.ref l, .ref t] ∧ H l = some (.lst (VI (VN es))) ∧ es.length = 7 ∧ H t = some (.tup [.int n0, .int n1]) ∧ n0 ≠ 0 ∧ n0.natAbs ≤ 5 ∧ n1 ≠ 0 ∧ n1.natAbs ≤ 2 ∧ sumE (eF es) 7 ≤ 8 ∧ degE (eF es) 7 ≤ 14 ∧
  ∀ v H' zs, Same H H' → OwnF H H' v n1 zs → trimI zs = zs → (∀ n, zc zs n = n0 * zc (Pm (eF es) 7) n) → Q v H'
def sp_law_headed (K : PySem.W.Frag) : Sp := fun vs H Q _ => ∃ (v : V) (b : Int) (zs : List Int), vs = [v] ∧ OwnP H v b zs ∧ zs ≠ [] ∧ ∀ t H', Same H H' → H t = none → OwnP H' (.ref t) (zc zs (zs.length - 1)) zs → Q (.ref t) H'
theorem sum_set {es : List Nat} (h : es.length = 7) {i : Nat} (hi : i < 7) : sumE (eF (es.set i (es.getD i 0 + 1))) 7 = sumE (eF es) 7 + 1 := by
  match es, h with
  | [a, b, c, d, e, f, g], _ =>
    match i, hi with
    | 0, _ | 1, _ | 2, _ | 3, _ | 4, _ | 5, _ | 6, _ => simp [sumE, eF]; omega
theorem deg_set {es : List Nat} (h : es.length = 7) {i : Nat} (hi : i < 7) : degE (eF (es.set i (es.getD i 0 + 1))) 7 = degE (eF es) 7 + fdeg i := by
  match es, h with
  | [a, b, c, d, e, f, g], _ =>
    match i, hi with
    | 0, _ | 1, _ | 2, _ | 3, _ | 4, _ | 5, _ | 6, _ => simp [degE, eF, fdeg]; omega
theorem fac_len {i : Nat} (h : i < 7) : (fac i).length = fdeg i + 1 := by
  have : ∀ i, i < 7 → (fac i).length = fdeg i + 1 := by decide
  exact this i h
theorem Facs.at {H : Hp} {a : Addr} (h : Facs H a) : ∃ xs, H a = some (.lst xs) ∧ xs.length = 7 ∧ ∀ i v, xs[i]? = some v → ∃ ai, v = .ref ai ∧ H ai = some (.lst (VI (fac i))) := by
  obtain ⟨as, l, ha, h⟩ := h
  refine ⟨_, ha, by rw [List.length_map]; exact l, fun i v hv => ?_⟩
  rw [List.getElem?_map] at hv
  cases e : as[i]? with
  | none => rw [e] at hv; cases hv
  | some ai => rw [e] at hv; exact ⟨ai, (Option.some.inj hv).symm, h i ai e⟩
theorem Facs.same {H H' : Hp} {a : Addr} (h : Facs H a) (s : Same H H') : Facs H' a := by
  obtain ⟨as, l, ha, h⟩ := h
  exact ⟨as, l, s _ _ ha, fun i ai e => s _ _ (h i ai e)⟩
-- slots: ; cells: 
abbrev s_law_factors : Stmt := top 55
abbrev N_law_factors : List Str := []
theorem sc_law_factors : FnScope N_law_factors [] (defScope s_law_factors) := ⟨rfl, rfl, rfl, by decide +kernel, rfl, by decide +kernel, by decide +kernel⟩
theorem d_law_factors (B : Bnd K mg "_law_factors" s_law_factors) (M : Mg2 mg)   : Def P w K mg base (k + 1) "_law_factors" s_law_factors [] sp_law_factors := by
  refine def_of B sc_law_factors (by rintro _ _ _ _ ⟨rfl, _⟩; rfl) (fun _ _ _ _ _ _ us hl => match us, hl with | [], _ => rfl) fun f cdv A outer s H vs Q E hr h => ?_
  obtain ⟨rfl, q⟩ := h
  have hu := hr.units
  refine ⟨_, pss_one (ps_ret (pe_lst (pa_cons (pe_lst (pa_cons pe_int (pa_cons pe_int pa_nil))) (pa_cons (pe_lst (pa_cons (pe_un un_neg pe_int) (pa_cons pe_int pa_nil))) (pa_cons (pe_lst (pa_cons pe_int (pa_cons pe_int pa_nil))) (pa_cons (pe_lst (pa_cons (pe_un un_neg pe_int) (pa_cons pe_int pa_nil))) (pa_cons (pe_lst (pa_cons pe_int (pa_cons pe_int (pa_cons pe_int pa_nil)))) (pa_cons (pe_lst (pa_cons (pe_un un_neg pe_int) (pa_cons pe_int (pa_cons pe_int pa_nil)))) (pa_cons (pe_lst (pa_cons pe_int (pa_cons pe_int (pa_cons pe_int pa_nil)))) pa_nil))))))))), ?_⟩
  refine ⟨by show 2 ≤ sizeLine; decide, fun a0 n0 => ⟨1, rfl, by show 2 ≤ sizeLine; decide, fun a1 n1 => ⟨by show 2 ≤ sizeLine; decide, fun a2 n2 => ⟨1, rfl, by show 2 ≤ sizeLine; decide, fun a3 n3 => ⟨by show 3 ≤ sizeLine; decide, fun a4 n4 => ⟨2, rfl, by show 3 ≤ sizeLine; decide, fun a5 n5 => ⟨by show 3 ≤ sizeLine; decide, fun a6 n6 => ⟨by show 7 ≤ sizeLine; decide, fun a na => ?_⟩⟩⟩⟩⟩⟩⟩⟩
  have s0 := same_new (o := .lst [V.int 0, V.int 1]) n0
  have s1 := same_new (o := .lst [V.int (-1), V.int 1]) n1
  have s2 := same_new (o := .lst [V.int 2, V.int 1]) n2
  have s3 := same_new (o := .lst [V.int (-1), V.int 2]) n3
  have s4 := same_new (o := .lst [V.int 1, V.int 0, V.int 1]) n4
  have s5 := same_new (o := .lst [V.int (-2), V.int 0, V.int 1]) n5
  have s6 := same_new (o := .lst [V.int 1, V.int 1, V.int 1]) n6
  have s7 := same_new (o := .lst [V.ref a0, V.ref a1, V.ref a2, V.ref a3, V.ref a4, V.ref a5, V.ref a6]) na
  have t5 := s6.trans s7
  have t4 := s5.trans t5
  have t3 := s4.trans t4
  have t2 := s3.trans t3
  have t1 := s2.trans t2
  have t0 := s1.trans t1
  refine q a _ (s0.trans t0) ((((((((s0.trans s1).trans s2).trans s3).trans s4).trans s5).trans s6)).free na) ⟨[a0, a1, a2, a3, a4, a5, a6], rfl, upd_same, fun i ai h => ?_⟩
  match i, h with
  | 0, h => cases h; exact t0 _ _ upd_same
  | 1, h => cases h; exact t1 _ _ upd_same
  | 2, h => cases h; exact t2 _ _ upd_same
  | 3, h => cases h; exact t3 _ _ upd_same
  | 4, h => cases h; exact t4 _ _ upd_same
  | 5, h => cases h; exact t5 _ _ upd_same
  | 6, h => cases h; exact s7 _ _ upd_same
-- slots: _law_own_here 0; cells: 
abbrev s_law_headed : Stmt := top 58
abbrev N_law_headed : List Str := ["_law_own_here"]
theorem sc_law_headed : FnScope N_law_headed ["_law_own_here"] (defScope s_law_headed) := ⟨rfl, rfl, rfl, by decide +kernel, rfl, by decide +kernel, by decide +kernel⟩
theorem d_law_headed (B : Bnd K mg "_law_headed" s_law_headed) (M : Mg2 mg)   : Def P w K mg base (k + 1) "_law_headed" s_law_headed ["_law_own_here"] (sp_law_headed K) := by
  refine def_of B sc_law_headed (by rintro _ _ _ _ ⟨v, b, zs, rfl, _⟩; rfl) (fun _ _ _ _ _ _ us hl => match us, hl with | [_], _ => rfl) fun f cdv A outer s H vs Q E hr h => ?_
  obtain ⟨v, b, zs, rfl, ⟨T, L, rfl, hT, hL⟩, z0, q⟩ := h
  have hu := hr.units
  refine ⟨_, pss_one (ps_ret (pe_tup (pa_cons (pe_ix (r := rIxL K) ix_list (pe_ix (r := rIxT K) ix_tup (pv 0) pe_int (fun _ _ => rfl)) (pe_un un_neg pe_int) (fun _ _ => rfl)) (pa_cons (pe_ix (r := rIxT K) ix_tup (pv 0) pe_int (fun _ _ => rfl)) pa_nil)))), ?_⟩
  refine ⟨_, rfl, T, _, 1, .ref L, rfl, rfl, SqT.of hT, rfl, 1, rfl, L, _, -1, _, rfl, rfl, SqL.of hL, at_end z0, _, rfl, T, _, 1, .ref L, rfl, rfl, SqT.of hT, rfl, by show 2 ≤ sizeLine; decide, fun t nt => ?_⟩
  have st := same_new (o := .tup [V.int (zc zs (zs.length - 1)), V.ref L]) nt
  exact q t _ st nt ⟨t, L, rfl, upd_same, st _ _ hL⟩
-- slots: _law_pot_here 0, _law_most 1, _law_left 2, _law_found 3, _law_turn 4, _law_at 5, _law_wide 6; cells: 
abbrev s_law_often : Stmt := top 56
theorem bk_law_factors_0 : BindK 0 0 false "_law_factors" s_law_factors [] [] := fun _ _ _ _ _ _ us ws hu hw => match us, ws, hu, hw with | [], [], _, _ => rfl
abbrev N_law_often : List Str := ["_law_pot_here", "_law_most", "_law_left", "_law_found", "_law_turn", "_law_at", "_law_wide"]
theorem sc_law_often : FnScope N_law_often ["_law_pot_here", "_law_most"] (defScope s_law_often) := ⟨rfl, rfl, rfl, by decide +kernel, rfl, by decide +kernel, by decide +kernel⟩
theorem d_law_often (B : Bnd K mg "_law_often" s_law_often) (M : Mg2 mg)  (D_law_draw : Def P w K mg base k "_law_draw" sDraw ["_law_pot_here", "_law_size"] spDraw) (D_law_factors : Def P w K mg base k "_law_factors" s_law_factors [] sp_law_factors) : Def P w K mg base (k + 1) "_law_often" s_law_often ["_law_pot_here", "_law_most"] (sp_law_often K) := by
  refine def_of B sc_law_often (by rintro _ _ _ _ ⟨p, most, rfl, _⟩; rfl) (fun _ _ _ _ _ _ us hl => match us, hl with | [_, _], _ => rfl) fun f cdv A outer s H vs Q E hr h => ?_
  obtain ⟨p, most, rfl, hp, m20, q⟩ := h
  have hu := hr.units
  refine ⟨_, pss_cons (ps_par (i := 2) (j := 3) rfl sc_law_often.nd rfl rfl (by decide) rfl rfl (pa_cons (pv 1) (pa_cons (pe_op op_rep (pe_lst (pa_cons pe_int pa_nil)) pe_int) pa_nil)) (by rfl))
    (pss_cons (ps_for PassesOwn.never rfl (pi_range1 (by rfl) M.range (pa_cons pe_int pa_nil)) (pg_name (i := 4) sc_law_often.nd rfl (.inl rfl))
      (pss_cons (ps_set (i := 5) sc_law_often.nd rfl (.inl rfl) (pe_d D_law_draw hr (by rfl) (pa_cons (pv 0) (pa_cons pe_int pa_nil))))
      (pss_cons (ps_set (i := 6) sc_law_often.nd rfl (.inl rfl) (pe_op op_sub (pe_callB call_len_seq (by rfl) M.len boot_len (pa_cons (pe_ix (r := rIxL K) ix_list (pe_dk0 D_law_factors hr (by rfl) 0 false [] bk_law_factors_0 pk_nil) (pv 5) (fun _ _ => rfl)) pa_nil)) pe_int))
      (pss_one (ps_if (pt_cmpR op_le (pv 6) (pv 2) (nomark _))
        (pss_one (ps_asg (pe_tup (pa_cons (pe_op op_add (pe_ix (r := rIxL K) ix_list (pv 3) (pv 5) (fun _ _ => rfl)) pe_int) (pa_cons (pe_op op_sub (pv 2) (pv 6)) pa_nil))) (pg_tup rfl (pgs_cons (pg_sub (pv 3) (pv 5) set_list) (pgs_cons (pg_name (i := 2) sc_law_often.nd rfl (.inl rfl)) pgs_nil)))))
        (pss_nil))))))
    (pss_one (ps_ret (pv 3)))), ?_⟩
  refine ⟨_, rfl, by show 1 ≤ sizeLine; decide, fun c0 nc0 => ?_⟩
  have sc := same_new (o := .lst [V.int 0]) nc0
  refine ⟨c0, _, [V.int 0], rfl, rfl, upd_same, by decide, by decide, by rw [sizeLine_eq]; decide, fun F nF0 => ⟨_, _, rfl, ?_⟩⟩
  have nF := sc.free nF0
  have sF := sc.trans (same_new (o := .lst (List.replicate (7 : Int).toNat [V.int 0]).flatten) nF0)
  have hF : (upd (upd H c0 (.lst [V.int 0])) F (.lst (List.replicate (7 : Int).toNat [V.int 0]).flatten)) F = some (.lst (VI (VN [0, 0, 0, 0, 0, 0, 0]))) := upd_same
  generalize upd (upd H c0 (.lst [V.int 0])) F (.lst (List.replicate (7 : Int).toNat [V.int 0]).flatten) = H0 at *
  have nFp : F ≠ p := pot_ne hp nF
  refine ⟨_, rfl, by decide, by decide, ?_⟩
  refine for_range (lo := 0) (n := (5 : Int).toNat) (fun i σ G => ∃ (es : List Nat) (left : Nat) (o4 o5 o6 : Option V), σ = [some (.ref p), some (.int most), some (.int (left : Nat)), some (.ref F), o4, o5, o6] ∧ PotOk G p ∧ Keep p H G ∧ G F = some (.lst (VI (VN es))) ∧ es.length = 7 ∧ sumE (eF es) 7 ≤ i ∧ degE (eF es) 7 + left = most)
    ⟨[0, 0, 0, 0, 0, 0, 0], most, none, none, none, rfl, hp.same sF, Keep.of sF, hF, rfl, by decide, by simp [degE, eF]⟩ (fun i σ G hi ⟨es, left, o4, o5, o6, eσ, pk, kk, hF, el, sE, dE⟩ => ?_) (fun σ G ⟨es, left, o4, o5, o6, eσ, pk, kk, hF, el, sE, dE⟩ => ?_)
  · subst eσ
    refine ⟨_, rfl, p, 7, rfl, pk, by omega, by omega, fun d G2 d0 d1 pk2 k2 => ?_⟩
    obtain ⟨at_, rfl⟩ : ∃ a : Nat, d = (a : Int) := ⟨d.toNat, by omega⟩
    have ha7 : at_ < 7 := by omega
    have hF2 := k2 _ _ nFp hF
    refine ⟨rfl, rfl, rfl, fun a G3 s3 na fc => ?_⟩
    obtain ⟨xs, hxs, lxs, fx⟩ := fc.at
    have hat : xs[at_]? = some xs[at_] := List.getElem?_eq_getElem (by omega)
    obtain ⟨ai, ev, hai⟩ := fx at_ _ hat
    rw [ev] at hat
    have fl := fac_len ha7
    have lvf := vi_len (fac at_)
    have hF3 := s3 _ _ hF2
    have e7 : (VN es)[at_]? = some ((es.getD at_ 0 : Nat) : Int) := by
      rw [List.getElem?_map, List.getElem?_eq_getElem (show at_ < es.length by omega), List.getD_eq_getElem?_getD, List.getElem?_eq_getElem (show at_ < es.length by omega)]; rfl
    have lve : (VI (VN es)).length = 7 := by rw [vi_len, List.length_map]; exact el
    have hfe : (VI (VN es))[at_]? = some (.int ((es.getD at_ 0 : Nat) : Int)) := by unfold VI; rw [List.getElem?_map, e7]; rfl
    refine ⟨_, rfl, a, _, at_, _, rfl, rfl, SqL.of hxs, at_of (j := at_) (by omega) hat, ai, _, rfl, .inl (SqL.of hai), _, _, rfl, rfl, ?_⟩
    have ew : ((VI (fac at_)).length : Int) - 1 = (fdeg at_ : Nat) := by omega
    dsimp only
    rw [ew]
    have pk3 := pk2.same s3
    have kk3 : Keep p H G3 := (kk.trans k2).trans (Keep.of s3)
    refine ⟨_, rfl, _, rfl, _, _, rfl, rfl, _, rfl, ite2 (fun z => ?_) (fun z => ?_)⟩
    · have hle : fdeg at_ ≤ left := by have := of_decide_eq_true z; omega
      refine ⟨_, rfl, _, rfl, F, _, at_, _, rfl, rfl, SqL.of hF3, at_of (j := at_) (by omega) hfe, _, _, rfl, rfl, _, rfl, _, rfl, _, _, rfl, rfl, by show 2 ≤ sizeLine; decide, fun T nT => ?_⟩
      have sT := same_new (o := .tup [V.int ((es.getD at_ 0 : Nat) + 1), V.int ((left : Nat) - (fdeg at_ : Nat))]) nT
      have hF4 := sT _ _ hF3
      refine ⟨T, _, rfl, SqT.of upd_same, rfl, _, _, rfl, _, rfl, _, rfl, F, _, _, at_, rfl, rfl, hF4, ixn rfl (by omega), _, _, rfl, rfl, ?_⟩
      have kk4 := kk3.trans (Keep.of (p := p) sT)
      generalize upd G3 T (.tup [V.int ((es.getD at_ 0 : Nat) + 1), V.int ((left : Nat) - (fdeg at_ : Nat))]) = G4 at *
      obtain ⟨u, v, hp1, hp2⟩ := pk3.same sT
      refine ⟨es.set at_ (es.getD at_ 0 + 1), left - fdeg at_, some (.int (0 + (i : Int))), some (.int (at_ : Nat)), some (.int (fdeg at_ : Nat)), ?_, ⟨u, v, by rw [upd_ne nFp.symm]; exact hp1, hp2⟩, fun c o hc ho => ?_, ?_, by rw [List.length_set]; exact el, by rw [sum_set el ha7]; omega, by rw [deg_set el ha7]; omega⟩
      · rw [show ((left - fdeg at_ : Nat) : Int) = (left : Nat) - (fdeg at_ : Nat) by omega]; rfl
      · rw [upd_ne (ne_of_none ho nF)]; exact kk4 _ _ hc ho
      · rw [upd_same]
        unfold VI VN
        rw [List.map_set, List.map_set]; rfl
    · have hle : left < fdeg at_ := by
        have : ¬ fdeg at_ ≤ left := fun e => z (decide_eq_true (by omega))
        omega
      exact ⟨es, left, _, _, _, rfl, pk3, kk3, hF3, el, by omega, dE⟩
  · subst eσ
    refine ⟨_, rfl, q F G es pk kk nF hF el sE (by omega)⟩
theorem sumE_mono (e : Nat → Nat) {i k : Nat} (h : i ≤ k) : sumE e i ≤ sumE e k := by
  induction k with
  | zero => obtain rfl : i = 0 := by omega
            exact Nat.le_refl _
  | succ k ih =>
    by_cases c : i = k + 1
    · subst c; exact Nat.le_refl _
    · have := ih (by omega)
      show sumE e i ≤ e k + sumE e k
      omega
theorem degE_mono (e : Nat → Nat) {i k : Nat} (h : i ≤ k) : degE e i ≤ degE e k := by
  induction k with
  | zero => obtain rfl : i = 0 := by omega
            exact Nat.le_refl _
  | succ k ih =>
    by_cases c : i = k + 1
    · subst c; exact Nat.le_refl _
    · have := ih (by omega)
      show degE e i ≤ e k * fdeg k + degE e k
      omega
theorem len_le {zs : List Int} {d : Nat} (t : trimI zs = zs) (h : ∀ n, d < n → zc zs n = 0) : zs.length ≤ d + 1 := by
  by_cases z0 : zs = []
  · rw [z0]; exact Nat.zero_le _
  · have := trim_last t z0
    have l : zs.length - 1 ≤ d := Nat.le_of_not_lt fun c => this (h _ c)
    omega
theorem OwnF.from {H H1 H2 : Hp} {v : V} {b : Int} {zs : List Int} (h : OwnF H1 H2 v b zs) (s : Same H H1) : OwnF H H2 v b zs := let ⟨t, l, e, n1, n2, h1, h2⟩ := h; ⟨t, l, e, s.free n1, s.free n2, h1, h2⟩
theorem OwnF.to {H H1 H2 : Hp} {v : V} {b : Int} {zs : List Int} (h : OwnF H H1 v b zs) (s : Same H1 H2) : OwnF H H2 v b zs := let ⟨t, l, e, n1, n2, h1, h2⟩ := h; ⟨t, l, e, n1, n2, s _ _ h1, s _ _ h2⟩
/-- what stands in the midst -/
theorem mid_ok {e : Nat → Nat} {i j : Nat} (hi : i < 7) (hj : j ≤ e i) (sE : sumE e 7 ≤ 8) (dE : degE e 7 ≤ 14) {n0 : Int} (n05 : n0.natAbs ≤ 5) {zs : List Int} (tz : trimI zs = zs) (ez : ∀ n, zc zs n = n0 * zc (mulL (powL (fac i) j) (Pm e i)) n) : BN 32805 zs ∧ zs.length ≤ 15 := by
  have a := sumE_mono e (show i + 1 ≤ 7 by omega)
  have b := degE_mono e (show i + 1 ≤ 7 by omega)
  have a' : e i + sumE e i ≤ sumE e 7 := a
  have b' : e i * fdeg i + degE e i ≤ degE e 7 := b
  have bd := powL_bd hi (Pm_bd e i (by omega)) j
  have tp := (powL_top (fac_top hi) j).mul (Pm_top e i (by omega))
  constructor
  · intro z hz
    obtain ⟨m, hm⟩ := List.getElem?_of_mem hz
    have := bd m
    rw [← zc_at hm, ez, Int.natAbs_mul]
    have p : 3 ^ j * 3 ^ sumE e i ≤ 3 ^ 8 := by rw [← Nat.pow_add]; exact Nat.pow_le_pow_right (by decide) (by omega)
    have q : n0.natAbs * (zc (mulL (powL (fac i) j) (Pm e i)) m).natAbs ≤ 5 * 3 ^ 8 := Nat.mul_le_mul n05 (by omega)
    exact q
  · have m : j * fdeg i ≤ e i * fdeg i := Nat.mul_le_mul_right _ hj
    have := len_le tz (d := j * fdeg i + degE e i) fun n hn => by rw [ez, tp.1 n hn, Int.mul_zero]
    omega
-- slots: _law_often_here 0, _law_number 1, _law_found 2, _law_at 3, _law_factor 4, _law_turn 5; cells: 
abbrev s_law_product : Stmt := top 57
abbrev N_law_product : List Str := ["_law_often_here", "_law_number", "_law_found", "_law_at", "_law_factor", "_law_turn"]
theorem sc_law_product : FnScope N_law_product ["_law_often_here", "_law_number"] (defScope s_law_product) := ⟨rfl, rfl, rfl, by decide +kernel, rfl, by decide +kernel, by decide +kernel⟩
theorem d_law_product (B : Bnd K mg "_law_product" s_law_product) (M : Mg2 mg)  (D_law_times : Def P w K mg base k "_law_times" s_law_times ["_law_one", "_law_other"] (sp_law_times K)) (D_law_factors : Def P w K mg base k "_law_factors" s_law_factors [] sp_law_factors) : Def P w K mg base (k + 1) "_law_product" s_law_product ["_law_often_here", "_law_number"] (sp_law_product K) := by
  refine def_of B sc_law_product (by rintro _ _ _ _ ⟨l, t, es, n0, n1, rfl, _⟩; rfl) (fun _ _ _ _ _ _ us hl => match us, hl with | [_, _], _ => rfl) fun f cdv A outer s H vs Q E hr h => ?_
  obtain ⟨l, t, es, n0, n1, rfl, hl, el, ht, n00, n05, n10, n12, sE, dE, q⟩ := h
  have hu := hr.units
  refine ⟨_, pss_cons (ps_set (i := 2) sc_law_product.nd rfl (.inl rfl) (pe_tup (pa_cons (pe_ix (r := rIxT K) ix_tup (pv 1) pe_int (fun _ _ => rfl)) (pa_cons (pe_lst (pa_cons (pe_ix (r := rIxT K) ix_tup (pv 1) pe_int (fun _ _ => rfl)) pa_nil)) pa_nil))))
    (pss_cons (ps_for PassesOwn.never rfl (pi_enum (by rfl) M.enum (pa_cons (pe_dk0 D_law_factors hr (by rfl) 0 false [] bk_law_factors_0 pk_nil) pa_nil)) (pg_tup rfl (pgs_cons (pg_name (i := 3) sc_law_product.nd rfl (.inl rfl)) (pgs_cons (pg_name (i := 4) sc_law_product.nd rfl (.inl rfl)) pgs_nil)))
      (pss_one (ps_for PassesOwn.never rfl (pi_range1 (by rfl) M.range (pa_cons (pe_ix (r := rIxL K) ix_list (pv 0) (pv 3) (fun _ _ => rfl)) pa_nil)) (pg_name (i := 5) sc_law_product.nd rfl (.inl rfl))
        (pss_one (ps_set (i := 2) sc_law_product.nd rfl (.inl rfl) (pe_d D_law_times hr (by rfl) (pa_cons (pv 2) (pa_cons (pe_tup (pa_cons pe_int (pa_cons (pv 4) pa_nil))) pa_nil))))))))
    (pss_one (ps_ret (pv 2)))), ?_⟩
  refine ⟨_, rfl, t, _, 1, .int n1, rfl, rfl, SqT.of ht, rfl, _, rfl, t, _, 0, .int n0, rfl, rfl, SqT.of ht, rfl, by show 1 ≤ sizeLine; decide, fun L0 nL0 => ⟨by show 2 ≤ sizeLine; decide, fun T0 nT0 => ?_⟩⟩
  have sL := same_new (o := .lst [V.int n0]) nL0
  have sT := same_new (o := .tup [V.int n1, V.ref L0]) nT0
  have of0 : OwnF H (upd (upd H L0 (.lst [V.int n0])) T0 (.tup [V.int n1, V.ref L0])) (.ref T0) n1 [n0] := ⟨T0, L0, rfl, sL.free nT0, nL0, upd_same, sT _ _ upd_same⟩
  have s0 := sL.trans sT
  generalize upd (upd H L0 (.lst [V.int n0])) T0 (.tup [V.int n1, V.ref L0]) = G0 at *
  refine ⟨rfl, rfl, rfl, fun a G1 s1 na fc => ?_⟩
  have s01 := s0.trans s1
  obtain ⟨xs, hxs, lxs, fx⟩ := fc.at
  have lve : (VI (VN es)).length = 7 := by rw [vi_len, List.length_map]; exact el
  have hfe : ∀ {i : Nat}, i < 7 → (VI (VN es))[i]? = some (.int ((eF es i : Nat) : Int)) := fun {i} hi => by
    unfold VI
    rw [List.getElem?_map, List.getElem?_map, List.getElem?_eq_getElem (show i < es.length by omega)]
    show _ = some (V.int ((es.getD i 0 : Nat) : Int))
    rw [List.getD_eq_getElem?_getD, List.getElem?_eq_getElem (show i < es.length by omega)]; rfl
  refine ⟨a, xs, rfl, SqL.of hxs, ?_⟩
  refine for_it (walk_enum (K := K) (a := a) (xs := xs)) (fun i σ G => ∃ (v : V) (zs : List Int) (o3 o4 o5 : Option V), σ = [some (.ref l), some (.ref t), some v, o3, o4, o5] ∧ Same G1 G ∧ OwnF H G v n1 zs ∧ trimI zs = zs ∧ ∀ n, zc zs n = n0 * zc (Pm (eF es) i) n)
    ⟨.ref T0, [n0], none, none, none, rfl, Same.refl _, of0.to s1, trimI_nz (A := []) n00, fun n => ?_⟩ (fun i σ G _ ⟨_, _, _, _, _, _, sm, _⟩ => SqL.of (sm _ _ hxs)) (fun i v σ G G2 hi ⟨vf, zs, o3, o4, o5, e, sm, of_, tz, ez⟩ hy => ?_) (fun σ G ⟨vf, zs, o3, o4, o5, e, sm, of_, tz, ez⟩ => ?_)
  · show zc [n0] n = n0 * zc [1] n
    rw [zc_cons, zc_cons]
    split
    · omega
    · show zc [] _ = n0 * zc [] _
      show (0 : Int) = n0 * 0
      omega
  · subst e
    obtain ⟨T2, w1, w2, rfl, nT2, rfl, hx1, hx2⟩ := hy
    obtain rfl := Option.some.inj hx1
    have hi7 : i < 7 := by omega
    obtain ⟨fi, rfl, hfi⟩ := fx i _ hx2
    have sT2 := same_new (o := .tup [V.int (i : Nat), V.ref fi]) nT2
    have hT2 : (upd G T2 (.tup [V.int (i : Nat), V.ref fi])) T2 = some (.tup [V.int (i : Nat), V.ref fi]) := upd_same
    generalize upd G T2 (.tup [V.int (i : Nat), V.ref fi]) = G4 at *
    have sm4 := sm.trans sT2
    have ei8 : eF es i ≤ 8 := by
      have a : eF es i + sumE (eF es) i ≤ sumE (eF es) 7 := sumE_mono (eF es) (show i + 1 ≤ 7 by omega)
      omega
    refine ⟨T2, _, rfl, SqT.of hT2, rfl, _, _, rfl, _, _, rfl, rfl, ?_⟩
    refine ⟨_, rfl, _, rfl, l, _, i, _, rfl, rfl, SqL.of ((s01.trans sm4) _ _ hl), at_of (j := i) (by omega) (hfe hi7), _, rfl, by omega, by omega, ?_⟩
    refine for_range (lo := 0) (n := ((eF es i : Nat) : Int).toNat) (fun j σ G => ∃ (v : V) (zs : List Int) (o5 : Option V), σ = [some (.ref l), some (.ref t), some v, some (.int (i : Nat)), some (.ref fi), o5] ∧ Same G1 G ∧ OwnF H G v n1 zs ∧ trimI zs = zs ∧ ∀ n, zc zs n = n0 * zc (mulL (powL (fac i) j) (Pm (eF es) i)) n)
      ⟨vf, zs, o5, rfl, sm4, of_.to sT2, tz, fun n => ?_⟩ (fun j σ G hj ⟨vf, zs, o5, e, sm, of_, tz, ez⟩ => ?_) (fun σ G ⟨vf, zs, o5, e, sm, of_, tz, ez⟩ => ?_)
    · rw [ez]
      show n0 * _ = n0 * zc (mulL [1] _) n
      rw [mulL_one']
    · subst e
      have hji : j < eF es i := by rw [Int.toNat_natCast] at hj; exact hj
      obtain ⟨bz, lz⟩ := mid_ok hi7 (Nat.le_of_lt hji) sE dE n05 tz ez
      have fb : BN 3 (fac i) := by
        have : ∀ i, i < 7 → ∀ z ∈ fac i, z.natAbs ≤ 3 := by decide
        exact this i hi7
      have fl : (fac i).length ≤ 3 := by
        have : ∀ i, i < 7 → (fac i).length ≤ 3 := by decide
        exact this i hi7
      refine ⟨_, rfl, _, rfl, by show 2 ≤ sizeLine; decide, fun T nT => ?_⟩
      have sT := same_new (o := .tup [V.int 1, V.ref fi]) nT
      have oT : OwnP (upd G T (.tup [V.int 1, V.ref fi])) (.ref T) 1 (fac i) := ⟨T, fi, rfl, upd_same, sT _ _ (sm _ _ hfi)⟩
      have hfi2 := sm _ _ hfi
      generalize upd G T (.tup [V.int 1, V.ref fi]) = G5 at *
      refine ⟨vf, .ref T, n1, 1, zs, fac i, 32805, 3, 16, 2, rfl, of_.own.same sT, oT, n10, by decide, bz, fb, ⟨by decide, show _ < 2 ^ 16 by omega⟩, ⟨by decide, show (1 : Int).natAbs < 2 ^ 2 by decide⟩, by decide, by omega, by omega, fun v' G6 zs' s6 of6 _ _ _ _ e6 => ?_⟩
      rw [Int.mul_one] at of6
      refine ⟨v', zs', _, rfl, (sm.trans sT).trans s6, of6.from ((s01.trans sm).trans sT), by rw [e6]; exact trim_idem _, fun n => ?_⟩
      rw [e6, zc_trim, timesI_z]
      have h1 : zc (mulL zs (fac i)) n = n0 * zc (mulL (mulL (powL (fac i) j) (Pm (eF es) i)) (fac i)) n := by
        rw [mulL_lin' (P := mulL (powL (fac i) j) (Pm (eF es) i)) (Q := []) (c := n0) (d := 0) (fun n => by rw [ez]; omega) n]; omega
      rw [h1, mulL_comm]
      show _ = n0 * zc (mulL (mulL (fac i) (powL (fac i) j)) (Pm (eF es) i)) n
      rw [mulL_assoc]
    · subst e
      rw [Int.toNat_natCast] at ez
      exact ⟨vf, zs, _, _, _, rfl, sm, of_, tz, ez⟩
  · subst e
    rw [lxs] at ez
    exact ⟨_, rfl, q vf G zs (s01.trans sm) of_ tz ez⟩
end
end K21

namespace K21
open PySem PySem.Spec PyProof.Rows L2 Fp
section
/-! ### products, their common parts, what is left -/
theorem len_of {xs ys : List Int} (hx : trimI xs = xs) (hy : trimI ys = ys) {c : Int} (c0 : c ≠ 0) (e : ∀ n, zc ys n = c * zc xs n) : ys.length = xs.length := by
  by_cases x0 : xs = []
  · subst x0
    by_cases y0 : ys = []
    · rw [y0]
    · exact absurd (by rw [e]; show c * 0 = 0; omega) (trim_last hy y0)
  · have hx1 := trim_last hx x0
    have lx := List.length_pos_iff.mpr x0
    have y1 : zc ys (xs.length - 1) ≠ 0 := by rw [e]; exact fun z => (Int.mul_eq_zero.mp z).elim c0 hx1
    have a : xs.length - 1 < ys.length := Nat.lt_of_not_le fun l => y1 (zc_out l)
    have y0 : ys ≠ [] := by intro z; subst z; exact absurd a (Nat.not_lt_zero _)
    have y2 := trim_last hy y0
    rw [e] at y2
    have b : ys.length - 1 < xs.length := Nat.lt_of_not_le fun l => y2 (by rw [zc_out l, Int.mul_zero])
    omega
def ld (N : List Int) : Int := zc N (N.length - 1)
theorem rats_sm {xs ys : List Int} {b c d : Int} (c0 : c ≠ 0) (l : ys.length = xs.length) (e : ∀ n, zc ys n = c * zc xs n) (hd : d = c * b) : ratsOf d ys = ratsOf b xs := by
  refine List.ext_getElem? fun n => ?_
  unfold ratsOf
  rw [List.getElem?_map, List.getElem?_map]
  by_cases h : n < xs.length
  · have h1 : n < ys.length := by omega
    rw [List.getElem?_eq_getElem h, List.getElem?_eq_getElem h1]
    have := e n
    rw [zc_at (List.getElem?_eq_getElem h1), zc_at (List.getElem?_eq_getElem h)] at this
    show some ((ys[n] : Rat) / (d : Rat)) = some ((xs[n] : Rat) / (b : Rat))
    rw [this, hd, ← Rat.divInt_eq_div, ← Rat.divInt_eq_div, Rat.divInt_mul_left c0]
  · rw [List.getElem?_eq_none (by omega), List.getElem?_eq_none (by omega)]
    rfl
theorem rats_ld {xs ys : List Int} {c : Int} (hx : trimI xs = xs) (hy : trimI ys = ys) (c0 : c ≠ 0) (e : ∀ n, zc ys n = c * zc xs n) : ratsOf (ld ys) ys = ratsOf (ld xs) xs := by
  have l := len_of hx hy c0 e
  exact rats_sm c0 l e (by unfold ld; rw [l, e])
abbrev Ex := Nat → Nat
/-- the product, as a list -/
def FD (e : Ex) : List Int := trimI (Pm e 7)
theorem FD_z (e : Ex) (n : Nat) : zc (FD e) n = zc (Pm e 7) n := zc_trim _ n
theorem FD_t (e : Ex) : trimI (FD e) = FD e := trim_idem _
theorem top_len {zs : List Int} {d : Nat} (t : trimI zs = zs) (h1 : ∀ n, d < n → zc zs n = 0) (h2 : zc zs d ≠ 0) : zs.length = d + 1 := by
  have a := len_le t h1
  have b : d < zs.length := Nat.lt_of_not_le fun l => h2 (zc_out l)
  omega
/-- X is the product times a number -/
structure Mul (c : Int) (e : Ex) (X : List Int) : Prop where
  t : trimI X = X
  c0 : c ≠ 0
  z : ∀ n, zc X n = c * zc (Pm e 7) n
theorem Mul.len {c : Int} {e : Ex} {X : List Int} (h : Mul c e X) : X.length = degE e 7 + 1 := by
  have tp := Pm_top e 7 (by decide)
  refine top_len h.t (fun n hn => by rw [h.z, tp.1 n hn, Int.mul_zero]) (by rw [h.z]; exact fun z => (Int.mul_eq_zero.mp z).elim h.c0 (by have := tp.2; omega))
theorem Mul.ne {c : Int} {e : Ex} {X : List Int} (h : Mul c e X) : X ≠ [] := fun z => by have := h.len; rw [z] at this; simp at this
theorem Mul.bd {c : Int} {e : Ex} {X : List Int} (h : Mul c e X) (s : sumE e 7 ≤ 8) (i : Nat) : (zc X i).natAbs ≤ c.natAbs * 6561 := by
  rw [h.z, Int.natAbs_mul]
  refine Nat.mul_le_mul_left _ (Nat.le_trans (Pm_bd e 7 (by decide) i) ?_)
  exact Nat.pow_le_pow_right (show 0 < 3 by decide) s
theorem FD_mul (e : Ex) : Mul 1 e (FD e) := ⟨FD_t e, by decide, fun n => by rw [FD_z]; omega⟩
theorem Mul.rats {c d : Int} {e : Ex} {X Y : List Int} (h : Mul c e X) (g : Mul d e Y) : ratsOf (ld X) X = ratsOf (ld Y) Y := by
  rw [rats_ld (FD_t e) h.t h.c0 fun n => by rw [h.z, FD_z], rats_ld (FD_t e) g.t g.c0 fun n => by rw [g.z, FD_z]]
theorem Mul.congr {c : Int} {e f : Ex} {X : List Int} (h : Mul c e X) (s : ∀ i, i < 7 → e i = f i) : Mul c f X := ⟨h.t, h.c0, fun n => by rw [h.z, Pm_congr s]⟩
theorem Mul.prim {c : Int} {e : Ex} {X : List Int} (h : Mul c e X) : ∃ s : Int, (s = 1 ∨ s = -1) ∧ Mul s e (primI X) := by
  obtain ⟨s, hs, hc⟩ : ∃ s : Int, (s = 1 ∨ s = -1) ∧ c = s * c.natAbs := by
    rcases Int.lt_or_lt_of_ne h.c0 with l | l
    · exact ⟨-1, .inr rfl, by omega⟩
    · exact ⟨1, .inl rfl, by omega⟩
  have s0 : s ≠ 0 := by rcases hs with h | h <;> omega
  have m : Mul s e (trimI (smL s (Pm e 7))) := ⟨trim_idem _, s0, fun n => by rw [zc_trim, smL_z]⟩
  have pp : PrimL (trimI (smL s (Pm e 7))) := fun d hd => Pm_prim e 7 (by decide) d fun n => by
    have := hd n
    rw [m.z] at this
    rcases hs with h | h
    · rwa [h, Int.one_mul] at this
    · rw [h] at this
      have e2 : (-1 : Int) * zc (Pm e 7) n = -(zc (Pm e 7) n) := by omega
      rw [e2] at this
      exact (Int.dvd_neg).mp this
  refine ⟨s, hs, ?_⟩
  have := prim_tops (tops := X) pp (D := 1) (b := (c.natAbs : Int)) (by decide) (by have := h.c0; omega) (by rw [h.len, m.len]) pp.ne fun i => by rw [h.z, m.z, Int.mul_one, Int.mul_right_comm, ← hc]
  have e3 : primI X = trimI (smL s (Pm e 7)) := this
  rw [e3]; exact m
theorem sumE_le {a b : Ex} : ∀ {k : Nat}, (∀ i, i < k → a i ≤ b i) → sumE a k ≤ sumE b k
  | 0, _ => Nat.le_refl _
  | k + 1, h => by
    have := h k (by omega)
    have := sumE_le (k := k) fun i hi => h i (by omega)
    show a k + sumE a k ≤ b k + sumE b k
    omega
theorem degE_add (a b : Ex) : ∀ k, degE (fun i => a i + b i) k = degE a k + degE b k
  | 0 => rfl
  | k + 1 => by
    show (a k + b k) * fdeg k + degE (fun i => a i + b i) k = (a k * fdeg k + degE a k) + (b k * fdeg k + degE b k)
    rw [degE_add a b k, Nat.add_mul]; omega
theorem degE_congr {a b : Ex} : ∀ {k : Nat}, (∀ i, i < k → a i = b i) → degE a k = degE b k
  | 0, _ => rfl
  | k + 1, h => by
    show a k * fdeg k + degE a k = b k * fdeg k + degE b k
    rw [h k (by omega), degE_congr fun i hi => h i (by omega)]
theorem degE_le {a b : Ex} : ∀ {k : Nat}, (∀ i, i < k → a i ≤ b i) → degE a k ≤ degE b k
  | 0, _ => Nat.le_refl _
  | k + 1, h => by
    have h1 := Nat.mul_le_mul_right (fdeg k) (h k (by omega))
    have := degE_le (k := k) fun i hi => h i (by omega)
    show a k * fdeg k + degE a k ≤ b k * fdeg k + degE b k
    omega
theorem degE_zero {a : Ex} (k : Nat) (h7 : k ≤ 7) (h : degE a k = 0) (i : Nat) (hi : i < k) : a i = 0 := by
  induction k with
  | zero => exact absurd hi (Nat.not_lt_zero _)
  | succ k ih =>
    have e : a k * fdeg k + degE a k = 0 := h
    have f1 : ∀ k, k < 7 → 1 ≤ fdeg k := by decide
    have f := f1 k (by omega)
    by_cases c : i = k
    · subst c
      have : a i * 1 ≤ a i * fdeg i := Nat.mul_le_mul_left _ f
      omega
    · exact ih (by omega) (by omega) (by omega)
def mn (a b : Ex) : Ex := fun i => min (a i) (b i)
def sb (a b : Ex) : Ex := fun i => a i - b i
/-- of the first one what stands in the second one too -/
def cut (a b : Ex) : Ex := fun i => if 0 < b i then a i else 0
theorem split_z {a b : Ex} (h : ∀ i, i < 7 → b i ≤ a i) (n : Nat) : zc (Pm a 7) n = zc (mulL (Pm b 7) (Pm (sb a b) 7)) n := by
  rw [← Pm_add, Pm_congr (a := a) (b := fun i => b i + sb a b i) fun i hi => by have := h i hi; show a i = b i + (a i - b i); omega]
theorem mulL_sm (c : Int) (A B : List Int) (n : Nat) : zc (mulL A (smL c B)) n = c * zc (mulL A B) n := by
  rw [mulL_lin (P := B) (Q := []) (c := c) (d := 0) (fun n => by rw [smL_z]; omega) n]; omega
theorem mulL_sm' (c : Int) (A B : List Int) (n : Nat) : zc (mulL (smL c A) B) n = c * zc (mulL A B) n := by
  rw [mulL_lin' (P := A) (Q := []) (c := c) (d := 0) (fun n => by rw [smL_z]; omega) n]; omega
theorem mul_of {c : Int} {e : Ex} {X A : List Int} (h : Mul c e X) (n : Nat) : zc (mulL A X) n = c * zc (mulL A (Pm e 7)) n := by
  rw [mulL_lin (P := Pm e 7) (Q := []) (c := c) (d := 0) (fun n => by rw [h.z]; omega) n]; omega
theorem mul_of' {c : Int} {e : Ex} {X A : List Int} (h : Mul c e X) (n : Nat) : zc (mulL X A) n = c * zc (mulL (Pm e 7) A) n := by
  rw [mulL_lin' (P := Pm e 7) (Q := []) (c := c) (d := 0) (fun n => by rw [h.z]; omega) n]; omega
theorem sgn_sq {s : Int} (h : s = 1 ∨ s = -1) : s * s = 1 := by rcases h with h | h <;> rw [h] <;> rfl
theorem pr521 : Pr p521 := prime_521
theorem trg {a b : Ex} {s t : Int} {X Y : List Int} (hX : Mul s a X) (hs : s = 1 ∨ s = -1) (hY : Mul t b Y) (ht : t = 1 ∨ t = -1) (sa : sumE a 7 ≤ 8) (sb_ : sumE b 7 ≤ 8) (da : degE a 7 ≤ 14) (db : degE b 7 ≤ 14) :
    TrG X Y (FD (mn a b)) p521 L260 6561 := by
  have ml : ∀ i, i < 7 → mn a b i ≤ a i := fun i _ => Nat.min_le_left _ _
  have mr : ∀ i, i < 7 → mn a b i ≤ b i := fun i _ => Nat.min_le_right _ _
  have eX : ∀ n, zc X n = zc (mulL (FD (mn a b)) (smL s (Pm (sb a (mn a b)) 7))) n := fun n => by
    rw [mulL_sm, mulL_congr' (FD_z _), ← split_z ml, hX.z]
  have eY : ∀ n, zc Y n = zc (mulL (FD (mn a b)) (smL t (Pm (sb b (mn a b)) 7))) n := fun n => by
    rw [mulL_sm, mulL_congr' (FD_z _), ← split_z mr, hY.z]
  obtain ⟨c, U, V, hc, e⟩ := Pm_cop (p := p521) (a := sb a (mn a b)) (b := sb b (mn a b)) pr521 (by decide +kernel) fun i _ => by
    show a i - min (a i) (b i) = 0 ∨ b i - min (a i) (b i) = 0
    omega
  have c0 : c ≠ 0 := fun z => hc (by rw [z]; exact Int.dvd_zero _)
  have bz : ∀ n, c * zc (FD (mn a b)) n = zc (mulL (smL s U) X) n + zc (mulL (smL t V) Y) n := fun n => by
    have one : ∀ {s : Int} {W Z A : List Int}, (s = 1 ∨ s = -1) → (∀ n, zc Z n = zc (mulL (FD (mn a b)) (smL s A)) n) → zc (mulL (smL s W) Z) n = zc (mulL (FD (mn a b)) (mulL W A)) n := fun {s W Z A} hs eZ => by
      rw [mulL_sm', mulL_congr eZ, mulL_swap, mulL_congr (P := mulL W (smL s A)) (Q := smL s (mulL W A)) (fun n => by rw [mulL_sm, smL_z]), mulL_sm, ← Int.mul_assoc, sgn_sq hs, Int.one_mul]
    rw [one hs eX, one ht eY]
    have h := mulL_lin (G := FD (mn a b)) (P := mulL U (Pm (sb a (mn a b)) 7)) (Q := mulL V (Pm (sb b (mn a b)) 7)) (R := smL c [1]) (c := 1) (d := 1) (fun n => by rw [smL_z, ← e n]; omega) n
    rw [mulL_sm, mulL_one] at h
    omega
  have gm := FD_mul (mn a b)
  have tp := Pm_top (mn a b) 7 (by decide)
  have lx := hX.len
  have ly := hY.len
  have L3 : 6561 ≤ L260 := by decide +kernel
  have sm := sumE_le ml
  have s1 : s.natAbs = 1 := by rcases hs with h | h <;> omega
  have t1 : t.natAbs = 1 := by rcases ht with h | h <;> omega
  exact ⟨⟨fun d hd => Pm_prim (mn a b) 7 (by decide) d fun n => by rw [← FD_z]; exact hd n, ⟨_, eX⟩, ⟨_, eY⟩, ⟨c, smL s U, smL t V, c0, bz⟩⟩, FD_t _, hX.t, hY.t, hX.ne, hY.ne,
    by rw [gm.len, show degE (mn a b) 7 + 1 - 1 = degE (mn a b) 7 by omega, FD_z]; exact tp.2,
    fun i => by have := hX.bd sa i; omega, fun i => by have := hY.bd sb_ i; omega, L3, fun i => by have := gm.bd (by omega) i; omega,
    ⟨c, smL s U, smL t V, hc, fun n => ⟨0, by rw [bz]; omega⟩⟩, pr521, by decide +kernel, by unfold LbI; decide +kernel, by
      have e := p521_half
      rw [show ((p521 : Nat) : Int) / 2 = ((p521 : Nat) : Int).fdiv 2 from (Int.fdiv_eq_ediv_of_nonneg _ (by decide)).symm, e, Int.toNat_natCast, isqrt_520]; rfl, by omega, by omega⟩
theorem mn_zero {a b : Ex} (h : (FD (mn a b)).length = 1) (i : Nat) (hi : i < 7) : a i = 0 ∨ b i = 0 := by
  have := (FD_mul (mn a b)).len
  have z := degE_zero 7 (by decide) (show degE (mn a b) 7 = 0 by omega) i hi
  have : min (a i) (b i) = 0 := z
  omega
/-- what may be left on the way: the first one's, all of those that do not stand in the second one -/
def JL (a b : Ex) (L : List Int) : Prop := ∃ (e : Ex) (s : Int), (s = 1 ∨ s = -1) ∧ Mul s e L ∧ (∀ i, i < 7 → e i ≤ a i) ∧ ∀ i, i < 7 → b i = 0 → e i = a i
/-- what is told -/
def RL (a b : Ex) (F : List Int) : Prop := ∃ r : Int, (r = 1 ∨ r = -1) ∧ ∀ n, zc F n = r * zc (Pm (cut a b) 7) n
theorem partJ {a b : Ex} {s t : Int} {X Y : List Int} (hX : Mul s a X) (hs : s = 1 ∨ s = -1) (hY : Mul t b Y) (ht : t = 1 ∨ t = -1) (sa : sumE a 7 ≤ 8) (sb_ : sumE b 7 ≤ 8) (da : degE a 7 ≤ 14) (db : degE b 7 ≤ 14) :
    PartJ X Y 6561 (JL a b) (RL a b) where
  start := ⟨a, s, hs, hX, fun i _ => Nat.le_refl _, fun i _ _ => rfl⟩
  step := fun L ⟨e, r, hr, hL, le, eb⟩ => by
    have se := sumE_le le
    have de := degE_le le
    have tg := trg hL hr hY ht (by omega) sb_ (by omega) db
    have ml : ∀ i, i < 7 → mn e b i ≤ e i := fun i _ => Nat.min_le_left _ _
    have mA : Mul r (sb e (mn e b)) (trimI (smL r (Pm (sb e (mn e b)) 7))) := ⟨trim_idem _, hL.c0, fun n => by rw [zc_trim, smL_z]⟩
    have dA : degE e 7 = degE (mn e b) 7 + degE (sb e (mn e b)) 7 := by
      rw [← degE_add]; exact degE_congr fun i hi => by have := ml i hi; show e i = mn e b i + (e i - mn e b i); omega
    have l1 := mA.len
    have l2 := (FD_mul (mn e b)).len
    have l3 := hL.len
    refine ⟨FD (mn e b), _, smL (s * r) (Pm (sb a e) 7), fun g1 => ⟨s * r, by rcases hs with h | h <;> rcases hr with g | g <;> rw [h, g] <;> decide, fun n => ?_⟩, tg, by omega, fun n => ?_, by omega, fun _ => ⟨sb e (mn e b), r, hr, mA, fun i hi => ?_, fun i hi bi => ?_⟩, fun n => ?_, fun i => ?_⟩
    · rw [smL_z, Pm_congr (a := sb a e) (b := cut a b) fun i hi => ?_]
      have h1 := eb i hi
      show a i - e i = if 0 < b i then a i else 0
      rcases mn_zero g1 i hi with z | z
      · by_cases c : 0 < b i
        · rw [if_pos c]; omega
        · rw [if_neg c]; have := h1 (by omega); omega
      · rw [if_neg (by omega)]; have := h1 z; omega
    · rw [mulL_congr' (FD_z _), mul_of mA, ← split_z ml, hL.z]
    · have := le i hi
      show e i - mn e b i ≤ a i
      omega
    · have := eb i hi bi
      show e i - min (e i) (b i) = a i
      omega
    · rw [mulL_sm, mul_of' hL, ← split_z le, hX.z]
      have e2 : s * r * (r * zc (Pm a 7) n) = s * (r * r) * zc (Pm a 7) n := by grind
      rw [e2, sgn_sq hr, Int.mul_one]
    · rw [smL_z]
      have bd := Pm_bd (sb a e) 7 (by decide) i
      have sl : sumE (sb a e) 7 ≤ sumE a 7 := sumE_le fun i _ => by show a i - e i ≤ a i; omega
      have p : 3 ^ sumE (sb a e) 7 ≤ 3 ^ 8 := Nat.pow_le_pow_right (by decide) (by omega)
      have n1 : (s * r).natAbs = 1 := by rcases hs with h | h <;> rcases hr with g | g <;> rw [h, g] <;> rfl
      refine LbI.mono (n := 13) (show (s * r * zc (Pm (sb a e) 7) i).natAbs < 2 ^ 13 from ?_) (by decide)
      rw [Int.natAbs_mul, n1, Nat.one_mul]
      have : 3 ^ 8 < 2 ^ 13 := by decide
      omega
theorem Mul.of_told {r : Int} {e : Ex} {F : List Int} (hr : r = 1 ∨ r = -1) (z : ∀ n, zc F n = r * zc (Pm e 7) n) (f0 : F ≠ []) (fl : zc F (F.length - 1) ≠ 0) : Mul r e F := by
  refine ⟨?_, by omega, z⟩
  obtain ⟨A, v, rfl⟩ := snoc_of f0
  rw [zc_app, if_pos (by simp)] at fl
  exact trimI_nz fl
/-- what is told is told again -/
theorem cut_cut (a b : Ex) (i : Nat) : cut a (cut a b) i = cut a b i := by
  unfold cut
  by_cases h : 0 < b i
  · rw [if_pos h]; split <;> omega
  · rw [if_neg h, if_neg (by omega)]
theorem cut_le (a b : Ex) (i : Nat) : cut a b i ≤ a i := by unfold cut; split <;> omega
end
end K21

namespace K21
open PySem PySem.Spec PyProof.Rows L2 Fp
section
theorem Mul.head {e : Ex} {X : List Int} (h : Mul 1 e X) : 0 < ld X := by
  unfold ld
  rw [h.len, h.z]
  have := (Pm_top e 7 (by decide)).2
  rw [show degE e 7 + 1 - 1 = degE e 7 by omega]
  omega
theorem div_ok {c n : Int} {a e : Ex} {z1 zD : List Int} (M1 : Mul c a z1) (MD : Mul 1 e zD) (le : ∀ i, i < 7 → e i ≤ a i) (n0 : 0 < n) :
    ∃ W, Mul (c * ld zD) (sb a e) W ∧ DivR (ratsOf n z1) (ratsOf (ld zD) zD) (ratsOf n W) [] := by
  have h0 := MD.head
  have cl : c * ld zD ≠ 0 := fun z => (Int.mul_eq_zero.mp z).elim M1.c0 (by omega)
  have MW : Mul (c * ld zD) (sb a e) (trimI (smL (c * ld zD) (Pm (sb a e) 7))) := ⟨trim_idem _, cl, fun n => by rw [zc_trim, smL_z]⟩
  refine ⟨_, MW, told_of n0 MW.t, told_nil, ?_, ?_, fun k => ?_⟩
  · rw [ratsOf_len, MD.len]; exact Nat.succ_pos _
  · rw [ratsOf_len, ratsOf_len, MW.len, M1.len]
    have := degE_le (a := sb a e) (b := a) (k := 7) fun i _ => by show a i - e i ≤ a i; omega
    omega
  · have hz : ∀ m, zc (trimI (timesI zD (trimI (smL (c * ld zD) (Pm (sb a e) 7))))) m = ld zD * zc z1 m := fun m => by
      rw [zc_trim, timesI_z, mul_of MW, mul_of' MD, ← split_z le, M1.z]; grind
    have t := timesI_co (b1 := ld zD) (b2 := n) (by omega) (by omega) zD (trimI (smL (c * ld zD) (Pm (sb a e) 7))) k
    rw [rats_sm (xs := z1) (b := n) (c := ld zD) (by omega) (len_of M1.t (trim_idem _) (by omega) hz) hz rfl] at t
    rw [t]
    show _ = _ + (0 : Rat)
    grind
theorem byq {e : Ex} {zD : List Int} (MD : Mul 1 e zD) (s : sumE e 7 ≤ 8) : ByQ (ld zD) (ld zD) 6561 (ratsOf (ld zD) zD) := by
  have h0 := MD.head
  have bd : ∀ i, (zc zD i).natAbs ≤ 6561 := fun i => by have := MD.bd s i; omega
  refine ⟨fun z => ?_, told_of h0 MD.t, fun x hx => ?_, ?_, by omega, by omega, bd _⟩
  · have := congrArg List.length z
    rw [ratsOf_len, MD.len] at this
    simp at this
  · obtain ⟨z, hz, rfl⟩ := List.mem_map.mp hx
    obtain ⟨j, hj⟩ := List.getElem?_of_mem hz
    exact ⟨z, rfl, by rw [← zc_at hj]; exact bd j⟩
  · rw [co_rats, ratsOf_len]; rfl
theorem fit15 {n l : Int} {T : Nat} (n0 : 0 < n) (n2 : n ≤ 2) (l0 : 0 < l) (l1 : l ≤ 6561) (t : T ≤ 15) : FitN n l 40000 (2 * 6561 * l.natAbs) T := fun e he => by
  have p : LbI (13 * e + 1) (l ^ e) := by
    show (l ^ e).natAbs < 2 ^ (13 * e + 1)
    rw [Int.natAbs_pow, Nat.pow_succ, Nat.pow_mul]
    have : l.natAbs ^ e ≤ (2 ^ 13) ^ e := Nat.pow_le_pow_left (by omega) e
    have : 0 < (2 ^ 13) ^ e := Nat.pow_pos (by decide)
    omega
  have n8 : LbI 2 n := show n.natAbs < 2 ^ 2 by omega
  refine ⟨fun z => ?_, (n8.mul p).mono (by omega), ?_⟩
  · rcases Int.mul_eq_zero.mp z with h | h
    · omega
    · exact Int.pow_ne_zero (by omega) h
  · have h1 : (2 * 6561 * l.natAbs) ^ e ≤ (2 ^ 27) ^ e := Nat.pow_le_pow_left (by
      have := Nat.mul_le_mul_left (2 * 6561) (show l.natAbs ≤ 6561 by omega)
      omega) e
    rw [← Nat.pow_mul] at h1
    have h2 : 40000 * (2 * 6561 * l.natAbs) ^ e ≤ 2 ^ 16 * 2 ^ (27 * e) := Nat.mul_le_mul (by decide) h1
    rw [← Nat.pow_add] at h2
    exact Nat.lt_of_le_of_lt h2 (Nat.pow_lt_pow_right (by decide) (by omega))
theorem Pm_zero : ∀ k, EqZ (Pm (fun _ => 0) k) [1]
  | 0 => fun _ => rfl
  | k + 1 => fun n => by
    show zc (mulL [1] (Pm (fun _ => 0) k)) n = _
    rw [mulL_one']; exact Pm_zero k n
theorem mul_unit {e : Ex} (h : ∀ i, i < 7 → e i = 0) {c : Int} (c0 : c ≠ 0) : Mul c e [c] := ⟨trimI_nz (A := []) c0, c0, fun n => by
  rw [Pm_congr h, Pm_zero, zc_cons, zc_cons]
  split
  · omega
  · show (0 : Int) = c * 0
    omega⟩
theorem one_rats {e : Ex} (h : ∀ i, i < 7 → e i = 0) : ratsOf (zc (FD e) ((FD e).length - 1)) (FD e) = [1] := by
  have := (FD_mul e).rats (mul_unit h (c := 1) (by decide))
  have e2 : ratsOf (ld [1]) [1] = [1] := by decide +kernel
  rw [← e2]; exact this
end
end K21

namespace Fp
open PySem PySem.Spec PyProof.Rows L2
/-! ### an int and an own number: the reflected way -/
section
variable {prog : Program} {w : World} {A : Around} {E : Value → Shared → Prop} {s : Shared}
theorem int_add_ref {i : Int} {t : Tok} {x C dx : Addr} {Q : Value → Shared → Prop} (hx : s.heap.get? x = some (PySem.W.instObj C dx)) (h : Q .notImplemented s) :
    wpAny (model prog w) A (call (.builtin "int.__add__") [.int i t, .ref x]) Q E s := by
  refine wpAny_call_entry F.slot_int_add (typeIs_int s i t) F.entry_int_add ?_ (F.args_int_add_2 _ _)
  obtain ⟨hp, g, d, tk, os⟩ := s
  unfold Builtin.«int.__add__» Builtin.Int.intBinary
  repeat (any_goals (first | assumption | wp_step))
  exact ⟨_, rfl, h⟩
theorem int_mul_ref {i : Int} {t : Tok} {x C dx : Addr} {Q : Value → Shared → Prop} (hx : s.heap.get? x = some (PySem.W.instObj C dx)) (h : Q .notImplemented s) :
    wpAny (model prog w) A (call (.builtin "int.__mul__") [.int i t, .ref x]) Q E s := by
  refine wpAny_call_entry F.slot_int_mul (typeIs_int s i t) F.entry_int_mul ?_ (F.args_int_mul_2 _ _)
  obtain ⟨hp, g, d, tk, os⟩ := s
  unfold Builtin.«int.__mul__» Builtin.Int.intBinary
  repeat (any_goals (first | assumption | wp_step))
  exact ⟨_, rfl, h⟩
end
section
variable {prog : Program} {w : World} {A : Around} {E : Value → Shared → Prop} {s : Shared} {K : PySem.W.Frag} {x C L f f0 : Addr} {h₀ : Heap} {m : Str → Option Value} {ox : Obj} {od : Option Obj}
theorem ksp_rbin {op : Operator} {i : Int} {t : Tok} {Q : Value → Shared → Prop} (F : PyProof.Rows.Fr h₀ L s.heap m) (X₀ : K.In h₀) (I : PySem.W.InstAt s.heap x ox C od) (hc : PySem.W.selfFirst K C = true)
    (hs : PySem.W.findIn K (.ref C) (PySem.dunder op.info.2) = some (some (.ref f0))) (hr : PySem.W.findIn K (.ref C) (PySem.dunderR op.info.2) = some (some (.ref f))) (hf : PySem.W.isFn K (.ref f) = true)
    (hfi : fillsNumberSlot (.type "int") op.info.2 = pure true) (hsub : PySem.W.subIn K (.ref C) (.type "int") = some false)
    (hd : ∀ Q' : Option Value → Shared → Prop, Q' none s → wpAny (model prog w) A (tryMethod (.int i t) (PySem.dunder op.info.2) (.ref x)) Q' E s)
    (h : wpAny (model prog w) A (call (.ref f) [.ref x, .int i t]) (PySem.W.CmpBack Q) E s) : wpAny (model prog w) A (binaryOp op (.int i t) (.ref x)) Q E s := by
  have X := X₀.keeps F.keep
  obtain ⟨cd, rest, hcd, hm⟩ := PySem.W.ksp_first hc
  rcases hi : op.info with ⟨sym, nm'⟩
  rw [hi] at hs hr hfi hd
  dsimp only at hs hr hfi hd
  have one := PySem.W.ksp_try X I hr hf h
  have dec := hd
  obtain ⟨hh, g, d, tt, os⟩ := s
  have L1 : PySem.W.Looks (model prog w) hh (typeOf (.ref x)) (.ref C) := I.type
  have L2 : PySem.W.Looks (model prog w) hh (typeOf (.int i t)) (.type "int") := PySem.W.Looks.of_pure rfl
  have L3 : PySem.W.Looks (model prog w) hh (fillsNumberSlot (.ref C) nm') true := PySem.W.fills_K X hcd hm hs
  have L4 : PySem.W.Looks (model prog w) hh (fillsNumberSlot (.type "int") nm') true := PySem.W.Looks.of_pure hfi
  have L5 : PySem.W.Looks (model prog w) hh (isSubtype (.ref C) (.type "int")) false := PySem.W.looks_subIn X hsub
  have L7 : PySem.W.Looks (model prog w) hh (numberSlotInPython (.type "int") nm') false := PySem.W.Looks.of_pure rfl
  have hne : (Value.type "int" == Value.ref C) = false := Bool.eq_false_iff.mpr fun q => by cases beq_iff_eq.mp q
  simp only [binaryOp, hi]
  refine wpAny_holding (wpAny_bind ?_)
  unfold binaryOp1
  refine wpAny_bind (L2.at (wpAny_bind (L1.at (wpAny_bind (L4.at ?_)))))
  simp only [hne, Bool.false_eq_true, if_false]
  ksp_lk
  refine dec _ ?_
  ksp_lk
  refine wpAny_mono one (fun r s' hr' => ?_) fun _ _ e => e
  obtain ⟨v, rfl, hq⟩ := hr'
  ksp_lk
  exact hq
end
/-! ### + and * of numbers of either kind -/
structure RevF (K : PySem.W.Frag) (C f : Addr) (op : Operator) : Prop where
  sf : PySem.W.selfFirst K C = true
  hs : ∃ g : Addr, PySem.W.findIn K (.ref C) (PySem.dunder op.info.2) = some (some (.ref g))
  hr : PySem.W.findIn K (.ref C) (PySem.dunderR op.info.2) = some (some (.ref f))
  hf : PySem.W.isFn K (.ref f) = true
  hsub : PySem.W.subIn K (.ref C) (.type "int") = some false
structure RevX (P : Program) (w : World) (K : PySem.W.Frag) (mg : Str → Option Value) (base : Heap) (k : Nat) (C : Addr) (op : Operator) (sp : Sp) : Prop where
  ex : ∃ (f : Addr) (fd : FuncData), RevF K C f op ∧ FnOk P w K mg base CX0 k f fd ["self", "other"] sp ∧ Binds K fd ["self", "other"] []
def Refl (op : Operator) : Prop := fillsNumberSlot (.type "int") op.info.2 = pure true ∧ ∀ (prog : Program) (w : World) (A : Around) (E : Value → Shared → Prop) (s : Shared) (i : Int) (t : Tok) (x C dx : Addr) (Q : Option Value → Shared → Prop),
  s.heap.get? x = some (PySem.W.instObj C dx) → Q none s → wpAny (model prog w) A (tryMethod (.int i t) (PySem.dunder op.info.2) (.ref x)) Q E s
theorem refl_add : Refl .Add := ⟨F.fills_int_add, fun prog w A E s i t x C dx Q hx q => wpAny_tryMethod_declines (typeIs_int s i t) F.slot_int_add (int_add_ref hx ⟨rfl, q⟩)⟩
theorem refl_mul : Refl .Mult := ⟨F.fills_int_mul, fun prog w A E s i t x C dx Q hx q => wpAny_tryMethod_declines (typeIs_int s i t) F.slot_int_mul (int_mul_ref hx ⟨rfl, q⟩)⟩
/-- an int by an own number -/
def rRev (C : Addr) (sp : Sp) : R2 := fun x y H Q => ∃ i a dx fs, x = .int i ∧ y = .ref a ∧ H a = some (.ins C dx fs) ∧ sp [y, x] H (fun v H' => (∃ r, v = .ref r) ∧ Q v H') E0
theorem op_rev {X : Cx} {C : Addr} {op : Operator} {n : Nat} {sp : Sp} (rf : Refl op) (D : RevX X.prog X.w X.K X.mg X.base n C op sp) (hr : Room n X.A) : OpR X (binaryOp op) (rRev C sp) := by
  obtain ⟨f, fd, B, F, hb⟩ := D.ex
  intro pins s σ H x y v u Q I rx ry hq
  obtain ⟨i, a, dx, fs, rfl, rfl, ha, hsp⟩ := hq
  obtain ⟨t, rfl⟩ := rx
  cases ry
  obtain ⟨mA, J, _⟩ := ins_get I.hok ha
  have jo := J.obj
  obtain ⟨od, J, _⟩ := J.look
  obtain ⟨m, hF⟩ := I.fr
  obtain ⟨g, hs1⟩ := B.hs
  refine ksp_rbin hF I.ok.mod.kin J B.sf hs1 B.hr B.hf rf.1 B.hsub (fun Q' q => rf.2 _ _ _ _ _ _ _ _ _ _ _ jo q) ?_
  have hl := F.len _ _ _ _ hsp
  have r2 : Vals [V.ref a, V.int i] [Value.ref a, Value.int i t] := .cons rfl (.cons ⟨t, rfl⟩ .nil)
  refine wpAny_call (codeAny_mono (F.run X.A X.stack s H ⟨[.ref a, .int i t], []⟩ [.ref a, .int i t] [.ref a, .int i] _ E0 hr I.env0 (by
    have := hb s [.ref a, .int i t] I.kIn (by simpa using hl)
    simpa using this) r2 hsp) fun r s' hq => ?_)
  cases r with
  | error e => exact pass0 (X := X) pins σ H s e s' I hq
  | ok fl =>
    cases fl with
    | ret w =>
      obtain ⟨z, H', I', rz, ⟨r, ez⟩, q⟩ := I.after hq
      subst ez
      cases rz
      exact ⟨.ref r, H', I', rfl, q⟩
    | next => exact False.elim hq
    | brk => exact False.elim hq
    | cont => exact False.elim hq
/-- the sum or the product of two numbers, of either kind each -/
def rNum (C : Addr) (sp spr : Sp) (g : Int → Int → V) (c : Int → Int → Prop) : R2 := fun x y H Q => (rI c g x y H Q) ∨ (rOwn C sp x y H Q) ∨ (rRev C spr x y H Q)
theorem op_or {X : Cx} {f : Value → Value → Sem Value} {r1 r2 : R2} (h1 : OpR X f r1) (h2 : OpR X f r2) : OpR X f (fun x y H Q => r1 x y H Q ∨ r2 x y H Q) := fun pins s σ H x y v u Q I rx ry h => h.elim (fun h => h1 pins s σ H x y v u Q I rx ry h) (fun h => h2 pins s σ H x y v u Q I rx ry h)
theorem op_numAdd {X : Cx} {C : Addr} {n : Nat} {sp spr : Sp} (A : BinX X.prog X.w X.K X.mg X.base n C .Add sp) (R : RevX X.prog X.w X.K X.mg X.base n C .Add spr) (hr : Room n X.A) : OpR X (binaryOp .Add) (fun x y H Q => (rI0 (fun i j => .int (i + j)) x y H Q) ∨ (rOwn C sp x y H Q) ∨ (rRev C spr x y H Q)) :=
  op_or op_add (op_or (op_ownX A hr) (op_rev refl_add R hr))
theorem op_numMul {X : Cx} {C : Addr} {n : Nat} {sp spr : Sp} (A : BinX X.prog X.w X.K X.mg X.base n C .Mult sp) (R : RevX X.prog X.w X.K X.mg X.base n C .Mult spr) (hr : Room n X.A) : OpR X (binaryOp .Mult) (rNum C sp spr (fun i j => .int (i * j)) CMulW) :=
  op_or op_mulW (op_or (op_ownX A hr) (op_rev refl_mul R hr))
end Fp

namespace Fp
open PySem PySem.Spec PyProof.Rows L2
/-! ### != of two equal lists whose items have an own == -/
section
variable {pr : Program} {w : World} {A : Around} {R : Result → Shared → Prop}
theorem ne_turns (a c : Addr) (N : Nat) (J : Nat → Shared → Prop) (hJ : GQ.ListI pr w A (fun e s' => R (.error e) s') a c N J) (done : ∀ s, J N s → R (.ok (.ret (.bool false))) s) :
    ∀ (k i : Nat), i + k = N → ∀ s, J i s → wpAny (model pr w) A.in1 (Builtin.«list.__eq__.loop» ⟨[.ref a, .ref c, rawInt i, rawInt 3], []⟩) (GQ.FinOf pr w A R) (fun e s' => R (.error e) s') s
  | 0, i, hk, s, h => by
    obtain ⟨us, vs, n1, n2, e1, e2, z1, z2, _⟩ := hJ _ _ h
    have ei : i = N := by omega
    have fin := done s (ei ▸ h)
    obtain ⟨hp, g, d, tk, os⟩ := s
    wp_walk using AutoSeq1.wpAny_loadPart' e1, AutoSeq1.wpAny_loadPart' e2
    have q1 : us[((i : Nat) : Int).toNat]? = none := by rw [Int.toNat_natCast]; exact Array.getElem?_eq_none (by omega)
    have q2 : vs[((i : Nat) : Int).toNat]? = none := by rw [Int.toNat_natCast]; exact Array.getElem?_eq_none (by omega)
    rw [q1, q2]
    wp_walk using AutoSeq1.wpAny_loadPart' e1, AutoSeq1.wpAny_loadPart' e2
    show R (.ok (.ret (.bool (us.size != vs.size)))) _
    rw [show (us.size != vs.size) = false by rw [z1, z2]; simp]
    exact fin
  | k + 1, i, hk, s, h => by
    obtain ⟨us, vs, n1, n2, e1, e2, z1, z2, tn⟩ := hJ _ _ h
    have l1 : i < us.size := by omega
    have l2 : i < vs.size := by omega
    have one := tn l1 l2
    obtain ⟨hp, g, d, tk, os⟩ := s
    wp_walk using AutoSeq1.wpAny_loadPart' e1, AutoSeq1.wpAny_loadPart' e2
    have q1 : us[((i : Nat) : Int).toNat]? = some us[i] := by rw [Int.toNat_natCast]; exact Array.getElem?_eq_getElem l1
    have q2 : vs[((i : Nat) : Int).toNat]? = some vs[i] := by rw [Int.toNat_natCast]; exact Array.getElem?_eq_getElem l2
    rw [q1, q2]
    refine wpAny_bind (wpAny_mono one (fun r t2 y => ?_) fun _ _ z => z)
    obtain ⟨rfl, y⟩ := y
    have more := ne_turns a c N J hJ done k (i + 1) (by omega) t2 y
    obtain ⟨hp2, g2, d2, tk2, os2⟩ := t2
    wp_walk
    rw [show ((i : Int) + 1) = ((i + 1 : Nat) : Int) by omega]
    refine ⟨plainId_quiet MeetsSeq3.plain_eq_loop _, codeAny_builtin MeetsSeq3.entry_eq_loop ?_⟩
    rw [Around.under_plainId MeetsSeq3.plain_eq_loop _]
    exact more
theorem ne_list (a c : Addr) (N : Nat) (J : Nat → Shared → Prop) (hJ : GQ.ListI pr w A (fun e s' => R (.error e) s') a c N J) (done : ∀ s, J N s → R (.ok (.ret (.bool false))) s) {s : Shared} (h : J 0 s) :
    wpAny (model pr w) A.in1 (Builtin.«list.__ne__» ⟨[.ref a, .ref c], []⟩) (GQ.FinOf pr w A R) (fun e s' => R (.error e) s') s := by
  obtain ⟨us, vs, n1, n2, e1, e2, z1, z2, _⟩ := hJ _ _ h
  have more := ne_turns (A := A) (R := R) a c N J hJ done N 0 (by omega) s h
  obtain ⟨hp, g, d, tk, os⟩ := s
  have sb := AutoSeq1.sub_list_list
  have ne : ¬ (us.size != vs.size) = true := by rw [z1, z2]; simp
  wp_walk using AutoSeq1.wpAny_loadPart' e1, AutoSeq1.wpAny_loadPart' e2
  refine ⟨plainId_quiet MeetsSeq3.plain_eq_loop _, codeAny_builtin MeetsSeq3.entry_eq_loop ?_⟩
  rw [Around.under_plainId MeetsSeq3.plain_eq_loop _]
  exact more
end
/-- a rich comparison by != of what D says is equal -/
def RcN (X : Cx) (n : Nat) (D : Eqv) : Prop := ∀ (A : Around) (pins : List (Addr × Obj)) (s : Shared) (σ : L2.St) (H : Hp) (x y : V) (u v : Value), Sub X n A → L2.Inv X pins σ H s → RelV x u → RelV y v → D x y H →
  wpAny (model X.prog X.w) A (richCompare .NotEq u v) (fun r s' => r = .bool false ∧ LoopI X pins σ H s') X.xe s
theorem rcN_list {X : Cx} {n : Nat} {D : Eqv} (hD : Mon D) (h : EqG X n D) : RcN X (n + 1) (DList D) := by
  intro A pins s σ H x y u v sb I rx ry d
  obtain ⟨a, b, xs, ys, rfl, rfl, ha, hb, p⟩ := d
  cases rx
  cases ry
  have hJ : GQ.ListI X.prog X.w A X.xe a b xs.length (fun _ s' => LoopI X pins σ H s') := fun i s' q => by
    obtain ⟨H1, I1, e1⟩ := id q
    obtain ⟨z, us, k, r, e⟩ := I1.hok a _ (e1 _ _ ha)
    obtain ⟨z2, vs, k2, r2, e2⟩ := I1.hok b _ (e1 _ _ hb)
    exact ⟨us.toArray, vs.toArray, k, k2, e, e2, by rw [List.size_toArray, ← r.length], by rw [List.size_toArray, ← r2.length, ← p.1], fun h1 h2 => turnG hD h sb p r r2 i h1 h2 s' q⟩
  have h0 : LoopI X pins σ H s := ⟨H, I, Ext.rfl'⟩
  obtain ⟨us, vs, n1, n2, e1, e2, _, _, _⟩ := hJ 0 s h0
  refine wpAny_richCompare_same_room (op := .NotEq) ⟨_, e1, rfl⟩ ⟨_, e2, rfl⟩ F.slot_list_ne (GQ.call_here F.slot_list_ne ⟨_, e1, rfl⟩ F.entry_list_ne (F.args_list_ne_2 _ _) ?_) sb.room.units0
  exact ne_list (R := wants (fun v s' => v ≠ .notImplemented ∧ (v = .bool false ∧ LoopI X pins σ H s')) X.xe) a b xs.length (fun _ s' => LoopI X pins σ H s') hJ (fun s' q => ⟨(fun x => nomatch x), rfl, q⟩) h0
def rNeG (D : Eqv) : R2 := fun x y H Q => D x y H ∧ ∀ H', Ext H H' → Q (.bl false) H'
theorem op_neG {X : Cx} {n : Nat} {D : Eqv} (h : RcN X n D) (hr : Room n X.A) : OpR X (compareOp .NotEq) (rNeG D) := by
  intro pins s σ H x y v u Q I rx ry hq
  obtain ⟨d, q⟩ := hq
  show wpAny (model X.prog X.w) X.A (richCompare .NotEq v u) (EP X pins σ Q) X.xe s
  refine wpAny_mono (h X.A pins s σ H x y v u ⟨hr, rfl⟩ I rx ry d) (fun r s' z => ?_) fun _ _ z => z
  obtain ⟨rfl, H', I', e⟩ := z
  exact ⟨.bl false, H', I', rfl, q H' e⟩
/-- == and != of lists of own numbers, and of lists of these -/
theorem op_ne1 {X : Cx} {C : Addr} {k : Nat} (D : EqX X.prog X.w X.K X.mg X.base k C) (hr : Room (k + 1) X.A) : OpR X (compareOp .NotEq) (rNeG (DList (DIns C (SameR C)))) := op_neG (rcN_list mon_rat D.eqG) hr
theorem op_ne2 {X : Cx} {C : Addr} {k : Nat} (D : EqX X.prog X.w X.K X.mg X.base k C) (hr : Room (k + 2) X.A) : OpR X (compareOp .NotEq) (rNeG (DList (DList (DIns C (SameR C))))) := op_neG (rcN_list (mon_list mon_rat) (eqG_list mon_rat D.eqG)) hr
theorem op_eq1 {X : Cx} {C : Addr} {k : Nat} (D : EqX X.prog X.w X.K X.mg X.base k C) (hr : Room (k + 1) X.A) : OpR X (compareOp .Eq) (rEqG (DList (DIns C (SameR C)))) := op_eqG (rcG_list mon_rat D.eqG) hr
end Fp

namespace K21
open PySem PySem.Spec PyProof.Rows L2 Fp
section
variable {P : Program} {w : World} {K : PySem.W.Frag} {mg : Str → Option Value} {base : Heap} {k : Nat} {C fI fR : Addr}
theorem OwnF.ownW {H H' : Hp} {p : Addr} {v : V} {b : Int} {zs : List Int} (h : OwnF H H' v b zs) (hp : PotOk H p) : OwnP (wos [p] H') v b zs := by
  obtain ⟨t, l, h1, h2, h3, h4, h5⟩ := h
  have n1 := pot_ne hp h2
  have n2 := pot_ne hp h3
  exact ⟨t, l, h1, by rw [wos_ne (by simp [n1])]; exact h4, by rw [wos_ne (by simp [n2])]; exact h5⟩
theorem sh_pair {H : Hp} {a : Addr} {x1 x2 : V} {t1 t2 : Str} (h : H a = some (.lst [x1, x2])) (h1 : Sh C H 1 x1 t1) (h2 : Sh C H 1 x2 t2) : Sh C H 2 (.ref a) (listText [t1, t2]) := .lst h (by simp) rfl fun i x t g1 g2 => by
  match i, g1, g2 with
  | 0, g1, g2 => cases g1; cases g2; exact h1
  | 1, g1, g2 => cases g1; cases g2; exact h2
  | i + 2, g1, _ => cases g1
theorem pair_len {t1 t2 : Str} (h1 : t1.length ≤ Bz 1) (h2 : t2.length ≤ Bz 1) : (listText [t1, t2]).length ≤ sizeLine := by
  have := listText_le [t1, t2]
  have := piled_all (ts := [t1, t2]) (L := Bz 1) (fun t ht => by simp at ht; rcases ht with h | h <;> rw [h] <;> assumption)
  have e : Bz 1 = 36800 := rfl
  rw [e] at this
  rw [sizeLine_eq]
  simp at this
  omega
theorem QL.eqv {H : Hp} {us ws : List V} {xs : List Rat} {a b : Addr} (r : QL C H us xs) (r2 : QL C H ws xs) (ha : H a = some (.lst us)) (hb : H b = some (.lst ws)) : DList (DIns C (SameR C)) (.ref a) (.ref b) H := by
  refine ⟨a, b, us, ws, rfl, rfl, ha, hb, by rw [QL.len r, QL.len r2], fun i x y h1 h2 => ?_⟩
  obtain ⟨z, c, h3, rfl, h4⟩ := QL.at r h1
  obtain ⟨z2, c2, h5, rfl, h6⟩ := QL.at r2 h2
  obtain rfl : z = z2 := by rw [h3] at h5; exact Option.some.inj h5
  obtain ⟨d1, e1⟩ := id h4
  obtain ⟨d2, e2⟩ := id h6
  exact ⟨c, c2, d1, d2, _, _, rfl, rfl, e1, e2, _, _, h4, h6⟩
theorem PolyQ.ofQL {H : Hp} {a : Addr} {us : List V} {xs : List Rat} (ha : H a = some (.lst us)) (hQ : QL C H us xs) (t : Told xs) (sm : ∀ x ∈ xs, SmQ x) (l : xs.length ≤ 49) : PolyQ C H (.ref a) xs := by
  have h := PolyQ.mk (C := C) (H := H) (a := a) (gs := us) (xs := xs) (.inl ha) (QL.len hQ) (fun i v x h1 h2 => ?_) sm (by rw [QL.len hQ]; exact l)
  · rwa [trimQ_id t] at h
  · obtain ⟨y, c, h3, rfl, r⟩ := QL.at hQ h1
    rw [h2] at h3
    obtain rfl := Option.some.inj h3
    exact r.nq
/-- numbers over a bottom that are small enough for texts -/
theorem smq_over {b : Int} {zs : List Int} (b0 : b ≠ 0) (bl : LbI 40 b) (zl : ∀ i, LbI 40 (zc zs i)) : ∀ x ∈ ratsOf b zs, SmQ x := fun x hx => by
  obtain ⟨z, hz, rfl⟩ := List.mem_map.mp hx
  obtain ⟨j, hj⟩ := List.getElem?_of_mem hz
  rw [← Rat.divInt_eq_div, ← zc_at hj]
  have := Bits.divInt (n := 40) (zl j) bl b0
  exact ⟨Nat.lt_trans this.1 (by decide), Nat.lt_trans this.2 (by decide)⟩
def sp_law_both (K : PySem.W.Frag) : Sp := fun vs H Q _ => ∃ (p ln lf : Addr) (a b : List Nat), vs = [.ref p, .ref ln, .ref lf] ∧ PotOk H p ∧ ln ≠ p ∧ lf ≠ p ∧ H ln = some (.lst (VI (VN a))) ∧ H lf = some (.lst (VI (VN b))) ∧ a.length = 7 ∧ b.length = 7 ∧ sumE (eF a) 7 ≤ 8 ∧ sumE (eF b) 7 ≤ 8 ∧ degE (eF a) 7 ≤ 14 ∧ degE (eF b) 7 ≤ 14 ∧
  ∀ H', PotOk H' p → Keep p H H' → Q (.bl true) H'
-- slots: _law_pot_here 0, _law_near 1, _law_far 2, _law_first 3, _law_second 4, _law_one 5, _law_other 6, _law_shown 7, _law_due 8, _law_found 9, _law_left 10, _law_rest 11, _law_at 12; cells: _law_far _law_near
abbrev s_law_both_right : Stmt := top 59
theorem bk_part_with_0_other_poly : BindK 0 2 true "part_with" s_part_with ["poly", "other"] ["other", "poly"] := fun _ _ _ _ _ _ us ws hu hw => match us, ws, hu, hw with | [], [_, _], _, _ => rfl
abbrev N_law_both_right : List Str := ["_law_pot_here", "_law_near", "_law_far", "_law_first", "_law_second", "_law_one", "_law_other", "_law_shown", "_law_due", "_law_found", "_law_left", "_law_rest", "_law_at"]
theorem sc_law_both_right : FnScope N_law_both_right ["_law_pot_here", "_law_near", "_law_far"] (defScope s_law_both_right) := ⟨rfl, rfl, rfl, by decide +kernel, rfl, by decide +kernel, by decide +kernel⟩
theorem d_law_both_right (B : Bnd K mg "_law_both_right" s_law_both_right) (M : Mg2 mg) (R : RCls K mg C fI fR) {kr : Nat} (RD : RDef P w K mg base kr C) (EX : EqX P w K mg base kr C) (hk : kr + 8 ≤ k) (D_divided : Def P w K mg base k "divided" s_divided ["poly", "other"] (sp_divided C)) (D_common : Def P w K mg base k "common" s_common ["poly", "other"] (sp_common C)) (D_part_with : Def P w K mg base k "part_with" s_part_with ["poly", "other"] (sp_part_with C)) (D_law_pick : Def P w K mg base k "_law_pick" sPick ["_law_pot_here", "_law_some"] spPick) (D_law_is : Def P w K mg base k "_law_is" s_law_is ["_law_told", "_law_own_here"] (sp_law_is C)) (D_law_passed : Def P w K mg base k "_law_passed" s_law_passed ["_law_pot_here", "_law_own_here"] (sp_law_passed C)) (D_law_product : Def P w K mg base k "_law_product" s_law_product ["_law_often_here", "_law_number"] (sp_law_product K)) (D_law_headed : Def P w K mg base k "_law_headed" s_law_headed ["_law_own_here"] (sp_law_headed K)) : DefG P w K mg base (k + 1) "_law_both_right" s_law_both_right ["_law_pot_here", "_law_near", "_law_far"] (sp_law_both K) := by
  refine defG_of B sc_law_both_right (by rintro _ _ _ _ ⟨p, ln, lf, a, b, rfl, _⟩; rfl) (fun _ _ _ _ _ _ us hl => match us, hl with | [_, _, _], _ => rfl) fun f cdv A outer s H vs Q E hgd hr h => ?_
  obtain ⟨p, ln, lf, a, b, rfl, hp, np1, np2, hln, hlf, la, lb, sa, sb_, da, db, q⟩ := h
  have hu := hr.units
  have hg2 : (A.deeper (envOfC "_law_both_right" (defScope s_law_both_right) s.heap.objs.size f cdv)).guards = some [] := hgd
  refine ⟨_, pss_cons (ps_par (i := 3) (j := 4) rfl sc_law_both_right.nd rfl rfl (by decide) rfl rfl (pa_cons (pe_d D_law_product hr (by rfl) (pa_cons (pv 1) (pa_cons (pe_tup (pa_cons (pe_d D_law_pick hr (by rfl) (pa_cons (pv 0) (pa_cons (pe_lst (pa_cons pe_int (pa_cons (pe_un un_neg pe_int) (pa_cons pe_int pa_nil)))) pa_nil))) (pa_cons (pe_d D_law_pick hr (by rfl) (pa_cons (pv 0) (pa_cons (pe_lst (pa_cons pe_int (pa_cons pe_int pa_nil))) pa_nil))) pa_nil))) pa_nil))) (pa_cons (pe_d D_law_product hr (by rfl) (pa_cons (pv 2) (pa_cons (pe_tup (pa_cons (pe_d D_law_pick hr (by rfl) (pa_cons (pv 0) (pa_cons (pe_lst (pa_cons pe_int (pa_cons pe_int (pa_cons (pe_un un_neg pe_int) pa_nil)))) pa_nil))) (pa_cons pe_int pa_nil))) pa_nil))) pa_nil)) (by rfl))
    (pss_cons (ps_par (i := 5) (j := 6) rfl sc_law_both_right.nd rfl rfl (by decide) rfl rfl (pa_cons (pe_d D_law_passed hr (by rfl) (pa_cons (pv 0) (pa_cons (pv 3) pa_nil))) (pa_cons (pe_d D_law_passed hr (by rfl) (pa_cons (pv 0) (pa_cons (pv 4) pa_nil))) pa_nil)) (by rfl))
    (pss_cons (ps_set (i := 7) sc_law_both_right.nd rfl (.inl rfl) (pe_callB (cr_sh (RD.own (hr.mono (by omega))) (hr.mono (by omega)) hg2) (by rfl) M.repr (by decide +kernel) (pa_cons (pe_lst (pa_cons (pv 5) (pa_cons (pv 6) pa_nil))) pa_nil)))
    (pss_cons (ps_set (i := 8) sc_law_both_right.nd rfl (.inl rfl) (pe_d D_law_headed hr (by rfl) (pa_cons (pe_d D_law_product hr (by rfl) (pa_cons (pe_lc (own := [("_law_at", 12)]) (g := (gName 12)) (tt := tYes) (te := (tIf (tTest (tOp _ (tOp (rIxL K) (tVar 2) (tVar 12)) (tC (.int 0)))) (tOp (rIxL K) (tVar 1) (tVar 12)) (tC (.int 0)))) rfl sc_law_both_right.nd (pi_range1 (by rfl) M.range (pa_cons pe_int pa_nil)) (blkOk_by (own := [("_law_at", 12)]) (N := N_law_both_right) (sc := defScope s_law_both_right) (by decide +kernel)) (fun _ _ _ _ _ => pg_name (i := 12) sc_law_both_right.nd rfl (.inl rfl)) (fun _ _ _ _ _ => pts_nil) (fun _ _ _ _ _ => pe_ifExp (pt_cmpR op_gt (pe_ix (r := rIxL K) ix_list (pv 2) (pv 12) (fun _ _ => rfl)) pe_int (nomark _)) (pe_ix (r := rIxL K) ix_list (pv 1) (pv 12) (fun _ _ => rfl)) pe_int)) (pa_cons (pe_tup (pa_cons pe_int (pa_cons pe_int pa_nil))) pa_nil))) pa_nil)))
    (pss_cons (ps_set (i := 9) sc_law_both_right.nd rfl (.inl rfl) (pe_d D_part_with hr (by rfl) (pa_cons (pv 5) (pa_cons (pv 6) pa_nil))))
    (C8.pss_cut (ps_if (PW.pt (pw_or (pt_not (pt_val (pe_d D_law_is hr (by rfl) (pa_cons (pv 9) (pa_cons (pv 8) pa_nil))))) (pw_or (pt_cmpR (op_ne1 EX (hr.mono (by omega))) (pe_dk0 D_part_with hr (by rfl) 2 true ["other", "poly"] bk_part_with_0_other_poly (pk_cons (pv 6) (pk_cons (pv 5) pk_nil))) (pv 9) (nomark _)) (pw_or1 (pt_cmpR (op_ne1 EX (hr.mono (by omega))) (pe_d D_part_with hr (by rfl) (pa_cons (pv 5) (pa_cons (pv 9) pa_nil))) (pv 9) (nomark _))))))
      (pss_one (ps_ret pe_bl))
      (pss_nil))
    (pss_cons (ps_asg (pe_d D_divided hr (by rfl) (pa_cons (pv 5) (pa_cons (pv 9) pa_nil))) (pg_tup rfl (pgs_cons (pg_name (i := 10) sc_law_both_right.nd rfl (.inl rfl)) (pgs_cons (pg_name (i := 11) sc_law_both_right.nd rfl (.inl rfl)) pgs_nil))))
    (pss_one (ps_ret (pe_and (pe_cmpR (op_eqNil hu) (pv 11) (pe_lst pa_nil) (nomark _)) (pe_and (pe_cmpR (op_eq1 EX (hr.mono (by omega))) (pe_d D_common hr (by rfl) (pa_cons (pv 10) (pa_cons (pv 6) pa_nil))) (pe_lst (pa_cons (pe_rat RD (hr.mono (by omega)) (by rfl) (pa_cons pe_int pa_nil)) pa_nil)) (nomark _)) (pe_one (pe_cmpR op_eq (pe_callB (cr_sh (RD.own (hr.mono (by omega))) (hr.mono (by omega)) hg2) (by rfl) M.repr (by decide +kernel) (pa_cons (pe_lst (pa_cons (pv 5) (pa_cons (pv 6) pa_nil))) pa_nil)) (pv 7) (nomark _))))))))))))), ?_⟩
  have pS : p ∈ [p] := by simp
  refine ⟨_, rfl, _, rfl, 2, rfl, by show 3 ≤ sizeLine; decide, fun c1 n1 => ?_⟩
  have s1 := same_new (o := .lst [V.int 1, V.int (-2), V.int 3]) n1
  refine ⟨p, c1, _, rfl, hp.same s1, upd_same, pot_ne hp n1, by decide, by decide, fun x1 H1 hx1 pk1 k1 => ?_⟩
  have K1 := (Keep.of (p := p) s1).trans k1
  refine ⟨_, rfl, by show 2 ≤ sizeLine; decide, fun c2 n2 => ?_⟩
  have s2 := same_new (o := .lst [V.int 1, V.int 2]) n2
  refine ⟨p, c2, _, rfl, pk1.same s2, upd_same, pot_ne pk1 n2, by decide, by decide, fun x2 H2 hx2 pk2 k2 => ?_⟩
  have K2 := K1.trans ((Keep.of (p := p) s2).trans k2)
  obtain ⟨n0, rfl, n00, n05⟩ : ∃ n : Int, x1 = .int n ∧ n ≠ 0 ∧ n.natAbs ≤ 5 := by
    simp only [List.mem_cons, List.not_mem_nil, or_false] at hx1
    rcases hx1 with h | h | h <;> exact ⟨_, h, by decide, by decide⟩
  obtain ⟨n1', rfl, n10, n12⟩ : ∃ n : Int, x2 = .int n ∧ 0 < n ∧ n ≤ 2 := by
    simp only [List.mem_cons, List.not_mem_nil, or_false] at hx2
    rcases hx2 with h | h <;> exact ⟨_, h, by decide, by decide⟩
  refine ⟨by show 2 ≤ sizeLine; decide, fun t1 nt1 => ?_⟩
  have st1 := same_new (o := .tup [V.int n0, V.int n1']) nt1
  refine ⟨ln, t1, a, n0, n1', rfl, st1 _ _ (K2 _ _ np1 hln), la, upd_same, n00, n05, by omega, by omega, sa, da, fun v1 H3 z1 s3 of1 tz1 ez1 => ?_⟩
  have M1 : Mul n0 (eF a) z1 := ⟨tz1, n00, ez1⟩
  have pk2' := pk2.same st1
  have pk3 := pk2'.same s3
  have K3 := K2.trans (Keep.of (p := p) (st1.trans s3))
  have W1 := of1.ownW pk2'
  generalize upd H2 t1 (.tup [V.int n0, V.int n1']) = H2' at *
  refine ⟨_, rfl, _, rfl, 1, rfl, by show 3 ≤ sizeLine; decide, fun c4 n4 => ?_⟩
  have s4 := same_new (o := .lst [V.int 1, V.int 5, V.int (-1)]) n4
  refine ⟨p, c4, _, rfl, pk3.same s4, upd_same, pot_ne pk3 n4, by decide, by decide, fun x4 H4 hx4 pk4 k4 => ?_⟩
  have k34 := (Keep.of (p := p) s4).trans k4
  have K4 := K3.trans k34
  obtain ⟨m0, rfl, m00, m05⟩ : ∃ n : Int, x4 = .int n ∧ n ≠ 0 ∧ n.natAbs ≤ 5 := by
    simp only [List.mem_cons, List.not_mem_nil, or_false] at hx4
    rcases hx4 with h | h | h <;> exact ⟨_, h, by decide, by decide⟩
  refine ⟨by show 2 ≤ sizeLine; decide, fun t5 nt5 => ?_⟩
  have st5 := same_new (o := .tup [V.int m0, V.int 1]) nt5
  refine ⟨lf, t5, b, m0, 1, rfl, st5 _ _ (K4 _ _ np2 hlf), lb, upd_same, m00, m05, by decide, by decide, sb_, db, fun v2 H5 z2 s5 of2 tz2 ez2 => ⟨_, _, rfl, ?_⟩⟩
  have M2 : Mul m0 (eF b) z2 := ⟨tz2, m00, ez2⟩
  have pk4' := pk4.same st5
  have pk5 := pk4'.same s5
  have W2 := of2.ownW pk4'
  have W1 := (W1.same (wos_keep pS k34)).same (wos_same (st5.trans s5))
  have K5 := K4.trans (Keep.of (p := p) (st5.trans s5))
  generalize upd H4 t5 (.tup [V.int m0, V.int 1]) = H4' at *
  clear K1 K2 K3 K4 k34 k1 k2 k4 s1 s2 s3 s4 s5 st1 st5 of1 of2 pk1 pk2 pk2' pk3 pk4 pk4'
  have b1 : BN 40000 z1 := fun z hz => by
    obtain ⟨j, hj⟩ := List.getElem?_of_mem hz
    have := M1.bd sa j
    rw [zc_at hj] at this
    have := Nat.mul_le_mul_right 6561 n05
    omega
  have b2 : BN 40000 z2 := fun z hz => by
    obtain ⟨j, hj⟩ := List.getElem?_of_mem hz
    have := M2.bd sb_ j
    rw [zc_at hj] at this
    have := Nat.mul_le_mul_right 6561 m05
    omega
  have lz1 := M1.len
  have lz2 := M2.len
  refine ⟨_, rfl, _, rfl, p, v1, n1', z1, rfl, pk5, W1, n10, by omega, b1, by omega, tz1, fun x H6 hp6 k6 cx => ?_⟩
  refine ⟨_, rfl, _, rfl, p, v2, 1, z2, rfl, hp6, W2.same (wos_keep pS k6), by decide, by decide, b2, by omega, tz2, fun y H7 hp7 k7 cy => ⟨_, _, rfl, ?_⟩⟩
  have cx := cx.same (wos_keep pS k7)
  have K7 := K5.trans (k6.trans k7)
  obtain ⟨tt1, sh1, st1⟩ := id cx.1
  obtain ⟨tt2, sh2, st2⟩ := id cy.1
  refine ⟨_, rfl, _, rfl, by show 2 ≤ sizeLine; decide, fun e ne => ?_⟩
  have se := same_new (o := .lst [x, y]) ne
  refine ⟨.ref e, listText [tt1, tt2], 2, rfl, sh_pair upd_same ((sh1.same wos_le).same se) ((sh2.same wos_le).same se), pair_len st1 st2, by omega, fun H8 u8 => ?_⟩
  have s8 : Same H7 H8 := se.trans u8
  have hp8 := hp7.same s8
  have K8 := K7.trans (Keep.of (p := p) s8)
  have cx := (cx.same (wos_same s8)).same wos_le
  have cy := (cy.same (wos_same s8)).same wos_le
  have sh1 := (sh1.same (wos_same s8)).same wos_le
  have sh2 := (sh2.same (wos_same s8)).same wos_le
  have hln8 := K8 _ _ np1 hln
  have hlf8 := K8 _ _ np2 hlf
  clear K5 K7 k6 k7 W1 W2 hp6 pk5 s8 se u8 ne
  refine ⟨_, rfl, by decide, by decide, fun D nD => ?_⟩
  have lva : (VI (VN a)).length = 7 := by rw [vi_len, List.length_map]; exact la
  have lvb : (VI (VN b)).length = 7 := by rw [vi_len, List.length_map]; exact lb
  have at7 : ∀ {es : List Nat}, es.length = 7 → ∀ {i : Nat}, i < 7 → (VI (VN es))[i]? = some (.int ((eF es i : Nat) : Int)) := fun {es} el {i} hi => by
    unfold VI
    rw [List.getElem?_map, List.getElem?_map, List.getElem?_eq_getElem (show i < es.length by omega)]
    show _ = some (V.int ((es.getD i 0 : Nat) : Int))
    rw [List.getD_eq_getElem?_getD, List.getElem?_eq_getElem (show i < es.length by omega)]; rfl
  refine lc_rg (lo := 0) (n := (7 : Int).toNat) (fun i => some (.int ((cut (eF a) (eF b) i : Nat) : Int))) nD (by rw [sizeLine_eq]; decide) (fun i J1 hi e1 Y N yy nn => ?_) (fun J1 e1 hD => ?_)
  · have hi7 : i < 7 := hi
    refine ⟨rfl, _, rfl, _, rfl, lf, _, _, _, rfl, rfl, SqL.of (e1 _ _ hlf8), at_of (j := i) (by omega) (at7 lb hi7), _, _, rfl, rfl, _, rfl, ?_⟩
    by_cases hb : 0 < eF b i
    · refine iteT2 (decide_eq_true (by omega)) ⟨_, rfl, _, rfl, ln, _, _, _, rfl, rfl, SqL.of (e1 _ _ hln8), at_of (j := i) (by omega) (at7 la hi7), yy _ _ (Same.refl _) ?_⟩
      show some (V.int ((if 0 < eF b i then eF a i else 0 : Nat) : Int)) = _
      rw [if_pos hb]
    · refine iteF2 (decide_eq_false (by omega)) (yy _ _ (Same.refl _) ?_)
      show some (V.int ((if 0 < eF b i then eF a i else 0 : Nat) : Int)) = _
      rw [if_neg hb]; rfl
  have eD : (List.range (7 : Int).toNat).filterMap (fun i => some (V.int ((cut (eF a) (eF b) i : Nat) : Int))) = VI (VN ((List.range 7).map (cut (eF a) (eF b)))) := by
    unfold VI VN
    rw [List.map_map, List.map_map, ← List.filterMap_eq_map]; rfl
  rw [eD] at hD
  have ecs : ∀ i, i < 7 → eF ((List.range 7).map (cut (eF a) (eF b))) i = cut (eF a) (eF b) i := fun i hi => by
    show ((List.range 7).map (cut (eF a) (eF b))).getD i 0 = _
    rw [List.getD_eq_getElem?_getD, List.getElem?_map, List.getElem?_range hi]; rfl
  have lcs : ((List.range 7).map (cut (eF a) (eF b))).length = 7 := by rw [List.length_map, List.length_range]
  have cle := cut_le (eF a) (eF b)
  have scs := Nat.le_trans (sumE_le (k := 7) fun i hi => Nat.le_trans (Nat.le_of_eq (ecs i hi)) (cle i)) sa
  have dcs := Nat.le_trans (degE_le (k := 7) fun i hi => Nat.le_trans (Nat.le_of_eq (ecs i hi)) (cle i)) da
  generalize hcs : (List.range 7).map (cut (eF a) (eF b)) = cs at *
  refine ⟨by show 2 ≤ sizeLine; decide, fun t nt => ?_⟩
  have st := same_new (o := .tup [V.int 1, V.int 1]) nt
  refine ⟨D, t, cs, 1, 1, rfl, st _ _ hD, lcs, upd_same, by decide, by decide, by decide, by decide, scs, dcs, fun vD0 J3 zD e3 ofD tzD ezD => ?_⟩
  have MD0 : Mul 1 (eF cs) zD := ⟨tzD, by decide, ezD⟩
  have MD := MD0.congr ecs
  have e03 := (e1.trans st).trans e3
  refine ⟨vD0, 1, zD, rfl, ofD.own, MD.ne, fun tD J4 e4 ntD oD => ?_⟩
  have e04 := e03.trans e4
  have scc : sumE (cut (eF a) (eF b)) 7 ≤ 8 := Nat.le_trans (sumE_le fun i _ => cle i) sa
  have dcc : degE (cut (eF a) (eF b)) 7 ≤ 14 := Nat.le_trans (degE_le fun i _ => cle i) da
  clear hcs ecs scs dcs MD0 ofD ezD eD hD e1 st e3 e4 e03 lcs ntD nt nD
  have hh := MD.head
  have lD := MD.len
  have bD : ∀ i, (zc zD i).natAbs ≤ 6561 := fun i => by have := MD.bd scc i; omega
  have ldD : ld zD ≤ 6561 := by have : (ld zD).natAbs ≤ 6561 := bD _; omega
  obtain ⟨s1, hs1, P1⟩ := M1.prim
  obtain ⟨s2, hs2, P2⟩ := M2.prim
  obtain ⟨s3, hs3, P3⟩ := MD.prim
  have zw : ∀ {c : Int} {e : Ex} {zs : List Int}, Mul c e zs → sumE e 7 ≤ 8 → c.natAbs ≤ 40000 → ∀ i, (zc zs i).natAbs < 2 ^ 30 := fun {c e zs} m s h i => by
    have := m.bd s i
    have := Nat.mul_le_mul_right 6561 h
    omega
  have hx : PoH C H8 x n1' z1 := ⟨cx, n10, by omega, tz1, zw M1 sa (by omega), by omega⟩
  have hy : PoH C H8 y 1 z2 := ⟨cy, by decide, by decide, tz2, zw M2 sb_ (by omega), by omega⟩
  have res : ∀ {e : Ex} {H1 H2 : Hp} {v : V} {F F' : List Int}, (∀ i, cut (eF a) e i = cut (eF a) (eF b) i) → RL (eF a) e F → (∀ n, zc F' n = zc F n) → F' ≠ [] → zc F' (F'.length - 1) ≠ 0 → NewQ C H1 H2 v (ratsOf (zc F' (F'.length - 1)) F') → NewQ C H1 H2 v (ratsOf (ld zD) zD) := fun {e H1 H2 v F F'} hc ⟨r, hr, zF⟩ eF' f0 fl nq => by
    have mF : Mul r (cut (eF a) (eF b)) F' := (Mul.of_told hr (fun n => by rw [eF', zF]) f0 fl).congr fun i _ => hc i
    rw [← mF.rats MD]; exact nq
  refine ⟨_, rfl, _, rfl, x, y, n1', 1, z1, z2, 6561, JL (eF a) (eF b), RL (eF a) (eF b), rfl, hx.same e04, hy.same e04, partJ P1 hs1 P2 hs2 sa sb_ da db, fun v J5 F F' e5 RLF eFF f0 fl nq => ?_⟩
  obtain ⟨af, uf, rfl, naf, haf, hQf⟩ := res (fun i => rfl) RLF eFF f0 fl nq
  have e05 := e04.trans e5
  have aB : AllB 8000 (ratsOf (ld zD) zD) := fun x hx => by
    obtain ⟨z, hz, rfl⟩ := List.mem_map.mp hx
    obtain ⟨j, hj⟩ := List.getElem?_of_mem hz
    rw [← Rat.divInt_eq_div, ← zc_at hj]
    exact (Bits.divInt (n := 13) (show (zc zD j).natAbs < 2 ^ 13 by have := bD j; omega) (show (ld zD).natAbs < 2 ^ 13 by omega) (by omega)).mono (by decide)
  have lXS := ratsOf_len (ld zD) zD
  have bzD : BN 6561 zD := fun z hz => by
    obtain ⟨j, hj⟩ := List.getElem?_of_mem hz
    rw [← zc_at hj]; exact bD j
  have tXS := told_of hh MD.t
  have pF : PolyQ C J5 (.ref af) (ratsOf (ld zD) zD) := PolyQ.ofQL haf hQf tXS (smq_over (by omega) (show (ld zD).natAbs < 2 ^ 40 by omega) fun i => show (zc zD i).natAbs < 2 ^ 40 by have := bD i; omega) (by omega)
  have hF : PoH C J5 (.ref af) (ld zD) zD := ⟨pF, hh, by omega, MD.t, fun i => by have := bD i; omega, by omega⟩
  refine ⟨fun σ' G => σ' = [some (.ref p), some (.ref ln), some (.ref lf), some v1, some v2, some x, some y, some (.str (listText [tt1, tt2])), some (.ref tD), some (.ref af), none, none, none] ∧ Same J5 G, ?_, ?_⟩
  · refine ⟨_, rfl, _, rfl, af, uf, _, .ref tD, ld zD, zD, 6561, 13, rfl, haf, hQf, aB, by omega, oD.same e5, by omega, bzD, ⟨by decide, show (ld zD).natAbs < 2 ^ 13 by omega⟩, by decide, rfl, fun G1 g1 => ⟨true, rfl, iteF ?_⟩⟩
    have e15 := e05.trans g1
    refine ⟨_, rfl, _, rfl, rfl, rfl, x, y, n1', 1, z1, z2, 6561, JL (eF a) (eF b), RL (eF a) (eF b), rfl, hx.same e15, hy.same e15, partJ P1 hs1 P2 hs2 sa sb_ da db, fun v G2 F2 F2' g2 RL2 eF2 f02 fl2 nq2 => ?_⟩
    obtain ⟨a2, u2, rfl, na2, ha2, hQ2⟩ := res (fun i => rfl) RL2 eF2 f02 fl2 nq2
    have g12 := g1.trans g2
    refine ⟨_, rfl, QL.eqv hQ2 (RatL.same hQf g12) ha2 (g12 _ _ haf), fun G3 g3 => ⟨_, rfl, iteF2 rfl ?_⟩⟩
    have g13 := g12.trans g3
    refine ⟨_, rfl, _, rfl, x, .ref af, n1', ld zD, z1, zD, 6561, JL (eF a) (cut (eF a) (eF b)), RL (eF a) (cut (eF a) (eF b)), rfl, hx.same (e05.trans g13), hF.same g13, partJ P1 hs1 P3 hs3 sa scc da dcc, fun v G4 F4 F4' g4 RL4 eF4 f04 fl4 nq4 => ?_⟩
    obtain ⟨a4, u4, rfl, na4, ha4, hQ4⟩ := res (cut_cut _ _) RL4 eF4 f04 fl4 nq4
    have g14 := g13.trans g4
    exact ⟨_, rfl, QL.eqv hQ4 (RatL.same hQf g14) ha4 (g14 _ _ haf), fun G5 g5 => ⟨_, rfl, iteF2 rfl ⟨rfl, g14.trans g5⟩⟩⟩
  rintro _ G ⟨rfl, g⟩
  have e0g := e05.trans g
  obtain ⟨W, MW, dvW⟩ := div_ok M1 MD (fun i _ => cle i) n10
  have By := byq MD scc
  have sc1 : AllS n1' 40000 (ratsOf n1' z1) := fun x hx => by
    obtain ⟨z, hz, rfl⟩ := List.mem_map.mp hx
    exact ⟨z, rfl, b1 z hz⟩
  have hxg := hx.same e0g
  have hFg := hF.same g
  have tx1 := told_of n10 tz1
  refine ⟨_, rfl, _, rfl, x, .ref af, _, _, n1', ld zD, ld zD, 40000, 6561, rfl, hxg.p, hFg.p, tx1, By, sc1, show (ld zD).natAbs < 2 ^ 100 by omega, by decide, fit15 n10 n12 hh ldD (by rw [ratsOf_len]; omega), by rw [ratsOf_len]; omega, fun t q1 q2 G5 u1 u2 qs rs g5 nt nq1 nq2 ht hq1 hq2 Q1 Q2 dv => ?_⟩
  obtain ⟨rfl, rfl⟩ := dv.dv.uniq dvW By.ne tXS
  refine ⟨t, _, rfl, SqT.of ht, rfl, _, _, rfl, _, _, rfl, rfl, ?_⟩
  obtain rfl : u2 = [] := List.length_eq_zero_iff.mp (QL.len Q2)
  refine ⟨_, rfl, Nat.zero_le _, fun c nc => ?_⟩
  have sc := same_new (o := .lst []) nc
  refine ⟨q2, c, [], rfl, rfl, sc _ _ hq2, upd_same, _, rfl, iteT2 rfl ?_⟩
  have hq1' := sc _ _ hq1
  have Q1' : QL C (upd G5 c (.lst [])) u1 (ratsOf n1' W) := RatL.same Q1 sc
  have e06 := (e0g.trans g5).trans sc
  generalize upd G5 c (.lst []) = G6 at *
  have ssb : sumE (sb (eF a) (cut (eF a) (eF b))) 7 ≤ 8 := Nat.le_trans (sumE_le fun i _ => by show _ - _ ≤ _; omega) sa
  have dsb : degE (sb (eF a) (cut (eF a) (eF b))) 7 ≤ 14 := Nat.le_trans (degE_le fun i _ => by show _ - _ ≤ _; omega) da
  have cW : (n0 * ld zD).natAbs ≤ 40000 := by
    rw [Int.natAbs_mul]
    have : n0.natAbs * (ld zD).natAbs ≤ 5 * 6561 := Nat.mul_le_mul n05 (by omega)
    omega
  have zW := zw MW ssb cW
  have lW := MW.len
  have pW : PolyQ C G6 (.ref q1) (ratsOf n1' W) := PolyQ.ofQL hq1' Q1' (told_of n10 MW.t) (smq_over (by omega) (show n1'.natAbs < 2 ^ 40 by omega) fun i => show (zc W i).natAbs < 2 ^ 40 by have := zW i; omega) (by rw [ratsOf_len]; omega)
  have hW : PoH C G6 (.ref q1) n1' W := ⟨pW, n10, by omega, MW.t, zW, by omega⟩
  obtain ⟨s4, hs4, P4⟩ := MW.prim
  have mz : ∀ i, i < 7 → mn (sb (eF a) (cut (eF a) (eF b))) (eF b) i = 0 := fun i _ => by
    show min (eF a i - (if 0 < eF b i then eF a i else 0)) (eF b i) = 0
    split <;> omega
  refine ⟨_, rfl, _, rfl, .ref q1, y, n1', 1, W, z2, FD (mn (sb (eF a) (cut (eF a) (eF b))) (eF b)), rfl, hW, hy.same e06, .inr ⟨6561, trg P4 hs4 P2 hs2 ssb sb_ dsb db⟩, fun v G7 g7 nq7 => ?_⟩
  rw [one_rats mz] at nq7
  obtain ⟨a7, u7, rfl, na7, ha7, hQ7⟩ := nq7
  refine ⟨1, rfl, fun r G8 nr g8 rq => ⟨by show 1 ≤ sizeLine; decide, fun L nL => ?_⟩⟩
  have sL := same_new (o := .lst [V.ref r]) nL
  have r1 : RQ C G8 r 1 := rq
  have g9 := g8.trans sL
  refine ⟨QL.eqv (RatL.same hQ7 g9) (QL.snoc QL.nil (r1.same sL)) (g9 _ _ ha7) upd_same, fun G9 g10 => ⟨_, rfl, iteT2 rfl ?_⟩⟩
  have e09 := ((e06.trans g7).trans g9).trans g10
  refine ⟨_, rfl, _, rfl, by show 2 ≤ sizeLine; decide, fun c2 nc2 => ?_⟩
  have sc2 := same_new (o := .lst [x, y]) nc2
  have s7 : Same H8 _ := Same.trans e09 sc2
  refine ⟨.ref c2, listText [tt1, tt2], 2, rfl, sh_pair upd_same (sh1.same s7) (sh2.same s7), pair_len st1 st2, by omega, fun G11 g11 => ?_⟩
  refine ⟨_, rfl, rfl, ?_⟩
  rw [decide_eq_true rfl]
  have sF := s7.trans g11
  exact q G11 (hp8.same sF) (K8.trans (Keep.of (p := p) sF))
end
end K21

namespace K21
open PySem PySem.Spec PyProof.Rows L2 Fp
section
variable {P : Program} {w : World} {K : PySem.W.Frag} {mg : Str → Option Value} {base : Heap} {k : Nat} {C fI fR : Addr}
theorem vn_sum {es : List Nat} (h : es.length = 7) : (VN es).sum = ((sumE (eF es) 7 : Nat) : Int) := by
  match es, h with
  | [a, b, c, d, e, f, g], _ => simp [sumE, eF, VN]; omega
theorem intPoly {H : Hp} {a : Addr} {zs : List Int} (h : H a = some (.lst (VI zs))) (t : trimI zs = zs) (sm : ∀ i, (zc zs i).natAbs < 2 ^ 39) (l : zs.length ≤ 49) : PolyQ C H (.ref a) (ratsOf 1 zs) := by
  have e : ∀ z : Int, (z : Rat) / ((1 : Int) : Rat) = (z : Rat) := fun z => by
    have c1 := cast_ne (b := 1) (by decide)
    rw [show (z : Rat) = (z : Rat) * ((1 : Int) : Rat) by simp, Rat.mul_div_cancel c1]
    simp
  have := PolyQ.mk (C := C) (H := H) (a := a) (gs := VI zs) (xs := ratsOf 1 zs) (.inl h) (by rw [vi_len, ratsOf_len]) (fun i v x h1 h2 => ?_) (smq_over (by decide) (show (1 : Int).natAbs < 2 ^ 40 by decide) fun i => show _ < 2 ^ 40 from by have := sm i; omega) (by rw [vi_len]; exact l)
  · rwa [← ratsOf_trim (by decide), t] at this
  · obtain ⟨z, hz, rfl⟩ := vi_at h1
    unfold ratsOf at h2
    rw [List.getElem?_map, hz] at h2
    obtain rfl := Option.some.inj h2
    show NumQ C H (.int z) ((z : Rat) / ((1 : Int) : Rat))
    rw [e]
    exact .inl ⟨rfl, rfl⟩
def e0 : Ex := fun i => if i = 0 then 1 else 0
def e02 : Ex := fun i => if i = 0 ∨ i = 2 then 1 else 0
theorem mul_list {e : Ex} {zs : List Int} (h : trimI (Pm e 7) = zs) : Mul 1 e zs := ⟨by rw [← h]; exact trim_idem _, by decide, fun n => by rw [← h, zc_trim]; omega⟩
theorem mul_e0 : Mul 1 e0 [0, 1] := mul_list (by decide +kernel)
theorem mul_e02 : Mul 1 e02 [0, 2, 1] := mul_list (by decide +kernel)
def z7 : Ex := fun _ => 0
theorem rl_one {a b : Ex} (h : ∀ i, i < 7 → cut a b i = 0) {F F' : List Int} (r : RL a b F) (e : ∀ n, zc F' n = zc F n) (f0 : F' ≠ []) (fl : zc F' (F'.length - 1) ≠ 0) : ratsOf (zc F' (F'.length - 1)) F' = [1] := by
  obtain ⟨r, hr, z⟩ := r
  have mF := Mul.of_told hr (fun n => by rw [e, z]) f0 fl
  have := mF.rats (mul_unit h (c := 1) (by decide))
  have e2 : ratsOf (ld [1]) [1] = [1] := by decide +kernel
  rw [← e2]; exact this
/-- a number that is handed in -/
def NumP (C : Addr) (H : Hp) (x : V) : Prop := ∃ (b c : Int), PoH C H x b [c] ∧ c ≠ 0
theorem NumP.same {H H' : Hp} {x : V} (h : NumP C H x) (s : Same H H') : NumP C H' x := let ⟨b, c, p, c0⟩ := h; ⟨b, c, p.same s, c0⟩
def sp_law_right (K : PySem.W.Frag) : Sp := fun vs H Q _ => ∃ p : Addr, vs = [.ref p] ∧ PotOk H p ∧ ∀ H', Keep p H H' → Q (.bl true) H'
-- slots: _law_pot_here 0, _law_near 1, _law_far 2, _law_more 3, _law_number 4, _law_at 5; cells: _law_far _law_near
abbrev s_law_right : Stmt := top 60
abbrev N_law_right : List Str := ["_law_pot_here", "_law_near", "_law_far", "_law_more", "_law_number", "_law_at"]
theorem sc_law_right : FnScope N_law_right ["_law_pot_here"] (defScope s_law_right) := ⟨rfl, rfl, rfl, by decide +kernel, rfl, by decide +kernel, by decide +kernel⟩
theorem d_law_right (B : Bnd K mg "_law_right" s_law_right) (M : Mg2 mg) (R : RCls K mg C fI fR) {kr : Nat} (RD : RDef P w K mg base kr C) (DQ : RDefQ P w K mg base kr C) (EX : EqX P w K mg base kr C) (hk : kr + 8 ≤ k) (D_part_with : Def P w K mg base k "part_with" s_part_with ["poly", "other"] (sp_part_with C)) (D_law_pick : Def P w K mg base k "_law_pick" sPick ["_law_pot_here", "_law_some"] spPick) (D_law_often : Def P w K mg base k "_law_often" s_law_often ["_law_pot_here", "_law_most"] (sp_law_often K)) (D_law_both_right : DefG P w K mg base k "_law_both_right" s_law_both_right ["_law_pot_here", "_law_near", "_law_far"] (sp_law_both K)) : DefG P w K mg base (k + 1) "_law_right" s_law_right ["_law_pot_here"] (sp_law_right K) := by
  refine defG_of B sc_law_right (by rintro _ _ _ _ ⟨p, rfl, _⟩; rfl) (fun _ _ _ _ _ _ us hl => match us, hl with | [_], _ => rfl) fun f cdv A outer s H vs Q E hgd hr h => ?_
  obtain ⟨p, rfl, hp, q⟩ := h
  have hu := hr.units
  have hg2 : (A.deeper (envOfC "_law_right" (defScope s_law_right) s.heap.objs.size f cdv)).guards = some [] := hgd
  refine ⟨_, pss_cons (ps_asg (pe_tup (pa_cons (pe_d D_law_often hr (by rfl) (pa_cons (pv 0) (pa_cons pe_int pa_nil))) (pa_cons (pe_d D_law_often hr (by rfl) (pa_cons (pv 0) (pa_cons pe_int pa_nil))) pa_nil))) (pg_tup rfl (pgs_cons (pg_name (i := 1) sc_law_right.nd rfl (.inr rfl)) (pgs_cons (pg_name (i := 2) sc_law_right.nd rfl (.inr rfl)) pgs_nil))))
    (C8.pss_cut (ps_if (PW.pt (pw_or (pt_not (pt_val (pe_dG D_law_both_right hg2 hr (by rfl) (pa_cons (pv 0) (pa_cons (pv 1) (pa_cons (pv 2) pa_nil)))))) (pw_or1 (pt_not (pt_val (pe_dG D_law_both_right hg2 hr (by rfl) (pa_cons (pv 0) (pa_cons (pv 2) (pa_cons (pv 1) pa_nil)))))))))
      (pss_one (ps_ret pe_bl))
      (pss_nil))
    (C8.pss_cut (ps_set (i := 3) sc_law_right.nd rfl (.inl rfl) (pe_ifExp (pt_cmpR op_lt (pe_op op_add (pe_callB (cr_sum rfl) (by rfl) M.sum boot_sum (pa_cons (pv 1) pa_nil)) (pe_callB (cr_sum rfl) (by rfl) M.sum boot_sum (pa_cons (pv 2) pa_nil))) pe_int (nomark _)) (pe_lc (own := [("_law_at", 5)]) (g := (gName 5)) (tt := tYes) (te := (tOp _ (tOp (rIxL K) (tVar 1) (tVar 5)) (tOp (rIxL K) (tVar 2) (tVar 5)))) rfl sc_law_right.nd (pi_range1 (by rfl) M.range (pa_cons pe_int pa_nil)) (blkOk_by (own := [("_law_at", 5)]) (N := N_law_right) (sc := defScope s_law_right) (by decide +kernel)) (fun _ _ _ _ _ => pg_name (i := 5) sc_law_right.nd rfl (.inl rfl)) (fun _ _ _ _ _ => pts_nil) (fun _ _ _ _ _ => pe_op op_add (pe_ix (r := rIxL K) ix_list (pv 1) (pv 5) (fun _ _ => rfl)) (pe_ix (r := rIxL K) ix_list (pv 2) (pv 5) (fun _ _ => rfl)))) (pv 1)))
    (C8.pss_cut (ps_if (pt_not (pt_val (pe_dG D_law_both_right hg2 hr (by rfl) (pa_cons (pv 0) (pa_cons (pv 3) (pa_cons (pv 1) pa_nil))))))
      (pss_one (ps_ret pe_bl))
      (pss_nil))
    (pss_cons (ps_set (i := 4) sc_law_right.nd rfl (.inl rfl) (pe_d D_law_pick hr (by rfl) (pa_cons (pv 0) (pa_cons (pe_lst (pa_cons (pe_lst (pa_cons pe_int pa_nil)) (pa_cons (pe_tup (pa_cons (pe_ratQ DQ (hr.mono (by omega)) (by rfl) (pa_cons (pe_un un_neg pe_int) (pa_cons pe_int pa_nil))) (pa_cons pe_int pa_nil))) (pa_cons (pe_lst (pa_cons pe_int pa_nil)) pa_nil)))) pa_nil))))
    (pss_one (ps_ret (pe_and (pe_cmpR (op_eq1 EX (hr.mono (by omega))) (pe_d D_part_with hr (by rfl) (pa_cons (pv 4) (pa_cons (pe_lst (pa_cons pe_int (pa_cons pe_int pa_nil))) pa_nil))) (pe_lst (pa_cons (pe_rat RD (hr.mono (by omega)) (by rfl) (pa_cons pe_int pa_nil)) pa_nil)) (nomark _)) (pe_one (pe_cmpR (op_eq1 EX (hr.mono (by omega))) (pe_d D_part_with hr (by rfl) (pa_cons (pe_lst (pa_cons pe_int (pa_cons pe_int (pa_cons pe_int pa_nil)))) (pa_cons (pv 4) pa_nil))) (pe_lst (pa_cons (pe_rat RD (hr.mono (by omega)) (by rfl) (pa_cons pe_int pa_nil)) pa_nil)) (nomark _)))))))))), ?_⟩
  refine ⟨_, rfl, p, 8, rfl, hp, by decide, fun a1 H1 as pk1 k1 na1 ha1 la sa da => ?_⟩
  refine ⟨_, rfl, p, 6, rfl, pk1, by decide, fun a2 H2 bs pk2 k2 na2 ha2 lb sb_ db => ⟨by show 2 ≤ sizeLine; decide, fun T nT => ?_⟩⟩
  have np1 : a1 ≠ p := pot_ne hp na1
  have np2 : a2 ≠ p := pot_ne pk1 na2
  have ha1 := k2 _ _ np1 ha1
  have sT := same_new (o := .tup [V.ref a1, V.ref a2]) nT
  have K3 := (k1.trans k2).trans (Keep.of (p := p) sT)
  have pk3 := pk2.same sT
  have ha1 := sT _ _ ha1
  have ha2 := sT _ _ ha2
  refine ⟨T, _, rfl, SqT.of upd_same, rfl, _, _, rfl, _, _, rfl, rfl, ?_⟩
  generalize upd H2 T (.tup [V.ref a1, V.ref a2]) = H3 at *
  clear k1 k2 sT pk1 pk2 nT na1 na2
  refine ⟨fun σ' G => σ' = [some (.ref p), some (.ref a1), some (.ref a2), none, none, none] ∧ PotOk G p ∧ Keep p H3 G, ?_, ?_⟩
  · refine ⟨_, rfl, _, rfl, _, rfl, p, a1, a2, as, bs, rfl, pk3, np1, np2, ha1, ha2, la, lb, by omega, by omega, by omega, by omega, fun G1 pg1 kg1 => ⟨true, rfl, iteF ?_⟩⟩
    exact ⟨_, rfl, _, rfl, _, rfl, p, a2, a1, bs, as, rfl, pg1, np2, np1, kg1 _ _ np2 ha2, kg1 _ _ np1 ha1, lb, la, by omega, by omega, by omega, by omega, fun G2 pg2 kg2 => ⟨true, rfl, iteF ⟨rfl, pg2, kg1.trans kg2⟩⟩⟩
  rintro _ G1 ⟨rfl, pg, kg⟩
  have hg1 := kg _ _ np1 ha1
  have hg2_ := kg _ _ np2 ha2
  have K4 := K3.trans kg
  refine ⟨fun σ' G => ∃ (am : Addr) (ms : List Nat), σ' = [some (.ref p), some (.ref a1), some (.ref a2), some (.ref am), none, none] ∧ Same G1 G ∧ am ≠ p ∧ G am = some (.lst (VI (VN ms))) ∧ ms.length = 7 ∧ sumE (eF ms) 7 ≤ 8 ∧ degE (eF ms) 7 ≤ 14, ?_, ?_⟩
  · have s1 := vn_sum la
    have s2 := vn_sum lb
    refine ⟨_, rfl, a1, VN as, rfl, SqL.of hg1, _, rfl, a2, VN bs, rfl, SqL.of hg2_, _, _, rfl, rfl, _, _, rfl, rfl, _, rfl, ite2 (fun z => ?_) (fun z => ?_)⟩
    · have hs : sumE (eF as) 7 + sumE (eF bs) 7 < 9 := by
        have := of_decide_eq_true z
        rw [s1, s2] at this
        omega
      refine ⟨_, rfl, by decide, by decide, fun D nD => ?_⟩
      have at7 : ∀ {es : List Nat}, es.length = 7 → ∀ {i : Nat}, i < 7 → (VI (VN es))[i]? = some (.int ((eF es i : Nat) : Int)) := fun {es} el {i} hi => by
        unfold VI
        rw [List.getElem?_map, List.getElem?_map, List.getElem?_eq_getElem (show i < es.length by omega)]
        show _ = some (V.int ((es.getD i 0 : Nat) : Int))
        rw [List.getD_eq_getElem?_getD, List.getElem?_eq_getElem (show i < es.length by omega)]; rfl
      refine lc_rg (lo := 0) (n := (7 : Int).toNat) (fun i => some (.int (((eF as i + eF bs i : Nat)) : Int))) nD (by rw [sizeLine_eq]; decide) (fun i J1 hi e1 Y N yy nn => ?_) (fun J1 e1 hD => ?_)
      · have hi7 : i < 7 := hi
        exact ⟨rfl, _, rfl, _, rfl, a1, _, _, _, rfl, rfl, SqL.of (e1 _ _ hg1), at_of (j := i) (by omega) (at7 la hi7), _, rfl, _, rfl, a2, _, _, _, rfl, rfl, SqL.of (e1 _ _ hg2_), at_of (j := i) (by omega) (at7 lb hi7), _, _, rfl, rfl, yy _ _ (Same.refl _) rfl⟩
      have eD : (List.range (7 : Int).toNat).filterMap (fun i => some (V.int ((eF as i + eF bs i : Nat) : Int))) = VI (VN ((List.range 7).map fun i => eF as i + eF bs i)) := by
        unfold VI VN
        rw [List.map_map, List.map_map, ← List.filterMap_eq_map]; rfl
      rw [eD] at hD
      have ecs : ∀ i, i < 7 → eF ((List.range 7).map fun i => eF as i + eF bs i) i = eF as i + eF bs i := fun i hi => by
        show ((List.range 7).map fun i => eF as i + eF bs i).getD i 0 = _
        rw [List.getD_eq_getElem?_getD, List.getElem?_map, List.getElem?_range hi]; rfl
      have d := degE_congr (k := 7) ecs
      rw [degE_add] at d
      have s0 := sumE_le (k := 7) fun i hi => Nat.le_of_eq (ecs i hi)
      have s3 : sumE (fun i => eF as i + eF bs i) 7 = sumE (eF as) 7 + sumE (eF bs) 7 := by simp [sumE]; omega
      exact ⟨D, _, rfl, e1, pot_ne pg nD, hD, by rw [List.length_map, List.length_range], by omega, by omega⟩
    · exact ⟨_, rfl, a1, as, rfl, Same.refl _, np1, hg1, la, by omega, by omega⟩
  rintro _ G2 ⟨am, ms, rfl, g2, npm, hm, lm, sm, dm⟩
  refine ⟨fun σ' G => σ' = [some (.ref p), some (.ref a1), some (.ref a2), some (.ref am), none, none] ∧ PotOk G p ∧ Keep p G2 G, ?_, ?_⟩
  · exact ⟨_, rfl, _, rfl, _, rfl, p, am, a1, ms, as, rfl, pg.same g2, npm, np1, hm, g2 _ _ hg1, lm, la, sm, by omega, dm, by omega, fun G3 pg3 kg3 => ⟨true, rfl, iteF ⟨rfl, pg3, kg3⟩⟩⟩
  rintro _ G3 ⟨rfl, pg3, kg3⟩
  have K5 := (K4.trans (Keep.of (p := p) g2)).trans kg3
  clear K3 K4 kg g2 kg3 hm ha1 ha2 hg1 hg2_ hp pg pk3
  have pS : p ∈ [p] := by simp
  refine ⟨_, rfl, by show 1 ≤ sizeLine; decide, fun l3 n3 => ?_⟩
  have s3 := same_new (o := .lst [V.int 3]) n3
  refine ⟨1, rfl, -1, 2, rfl, by decide, Nat.lt_of_lt_of_le (show 2 < 2 ^ 2 by decide) (Nat.pow_le_pow_right (by decide) (by decide)), fun r G4 nr s4 rq => ?_⟩
  refine ⟨by show 2 ≤ sizeLine; decide, fun tt ntt => ⟨by show 1 ≤ sizeLine; decide, fun l1 n1 => ⟨by show 3 ≤ sizeLine; decide, fun L nL => ?_⟩⟩⟩
  have s5 := same_new (o := .tup [V.ref r, V.int 0]) ntt
  have s6 := same_new (o := .lst [V.int 1]) n1
  have s7 := same_new (o := .lst [V.ref l3, V.ref tt, V.ref l1]) nL
  have p4 := (pg3.same s3).same s4
  have p5 := p4.same s5
  have p6 := p5.same s6
  have np3 : l3 ≠ p := pot_ne pg3 n3
  have npr : r ≠ p := pot_ne (pg3.same s3) nr
  have npt : tt ≠ p := pot_ne p4 ntt
  have np1 : l1 ≠ p := pot_ne p5 n1
  have s57 := (s5.trans s6).trans s7
  have h3 := (s4.trans s57) _ _ (upd_same (H := G3) (a := l3) (o := HO.lst [V.int 3]))
  have ht := (s6.trans s7) _ _ (upd_same (H := G4) (a := tt) (o := HO.tup [V.ref r, V.int 0]))
  have h1 := s7 _ _ (upd_same (H := upd G4 tt (.tup [V.ref r, V.int 0])) (a := l1) (o := HO.lst [V.int 1]))
  have rq7 := rq.same s57
  have K6 := K5.trans (Keep.of (p := p) ((s3.trans s4).trans s57))
  have hL : (upd (upd (upd G4 tt (.tup [V.ref r, V.int 0])) l1 (.lst [V.int 1])) L (.lst [V.ref l3, V.ref tt, V.ref l1])) L = some (.lst [V.ref l3, V.ref tt, V.ref l1]) := upd_same
  have p7 := p6.same s7
  have npL : L ≠ p := pot_ne p6 nL
  generalize upd (upd (upd G4 tt (.tup [V.ref r, V.int 0])) l1 (.lst [V.int 1])) L (.lst [V.ref l3, V.ref tt, V.ref l1]) = G7 at *
  clear s3 s4 s5 s6 s7 s57 p4 p5 p6 pg3 K5 rq
  have sml : ∀ {c : Int}, c.natAbs ≤ 3 → ∀ i, (zc [c] i).natAbs < 2 ^ 30 := fun {c} h i => by
    rw [zc_cons]; split
    · omega
    · show (0 : Int).natAbs < _; decide
  have sml9 : ∀ {c : Int}, c.natAbs ≤ 3 → ∀ i, (zc [c] i).natAbs < 2 ^ 39 := fun {c} h i => by have := sml h i; omega
  have N3 : NumP C (wos [p] G7) (.ref l3) := ⟨1, 3, ⟨intPoly (zs := [3]) (by rw [wos_ne (by simp [np3])]; exact h3) rfl (sml9 (by decide)) (by decide), by decide, by decide, rfl, sml (by decide), by decide⟩, by decide⟩
  have N1 : NumP C (wos [p] G7) (.ref l1) := ⟨1, 1, ⟨intPoly (zs := [1]) (by rw [wos_ne (by simp [np1])]; exact h1) rfl (sml9 (by decide)) (by decide), by decide, by decide, rfl, sml (by decide), by decide⟩, by decide⟩
  have Nt : NumP C (wos [p] G7) (.ref tt) := by
    have pq := PolyQ.mk (C := C) (H := wos [p] G7) (a := tt) (gs := [.ref r, .int 0]) (xs := [Rat.divInt (-1) 2, 0]) (.inr (by rw [wos_ne (by simp [npt])]; exact ht)) rfl (fun i v x h1 h2 => by
      match i, h1, h2 with
      | 0, h1, h2 => cases h1; cases h2; exact (RQ.wos rq7 (by simp [npr])).nq
      | 1, h1, h2 => cases h1; cases h2; exact .inl ⟨rfl, rfl⟩) (fun x hx => by
      simp only [List.mem_cons, List.not_mem_nil, or_false] at hx
      rcases hx with h | h <;> rw [h] <;> constructor <;> decide +kernel) (show 2 ≤ 49 by decide)
    have e : trimQ [Rat.divInt (-1) 2, 0] = ratsOf 2 [-1] := by decide +kernel
    rw [e] at pq
    exact ⟨2, -1, ⟨pq, by decide, by decide, rfl, sml (by decide), by decide⟩, by decide⟩
  refine ⟨p, L, _, rfl, p7, hL, npL, show 1 ≤ 3 by decide, show 3 ≤ 1000 by decide, fun x G8 hx p8 k8 => ?_⟩
  have NX : NumP C G8 x := by
    simp only [List.mem_cons, List.not_mem_nil, or_false] at hx
    rcases hx with h | h | h
    · rw [h]; exact (N3.same (wos_keep pS k8)).same wos_le
    · rw [h]; exact (Nt.same (wos_keep pS k8)).same wos_le
    · rw [h]; exact (N1.same (wos_keep pS k8)).same wos_le
  have K8 := K6.trans k8
  clear N1 N3 Nt hx k8 K6 h1 h3 ht rq7 hL
  obtain ⟨b, c, hX, c0⟩ := NX
  have MX : Mul c z7 [c] := mul_unit (fun _ _ => rfl) c0
  obtain ⟨s1, hs1, P1⟩ := MX.prim
  obtain ⟨s2, hs2, P2⟩ := mul_e0.prim
  obtain ⟨s3, hs3, P3⟩ := mul_e02.prim
  have two : ∀ {G : Hp} {a : Addr} {zs : List Int}, G a = some (.lst (VI zs)) → trimI zs = zs → (∀ z ∈ zs, z.natAbs ≤ 3) → zs.length ≤ 49 → PoH C G (.ref a) 1 zs := fun {G a zs} h t z l => by
    have zb : ∀ i, (zc zs i).natAbs ≤ 3 := fun i => by
      by_cases hi : i < zs.length
      · rw [zc_at (List.getElem?_eq_getElem hi)]; exact z _ (List.getElem_mem hi)
      · rw [zc_out (by omega)]; decide
    exact ⟨intPoly h t (fun i => by have := zb i; omega) l, by decide, by decide, t, fun i => by have := zb i; omega, l⟩
  have ez : ∀ {e : Ex} i, i < 7 → cut z7 e i = 0 := fun {e} i _ => by unfold cut; split <;> rfl
  have ez2 : ∀ {e : Ex} i, i < 7 → cut e z7 i = 0 := fun {e} i _ => by unfold cut; rw [if_neg (by show ¬ 0 < 0; decide)]
  refine ⟨_, rfl, by show 2 ≤ sizeLine; decide, fun l4 n4 => ?_⟩
  have s4 := same_new (o := .lst [V.int 0, V.int 1]) n4
  have h4 := two (upd_same (H := G8) (a := l4) (o := HO.lst (VI [0, 1]))) rfl (by decide) (by decide)
  refine ⟨x, .ref l4, b, 1, [c], [0, 1], 6561, JL z7 e0, RL z7 e0, rfl, hX.same s4, h4, partJ P1 hs1 P2 hs2 (by decide) (by decide) (by decide) (by decide), fun v G9 F F' s9 RLF eF' f0 fl nq => ?_⟩
  rw [rl_one ez RLF eF' f0 fl] at nq
  obtain ⟨a9, u9, rfl, na9, ha9, hQ9⟩ := nq
  have s49 := s4.trans s9
  clear h4 s4 s9
  generalize upd G8 l4 (.lst [V.int 0, V.int 1]) = G8' at *
  refine ⟨1, rfl, fun r1 G10 nr1 g10 rq1 => ⟨by show 1 ≤ sizeLine; decide, fun L1 nL1 => ?_⟩⟩
  have sL1 := same_new (o := .lst [V.ref r1]) nL1
  have rr1 : RQ C G10 r1 1 := rq1
  have g11 := g10.trans sL1
  refine ⟨QL.eqv (RatL.same hQ9 g11) (QL.snoc QL.nil (rr1.same sL1)) (g11 _ _ ha9) upd_same, fun G12 g12 => ⟨_, rfl, iteT2 rfl ?_⟩⟩
  have s12 : Same G8 G12 := (s49.trans g11).trans g12
  refine ⟨by show 3 ≤ sizeLine; decide, fun l5 n5 => ?_⟩
  have s5 := same_new (o := .lst [V.int 0, V.int 2, V.int 1]) n5
  have h5 := two (upd_same (H := G12) (a := l5) (o := HO.lst (VI [0, 2, 1]))) rfl (by decide) (by decide)
  refine ⟨_, rfl, .ref l5, x, 1, b, [0, 2, 1], [c], 6561, JL e02 z7, RL e02 z7, rfl, h5, hX.same (s12.trans s5), partJ P3 hs3 P1 hs1 (by decide) (by decide) (by decide) (by decide), fun v G13 F F' s13 RLF eF' f0 fl nq => ?_⟩
  rw [rl_one ez2 RLF eF' f0 fl] at nq
  obtain ⟨a13, u13, rfl, na13, ha13, hQ13⟩ := nq
  refine ⟨1, rfl, fun r2 G14 nr2 g14 rq2 => ⟨by show 1 ≤ sizeLine; decide, fun L2 nL2 => ?_⟩⟩
  have sL2 := same_new (o := .lst [V.ref r2]) nL2
  have rr2 : RQ C G14 r2 1 := rq2
  have g15 := g14.trans sL2
  refine ⟨QL.eqv (RatL.same hQ13 g15) (QL.snoc QL.nil (rr2.same sL2)) (g15 _ _ ha13) upd_same, fun G16 g16 => ?_⟩
  exact q G16 (K8.trans (Keep.of (p := p) ((((s12.trans s5).trans s13).trans g15).trans g16)))
end
end K21

namespace K21
open PySem PySem.Spec PyProof.Rows L2 Fp
section
variable {P : Program} {w : World} {K : PySem.W.Frag} {mg : Str → Option Value} {base : Heap} {k : Nat}
def spLaw (K : PySem.W.Frag) : Sp := fun vs H Q _ => ∃ (a : Addr) (ns : List Int), vs = [.ref a] ∧ SqL K H a (VI ns) ∧ ns.length ≤ 63 ∧ ∀ H', Q (.bl true) H'
abbrev sLaw : Stmt := top 61
theorem sc_law : FnScope ["_law_script", "_law_k"] ["_law_script"] (defScope sLaw) := ⟨rfl, rfl, rfl, by decide +kernel, rfl, by decide +kernel, by decide +kernel⟩
theorem d_law (B : Bnd K mg "law" sLaw) (M : Mg2 mg) (DP : Def P w K mg base k "_law_pot" sPot ["_law_script", "_law_k"] (spPot K)) (DR : DefG P w K mg base k "_law_right" s_law_right ["_law_pot_here"] (sp_law_right K)) : DefG P w K mg base (k + 1) "law" sLaw ["_law_script"] (spLaw K) := by
  refine defG_of B sc_law (by rintro _ _ _ _ ⟨a, ns, rfl, _⟩; rfl) (fun _ _ _ _ _ _ us hl => match us, hl with | [_], _ => rfl) fun f cdv A outer s H vs Q E hgd hr h => ?_
  obtain ⟨a, ns, rfl, hS, hl, q⟩ := h
  have hg2 : (A.deeper (envOfC "law" (defScope sLaw) s.heap.objs.size f cdv)).guards = some [] := hgd
  refine ⟨_, pss_one (ps_ret (pe_callB (cr_all rfl) (by rfl) M.all (by decide +kernel) (pa_cons (pe_lc (own := [("_law_k", 1)]) (g := gName 1) (tt := tYes) rfl sc_law.nd
      (pi_range1 (by rfl) M.range (pa_cons (pe_callB (call_max2 rfl) (by rfl) M.max (by decide +kernel) (pa_cons pe_int (pa_cons (pe_callB (call_min2 rfl) (by rfl) M.min (by decide +kernel) (pa_cons pe_int (pa_cons (pe_callB call_len_seq (by rfl) M.len boot_len (pa_cons (pv 0) pa_nil)) pa_nil))) pa_nil))) pa_nil))
      (blkOk_by (own := [("_law_k", 1)]) (N := ["_law_script", "_law_k"]) (sc := defScope sLaw) (by decide +kernel)) (fun _ _ _ _ _ => pg_name (i := 1) sc_law.nd rfl (Or.inl rfl)) (fun _ _ _ _ _ => pts_nil)
      (fun _ _ _ _ _ => pe_dG DR hg2 hr (by rfl) (pa_cons (pe_d DP hr (by rfl) (pa_cons (pv 0) (pa_cons (pv 1) pa_nil))) pa_nil))) pa_nil))), ?_⟩
  have ln := vi_len ns
  refine ⟨_, rfl, a, _, rfl, .inl hS, 2, _, rfl, 1, _, rfl, _, rfl, ?_, ?_, fun D nD => ?_⟩
  · split <;> split <;> omega
  · split <;> split <;> omega
  generalize hn : (if (if (((VI ns).length : Int)) < 2 then (((VI ns).length : Int)) else 2) > 1 then (if (((VI ns).length : Int)) < 2 then (((VI ns).length : Int)) else 2) else (1 : Int)) = n
  have hn2 : n ≤ 2 := by rw [← hn]; split <;> split <;> omega
  refine lc_rg (lo := 0) (n := n.toNat) (fun _ => some (.bl true)) nD (Nat.le_of_lt (small (by omega))) (fun i H1 hi s1 Y N y nn => ?_) (fun H1 s1 hD1 => ?_)
  · refine ⟨rfl, _, rfl, _, rfl, a, ns, 0 + (i : Int), rfl, s1.seq hS, by omega, by omega, fun p H2 s2 np hp => ⟨p, rfl, hp, fun H3 k3 => ?_⟩⟩
    exact y _ _ (fun b o hb => k3 _ _ (ne_of_none hb np) (s2 _ _ hb)) rfl
  · rw [all_true] at hD1
    refine ⟨D, List.replicate n.toNat true, rfl, SqL.of hD1, ?_⟩
    rw [all_rep]
    exact q _
end
theorem bnd {K : PySem.W.Frag} {h : Heap} {mg : Str → Option Value} (X : K.In h) (G : h.Ns mainGlobals mg) {x : Str} {st : Stmt} {f : Addr} {oc kV dc pm cd ct : Value} {od an : Option Addr} {sl : Array (Option Value)} (a : PySem.W.nsIn K mainGlobals x = some (some (.ref f)))
    (l : K.lookup f = some ⟨oc, od, .func (PySem.W.fnOf x x (defArgs st) (defBody st) (defScope st) .none kV dc pm an cd ct), sl⟩) (c : PySem.W.codeIn K cd x = true) (k : PySem.W.keepIn K (.ref f) = true) : Bnd K mg x st :=
  ⟨f, _, PySem.W.mg_of X G a, fun_mk (st := st) l c k⟩
theorem cls_mk {K : PySem.W.Frag} {h : Heap} {mg : Str → Option Value} (X : K.In h) (G : h.Ns mainGlobals mg) {C fI fR T p3 f3 p4 f4 p5 f5 f6 u6 f7 u7 f8 f9 : Addr} {od1 an1 od2 an2 od3 an3 od4 an4 od5 an5 od6 an6 od7 an7 od8 an8 od9 an9 odT : Option Addr} {sl1 sl2 sl3 sl4 sl5 sl6 sl7 sl8 sl9 slT : Array (Option Value)} {oc1 kV1 dc1 pm1 cd1 ct1 oc2 kV2 dc2 pm2 cd2 ct2 oc3 kV3 dc3 pm3 cd3 ct3 oc4 kV4 dc4 pm4 cd4 ct4 oc5 kV5 dc5 pm5 cd5 ct5 oc6 kV6 dc6 pm6 cd6 ct6 oc7 kV7 dc7 pm7 cd7 ct7 oc8 kV8 dc8 pm8 cd8 ct8 oc9 kV9 dc9 pm9 cd9 ct9 ocT : Value} {n : Nat} {tk : Tok} {rest3 rest4 rest5 : List Value} {fo6 ro6 fo7 ro7 : Option Value} {TP : Addr} {odTP : Option Addr} {slTP : Array (Option Value)} {nTP : Nat} {tq0 tq1 tq2 tq3 tq4 tq5 tq6 : Tok}
    (aC : PySem.W.nsIn K mainGlobals "Ratio" = some (some (.ref C)))
    (pg : PySem.W.plainGet K C Str.empty = true)
    (hd : PySem.W.hasDictIn K C = true)
    (po : PySem.W.plainOver K C = true)
    (sa : PySem.W.findIn K (.ref C) "__setattr__" = some (some (.builtin "object.__setattr__")))
    (nT : PySem.W.findIn K (.ref C) "_top" = some none)
    (nB : PySem.W.findIn K (.ref C) "_bottom" = some none)
    (mk : PySem.W.makesIn K C = true)
    (kc : PySem.W.keepIn K (.ref C) = true)
    (a1 : PySem.W.findIn K (.ref C) "__init__" = some (some (.ref fI)))
    (i1 : PySem.W.isFn K (.ref fI) = true)
    (a2 : PySem.W.findIn K (.ref C) "__repr__" = some (some (.ref fR)))
    (i2 : PySem.W.isFn K (.ref fR) = true)
    (isA : PySem.W.findIn K (.ref C) "__class__" = some (some (.builtin "object.__class__")))
    (isN : PySem.W.specialIn K (.builtin "object.__class__") "__get__" = some (some (.builtin "getset_descriptor.__get__")))
    (isT : PySem.W.takesIn K (.builtin "object.__class__") = some true)
    (isM : PySem.W.mroIn K C (.type "object") = some true)
    (kI : PySem.W.kitOne K (.ref C) (.type "int") = some false)
    (kB : PySem.W.kitOne K (.ref C) (.type "bool") = some false)
    (kL : PySem.W.kitOne K (.ref C) (.type "list") = some false)
    (kT : PySem.W.kitOne K (.ref C) (.type "tuple") = some false)
    (l1 : K.lookup fI = some ⟨oc1, od1, .func (PySem.W.fnOf "__init__" "Ratio.__init__" (defArgs s_Ratio___init__) (defBody s_Ratio___init__) (defScope s_Ratio___init__) (.ref T) kV1 dc1 pm1 an1 cd1 ct1), sl1⟩)
    (c1 : PySem.W.codeIn K cd1 "Ratio.__init__" = true)
    (k1 : PySem.W.keepIn K (.ref fI) = true)
    (lT : K.lookup T = some ⟨ocT, odT, .seq #[.int 1 tk] n, slT⟩)
    (l2 : K.lookup fR = some ⟨oc2, od2, .func (PySem.W.fnOf "__repr__" "Ratio.__repr__" (defArgs s_Ratio___repr__) (defBody s_Ratio___repr__) (defScope s_Ratio___repr__) .none kV2 dc2 pm2 an2 cd2 ct2), sl2⟩)
    (c2 : PySem.W.codeIn K cd2 "Ratio.__repr__" = true)
    (k2 : PySem.W.keepIn K (.ref fR) = true)
    (ji : PySem.W.kitOne K (.type "int") (.ref C) = some false)
    (jb : PySem.W.kitOne K (.type "bool") (.ref C) = some false)
    (jn : PySem.W.kitOne K (.type "NoneType") (.ref C) = some false)
    (js : PySem.W.kitOne K (.type "str") (.ref C) = some false)
    (jl : PySem.W.kitOne K (.type "list") (.ref C) = some false)
    (jt : PySem.W.kitOne K (.type "tuple") (.ref C) = some false)
    (jd : PySem.W.kitOne K (.type "dict") (.ref C) = some false)
    (jc : PySem.W.kitOne K (.ref C) (.ref C) = some true)
    (q3 : PySem.W.findIn K (.ref C) "top" = some (some (.ref p3)))
    (g3 : PySem.W.specialIn K (.ref p3) "__get__" = some (some (.builtin "property.__get__")))
    (t3 : PySem.W.takesIn K (.ref p3) = some true)
    (r3 : PySem.W.recIn K p3 "property" = some (.ref f3 :: rest3))
    (l3 : K.lookup f3 = some ⟨oc3, od3, .func (PySem.W.fnOf "top" "Ratio.top" (defArgs s_Ratio_top) (defBody s_Ratio_top) (defScope s_Ratio_top) .none kV3 dc3 pm3 an3 cd3 ct3), sl3⟩)
    (c3 : PySem.W.codeIn K cd3 "Ratio.top" = true)
    (k3 : PySem.W.keepIn K (.ref f3) = true)
    (q4 : PySem.W.findIn K (.ref C) "bottom" = some (some (.ref p4)))
    (g4 : PySem.W.specialIn K (.ref p4) "__get__" = some (some (.builtin "property.__get__")))
    (t4 : PySem.W.takesIn K (.ref p4) = some true)
    (r4 : PySem.W.recIn K p4 "property" = some (.ref f4 :: rest4))
    (l4 : K.lookup f4 = some ⟨oc4, od4, .func (PySem.W.fnOf "bottom" "Ratio.bottom" (defArgs s_Ratio_bottom) (defBody s_Ratio_bottom) (defScope s_Ratio_bottom) .none kV4 dc4 pm4 an4 cd4 ct4), sl4⟩)
    (c4 : PySem.W.codeIn K cd4 "Ratio.bottom" = true)
    (k4 : PySem.W.keepIn K (.ref f4) = true)
    (q5 : PySem.W.findIn K (.ref C) "sign" = some (some (.ref p5)))
    (g5 : PySem.W.specialIn K (.ref p5) "__get__" = some (some (.builtin "property.__get__")))
    (t5 : PySem.W.takesIn K (.ref p5) = some true)
    (r5 : PySem.W.recIn K p5 "property" = some (.ref f5 :: rest5))
    (l5 : K.lookup f5 = some ⟨oc5, od5, .func (PySem.W.fnOf "sign" "Ratio.sign" (defArgs s_Ratio_sign) (defBody s_Ratio_sign) (defScope s_Ratio_sign) .none kV5 dc5 pm5 an5 cd5 ct5), sl5⟩)
    (c5 : PySem.W.codeIn K cd5 "Ratio.sign" = true)
    (k5 : PySem.W.keepIn K (.ref f5) = true)
    (sf : PySem.W.selfFirst K C = true)
    (a6 : PySem.W.findIn K (.ref C) "__sub__" = some (some (.ref f6)))
    (i6 : PySem.W.isFn K (.ref f6) = true)
    (ra6 : PySem.W.findIn K (.ref C) "__rsub__" = some (some (.ref u6)))
    (h16 : PySem.W.findIn K (.type "int") "__sub__" = some fo6)
    (h26 : PySem.W.findIn K (.type "int") "__rsub__" = some ro6)
    (hs : PySem.W.subIn K (.type "int") (.ref C) = some false)
    (l6 : K.lookup f6 = some ⟨oc6, od6, .func (PySem.W.fnOf "__sub__" "Ratio.__sub__" (defArgs s_Ratio___sub__) (defBody s_Ratio___sub__) (defScope s_Ratio___sub__) .none kV6 dc6 pm6 an6 cd6 ct6), sl6⟩)
    (c6 : PySem.W.codeIn K cd6 "Ratio.__sub__" = true)
    (k6 : PySem.W.keepIn K (.ref f6) = true)
    (a7 : PySem.W.findIn K (.ref C) "__mul__" = some (some (.ref f7)))
    (i7 : PySem.W.isFn K (.ref f7) = true)
    (ra7 : PySem.W.findIn K (.ref C) "__rmul__" = some (some (.ref u7)))
    (h17 : PySem.W.findIn K (.type "int") "__mul__" = some fo7)
    (h27 : PySem.W.findIn K (.type "int") "__rmul__" = some ro7)
    (l7 : K.lookup f7 = some ⟨oc7, od7, .func (PySem.W.fnOf "__mul__" "Ratio.__mul__" (defArgs s_Ratio___mul__) (defBody s_Ratio___mul__) (defScope s_Ratio___mul__) .none kV7 dc7 pm7 an7 cd7 ct7), sl7⟩)
    (c7 : PySem.W.codeIn K cd7 "Ratio.__mul__" = true)
    (k7 : PySem.W.keepIn K (.ref f7) = true)
    (a8 : PySem.W.findIn K (.ref C) "over" = some (some (.ref f8)))
    (i8 : PySem.W.isFn K (.ref f8) = true)
    (l8 : K.lookup f8 = some ⟨oc8, od8, .func (PySem.W.fnOf "over" "Ratio.over" (defArgs s_Ratio_over) (defBody s_Ratio_over) (defScope s_Ratio_over) .none kV8 dc8 pm8 an8 cd8 ct8), sl8⟩)
    (c8 : PySem.W.codeIn K cd8 "Ratio.over" = true)
    (k8 : PySem.W.keepIn K (.ref f8) = true)
    (a9 : PySem.W.findIn K (.ref C) "__eq__" = some (some (.ref f9)))
    (i9 : PySem.W.isFn K (.ref f9) = true)
    (l9 : K.lookup f9 = some ⟨oc9, od9, .func (PySem.W.fnOf "__eq__" "Ratio.__eq__" (defArgs s_Ratio___eq__) (defBody s_Ratio___eq__) (defScope s_Ratio___eq__) .none kV9 dc9 pm9 an9 cd9 ct9), sl9⟩)
    (c9 : PySem.W.codeIn K cd9 "Ratio.__eq__" = true)
    (k9 : PySem.W.keepIn K (.ref f9) = true)
    (aTP : PySem.W.nsIn K mainGlobals "PRIME_POWERS" = some (some (.ref TP)))
    (lTP : K.lookup TP = some ⟨.type "tuple", odTP, .seq #[.int 521 tq0, .int 1279 tq1, .int 2203 tq2, .int 4423 tq3, .int 9689 tq4, .int 19937 tq5, .int 44497 tq6] nTP, slTP⟩) :
    ∃ (C fI fR : Addr) (fdI fdR : FuncData), RCls K mg C fI fR ∧ FunD K "__init__" "Ratio.__init__" (defArgs s_Ratio___init__) (defBody s_Ratio___init__) (defScope s_Ratio___init__) [V.int 1] [] fI fdI ∧ Fun K "__repr__" "Ratio.__repr__" s_Ratio___repr__ fR fdR ∧ RIsi K C ∧ (∃ (p g : Addr) (fd : FuncData), PropOf K C "top" p g ∧ Fun K "top" "Ratio.top" s_Ratio_top g fd) ∧ (∃ (p g : Addr) (fd : FuncData), PropOf K C "bottom" p g ∧ Fun K "bottom" "Ratio.bottom" s_Ratio_bottom g fd) ∧ (∃ (p g : Addr) (fd : FuncData), PropOf K C "sign" p g ∧ Fun K "sign" "Ratio.sign" s_Ratio_sign g fd) ∧ (∃ (f : Addr) (fd : FuncData), BinF K C f .Sub ∧ Fun K "__sub__" "Ratio.__sub__" s_Ratio___sub__ f fd) ∧ (∃ (f : Addr) (fd : FuncData), BinF K C f .Mult ∧ Fun K "__mul__" "Ratio.__mul__" s_Ratio___mul__ f fd) ∧ (∃ (f : Addr) (fd : FuncData), Meth K C "over" f ∧ Fun K "over" "Ratio.over" s_Ratio_over f fd) ∧ (∃ (f : Addr) (fd : FuncData), PySem.W.findIn K (.ref C) "__eq__" = some (some (.ref f)) ∧ PySem.W.isFn K (.ref f) = true ∧ Fun K "__eq__" "Ratio.__eq__" s_Ratio___eq__ f fd) ∧ (∃ TP : Addr, mg "PRIME_POWERS" = some (.ref TP) ∧ ∀ H, SqT K H TP (VI [521, 1279, 2203, 4423, 9689, 19937, 44497])) := by
  refine ⟨C, fI, fR, _, _, ⟨⟨pg, hd, po, sa⟩, nT, nB, PySem.W.mg_of X G aC, ⟨mk, a1, i1, kc⟩, a2, i2, isA, isN, isT, isM, kI, kB, kL, kT⟩,
    ⟨⟨oc1, od1, .ref T, kV1, dc1, pm1, an1, cd1, ct1, sl1, rfl, l1, c1, .inr ⟨List.cons_ne_nil _ _, T, _, [.int 1 tk], n, rfl, lT, rfl, .cons ⟨tk, rfl⟩ .nil⟩, .inl rfl⟩, k1⟩, fun_mk (st := s_Ratio___repr__) l2 c2 k2, ⟨ji, jb, jn, js, jl, jt, jd, jc⟩,
    ⟨p3, f3, _, ⟨q3, g3, t3, rest3, r3⟩, fun_mk (st := s_Ratio_top) l3 c3 k3⟩, ⟨p4, f4, _, ⟨q4, g4, t4, rest4, r4⟩, fun_mk (st := s_Ratio_bottom) l4 c4 k4⟩, ⟨p5, f5, _, ⟨q5, g5, t5, rest5, r5⟩, fun_mk (st := s_Ratio_sign) l5 c5 k5⟩, ⟨f6, _, ⟨sf, ?_, i6, ⟨u6, ?_⟩, ⟨fo6, ?_⟩, ⟨ro6, ?_⟩, hs⟩, fun_mk (st := s_Ratio___sub__) l6 c6 k6⟩, ⟨f7, _, ⟨sf, ?_, i7, ⟨u7, ?_⟩, ⟨fo7, ?_⟩, ⟨ro7, ?_⟩, hs⟩, fun_mk (st := s_Ratio___mul__) l7 c7 k7⟩, ⟨f8, _, ⟨a8, i8, k8⟩, fun_mk (st := s_Ratio_over) l8 c8 k8⟩, ⟨f9, _, a9, i9, fun_mk (st := s_Ratio___eq__) l9 c9 k9⟩, ⟨TP, PySem.W.mg_of X G aTP, fun H => .inr ⟨_, _, nTP, lTP, rfl, rfl, by show 7 ≤ sizeLine; decide, .cons ⟨tq0, rfl⟩ (.cons ⟨tq1, rfl⟩ (.cons ⟨tq2, rfl⟩ (.cons ⟨tq3, rfl⟩ (.cons ⟨tq4, rfl⟩ (.cons ⟨tq5, rfl⟩ (.cons ⟨tq6, rfl⟩ (.nil)))))))⟩⟩⟩
  · show PySem.W.findIn K (.ref C) (PySem.dunder "sub") = _
    rw [show PySem.dunder "sub" = ("__sub__" : Str) by decide +kernel]; exact a6
  · show PySem.W.findIn K (.ref C) (PySem.dunderR "sub") = _
    rw [show PySem.dunderR "sub" = ("__rsub__" : Str) by decide +kernel]; exact ra6
  · show PySem.W.findIn K (.type "int") (PySem.dunder "sub") = _
    rw [show PySem.dunder "sub" = ("__sub__" : Str) by decide +kernel]; exact h16
  · show PySem.W.findIn K (.type "int") (PySem.dunderR "sub") = _
    rw [show PySem.dunderR "sub" = ("__rsub__" : Str) by decide +kernel]; exact h26
  · show PySem.W.findIn K (.ref C) (PySem.dunder "mul") = _
    rw [show PySem.dunder "mul" = ("__mul__" : Str) by decide +kernel]; exact a7
  · show PySem.W.findIn K (.ref C) (PySem.dunderR "mul") = _
    rw [show PySem.dunderR "mul" = ("__rmul__" : Str) by decide +kernel]; exact ra7
  · show PySem.W.findIn K (.type "int") (PySem.dunder "mul") = _
    rw [show PySem.dunder "mul" = ("__mul__" : Str) by decide +kernel]; exact h17
  · show PySem.W.findIn K (.type "int") (PySem.dunderR "mul") = _
    rw [show PySem.dunderR "mul" = ("__rmul__" : Str) by decide +kernel]; exact h27
structure All (K : PySem.W.Frag) (mg : Str → Option Value) : Prop where
  g : Mg2 mg
  R : ∃ (C fI fR : Addr) (fdI fdR : FuncData), RCls K mg C fI fR ∧ FunD K "__init__" "Ratio.__init__" (defArgs s_Ratio___init__) (defBody s_Ratio___init__) (defScope s_Ratio___init__) [V.int 1] [] fI fdI ∧ Fun K "__repr__" "Ratio.__repr__" s_Ratio___repr__ fR fdR ∧ RIsi K C ∧ (∃ (p g : Addr) (fd : FuncData), PropOf K C "top" p g ∧ Fun K "top" "Ratio.top" s_Ratio_top g fd) ∧ (∃ (p g : Addr) (fd : FuncData), PropOf K C "bottom" p g ∧ Fun K "bottom" "Ratio.bottom" s_Ratio_bottom g fd) ∧ (∃ (p g : Addr) (fd : FuncData), PropOf K C "sign" p g ∧ Fun K "sign" "Ratio.sign" s_Ratio_sign g fd) ∧ (∃ (f : Addr) (fd : FuncData), BinF K C f .Sub ∧ Fun K "__sub__" "Ratio.__sub__" s_Ratio___sub__ f fd) ∧ (∃ (f : Addr) (fd : FuncData), BinF K C f .Mult ∧ Fun K "__mul__" "Ratio.__mul__" s_Ratio___mul__ f fd) ∧ (∃ (f : Addr) (fd : FuncData), Meth K C "over" f ∧ Fun K "over" "Ratio.over" s_Ratio_over f fd) ∧ (∃ (f : Addr) (fd : FuncData), PySem.W.findIn K (.ref C) "__eq__" = some (some (.ref f)) ∧ PySem.W.isFn K (.ref f) = true ∧ Fun K "__eq__" "Ratio.__eq__" s_Ratio___eq__ f fd) ∧ (∃ TP : Addr, mg "PRIME_POWERS" = some (.ref TP) ∧ ∀ H, SqT K H TP (VI [521, 1279, 2203, 4423, 9689, 19937, 44497]))
  b10 : Bnd K mg "is_integer" sInteger
  b11 : Bnd K mg "is_list" sList
  b14 : Bnd K mg "is_number" s_is_number
  b15 : Bnd K mg "as_ratio" s_as_ratio
  b16 : Bnd K mg "over_one_bottom" s_over_one_bottom
  b19 : Bnd K mg "primes" s_primes
  b20 : Bnd K mg "shrunk" s_shrunk
  b21 : Bnd K mg "primitive" s_primitive
  b22 : Bnd K mg "small_multiple" s_small_multiple
  b23 : Bnd K mg "inverse" s_inverse
  b24 : Bnd K mg "fraction_of" s_fraction_of
  b25 : Bnd K mg "fractions_of" s_fractions_of
  b26 : Bnd K mg "without_noughts" s_without_noughts
  b27 : Bnd K mg "whole_quotient" s_whole_quotient
  b28 : Bnd K mg "whole_common" s_whole_common
  b29 : Bnd K mg "tried_common" s_tried_common
  b30 : Bnd K mg "common_steps" s_common_steps
  b31 : Bnd K mg "taken_off" s_taken_off
  b34 : Bnd K mg "is_poly" s_is_poly
  b35 : Bnd K mg "told" s_told
  b36 : Bnd K mg "divided" s_divided
  b37 : Bnd K mg "trimmed" s_trimmed
  b38 : Bnd K mg "quotient_and_rest" s_quotient_and_rest
  b40 : Bnd K mg "common" s_common
  b41 : Bnd K mg "part_with" s_part_with
  b42 : Bnd K mg "whole_poly" s_whole_poly
  b43 : Bnd K mg "with_head_one" s_with_head_one
  b45 : Bnd K mg "_law_pot" sPot
  b46 : Bnd K mg "_law_draw" sDraw
  b47 : Bnd K mg "_law_pick" sPick
  b48 : Bnd K mg "_law_trim" s_law_trim
  b49 : Bnd K mg "_law_gcd" s_law_gcd
  b50 : Bnd K mg "_law_own" s_law_own
  b51 : Bnd K mg "_law_times" s_law_times
  b52 : Bnd K mg "_law_same" s_law_same
  b53 : Bnd K mg "_law_is" s_law_is
  b54 : Bnd K mg "_law_passed" s_law_passed
  b55 : Bnd K mg "_law_factors" s_law_factors
  b56 : Bnd K mg "_law_often" s_law_often
  b57 : Bnd K mg "_law_product" s_law_product
  b58 : Bnd K mg "_law_headed" s_law_headed
  b59 : Bnd K mg "_law_both_right" s_law_both_right
  b60 : Bnd K mg "_law_right" s_law_right
  b61 : Bnd K mg "law" sLaw
theorem all_law {P : Program} {w : World} {K : PySem.W.Frag} {mg : Str → Option Value} {base : Heap} (A : All K mg) : DefG P w K mg base 25 "law" sLaw ["_law_script"] (spLaw K) := by
  obtain ⟨C, fI, fR, fdI, fdR, R, FI, FR, J, ⟨pr0, gr0, fr0, Pr0, Fr0⟩, ⟨pr1, gr1, fr1, Pr1, Fr1⟩, ⟨pr2, gr2, fr2, Pr2, Fr2⟩, ⟨fo0, fdo0, BO0, FO0⟩, ⟨fo1, fdo1, BO1, FO1⟩, ⟨fm0, fdm0, MM0, FM0⟩, ⟨fe, fde, ae, ie, FE⟩, ⟨TP, PP, PQ⟩⟩ := A.R
  have bI := FI.binds1 (ps := ["self", "top", "bottom"]) 2 0 (List.cons_ne_nil _ _) rfl fun T kV doc pm an cdv ct us its hu hi => match us, its, hu, hi with | [_, _], [_], _, _ => ⟨_, rfl, rfl⟩
  have bI2 : Binds K fdI ["self", "top", "bottom"] [] := by
    obtain ⟨ds, hv, hb⟩ := FI.binds1 (ps := ["self", "top", "bottom"]) 3 1 (List.cons_ne_nil _ _) rfl fun T kV doc pm an cdv ct us its hu hi => match us, its, hu, hi with | [_, _, _], [_], _, _ => ⟨_, rfl, rfl⟩
    cases hv
    exact hb
  have bR := FR.binds (ps := ["self"]) fun _ _ _ _ _ _ us hl => match us, hl with | [_], _ => rfl
  have br0 := Fr0.binds (ps := ["self"]) fun _ _ _ _ _ _ us hl => match us, hl with | [_], _ => rfl
  have br1 := Fr1.binds (ps := ["self"]) fun _ _ _ _ _ _ us hl => match us, hl with | [_], _ => rfl
  have br2 := Fr2.binds (ps := ["self"]) fun _ _ _ _ _ _ us hl => match us, hl with | [_], _ => rfl
  have bo0 := FO0.binds (ps := ["self", "other"]) fun _ _ _ _ _ _ us hl => match us, hl with | [_, _], _ => rfl
  have bo1 := FO1.binds (ps := ["self", "other"]) fun _ _ _ _ _ _ us hl => match us, hl with | [_, _], _ => rfl
  have bm0 := FM0.binds (ps := ["self", "other"]) fun _ _ _ _ _ _ us hl => match us, hl with | [_, _], _ => rfl
  have be := FE.binds (ps := ["self", "other"]) fun _ _ _ _ _ _ us hl => match us, hl with | [_, _], _ => rfl
  have N_is_integer : Def P w K mg base 1 _ _ _ _ := d_integer (k := 0) A.b10 A.g.toMg
  have RD : RDef P w K mg base 2 C := ⟨fI, fR, fdI, fdR, R, d_rinit (k := 1) FI R A.g.toMg N_is_integer, bI, bI2, d_rrepr (k := 1) FR R, bR⟩
  have DQ : RDefQ P w K mg base 2 C := ⟨fI, fR, fdI, R, d_rinitQ (k := 1) FI R A.g.toMg N_is_integer, bI2⟩
  have PT : PropX P w K mg base 2 C "top" (spTopR C) := ⟨pr0, gr0, fr0, Pr0, d_rtop (k := 1) Fr0 R, br0⟩
  have PB : PropX P w K mg base 2 C "bottom" (spBotR C) := ⟨pr1, gr1, fr1, Pr1, d_rbot (k := 1) Fr1 R, br1⟩
  have PS : PropX P w K mg base 2 C "sign" (spSgnR C) := ⟨pr2, gr2, fr2, Pr2, d_rsgn (k := 1) Fr2 R, br2⟩
  have EX : EqX P w K mg base 2 C := ⟨fe, fde, ae, ie, d_req (k := 1) FE R J A.g.toMg, be⟩
  have X_as : Def P w K mg base 11 _ _ _ _ := d_as_ratio (k := 10) A.b15 A.g.toMg R J RD (by omega)
  have SU : BinX P w K mg base 12 C .Sub (spSubQ C) := ⟨fo0, fdo0, BO0, d_rsub (k := 11) FO0 R DQ PT PB (by omega) X_as, bo0⟩
  have MU : BinX P w K mg base 12 C .Mult (spMulQ C) := ⟨fo1, fdo1, BO1, d_rmul (k := 11) FO1 R DQ PT PB (by omega) X_as, bo1⟩
  have OV : C8.Met P w K mg base 12 C "over" (spOverQ C) [] := ⟨fm0, fdm0, _, [], R.cl, MM0, d_rover (k := 11) FM0 R DQ PT PB PS (by omega) X_as, bm0, .nil⟩
  have X_whole_quotient : Def P w K mg base 1 _ _ _ _ := d_whole_quotient (k := 0) A.b27 A.g
  have X_primes : Def P w K mg base 1 _ _ _ _ := d_primes (k := 0) A.b19 A.g PP PQ
  have X_primitive : Def P w K mg base 1 _ _ _ _ := d_primitive (k := 0) A.b21 A.g
  have X_small_multiple : Def P w K mg base 1 _ _ _ _ := d_small_multiple (k := 0) A.b22 A.g
  have X_inverse : Def P w K mg base 2 _ _ _ _ := d_inverse (k := 1) A.b23 A.g X_small_multiple
  have X_fraction_of : Def P w K mg base 2 _ _ _ _ := d_fraction_of (k := 1) A.b24 A.g X_small_multiple
  have X_fractions_of : Def P w K mg base 3 _ _ _ _ := d_fractions_of (k := 2) A.b25 A.g X_fraction_of
  have X_shrunk : Def P w K mg base 2 _ _ _ _ := d_shrunk (k := 1) A.b20 A.g X_primitive
  have X_without_noughts : Def P w K mg base 1 _ _ _ _ := d_without_noughts (k := 0) A.b26 A.g
  have X_taken_off : Def P w K mg base 1 _ _ _ _ := d_taken_off (k := 0) A.b31 A.g
  have X_common_steps : Def P w K mg base 3 _ _ _ _ := d_common_steps (k := 2) A.b30 A.g X_shrunk (X_without_noughts.mono (by omega)) (X_taken_off.mono (by omega))
  have X_tried_common : Def P w K mg base 4 _ _ _ _ := d_tried_common (k := 3) A.b29 A.g (X_primitive.mono (by omega)) (X_inverse.mono (by omega)) X_fractions_of (X_whole_quotient.mono (by omega)) X_common_steps
  have X_whole_common : Def P w K mg base 5 _ _ _ _ := d_whole_common (k := 4) A.b28 A.g (X_primes.mono (by omega)) X_tried_common (X_common_steps.mono (by omega))
  have X_as_ratio : Def P w K mg base 11 _ _ _ _ := d_as_ratio (k := 10) A.b15 A.g.toMg R J RD (by omega)
  have X_over_one_bottom : Def P w K mg base 12 _ _ _ _ := d_over_one_bottom (k := 11) A.b16 A.g R PT PB (by omega) X_as_ratio
  have X_is_list : Def P w K mg base 1 _ _ _ _ := d_is_list (k := 0) A.b11 A.g R
  have X_is_integer : Def P w K mg base 1 _ _ _ _ := d_is_integer (k := 0) A.b10 A.g R
  have X_is_number : Def P w K mg base 2 _ _ _ _ := d_is_number (k := 1) A.b14 A.g R J X_is_integer
  have X_is_poly : Def P w K mg base 3 _ _ _ _ := d_is_poly (k := 2) A.b34 A.g R (X_is_list.mono (by omega)) X_is_number
  have X_trimmed : Def P w K mg base 11 _ _ _ _ := d_trimmed (k := 10) A.b37 A.g R J PS (by omega)
  have X_told : Def P w K mg base 12 _ _ _ _ := d_told (k := 11) A.b35 A.g R X_as_ratio (X_is_poly.mono (by omega)) X_trimmed
  have X_whole_poly : Def P w K mg base 13 _ _ _ _ := d_whole_poly (k := 12) A.b42 A.g R X_over_one_bottom (X_primitive.mono (by omega)) X_told
  have X_with_head_one : Def P w K mg base 11 _ _ _ _ := d_with_head_one (k := 10) A.b43 A.g R DQ (by omega)
  have X_part_with : Def P w K mg base 14 _ _ _ _ := d_part_with (k := 13) A.b41 A.g R (X_whole_quotient.mono (by omega)) (X_whole_common.mono (by omega)) X_whole_poly (X_with_head_one.mono (by omega))
  have L_draw : Def P w K mg base 1 _ _ _ _ := d_draw (k := 0) A.b46 A.g.toMg
  have L_pick : Def P w K mg base 2 _ _ _ _ := d_pick (k := 1) A.b47 A.g.toMg L_draw
  have L_factors : Def P w K mg base 1 _ _ _ _ := d_law_factors (k := 0) A.b55 A.g
  have L_often : Def P w K mg base 2 _ _ _ _ := d_law_often (k := 1) A.b56 A.g L_draw L_factors
  have X_quotient_and_rest : Def P w K mg base 21 _ _ _ _ := d_quotient_and_rest (k := 20) A.b38 A.g R SU MU OV (by omega) (X_trimmed.mono (by omega))
  have X_divided : Def P w K mg base 22 _ _ _ _ := d_divided (k := 21) A.b36 A.g R (X_told.mono (by omega)) X_quotient_and_rest
  have X_common : Def P w K mg base 14 _ _ _ _ := d_common (k := 13) A.b40 A.g R (X_whole_common.mono (by omega)) X_whole_poly (X_with_head_one.mono (by omega))
  have L_gcd : Def P w K mg base 1 _ _ _ _ := d_law_gcd (k := 0) A.b49 A.g
  have L_own : Def P w K mg base 11 _ _ _ _ := d_law_own (k := 10) A.b50 A.g R PT PB (by omega) (L_gcd.mono (by omega))
  have L_same : Def P w K mg base 1 _ _ _ _ := d_law_same (k := 0) A.b52 A.g
  have L_is : Def P w K mg base 12 _ _ _ _ := d_law_is (k := 11) A.b53 A.g R J L_own (L_same.mono (by omega))
  have L_passed : Def P w K mg base 11 _ _ _ _ := d_law_passed (k := 10) A.b54 A.g R RD DQ (by omega) (L_draw.mono (by omega)) (L_pick.mono (by omega))
  have L_trim : Def P w K mg base 1 _ _ _ _ := d_law_trim (k := 0) A.b48 A.g
  have L_times : Def P w K mg base 2 _ _ _ _ := d_law_times (k := 1) A.b51 A.g L_trim
  have L_product : Def P w K mg base 3 _ _ _ _ := d_law_product (k := 2) A.b57 A.g L_times (L_factors.mono (by omega))
  have L_headed : Def P w K mg base 1 _ _ _ _ := d_law_headed (k := 0) A.b58 A.g
  have L_both_right : DefG P w K mg base 23 _ _ _ _ := d_law_both_right (k := 22) A.b59 A.g R RD EX (by omega) X_divided (X_common.mono (by omega)) (X_part_with.mono (by omega)) (L_pick.mono (by omega)) (L_is.mono (by omega)) (L_passed.mono (by omega)) (L_product.mono (by omega)) (L_headed.mono (by omega))
  have L_right : DefG P w K mg base 24 _ _ _ _ := d_law_right (k := 23) A.b60 A.g R RD DQ EX (by omega) (X_part_with.mono (by omega)) (L_pick.mono (by omega)) (L_often.mono (by omega)) L_both_right
  have L_pot : Def P w K mg base 1 _ _ _ _ := d_pot (k := 0) A.b45 A.g.toMg
  exact d_law (k := 24) A.b61 A.g (L_pot.mono (by omega)) L_right
theorem mg_int {K : PySem.W.Frag} {h : Heap} {mg : Str → Option Value} {x : Str} {z : Int} {t : Tok} (X : K.In h) (G : h.Ns mainGlobals mg) (a : PySem.W.nsIn K mainGlobals x = some (some (.int z t))) : ∃ t, mg x = some (.int z t) := ⟨t, PySem.W.mg_of X G a⟩
theorem fun_fd {K : PySem.W.Frag} {x : Str} {st : Stmt} {f : Addr} {fd fd' : FuncData} (a : Fun K x x st f fd) (b : Fun K x x st f fd') : fd = fd' := by
  obtain ⟨_, _, _, _, _, _, _, _, _, _, l1, _⟩ := a.ex
  obtain ⟨_, _, _, _, _, _, _, _, _, _, l2, _⟩ := b.ex
  rw [l1] at l2
  cases l2
  rfl
theorem fin {l : PySem.W.OpenLaw} {w : World} {K : PySem.W.Frag} {mg : Str → Option Value} {fa : Addr} (hfa : mg "law" = some (.ref fa)) (A : All K mg) :
    ∃ fd : FuncData, (∀ (s : Shared) (v : Value), BindsTo s fd ⟨[v], []⟩ [("_law_script", v)]) ∧ ∀ base : Heap, K.In base → base.Ns mainGlobals mg → FnG l.prog w K mg base CX0 25 fa fd ["_law_script"] (spLaw K) := by
  obtain ⟨f, fd, hm, F⟩ := A.b61.ex
  obtain rfl : f = fa := by
    rw [hfa] at hm
    cases hm
    rfl
  refine ⟨fd, fun s v => ?_, fun base _ _ => ?_⟩
  · obtain ⟨_, _, _, _, _, _, _, _, _, rfl, _⟩ := F.ex
    exact .of_eq rfl
  · obtain ⟨f', fd', hm', F', _, ok⟩ := (all_law (P := l.prog) (w := w) (base := base) A).ex
    obtain rfl : f = f' := by
      rw [hm] at hm'
      cases hm'
      rfl
    rw [fun_fd F F']
    exact ok
end K21
open PySem PySem.W PyProof.Rows
set_option maxRecDepth 100000 in
set_option maxHeartbeats 0 in
theorem PySem.Challenge.cw_fromplaces_k15_whole_parts_with_others_holds : PySem.Challenge.rw_fromplaces_k15_whole_parts_with_others.Holds := by
  w_on; o_law; k_head; (case hw => w_witness2)
  k_fill
  refine Fp.walk_ofG (l := PySem.Challenge.rw_fromplaces_k15_whole_parts_with_others) (n := 63) (k := 25) (x := "_law_script") (sp := K21.spLaw) rfl (by decide) rfl ⟨rfl, by decide, by decide⟩ (fun w h Y => PySem.W.kIn_of Y) ?F (fun K H a ns hl _ hS => ⟨a, ns, rfl, hS, hl, fun _ => rfl⟩)
  case F =>
    intro w mg fa h KX G hmg
    refine' K21.fin hmg ?_
    refine' ⟨⟨⟨?_, ?_, ?_, ?_, ?_, ?_, ?_, ?_, ?_, ?_, ?_, ?_, ?_, ?_, ?_, ?_, ?_, ?_, ?_, ?_, ?_, ?_⟩, ?_, ?_⟩, ?R, ?_, ?_, ?_, ?_, ?_, ?_, ?_, ?_, ?_, ?_, ?_, ?_, ?_, ?_, ?_, ?_, ?_, ?_, ?_, ?_, ?_, ?_, ?_, ?_, ?_, ?_, ?_, ?_, ?_, ?_, ?_, ?_, ?_, ?_, ?_, ?_, ?_, ?_, ?_, ?_, ?_, ?_, ?_, ?_⟩
    (case R => (refine' K21.cls_mk KX G ?aC ?pg ?hd ?po ?sa ?nT ?nB ?mk ?kc ?a1 ?i1 ?a2 ?i2 ?isA ?isN ?isT ?isM ?kI ?kB ?kL ?kT ?l1 ?c1 ?k1 ?lT ?l2 ?c2 ?k2 ?ji ?jb ?jn ?js ?jl ?jt ?jd ?jc ?q3 ?g3 ?t3 ?r3 ?l3 ?c3 ?k3 ?q4 ?g4 ?t4 ?r4 ?l4 ?c4 ?k4 ?q5 ?g5 ?t5 ?r5 ?l5 ?c5 ?k5 ?sf ?a6 ?i6 ?ra6 ?h16 ?h26 ?hs ?l6 ?c6 ?k6 ?a7 ?i7 ?ra7 ?h17 ?h27 ?l7 ?c7 ?k7 ?a8 ?i8 ?l8 ?c8 ?k8 ?a9 ?i9 ?l9 ?c9 ?k9 ?aTP ?lTP); (case aC => k_is); (case pg => k_is); (case hd => k_is); (case po => k_is); (case sa => k_is); (case nT => k_is); (case nB => k_is); (case mk => k_is); (case kc => k_is); (case a1 => k_is); (case i1 => k_is); (case a2 => k_is); (case i2 => k_is); (case isA => k_is); (case isN => k_is); (case isT => k_is); (case isM => k_is); (case kI => kit_is); (case kB => kit_is); (case kL => kit_is); (case kT => kit_is); (case l1 => k_is); (case c1 => k_is); (case k1 => k_is); (case lT => k_is); (case l2 => k_is); (case c2 => k_is); (case k2 => k_is); (case ji => kit_is); (case jb => kit_is); (case jn => kit_is); (case js => kit_is); (case jl => kit_is); (case jt => kit_is); (case jd => kit_is); (case jc => kit_is); (case q3 => k_is); (case g3 => k_is); (case t3 => k_is); (case r3 => k_is); (case l3 => k_is); (case c3 => k_is); (case k3 => k_is); (case q4 => k_is); (case g4 => k_is); (case t4 => k_is); (case r4 => k_is); (case l4 => k_is); (case c4 => k_is); (case k4 => k_is); (case q5 => k_is); (case g5 => k_is); (case t5 => k_is); (case r5 => k_is); (case l5 => k_is); (case c5 => k_is); (case k5 => k_is); (case sf => k_is); (case a6 => k_is); (case i6 => k_is); (case ra6 => k_is); (case h16 => k_is); (case h26 => k_is); (case hs => k_is); (case l6 => k_is); (case c6 => k_is); (case k6 => k_is); (case a7 => k_is); (case i7 => k_is); (case ra7 => k_is); (case h17 => k_is); (case h27 => k_is); (case l7 => k_is); (case c7 => k_is); (case k7 => k_is); (case a8 => k_is); (case i8 => k_is); (case l8 => k_is); (case c8 => k_is); (case k8 => k_is); (case a9 => k_is); (case i9 => k_is); (case l9 => k_is); (case c9 => k_is); (case k9 => k_is); (case aTP => k_is); (case lTP => k_is))
    (refine' PySem.W.mg_none_of KX G ?a; (case a => k_is))
    (refine' PySem.W.mg_none_of KX G ?a; (case a => k_is))
    (refine' PySem.W.mg_none_of KX G ?a; (case a => k_is))
    (refine' PySem.W.mg_none_of KX G ?a; (case a => k_is))
    (refine' PySem.W.mg_none_of KX G ?a; (case a => k_is))
    (refine' PySem.W.mg_none_of KX G ?a; (case a => k_is))
    (refine' PySem.W.mg_none_of KX G ?a; (case a => k_is))
    (refine' PySem.W.mg_none_of KX G ?a; (case a => k_is))
    (refine' PySem.W.mg_none_of KX G ?a; (case a => k_is))
    (refine' PySem.W.mg_none_of KX G ?a; (case a => k_is))
    (refine' PySem.W.mg_none_of KX G ?a; (case a => k_is))
    (refine' PySem.W.mg_none_of KX G ?a; (case a => k_is))
    (refine' PySem.W.mg_none_of KX G ?a; (case a => k_is))
    (refine' PySem.W.mg_none_of KX G ?a; (case a => k_is))
    (refine' PySem.W.mg_none_of KX G ?a; (case a => k_is))
    (refine' PySem.W.mg_none_of KX G ?a; (case a => k_is))
    (refine' PySem.W.mg_none_of KX G ?a; (case a => k_is))
    (refine' PySem.W.mg_none_of KX G ?a; (case a => k_is))
    (refine' PySem.W.mg_none_of KX G ?a; (case a => k_is))
    (refine' PySem.W.mg_none_of KX G ?a; (case a => k_is))
    (refine' PySem.W.mg_of KX G ?a; (case a => k_is))
    (refine' PySem.W.mg_of KX G ?a; (case a => k_is))
    (refine' K21.mg_int KX G ?a; (case a => k_is))
    (refine' PySem.W.mg_of KX G ?a; (case a => k_is))
    all_goals (refine' K21.bnd KX G ?a ?l ?c ?k; (case a => k_is); (case l => k_is); (case c => k_is); (case k => k_is))
