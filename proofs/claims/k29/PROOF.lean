import PyProof.Rows.All
import Wide.All
import OpenK.AllK
import Wide.FinOn
import HandS.ForMost
import HandS.IsInst
import HandS.Gcd
import HandS.Style
import HandS.SetFor
import HandS.Strs
import PyProof.ReprRoads
import KE.Datum
import KE.SortData
import KE.GoesMore
import KE.GoesZip
import HandS.Walk
import HandS.TupAny
import HandS.Star
import HandS.Deep
import PyProof.ReprBulk
import HandS.Codes
import PySem.Challenge.RW_fromplaces_k29_whole_gaps_by_rests
set_option Elab.async false
set_option linter.all false
set_option maxRecDepth 100000
set_option maxHeartbeats 8000000
namespace Fp
open PySem PySem.Spec PyProof.Rows L2

/-! ### heaps -/
theorem same_new {H : Hp} {p : Addr} {o : HO} (h : H p = none) : Same H (upd H p o) := fun b u q => by rw [upd_ne (ne_of_none q h)]; exact q
theorem same_sqT {K : PySem.W.Frag} {H H' : Hp} {a : Addr} {xs : List V} (e : Same H H') (h : SqT K H a xs) : SqT K H' a xs := by
  rcases h with (h | ⟨o, h⟩) | h
  · exact Or.inl (Or.inl (e _ _ h))
  · exact Or.inl (Or.inr ⟨o, e _ _ h⟩)
  · exact Or.inr h
/-- a list or a tuple that is read -/
def Sq (K : PySem.W.Frag) (H : Hp) (a : Addr) (xs : List V) : Prop := SqL K H a xs ∨ SqT K H a xs
theorem Sq.same {K : PySem.W.Frag} {H H' : Hp} {a : Addr} {xs : List V} (h : Sq K H a xs) (e : Same H H') : Sq K H' a xs := h.imp (fun q => e.seq q) (fun q => same_sqT e q)
theorem sq_lst {K : PySem.W.Frag} {H : Hp} {a : Addr} {xs : List V} (h : H a = some (.lst xs)) : Sq K H a xs := Or.inl (SqL.of h)
theorem sq_tup {K : PySem.W.Frag} {H : Hp} {a : Addr} {xs : List V} (h : H a = some (.tup xs)) : Sq K H a xs := Or.inr (SqT.of h)
/-- all but p as it was -/
def Keep (p : Addr) (H H' : Hp) : Prop := ∀ b o, b ≠ p → H b = some o → H' b = some o
theorem Keep.refl (p : Addr) (H : Hp) : Keep p H H := fun _ _ _ h => h
theorem Keep.trans {p : Addr} {H H1 H2 : Hp} (a : Keep p H H1) (b : Keep p H1 H2) : Keep p H H2 := fun c o n h => b c o n (a c o n h)
theorem Keep.of {p : Addr} {H H' : Hp} (a : Same H H') : Keep p H H' := fun c o _ h => a c o h
theorem keep_upd {p : Addr} {H : Hp} {o : HO} : Keep p H (upd H p o) := fun b u n q => by rw [upd_ne n]; exact q

/-! ### what is walked: a list or a tuple -/
section
variable {X : Cx} {tg : Expr}
theorem pi_or {l : Expr} {w1 w2 : TI} (h1 : PI X tg l w1) (h2 : PI X tg l w2) : PI X tg l (fun σ H R => w1 σ H R ∨ w2 σ H R) :=
  ⟨fun pins s σ H R I h => h.elim (fun q => h1.run pins s σ H R I q) (fun q => h2.run pins s σ H R I q)⟩
def iSq (K : PySem.W.Frag) (tl : TE) : TI := fun σ H R => iList K tl σ H R ∨ iTup K tl σ H R
theorem pi_sq {l : Expr} {tl : TE} (hl : PE X l tl) : PI X tg l (iSq X.K tl) := pi_or (pi_list hl) (pi_tup hl)
end
section
variable {K : PySem.W.Frag} {tl : TE} {a : Addr} {xs : List V} {g : TG} {tt : TT} {te : TE} {vs : List Nat} {σ : L2.St} {H : Hp} {Q : VK} {tb : TS} {D : Ends}
/-- for x in a list or a tuple that stood at H0 and stands still -/
theorem for_sq {H0 : Hp} (Pv : Nat → L2.St → Hp → Prop) (hv : ∀ R : V → Hp → Prop, R (.ref a) H → tl σ H R) (hS : Sq K H0 a xs) (e0 : Same H0 H) (h0 : Pv 0 σ H) (hl : ∀ i σ' H', Pv i σ' H' → Same H0 H')
    (hs : ∀ i x σ H, xs[i]? = some x → Pv i σ H → g x σ H fun σ2 H2 => tb { D with nx := Pv (i + 1), ct := Pv (i + 1), bk := D.nx } σ2 H2) (hd : ∀ σ H, Pv xs.length σ H → D.nx σ H) : tFor (iSq K tl) g tb D σ H := by
  rcases hS with hS | hS
  · exact Or.inl (hv _ ⟨a, rfl, ⟨xs, e0.seq hS⟩, for_list (xs := xs) Pv h0 (fun i σ' H' _ p => (hl i σ' H' p).seq hS) hs hd⟩)
  · exact Or.inr (hv _ ⟨a, rfl, ⟨xs, same_sqT e0 hS⟩, for_tup (xs := xs) Pv h0 (fun i σ' H' _ p => same_sqT (hl i σ' H' p) hS) hs hd⟩)

/-! ### comprehensions whose elements leave what is tracked as it was: index i yields f i (or is left out) -/
theorem fm_succ {α : Type} (f : Nat → Option α) (i : Nat) : (List.range (i + 1)).filterMap f = (List.range i).filterMap f ++ (match f i with | some y => [y] | none => []) := by
  rw [List.range_succ, List.filterMap_append]
  cases e : f i <;> simp [e]
theorem fm_len {α : Type} (f : Nat → Option α) (n : Nat) : ((List.range n).filterMap f).length ≤ n := by
  have q := List.length_filterMap_le f (List.range n)
  rw [List.length_range] at q
  exact q
/-- the part of a reading that a turn of such a comprehension is -/
def LcTurn (f : Nat → Option V) (g : TG) (tt : TT) (te : TE) (vs : List Nat) (σ : L2.St) (i : Nat) (x : V) (H0 H1 : Hp) : Prop :=
  ∀ (Y : V → Hp → Prop) (N : Hp → Prop), (∀ y H2, Same H0 H2 → f i = some y → Y y H2) → (∀ H2, Same H0 H2 → f i = none → N H2) →
    g x (wipe σ vs) H1 fun σ2 H2 => wipe σ2 vs = wipe σ vs ∧ tt σ2 H2 fun b H3 => if b = true then te σ2 H3 Y else N H3
/-- the invariant -/
def LcInv (f : Nat → Option V) (H : Hp) (Dd : Addr) (i : Nat) (H1 : Hp) : Prop := Same H H1 ∧ H1 Dd = some (.lst ((List.range i).filterMap f))
theorem LcInv.start {f : Nat → Option V} {Dd : Addr} (hD : H Dd = none) : LcInv f H Dd 0 (upd H Dd (.lst [])) := ⟨same_new hD, by rw [upd_same]; rfl⟩
theorem LcInv.turn {f : Nat → Option V} {Dd : Addr} (hD : H Dd = none) {i : Nat} (hz : i < sizeLine) {x : V} {H1 H0 : Hp} (h : LcInv f H Dd i H1) (h0 : Same H1 H0) (t : LcTurn f g tt te vs σ i x H1 H0) :
    g x (wipe σ vs) H0 fun σ2 H2 => wipe σ2 vs = wipe σ vs ∧ tt σ2 H2 fun b H3 =>
      if b = true then te σ2 H3 fun y H4 => ∃ acc, H4 Dd = some (.lst acc) ∧ acc.length < sizeLine ∧ LcInv f H Dd (i + 1) (upd H4 Dd (.lst (acc ++ [y]))) else LcInv f H Dd (i + 1) H3 := by
  refine t _ _ (fun y H2 sm e => ?_) fun H2 sm e => ?_
  · refine ⟨_, sm _ _ h.2, Nat.lt_of_le_of_lt (fm_len f i) hz, fun b o q => ?_, ?_⟩
    · rw [upd_ne (ne_of_none q hD)]
      exact sm _ _ (h.1 _ _ q)
    · rw [upd_same, fm_succ, e]
  · refine ⟨fun b o q => sm _ _ (h.1 _ _ q), ?_⟩
    rw [sm _ _ h.2, fm_succ, e, List.append_nil]
theorem lc_sq (f : Nat → Option V) (hv : ∀ R : V → Hp → Prop, R (.ref a) H → tl σ H R) (hS : Sq K H a xs) (hz : xs.length ≤ sizeLine)
    (hs : ∀ i x H1, xs[i]? = some x → Same H H1 → LcTurn f g tt te vs σ i x H1 H1)
    (hd : ∀ Dd H1, Same H H1 → H Dd = none → H1 Dd = some (.lst ((List.range xs.length).filterMap f)) → Q (.ref Dd) H1) : tLc (iSq K tl) g tt te vs σ H Q := by
  have hi : ∀ {i : Nat} {x : V}, xs[i]? = some x → i < sizeLine := fun {i x} e => Nat.lt_of_lt_of_le (List.getElem?_eq_some_iff.mp e).1 hz
  rcases hS with hS | hS
  · exact Or.inl (hv _ ⟨a, rfl, ⟨xs, hS⟩, fun Dd hD => lc_list (xs := xs) (LcInv f H Dd) (LcInv.start hD) (fun i H1 _ p => p.1.seq hS)
      (fun i x H1 hx p => p.turn hD (hi hx) (Same.refl _) (hs i x H1 hx p.1)) fun H1 p => hd Dd H1 p.1 hD p.2⟩)
  · exact Or.inr (hv _ ⟨a, rfl, ⟨xs, hS⟩, fun Dd hD => lc_tup (xs := xs) (LcInv f H Dd) (LcInv.start hD) (fun i H1 _ p => same_sqT p.1 hS)
      (fun i x H1 hx p => p.turn hD (hi hx) (Same.refl _) (hs i x H1 hx p.1)) fun H1 p => hd Dd H1 p.1 hD p.2⟩)
/-- over a range: ahead of it stand the range's own words -/
theorem lc_rg {lo : Int} {n : Nat} {Dd : Addr} {Qd : Hp → Prop} (f : Nat → Option V) (hD : H Dd = none) (hz : n ≤ sizeLine)
    (hs : ∀ i H1, i < n → Same H H1 → LcTurn f g tt te vs σ i (.int (lo + i)) H1 H1)
    (hd : ∀ H1, Same H H1 → H1 Dd = some (.lst ((List.range n).filterMap f)) → Qd H1) : ∃ W : Nat → Nat → Hp → Prop, (∃ m, W 0 m (upd H Dd (.lst []))) ∧ ∀ i m H, W i m H →
      ((Itr lo n).stop i H ∧ Qd H) ∨ ((Itr lo n).go i H ∧ ∃ Nx : Hp → Prop, (∀ H', Nx H' → ∃ m', m' < m ∧ W (i + 1) m' H') ∧ ∀ x H', (Itr lo n).yld i H x H' → g x (wipe σ vs) H' fun σ2 H2 => wipe σ2 vs = wipe σ vs ∧ tt σ2 H2 fun b H3 =>
        if b = true then te σ2 H3 fun y H4 => ∃ acc, H4 Dd = some (.lst acc) ∧ acc.length < sizeLine ∧ Nx (upd H4 Dd (.lst (acc ++ [y]))) else Nx H3) :=
  lc_range (lo := lo) (n := n) (LcInv f H Dd) (LcInv.start hD) (fun i H1 hi p => p.turn hD (Nat.lt_of_lt_of_le hi hz) (Same.refl _) (hs i H1 hi p.1)) fun H1 p => hd H1 p.1 p.2
/-- over enumerate of a list -/
theorem lc_en {Dd : Addr} {Qd : Hp → Prop} (f : Nat → Option V) (hS : SqL K H a xs) (hD : H Dd = none) (hz : xs.length ≤ sizeLine)
    (hs : ∀ i x H1 T, xs[i]? = some x → Same H H1 → H1 T = none → LcTurn f g tt te vs σ i (.ref T) H1 (upd H1 T (.tup [.int (i : Nat), x])))
    (hd : ∀ H1, Same H H1 → H1 Dd = some (.lst ((List.range xs.length).filterMap f)) → Qd H1) : ∃ W : Nat → Nat → Hp → Prop, (∃ m, W 0 m (upd H Dd (.lst []))) ∧ ∀ i m H, W i m H →
      ((Ite K a).stop i H ∧ Qd H) ∨ ((Ite K a).go i H ∧ ∃ Nx : Hp → Prop, (∀ H', Nx H' → ∃ m', m' < m ∧ W (i + 1) m' H') ∧ ∀ x H', (Ite K a).yld i H x H' → g x (wipe σ vs) H' fun σ2 H2 => wipe σ2 vs = wipe σ vs ∧ tt σ2 H2 fun b H3 =>
        if b = true then te σ2 H3 fun y H4 => ∃ acc, H4 Dd = some (.lst acc) ∧ acc.length < sizeLine ∧ Nx (upd H4 Dd (.lst (acc ++ [y]))) else Nx H3) := by
  refine ⟨fun i m H1 => m = xs.length - i ∧ i ≤ xs.length ∧ LcInv f H Dd i H1, ⟨xs.length, rfl, Nat.zero_le _, LcInv.start hD⟩, ?_⟩
  rintro i m H1 ⟨rfl, hi, p⟩
  have q : SqL K H1 a xs := p.1.seq hS
  by_cases hlt : i < xs.length
  · have hx : xs[i]? = some xs[i] := List.getElem?_eq_getElem hlt
    refine Or.inr ⟨⟨xs, xs[i], q, hx⟩, LcInv f H Dd (i + 1), fun H' p' => ⟨xs.length - (i + 1), by omega, rfl, hlt, p'⟩, ?_⟩
    rintro v H' ⟨T, x, rfl, hT, rfl, hy⟩
    have ex : x = xs[i] := Option.some.inj ((hy xs q).symm.trans hx)
    subst ex
    exact p.turn hD (Nat.lt_of_lt_of_le hlt hz) (same_new hT) (hs i _ H1 T hx p.1 hT)
  · have e : i = xs.length := by omega
    subst e
    exact Or.inl ⟨⟨xs, q, Nat.le_refl _⟩, hd H1 p.1 p.2⟩
end
/-- from an index to the items -/
theorem fm_take {α : Type} (xs : List α) (h : α → Option V) : ∀ n, (List.range n).filterMap (fun i => (xs[i]?).bind h) = (xs.take n).filterMap h
  | 0 => by rw [List.take_zero]; rfl
  | n + 1 => by
    rw [fm_succ, fm_take xs h n, List.take_add_one, List.filterMap_append]
    cases e : xs[n]? with
    | none => rfl
    | some x =>
      cases e2 : h x <;> simp [e2]
theorem fm_all {α : Type} (xs : List α) (h : α → Option V) : (List.range xs.length).filterMap (fun i => (xs[i]?).bind h) = xs.filterMap h := by
  rw [fm_take, List.take_length]
end Fp

namespace Fp
open PySem PySem.Spec PyProof.Rows L2

/-! ### isinstance(x, (list, tuple)) -/
theorem tyx_of {K : PySem.W.Frag} {H : Hp} {a : Addr} {xs : List V} (h : Sq K H a xs) : TyX K H (.ref a) (.type "list") ∨ TyX K H (.ref a) (.type "tuple") := by
  rcases h with ((h | ⟨o, h⟩) | ⟨o, its, n, hk, hc, _⟩) | ((h | ⟨o, h⟩) | ⟨o, its, n, hk, hc, _⟩)
  · exact Or.inl (.base (.lst h))
  · exact Or.inl (.base (.frz h))
  · exact Or.inl (.kList hk hc)
  · exact Or.inr (.base (.tup h))
  · exact Or.inr (.fTuple h)
  · exact Or.inr (.kTuple hk hc)
theorem kit_lt {K : PySem.W.Frag} : PySem.W.kitAny K (.type "list") [.type "list", .type "tuple"] = some true ∧ PySem.W.kitAny K (.type "tuple") [.type "list", .type "tuple"] = some true := by
  refine ⟨kitAny_cons (kit_ty (r := true) (by decide +kernel)) (fun z => nomatch z) (fun _ => rfl), ?_⟩
  exact kitAny_cons (kit_ty (r := false) (by decide +kernel)) (fun _ => kitAny_cons (kit_ty (r := true) (by decide +kernel)) (fun z => nomatch z) (fun _ => rfl)) (fun z => nomatch z)
theorem isi_lt {K : PySem.W.Frag} {H : Hp} {a tp : Addr} {xs : List V} {Q : VK} (h : Sq K H a xs) (ht : H tp = some (.tup [.ty "list", .ty "tuple"])) (q : Q (.bl true) H) : rIsiT K [.ref a, .ref tp] H Q := by
  rcases tyx_of h with t | t
  · exact ⟨_, tp, _, _, _, true, rfl, ht, .cons (.ty _) (.cons (.ty _) .nil), t, kit_lt.1, q⟩
  · exact ⟨_, tp, _, _, _, true, rfl, ht, .cons (.ty _) (.cons (.ty _) .nil), t, kit_lt.2, q⟩
theorem kit_int {K : PySem.W.Frag} : PySem.W.kitOne K (.type "int") (.type "int") = some true := kit_ty (by decide +kernel)
theorem kit_int_bool {K : PySem.W.Frag} : PySem.W.kitOne K (.type "int") (.type "bool") = some false := kit_ty (by decide +kernel)
theorem isi_int {K : PySem.W.Frag} {H : Hp} {i : Int} {Q : VK} (q : Q (.bl true) H) : rIsi K [.int i, .ty "int"] H Q := ⟨_, _, _, _, true, rfl, .ty _, .base (.int i), kit_int, q⟩
theorem isi_bool {K : PySem.W.Frag} {H : Hp} {i : Int} {Q : VK} (q : Q (.bl false) H) : rIsi K [.int i, .ty "bool"] H Q := ⟨_, _, _, _, false, rfl, .ty _, .base (.int i), kit_int_bool, q⟩

/-! ### len of a list or a tuple -/
theorem len_sq {K : PySem.W.Frag} {H : Hp} {a : Addr} {xs : List V} {Q : VK} (h : Sq K H a xs) (q : Q (.int xs.length) H) : ∃ p ys, [V.ref a] = [.ref p] ∧ (SqL K H p ys ∨ SqT K H p ys) ∧ Q (.int ys.length) H := ⟨a, xs, rfl, h, q⟩

/-! ### set(..) of a list or a tuple of ints -/
abbrev eset (w : World) : Obj := { cls := .type "set", dict := none, data := .set #[] 0 (.fresh 0 0 (!w.params.followText "set-order")) }
section
variable {P : Program} {w : World} {A : Around} {E : Value → Shared → Prop} {s : Shared}
theorem call_set_lstI {l : Addr} {xs : Array Value} (ns : List Int) {Q : Value → Shared → Prop} (hh : A.handled = none) (hl : s.heap.IsList l xs) (hi : IntsAre xs.toList ns) (hb : ns.length + 1 < scanBound)
    (q : ∀ (h' : Heap) (tk c : Nat), SetR w h' s.heap.objs.size (fun j => decide (j ∈ ns)) c → c ≤ ns.length → (∀ b o, s.heap.get? b = some o → h'.get? b = some o) → Q (.ref s.heap.objs.size) { s with heap := h', toks := tk }) :
    wpAny (model P w) A (call (.type "set") [.ref l]) Q E s := by
  have sz : xs.size = ns.length := by have z := IntsAre.length hi; rw [Array.length_toList] at z; exact z
  obtain ⟨c0, tl0, mro0⟩ := F.called_set.mro
  have f1 := F.called_set.made
  have f2 := F.called_set.sub
  have f3 := F.called_set.notType
  have f4 := F.called_set.canCreate
  have f5 := F.typeCall_set_1 (.ref l)
  refine wpAny_call (codeAny_of_tree (wpAny_pure ⟨Code.quiet_builtin _ (by decide +kernel), codeAny_builtin F.entry_type_call ?_⟩))
  rw [Around.under_plain (weight_type_call_type "set" [.ref l] []) rfl]
  repeat (any_goals (first | assumption | wp_step))
  refine codeAny_mono (code_set_led1 (.ref l) (E := E) (Q₁ := fun ob sb => ob = .ref s.heap.objs.size ∧ sb = { s with heap := s.heap.push (eset w) }) ⟨rfl, rfl⟩) ?_
  rintro (e | fl) s1 hr
  · exact hr
  cases fl with
  | next => exact hr.elim
  | brk => exact hr.elim
  | cont => exact hr.elim
  | ret ob =>
    obtain ⟨rfl, rfl⟩ := hr
    have g0 : (s.heap.push (eset w)).get? s.heap.objs.size = some (eset w) := Heap.get?_push_size _ rfl
    have gT : Shared.TypeIs { s with heap := s.heap.push (eset w) } (.ref s.heap.objs.size) "set" := ⟨_, g0, rfl⟩
    have i1 := F.called_set.init.lookup
    have i2 := F.called_set.init.bind (.ref s.heap.objs.size)
    repeat (any_goals (first | assumption | wp_step))
    refine codeAny_mono (codeAny_call_builtin (R := wants (fun r sb => r = .none ∧ ∃ h' tk c, sb = { s with heap := h', toks := tk } ∧ SetR w h' s.heap.objs.size (fun j => decide (j ∈ ns)) c ∧ c ≤ ns.length ∧
        (∀ b o, s.heap.get? b = some o → h'.get? b = some o)) E) F.called_set.init.plain F.entry_set_init (check_set_init_1 gT ?_)) ?_
    · obtain ⟨⟨ocls, odict, odata, oslots⟩, hol, hcl, nl, hdl⟩ := hl
      simp only at hcl hdl
      subst hcl; subst hdl
      have hl0 : l < s.heap.objs.size := Heap.lt_size hol
      have hol1 : (s.heap.push (eset w)).get? l = some { cls := .type "list", dict := odict, data := .seq xs nl, slots := oslots } := Heap.get?_push_of_some _ hol
      have hl1 : (s.heap.push (eset w)).IsList l xs := ⟨_, hol1, rfl, nl, rfl⟩
      have u1 := F.sub_list_set
      have u2 := F.sub_list_frozenset
      have u3 : (Value.type "list" == Value.type "dict") = false := by decide
      unfold Builtin.«set.__init__» noKeywords Builtin.Frozenset.updateFrom
      generalize hPI : pyIter = PI
      wp_walk
      subst hPI
      refine wpAny_pyIter_list hl1 ?_
      refine wpAny_bind (wpAny_runValue ?_)
      have z1 : (s.heap.push (eset w)).objs.size = s.heap.objs.size + 1 := Heap.size_push ..
      have n1 : l ≠ (s.heap.push (eset w)).objs.size := Nat.ne_of_lt (by rw [z1]; exact Nat.lt_succ_of_lt hl0)
      have n2 : s.heap.objs.size ∉ [(s.heap.push (eset w)).objs.size, l] := by
        simp only [List.mem_cons, List.not_mem_nil, or_false, not_or]
        exact ⟨Nat.ne_of_lt (by rw [z1]; exact Nat.lt_succ_self _), Nat.ne_of_gt hl0⟩
      have it : ∀ (i : Nat) (v : Value), xs[i]? = some v → ∃ k t, ns[i]? = some k ∧ v = .int k t := fun i v hv => by
        have hlt : i < ns.length := by rw [← sz]; exact (Array.getElem?_eq_some_iff.mp hv).1
        obtain ⟨t, e⟩ := PyProof.Rows.IntsAre.int_at hi i v (by rw [Array.getElem?_toList]; exact hv)
        refine ⟨ns[i], t, List.getElem?_eq_getElem hlt, e.trans ?_⟩
        rw [List.getD_eq_getElem?_getD, List.getElem?_eq_getElem hlt]; rfl
      have hA3 : A.in1.in1.in1.handled = none := by simp [hh]
      refine set_update_ints ((Walks.list hA3 _ l n1 xs).toS) s.heap.objs.size n2 ns sz hb it (xs.size - 0) 0 _ (by omega) (Nat.zero_le _) ⟨⟨_, Heap.get?_push_size _ rfl, rfl, rfl⟩, (hl1.push _)⟩ ?_ ?_
      · exact ⟨0, Nat.le_refl 0, setR_new_at (Heap.get?_push_of_some _ g0)⟩
      · rintro ⟨h', g2, d', tk', os'⟩ c' hm hc' hS'
        obtain rfl : g2 = s.gens := hm.gens
        obtain rfl : d' = s.drawn := hm.drawn
        obtain rfl : os' = s.os := hm.os
        rw [sz] at hc'
        refine wpAny_pure (wpAny_pure ⟨rfl, h', tk', c', rfl, hS', hc', fun b o e => ?_⟩)
        have hb0 : b < s.heap.objs.size := Heap.lt_size e
        refine hm.heap b o ?_ (Heap.get?_push_of_some _ (Heap.get?_push_of_some _ e))
        simp only [List.mem_cons, List.not_mem_nil, or_false, not_or]
        exact ⟨Nat.ne_of_lt hb0, Nat.ne_of_lt (by rw [z1]; exact Nat.lt_succ_of_lt hb0)⟩
    · rintro (e | f2) s2 hr2
      · exact hr2
      cases f2 with
      | next => exact hr2.elim
      | brk => exact hr2.elim
      | cont => exact hr2.elim
      | ret r =>
        obtain ⟨rfl, h', tk, c', rfl, hS', hc', hk'⟩ := hr2
        repeat (any_goals (first | assumption | wp_step))
        exact q _ _ _ hS' hc' hk'
end
end Fp

namespace Fp
open PySem PySem.Spec PyProof.Rows L2

/-! ### repr(..) of data, where nothing is being shown -/
def rRepr (K : PySem.W.Frag) : List V → Hp → VK → Prop := fun vs H Q => ∃ (a : Addr) (d : PyData), vs = [.ref a] ∧ Dp K H (.ref a) d ∧ d.showable = true ∧ d.hasDict = false ∧ d.depth ≤ 8 ∧ d.shown.length ≤ sizeLine ∧ Q (.str d.shown) H
theorem cr_repr {X : Cx} (hu : X.A.units + 64 < cLine) (hg : X.A.guards = some []) : CallR X (.builtin "repr") (rRepr X.K) := by
  intro pins s σ H xs us Q I r h
  obtain ⟨a, d, rfl, hd, h1, h2, h3, h4, q⟩ := h
  rw [Vals.ref1 r]
  obtain ⟨as, hr⟩ := Dp.reads I d _ (.ref a) hd rfl
  refine repr_of_reads' hr h1 (fun z => by rw [h2] at z; cases z) hg (by omega) (fun _ _ e => e) (fun h' u tk k => ?_) h4
  exact ⟨.str d.shown, H, I.kept (t' := tk) k, ⟨u, rfl⟩, q⟩

/-! ### defs that are called where nothing is being shown -/
structure FnG (P : Program) (w : World) (K : PySem.W.Frag) (mg : Str → Option Value) (base : Heap) (CX : CXT) (k : Nat) (f : Addr) (fd : FuncData) (ps : List Str) (sp : Sp) : Prop where
  len : ∀ vs H Q E, sp vs H Q E → vs.length = ps.length
  go : ∀ (A : Around) (outer : List Env) (s : Shared) (H : Hp) (args : Args) (us : List Value) (vs : List V) (Q : VK) (E : XK), A.guards = some [] → Room k A → Env0 P w K mg base A outer s H → BindsTo s fd args (ps.zip us) → Vals vs us → sp vs H Q E →
    codeAny (model P w) A (.call (.ref f) args) (CR CX outer P w H s Q E) s
section
variable {P : Program} {w : World} {K : PySem.W.Frag} {mg : Str → Option Value} {base : Heap} {CX : CXT} {k : Nat} {f : Addr}
theorem fnG_of {name qual : Str} {params : Arguments} {body : List Stmt} {scope : Scope} {dV kV doc pm cdv ct oc : Value} {an od : Option Addr} {osl : Array (Option Value)} {N ps : List Str} {sp : Sp}
    (lk : K.lookup f = some ⟨oc, od, .func (PySem.W.fnOf name qual params body scope dV kV doc pm an cdv ct), osl⟩) (hcd : PySem.W.codeIn K cdv qual = true) (S : FnScope N ps scope) (len : ∀ vs H Q E, sp vs H Q E → vs.length = ps.length)
    (hb : ∀ (A : Around) (outer : List Env) (s : Shared) (H : Hp) (vs : List V) (Q : VK) (E : XK), A.guards = some [] → Room k (A.deeper (envOfC qual scope s.heap.objs.size f cdv)) → sp vs H Q E →
      ∃ t, PSs (cxOf CX P w K mg base N qual scope f cdv A outer s H E) body t ∧ t { nx := fun _ H1 => Q .non H1, rt := Q } (start N vs) H) :
    FnG P w K mg base CX (k + 1) f (PySem.W.fnOf name qual params body scope dV kV doc pm an cdv ct) ps sp := by
  constructor
  · exact len
  intro A outer s H args us vs Q E hgd hr e0 hbd rv hsp
  have z := len _ _ _ _ hsp
  have KX : K.In s.heap := e0.mod.kin.keeps (fun b o e => (e0.bs b o e).1)
  have nl : s.heap.NoLimit := e0.mod.nolimit.keeps (fun b o e => (e0.bs b o e).1)
  have par : ∀ y ∈ ps.zip us, scope.names.lookup y.1 = some .local ∨ (scope.names.lookup y.1 = some .cell ∧ ((cellsFrom (s.heap.objs.size + 1) scope.names []).lookup y.1).isSome = true) := by
    rintro ⟨n, v⟩ hy
    exact (S.par n (List.of_mem_zip hy).1).imp id fun q => ⟨q, PySem.W.cellsFrom_some _ _ _ (.inl q)⟩
  refine codeAny_call_function hr.depth (KX _ _ lk) rfl S.co S.gen rfl (PySem.W.codeRec_of KX hcd) (hbd _ _ _ _ (wpAny_newFunctionEnv_cells S.kind par ?_))
  rintro env rfl s1 x
  refine ⟨nl.keeps x.toInCall.keep, codeAny_func ?_⟩
  obtain ⟨t, ht, hq⟩ := hb A outer s H vs Q E hgd (hr.deeper _) hsp
  have I := inv_start (CX := CX) (cd := cdv) (f := f) (E := E) S hr.hd e0 z rv x
  refine wpAny_mono (ht.run [] s1 (start N vs) H _ I hq) ?_ (fun e s' h => h)
  rintro (_ | _ | _ | u) s' h
  · obtain ⟨σ', H', J, q⟩ := h
    exact ⟨.non, H', J.os, J.bare, J.base, J.hok, rfl, q⟩
  · obtain ⟨_, _, _, q⟩ := h
    exact q.elim
  · obtain ⟨_, _, _, q⟩ := h
    exact q.elim
  · obtain ⟨v, σ', H', J, r, q⟩ := h
    exact ⟨v, H', J.os, J.bare, J.base, J.hok, r, q⟩
/-- the rule for such a def -/
theorem fun_okG {x qual : Str} {st : Stmt} {fd : FuncData} {N ps : List Str} {sp : Sp} (F : Fun K x qual st f fd) (S : FnScope N ps (defScope st)) (len : ∀ vs H Q E, sp vs H Q E → vs.length = ps.length)
    (hb : ∀ (cdv : Value) (A : Around) (outer : List Env) (s : Shared) (H : Hp) (vs : List V) (Q : VK) (E : XK), A.guards = some [] → Room k (A.deeper (envOfC qual (defScope st) s.heap.objs.size f cdv)) → sp vs H Q E →
      ∃ t, PSs (cxOf CX0 P w K mg base N qual (defScope st) f cdv A outer s H E).nox (defBody st) t ∧ t { nx := fun _ H' => Q .non H', rt := Q } (start N vs) H) : FnG P w K mg base CX0 (k + 1) f fd ps sp := by
  obtain ⟨oc, od, kV, doc, pm, an, cdv, ct, osl, rfl, lk, hcd⟩ := F.ex
  refine fnG_of lk hcd S len fun A outer s H vs Q E hg hr hsp => ?_
  obtain ⟨t, h, q⟩ := hb cdv A outer s H vs Q E hg hr hsp
  exact ⟨t, h.nox, q⟩
end
section
variable {X : Cx} {CX : CXT} {k : Nat} {f : Addr} {fd : FuncData} {ps : List Str} {sp : Sp} {E : XK} {x : Str} {p pos : Pos} {e : Expr} {es : List Expr} {t : TA}
theorem pe_callG (F : FnG X.prog X.w X.K X.mg X.base CX k f fd ps sp) (hgd : X.A.guards = some []) (hr : Room k X.A) (hg : Gl X x) (hm : X.mg x = some (.ref f)) (hk : PySem.W.keepIn X.K (.ref f) = true) (hb : Binds X.K fd ps []) (hx : Passes CX X E)
    (ha : PA X (e :: es) t) (hdb : (x == ("__debug__" : Str)) = false := by decide) (he : starEach (e :: es) X.env = (false, eval e X.env) :: starEach es X.env := by rfl) (hpl : (backTo pos (starEach es X.env)).any (·.1) = false := by rfl) :
    PE X (.Call (.Name x p) (e :: es) [] pos) (fun σ H Q => t σ H fun vs H1 => sp vs H1 Q E) := by
  constructor
  intro pins s σ H Q I h
  refine wpAny_Call_Name_kw (ld_glob I hg hm (PySem.W.callWith_K (h₀ := X.base) I.ok.mod.kin hk (thn (ha.run pos pins s σ H _ I h) ?_) he hpl) hdb)
  rintro us s1 ⟨vs, H1, I1, r, q⟩
  refine ⟨I1.kIn, ?_⟩
  have hl : us.length = ps.length := by rw [← r.length]; exact F.len _ _ _ _ q
  have hb' : BindsTo s1 fd ⟨us, []⟩ (ps.zip us) := by
    have z := hb s1 us I1.kIn (by rw [List.append_nil]; exact hl)
    rw [List.append_nil] at z
    exact z
  refine wpAny_call (codeAny_mono (F.go X.A X.stack s1 H1 ⟨us, []⟩ us vs Q E hgd hr I1.env0 hb' r q) ?_)
  rintro (e | fl) s' hq
  · exact hx pins σ H1 s1 e s' I1 hq
  · cases fl with
    | ret u => exact I1.after hq
    | next => exact hq.elim
    | brk => exact hq.elim
    | cont => exact hq.elim
end
end Fp

namespace Fp
open PySem PySem.Spec PyProof.Rows L2

/-! ### the law's own call, by FnG -/
theorem only_base {P : Program} {w : World} {K : PySem.W.Frag} {mg mb : Str → Option Value} {a : Addr} {s : Shared} {vs : List Value} {H : Hp} (KX : K.In s.heap) (hns : s.heap.Ns mainGlobals mg) (hb : s.heap.Ns builtinsNs mb)
    (hbb : ∀ x : Str, x ≠ "__name__" → mb x = bootBuiltins x) (hlim : s.heap.NoLimit) (hgen : s.gens = #[]) (ha : s.heap.get? a = some { cls := .type "list", data := .seq vs.toArray }) (hok : HOk P w H s.heap)
    (hA : ∀ b, H b ≠ none → b = a) (hK : H a ≠ none → K.lookup a = none) : K.In (hidT s.heap H) ∧ (hidT s.heap H).Ns mainGlobals mg ∧ Env0 P w K mg (hidT s.heap H) callerA [] s H := by
  have fr : ∀ {b : Addr}, b ≠ a → H b = none := fun {b} n => by
    cases q : H b with
    | none => rfl
    | some u => exact absurd (hA b fun z => by rw [q] at z; cases z) n
  have dn : ∀ {b : Addr} {m : Str → Option Value}, s.heap.Ns b m → (hidT s.heap H).Ns b m := fun {b m} ⟨o, es, ep, e, d, r⟩ => by
    refine ⟨o, es, ep, hidT_get e (fr fun z => ?_), d, r⟩
    subst z
    obtain rfl := Option.some.inj (e.symm.trans ha)
    cases (show Data.seq vs.toArray _ = Data.dict es ep from d)
  have k0 : K.In (hidT s.heap H) := fun b o e => by
    by_cases z : H b = none
    · exact hidT_get (KX b o e) z
    · have eb := hA b z
      subst eb
      rw [hK z] at e
      cases e
  obtain ⟨mc, l1, l2⟩ := hlim
  exact ⟨k0, dn hns, ⟨rfl, ⟨k0, dn hns, ⟨mb, dn hb, hbb⟩, ⟨mc, dn l1, l2⟩⟩, fun b o e => of_hidT e, Nat.le_of_eq (hidT_size _ _), trivial, fun b z => absurd (show b ∈ ([] : List Addr) from z) (by simp), hok, .of_eq hgen⟩⟩
theorem law_callG {P : Program} {w : World} {K : PySem.W.Frag} {mg mb : Str → Option Value} {CX : CXT} {k : Nat} {fa a : Addr} {fd : FuncData} {x : Str} {sp : Sp} {s : Shared} {vs : List Value} {ns : List Int}
    (KX : K.In s.heap) (hns : s.heap.Ns mainGlobals mg) (hb : s.heap.Ns builtinsNs mb) (hbb : ∀ x : Str, x ≠ "__name__" → mb x = bootBuiltins x) (hlim : s.heap.NoLimit) (hgen : s.gens = #[])
    (ha : s.heap.get? a = some { cls := .type "list", data := .seq vs.toArray }) (hi : IntsAre vs ns) (hl : ns.length ≤ sizeLine) (hr : Room k callerA)
    (F : ∀ base : Heap, K.In base → base.Ns mainGlobals mg → FnG P w K mg base CX k fa fd [x] sp) (hbind : ∀ (s : Shared) (u : Value), BindsTo s fd ⟨[u], []⟩ [(x, u)])
    (hsp : ∀ H : Hp, Only H → SqL K H a (ns.map V.int) → sp [.ref a] H (fun v _ => v = .bl true) fun _ _ _ => False) (hCX : ∀ H e s', CX [] H s (fun _ _ _ => False) e s' → False) :
    codeAny (model P w) callerA (.call (.ref fa) ⟨[.ref a], []⟩) (fun r s' => r = .ok (.ret (.bool true)) ∧ OldK s.heap s'.heap ∧ s'.os = s.os ∧ AllBare s'.gens) s := by
  have rv := vals_ints hi
  have core : ∀ H : Hp, Only H → SqL K H a (ns.map V.int) → HOk P w H s.heap → (∀ b, H b ≠ none → b = a) → (H a ≠ none → K.lookup a = none) →
      codeAny (model P w) callerA (.call (.ref fa) ⟨[.ref a], []⟩) (fun r s' => r = .ok (.ret (.bool true)) ∧ OldK s.heap s'.heap ∧ s'.os = s.os ∧ AllBare s'.gens) s := by
    intro H hO hS hok hA hK
    obtain ⟨k0, n0, e0⟩ := only_base (P := P) (w := w) KX hns hb hbb hlim hgen ha hok hA hK
    refine codeAny_mono ((F _ k0 n0).go callerA [] s H ⟨[.ref a], []⟩ [.ref a] [.ref a] _ _ rfl hr e0 (hbind s (.ref a)) (.cons rfl .nil) (hsp H hO hS)) ?_
    rintro (e | fl) s' h
    · exact (hCX H e s' h).elim
    cases fl with
    | next => exact h.elim
    | brk => exact h.elim
    | cont => exact h.elim
    | ret u =>
      obtain ⟨v, H', os, bare, un, hok', r, q⟩ := h
      obtain rfl : v = .bl true := q
      obtain rfl : u = Value.bool true := r
      refine ⟨rfl, OldK.of_keep fun b o e => ?_, os, bare⟩
      rcases hO b with z | ⟨ob, xs, z⟩
      · exact un.keep b o e z (fun z => absurd (show b ∈ ([] : List Addr) from z) (by simp)) (by simp)
      · obtain ⟨e1, _⟩ := hok b _ z
        obtain ⟨e2, _⟩ := hok' b _ (un.frzs b ob _ z)
        exact e2.trans (e1.symm.trans e)
  cases hk : K.lookup a with
  | some o =>
    obtain rfl := Option.some.inj ((KX a o hk).symm.trans ha)
    exact core (fun _ => none) (fun _ => .inl rfl) (.inr ⟨_, vs.toArray, _, hk, rfl, rfl, rfl, by rw [List.size_toArray, hi.length]; exact hl, by simpa using rv⟩) (fun b u z => by cases (show (none : Option HO) = some u from z)) (fun b z => absurd rfl z) (fun z => absurd rfl z)
  | none =>
    have up : ∀ {b : Addr} {u : HO}, (fun c => if c = a then some (HO.frz { cls := .type "list", data := .seq vs.toArray } (.lst (ns.map V.int))) else none) b = some u → b = a ∧ u = HO.frz { cls := .type "list", data := .seq vs.toArray } (.lst (ns.map V.int)) := fun {b u} z => by
      by_cases hb : b = a
      · exact ⟨hb, (Option.some.inj ((if_pos hb).symm.trans z)).symm⟩
      · cases (if_neg hb).symm.trans z
    refine core (fun c => if c = a then some (HO.frz { cls := .type "list", data := .seq vs.toArray } (.lst (ns.map V.int))) else none) (fun b => ?_) (.inl (.inr ⟨_, if_pos rfl⟩)) (fun b u z => ?_) (fun b z => ?_) (fun _ => hk)
    · by_cases hb : b = a
      · exact .inr ⟨_, _, if_pos hb⟩
      · exact .inl (if_neg hb)
    · obtain ⟨rfl, rfl⟩ := up z
      exact ⟨ha, by rw [List.length_map]; exact hl, vs, _, rv, ha⟩
    · by_cases hb : b = a
      · exact hb
      · exact absurd (if_neg hb) z
theorem walk_ofG {l : PySem.W.OpenLaw} {n k : Nat} {q : Program} {loose : List Str} {XP : (Str → Option Value) → Heap → Prop} {YP : World → Heap → Prop} {d : DefRec} {K : Params → PySem.W.Frag} {sp : PySem.W.Frag → Sp} {x : Str}
    (hn : l.most = some n) (hn2 : n ≤ sizeLine) (hdf : d.params.defaults = []) (hr : Room k callerA) (hY : ∀ (w : World) (h : Heap), YP w h → (K w.params).In h)
    (F : ∀ (w : World) (mg : Str → Option Value) (fa : Addr) (h : Heap), (K w.params).In h → h.Ns mainGlobals mg → mg d.name = some (.ref fa) →
      ∃ fd : FuncData, (∀ (s : Shared) (u : Value), BindsTo s fd ⟨[u], []⟩ [(x, u)]) ∧ ∀ base : Heap, (K w.params).In base → base.Ns mainGlobals mg → FnG l.prog w (K w.params) mg base CX0 k fa fd [x] (sp (K w.params)))
    (hsp : ∀ (K : PySem.W.Frag) (H : Hp) (a : Addr) (ns : List Int), ns.length ≤ n → Only H → SqL K H a (ns.map V.int) → sp K [.ref a] H (fun v _ => v = .bl true) fun _ _ _ => False) :
    PySem.W.WalkO q loose XP YP l.row.toRowW d [] (fun f vs => PySem.call f vs) := by
  refine Att.attach_call hn hdf ?_
  intro w s₀ s₁ mg mb fa o pm cd doc a vs ns G Y ho hd hcd hmg hobj hints hlen hg
  have KX := hY w _ Y
  obtain ⟨fd, hb, hF⟩ := F w mg fa _ KX G.T.g hmg
  exact law_callG KX G.T.g G.T.b G.T.builtins G.T.nolimit hg hobj hints (Nat.le_trans hlen hn2) hr hF hb (fun H hO hS => hsp (K w.params) H a ns hlen hO hS) (fun H e s' h => h.elim)
end Fp

namespace Fp
open PySem PySem.Spec PyProof.Rows L2

/-- the def that stands at the module's name x -/
structure Bnd (K : PySem.W.Frag) (mg : Str → Option Value) (x : Str) (st : Stmt) : Prop where
  ex : ∃ (f : Addr) (fd : FuncData), mg x = some (.ref f) ∧ Fun K x x st f fd
/-- the def at the module's name x keeps its promise -/
structure Def (P : Program) (w : World) (K : PySem.W.Frag) (mg : Str → Option Value) (base : Heap) (k : Nat) (x : Str) (st : Stmt) (ps : List Str) (sp : Sp) : Prop where
  ex : ∃ (f : Addr) (fd : FuncData), mg x = some (.ref f) ∧ Fun K x x st f fd ∧ Binds K fd ps [] ∧ FnOk P w K mg base CX0 k f fd ps sp
structure DefG (P : Program) (w : World) (K : PySem.W.Frag) (mg : Str → Option Value) (base : Heap) (k : Nat) (x : Str) (st : Stmt) (ps : List Str) (sp : Sp) : Prop where
  ex : ∃ (f : Addr) (fd : FuncData), mg x = some (.ref f) ∧ Fun K x x st f fd ∧ Binds K fd ps [] ∧ FnG P w K mg base CX0 k f fd ps sp
/-- how a def without defaults binds -/
abbrev Bind (x : Str) (st : Stmt) (ps : List Str) : Prop := ∀ (kV doc pm : Value) (an : Option Addr) (cdv ct : Value) (us : List Value), us.length = ps.length → bindArgs (PySem.W.fnOf x x (defArgs st) (defBody st) (defScope st) .none kV doc pm an cdv ct) ⟨us, []⟩ = pure (ps.zip us)
section
variable {P : Program} {w : World} {K : PySem.W.Frag} {mg : Str → Option Value} {base : Heap} {k : Nat} {x : Str} {st : Stmt} {N ps : List Str} {sp : Sp}
theorem Def.mono {j : Nat} (D : Def P w K mg base k x st ps sp) (h : k ≤ j) : Def P w K mg base j x st ps sp := by
  obtain ⟨f, fd, a, b, c, d⟩ := D.ex
  exact ⟨f, fd, a, b, c, d.mono h⟩
theorem def_of (B : Bnd K mg x st) (S : FnScope N ps (defScope st)) (len : ∀ vs H Q E, sp vs H Q E → vs.length = ps.length) (hbi : Bind x st ps)
    (hb : ∀ (f : Addr) (cdv : Value) (A : Around) (outer : List Env) (s : Shared) (H : Hp) (vs : List V) (Q : VK) (E : XK), Room k (A.deeper (envOfC x (defScope st) s.heap.objs.size f cdv)) → sp vs H Q E →
      ∃ t, PSs (cxOf CX0 P w K mg base N x (defScope st) f cdv A outer s H E).nox (defBody st) t ∧ t { nx := fun _ H' => Q .non H', rt := Q } (start N vs) H) : Def P w K mg base (k + 1) x st ps sp := by
  obtain ⟨f, fd, hm, F⟩ := B.ex
  exact ⟨f, fd, hm, F, F.binds hbi, F.ok S len (hb f)⟩
theorem defG_of (B : Bnd K mg x st) (S : FnScope N ps (defScope st)) (len : ∀ vs H Q E, sp vs H Q E → vs.length = ps.length) (hbi : Bind x st ps)
    (hb : ∀ (f : Addr) (cdv : Value) (A : Around) (outer : List Env) (s : Shared) (H : Hp) (vs : List V) (Q : VK) (E : XK), A.guards = some [] → Room k (A.deeper (envOfC x (defScope st) s.heap.objs.size f cdv)) → sp vs H Q E →
      ∃ t, PSs (cxOf CX0 P w K mg base N x (defScope st) f cdv A outer s H E).nox (defBody st) t ∧ t { nx := fun _ H' => Q .non H', rt := Q } (start N vs) H) : DefG P w K mg base (k + 1) x st ps sp := by
  obtain ⟨f, fd, hm, F⟩ := B.ex
  exact ⟨f, fd, hm, F, F.binds hbi, fun_okG F S len (hb f)⟩
end
def tD (sp : Sp) (t : TA) : TE := fun σ H Q => t σ H fun vs H1 => sp vs H1 Q E0
def tDK (n m : Nat) (b : Bool) (sp : Sp) (t tk : TA) : TE := fun σ H Q => t σ H fun vs H1 => tk σ H1 fun zs H2 => vs.length = n ∧ zs.length = m ∧ sp (vs ++ if b = true then zs.reverse else zs) H2 Q E0
/-- how a def without defaults binds n values by place and m by the names ks (b: turned about) -/
abbrev BindK (n m : Nat) (b : Bool) (x : Str) (st : Stmt) (ps ks : List Str) : Prop := ∀ (kV doc pm : Value) (an : Option Addr) (cdv ct : Value) (us ws : List Value), us.length = n → ws.length = m →
  bindArgs (PySem.W.fnOf x x (defArgs st) (defBody st) (defScope st) .none kV doc pm an cdv ct) ⟨us, ks.zip ws⟩ = pure (ps.zip (us ++ if b = true then ws.reverse else ws))
section
variable {X : Cx} {k : Nat} {x : Str} {st : Stmt} {ps ks : List Str} {sp : Sp} {p pos : Pos} {e : Expr} {es : List Expr} {t tk : TA} {kws : List Keyword} {n m : Nat} {b : Bool}
/-- f(e, ..) -/
theorem pe_d (D : Def X.prog X.w X.K X.mg X.base k x st ps sp) (hr : Room k X.A) (hg : Gl X x) (ha : PA X (e :: es) t)
    (hdb : (x == ("__debug__" : Str)) = false := by decide) (he : starEach (e :: es) X.env = (false, eval e X.env) :: starEach es X.env := by rfl) (hpl : (backTo pos (starEach es X.env)).any (·.1) = false := by rfl) :
    PE X (.Call (.Name x p) (e :: es) [] pos) (tD sp t) := by
  obtain ⟨f, fd, hm, F, hb, ok⟩ := D.ex
  have q := pe_call (p := p) ok hr hg hm F.kp hb .nil (pass0 (X := X)) ha hdb he hpl
  have z : tCall sp [] E0 t = tD sp t := by
    funext σ H Q
    unfold tCall tD
    simp only [List.append_nil]
  rw [z] at q
  exact q
theorem pe_dG (D : DefG X.prog X.w X.K X.mg X.base k x st ps sp) (hgd : X.A.guards = some []) (hr : Room k X.A) (hg : Gl X x) (ha : PA X (e :: es) t)
    (hdb : (x == ("__debug__" : Str)) = false := by decide) (he : starEach (e :: es) X.env = (false, eval e X.env) :: starEach es X.env := by rfl) (hpl : (backTo pos (starEach es X.env)).any (·.1) = false := by rfl) :
    PE X (.Call (.Name x p) (e :: es) [] pos) (tD sp t) := by
  obtain ⟨f, fd, hm, F, hb, ok⟩ := D.ex
  exact pe_callG (p := p) ok hgd hr hg hm F.kp hb (pass0 (X := X)) ha hdb he hpl
theorem run_dk {pins : List (Addr × Obj)} {σ : L2.St} {H : Hp} {s : Shared} {Q : VK} {us ws : List Value} {vs zs : List V} {f : Addr} {fd : FuncData} (F : Fun X.K x x st f fd) (ok : FnOk X.prog X.w X.K X.mg X.base CX0 k f fd ps sp) (hr : Room k X.A)
    (hb : BindK n m b x st ps ks) (I : Inv X pins σ H s) (r : Vals vs us) (rz : Vals zs ws) (hn : vs.length = n) (hm : zs.length = m) (h : sp (vs ++ if b = true then zs.reverse else zs) H Q E0) :
    wpAny (model X.prog X.w) X.A (call (.ref f) us (ks.zip ws)) (EP X pins σ Q) X.xe s := by
  obtain ⟨oc, od, kV, doc, pm, an, cdv, ct, osl, efd, lk, hcd⟩ := F.ex
  have rr : Vals (vs ++ if b = true then zs.reverse else zs) (us ++ if b = true then ws.reverse else ws) := by
    refine r.append ?_
    cases b with
    | true => rw [if_pos rfl, if_pos rfl]; exact rz.reverse
    | false => rw [if_neg Bool.false_ne_true, if_neg Bool.false_ne_true]; exact rz
  have hbd : BindsTo s fd ⟨us, ks.zip ws⟩ (ps.zip (us ++ if b = true then ws.reverse else ws)) := by
    rw [efd]
    exact .of_eq (hb kV doc pm an cdv ct us ws (r.length.symm.trans hn) (rz.length.symm.trans hm))
  refine wpAny_call (codeAny_mono (ok.run X.A X.stack s H ⟨us, ks.zip ws⟩ _ _ Q E0 hr I.env0 hbd rr h) ?_)
  rintro (e | fl) s' hq
  · exact pass0 (X := X) pins σ H s e s' I hq
  · cases fl with
    | ret u => exact I.after hq
    | next => exact hq.elim
    | brk => exact hq.elim
    | cont => exact hq.elim
/-- f(e, .., k = v, ..) -/
theorem pe_dk (D : Def X.prog X.w X.K X.mg X.base k x st ps sp) (hr : Room k X.A) (hg : Gl X x) (n m : Nat) (b : Bool) (ks : List Str) (hb : BindK n m b x st ps ks) (ha : PA X (e :: es) t) (hkw : PK X kws tk)
    (hks : (backToKw pos (keywordEach kws X.env)).filterMap (·.1) = ks := by rfl) (hall : (backToKw pos (keywordEach kws X.env)).all (·.1.isSome) = true := by rfl) (hdb : (x == ("__debug__" : Str)) = false := by decide)
    (he : starEach (e :: es) X.env = (false, eval e X.env) :: starEach es X.env := by rfl) (hpl : ((backTo pos (starEach (e :: es) X.env)).any (·.1) || (backToKw pos (keywordEach kws X.env)).any (·.1.isNone)) = false := by rfl) :
    PE X (.Call (.Name x p) (e :: es) kws pos) (tDK n m b sp t tk) := by
  obtain ⟨f, fd, hm, F, _, ok⟩ := D.ex
  constructor
  intro pins s σ H Q I h
  refine wpAny_Call_Name_kw (ld_glob I hg hm (PySem.W.callWith_KW (h₀ := X.base) I.ok.mod.kin F.kp hall (thn (ha.run pos pins s σ H _ I h) ?_) hpl he) hdb)
  rintro us s1 ⟨vs, H1, I1, r, q⟩
  refine thn (hkw.run pos pins s1 σ H1 _ I1 q) ?_
  rintro ws s2 ⟨zs, H2, I2, rz, q2⟩
  refine ⟨I2.kIn, ?_⟩
  rw [hks]
  exact run_dk F ok hr hb I2 r rz q2.1 q2.2.1 q2.2.2
/-- f(k = v, ..) -/
theorem pe_dk0 (D : Def X.prog X.w X.K X.mg X.base k x st ps sp) (hr : Room k X.A) (hg : Gl X x) (m : Nat) (b : Bool) (ks : List Str) (hb : BindK 0 m b x st ps ks) (hkw : PK X kws tk)
    (hks : (backToKw pos (keywordEach kws X.env)).filterMap (·.1) = ks := by rfl) (hall : (backToKw pos (keywordEach kws X.env)).all (·.1.isSome) = true := by rfl) (hdb : (x == ("__debug__" : Str)) = false := by decide)
    (hpl : ((backTo pos (starEach [] X.env)).any (·.1) || (backToKw pos (keywordEach kws X.env)).any (·.1.isNone)) = false := by rfl) :
    PE X (.Call (.Name x p) [] kws pos) (tDK 0 m b sp tNil tk) := by
  obtain ⟨f, fd, hm, F, _, ok⟩ := D.ex
  constructor
  intro pins s σ H Q I h
  refine wpAny_Call_Name_kw (ld_glob I hg hm (PySem.W.callWith_KW0 (h₀ := X.base) I.ok.mod.kin F.kp hall (thn (hkw.run pos pins s σ H _ I h) ?_) hpl) hdb)
  rintro ws s2 ⟨zs, H2, I2, rz, q2⟩
  refine ⟨I2.kIn, ?_⟩
  rw [hks]
  exact run_dk F ok hr hb I2 .nil rz q2.1 q2.2.1 q2.2.2
end
/-- sorted(set(..)) and set(..) -/
def rSetI (K : PySem.W.Frag) (w : World) : List V → Hp → VK → Prop := fun vs H Q => ∃ (a : Addr) (ns : List Int), vs = [.ref a] ∧ Sq K H a (ns.map V.int) ∧ ns.length ≤ 60 ∧
  ∀ (p : Addr) (n : Nat), n ≤ ns.length → H p = none → Q (.ref p) (upd H p (SetO w p (fun j => decide (j ∈ ns)) n))
theorem cr_setI {X : Cx} (hc : X.calm = true) : CallR X (.type "set") (rSetI X.K X.w) := by
  intro pins s σ H vs us Q I r h
  obtain ⟨a, ns, rfl, hS, hz, q⟩ := h
  rw [Vals.ref1 r]
  have hb : ns.length + 1 < scanBound := by unfold scanBound; omega
  have fin : ∀ (h' : Heap) (tk c : Nat), SetR X.w h' s.heap.objs.size (fun j => decide (j ∈ ns)) c → c ≤ ns.length → (∀ b o, s.heap.get? b = some o → h'.get? b = some o) → EP X pins σ Q (.ref s.heap.objs.size) { s with heap := h', toks := tk } :=
    fun h' tk c R hc k => ⟨.ref s.heap.objs.size, _, I.laid (t' := tk) k (Nat.le_refl _) (setO_new R), rfl, q _ c hc (I.hok.fresh (Nat.le_refl _))⟩
  rcases hS with hS | hS
  · obtain ⟨its, rv, pl, _⟩ := I.list hS
    exact call_set_lstI ns (I.ok.hd hc) pl.isList (by simpa using Vals.ints rv) hb fin
  · obtain ⟨its, rv, pl, _⟩ := I.tuple hS
    exact call_set_tupI ns (I.ok.hd hc) pl (by simpa using Vals.ints rv) hb fin
end Fp

namespace Fp
open PySem PySem.Spec PyProof.Rows L2 PySem.W

/-! ### data by a Lean type -/
section
variable {K : PySem.W.Frag} {H H' : Hp}
mutual
theorem dp_same (e : Same H H') : ∀ (d : PyData) (v : V), Dp K H v d → Dp K H' v d
  | .none, _, h => by cases h; exact .non
  | .bool _, _, h => by cases h; exact .bl _
  | .int _, _, h => by cases h; exact .int _
  | .str _, _, h => by cases h; exact .str _
  | .list ds, _, h => by
    cases h with
    | lst a b => exact .lst (e.seq a) (dpAll_same e ds _ b)
  | .tuple ds, _, h => by
    cases h with
    | tup a b => exact .tup (same_sqT e a) (dpAll_same e ds _ b)
  | .dict _, _, h => by cases h
theorem dpAll_same (e : Same H H') : ∀ (ds : List PyData) (vs : List V), DpAll K H vs ds → DpAll K H' vs ds
  | [], _, h => by cases h; exact .nil
  | d :: ds, _, h => by
    cases h with
    | cons a b => exact .cons (dp_same e d _ a) (dpAll_same e ds _ b)
end
theorem dpAll_len : ∀ {vs : List V} {ds : List PyData}, DpAll K H vs ds → vs.length = ds.length
  | _, _, .nil => rfl
  | _, _, .cons _ b => congrArg (· + 1) (dpAll_len b)
theorem dpAll_app : ∀ {vs ws : List V} {ds es : List PyData}, DpAll K H vs ds → DpAll K H ws es → DpAll K H (vs ++ ws) (ds ++ es)
  | _, _, _, _, .nil, b => b
  | _, _, _, _, .cons a r, b => .cons a (dpAll_app r b)
theorem dpAll_at : ∀ {vs : List V} {ds : List PyData}, DpAll K H vs ds → ∀ {i : Nat} {v : V}, vs[i]? = some v → ∃ d, ds[i]? = some d ∧ Dp K H v d
  | _, _, .nil, i, v, h => by cases h
  | _, _, .cons a r, 0, v, h => by obtain rfl := Option.some.inj h; exact ⟨_, rfl, a⟩
  | _, _, .cons a r, i + 1, v, h => dpAll_at r (i := i) h
theorem dpAll_get : ∀ {vs : List V} {ds : List PyData}, DpAll K H vs ds → ∀ {i : Nat} {d : PyData}, ds[i]? = some d → ∃ v, vs[i]? = some v ∧ Dp K H v d
  | _, _, .nil, i, v, h => by cases h
  | _, _, .cons a r, 0, v, h => by obtain rfl := Option.some.inj h; exact ⟨_, rfl, a⟩
  | _, _, .cons a r, i + 1, v, h => dpAll_get r (i := i) h
theorem dpAll_rev : ∀ {vs : List V} {ds : List PyData}, DpAll K H vs ds → DpAll K H vs.reverse ds.reverse
  | _, _, .nil => .nil
  | _, _, .cons a r => by
    rw [List.reverse_cons, List.reverse_cons]
    exact dpAll_app (dpAll_rev r) (.cons a .nil)
theorem dpAll_take : ∀ {vs : List V} {ds : List PyData}, DpAll K H vs ds → ∀ n, DpAll K H (vs.take n) (ds.take n)
  | _, _, .nil, n => by rw [List.take_nil, List.take_nil]; exact .nil
  | _, _, .cons a r, 0 => .nil
  | _, _, .cons a r, n + 1 => .cons a (dpAll_take r n)
theorem dpAll_drop : ∀ {vs : List V} {ds : List PyData}, DpAll K H vs ds → ∀ n, DpAll K H (vs.drop n) (ds.drop n)
  | _, _, .nil, n => by rw [List.drop_nil, List.drop_nil]; exact .nil
  | _, _, .cons a r, 0 => .cons a r
  | _, _, .cons a r, n + 1 => dpAll_drop r n
theorem dpAll_ints : ∀ ns : List Int, DpAll K H (ns.map V.int) (ns.map Datum.toD)
  | [] => .nil
  | n :: r => .cons (.int n) (dpAll_ints r)
theorem ints_dpAll : ∀ {vs : List V} {ns : List Int}, DpAll K H vs (ns.map Datum.toD) → vs = ns.map V.int
  | [], [], _ => rfl
  | [], _ :: _, h => by cases h
  | _ :: _, [], h => by cases h
  | v :: vs, n :: ns, h => by
    cases h with
    | cons a r =>
      have e : v = .int n := by
        have a' : Dp K H v (.int n) := a
        cases a'; rfl
      rw [e, ints_dpAll r]; rfl
section
variable {α β : Type} [DecidableEq α] [Datum α] [DecidableEq β] [Datum β]
/-- v holds x -/
abbrev Hd (K : PySem.W.Frag) (H : Hp) (v : V) (x : α) : Prop := Dp K H v (Datum.toD x)
/-- the values hold the items -/
abbrev Hs (K : PySem.W.Frag) (H : Hp) (vs : List V) (xs : List α) : Prop := DpAll K H vs (xs.map Datum.toD)
theorem Hd.same {v : V} {x : α} (h : Hd K H v x) (e : Same H H') : Hd K H' v x := dp_same e _ _ h
theorem Hs.same {vs : List V} {xs : List α} (h : Hs K H vs xs) (e : Same H H') : Hs K H' vs xs := dpAll_same e _ _ h
theorem hd_lst {a : Addr} {vs : List V} {xs : List α} (h : SqL K H a vs) (r : Hs K H vs xs) : Hd K H (.ref a) xs := Dp.lst h r
theorem hd_pair {a : Addr} {u v : V} {x : α} {y : β} (h : SqT K H a [u, v]) (r : Hd K H u x) (q : Hd K H v y) : Hd K H (.ref a) (x, y) := Dp.tup h (.cons r (.cons q .nil))
theorem hd_int (i : Int) : Hd K H (.int i) i := .int i
theorem lst_hd {v : V} {xs : List α} (h : Hd K H v xs) : ∃ a vs, v = .ref a ∧ SqL K H a vs ∧ Hs K H vs xs := by
  have h' : Dp K H v (.list (xs.map Datum.toD)) := h
  cases h' with
  | lst a b => exact ⟨_, _, rfl, a, b⟩
theorem pair_hd {v : V} {p : α × β} (h : Hd K H v p) : ∃ a x y, v = .ref a ∧ SqT K H a [x, y] ∧ Hd K H x p.1 ∧ Hd K H y p.2 := by
  have h' : Dp K H v (.tuple [Datum.toD p.1, Datum.toD p.2]) := h
  cases h' with
  | tup a b =>
    cases b with
    | cons b1 b2 =>
      cases b2 with
      | cons b2 b3 =>
        cases b3
        exact ⟨_, _, _, rfl, a, b1, b2⟩
theorem hd_ints {a : Addr} {ns : List Int} (h : SqL K H a (ns.map V.int)) : Hd K H (.ref a) ns := hd_lst h (dpAll_ints ns)
theorem ints_hd {v : V} {ns : List Int} (h : Hd K H v ns) : ∃ a, v = .ref a ∧ SqL K H a (ns.map V.int) := by
  obtain ⟨a, vs, e, hs, r⟩ := lst_hd h
  rw [ints_dpAll r] at hs
  exact ⟨a, e, hs⟩
theorem int_hd {v : V} {n : Int} (h : Hd K H v n) : v = .int n := by
  have h' : Dp K H v (.int n) := h
  cases h'; rfl
theorem Hs.len {vs : List V} {xs : List α} (h : Hs K H vs xs) : vs.length = xs.length := by rw [dpAll_len h, List.length_map]
theorem Hs.at {vs : List V} {xs : List α} (h : Hs K H vs xs) {i : Nat} {v : V} (e : vs[i]? = some v) : ∃ x, xs[i]? = some x ∧ Hd K H v x := by
  obtain ⟨d, e2, hd⟩ := dpAll_at h e
  rw [List.getElem?_map] at e2
  cases q : xs[i]? with
  | none => rw [q] at e2; cases e2
  | some x =>
    rw [q] at e2
    obtain rfl : Datum.toD x = d := Option.some.inj e2
    exact ⟨x, rfl, hd⟩
theorem Hs.get {vs : List V} {xs : List α} (h : Hs K H vs xs) {i : Nat} {x : α} (e : xs[i]? = some x) : ∃ v, vs[i]? = some v ∧ Hd K H v x :=
  dpAll_get h (by rw [List.getElem?_map, e]; rfl)
theorem Hs.app {vs ws : List V} {xs ys : List α} (h : Hs K H vs xs) (r : Hs K H ws ys) : Hs K H (vs ++ ws) (xs ++ ys) := by
  show DpAll K H (vs ++ ws) ((xs ++ ys).map Datum.toD)
  rw [List.map_append]
  exact dpAll_app h r
theorem Hs.one {v : V} {x : α} (h : Hd K H v x) : Hs K H [v] [x] := .cons h .nil
theorem Hs.snoc {vs : List V} {xs : List α} {v : V} {x : α} (h : Hs K H vs xs) (r : Hd K H v x) : Hs K H (vs ++ [v]) (xs ++ [x]) := h.app (.one r)
theorem Hs.rev {vs : List V} {xs : List α} (h : Hs K H vs xs) : Hs K H vs.reverse xs.reverse := by
  show DpAll K H vs.reverse (xs.reverse.map Datum.toD)
  rw [List.map_reverse]
  exact dpAll_rev h
theorem Hs.take {vs : List V} {xs : List α} (h : Hs K H vs xs) (n : Nat) : Hs K H (vs.take n) (xs.take n) := by
  show DpAll K H (vs.take n) ((xs.take n).map Datum.toD)
  rw [List.map_take]
  exact dpAll_take h n
theorem Hs.drop {vs : List V} {xs : List α} (h : Hs K H vs xs) (n : Nat) : Hs K H (vs.drop n) (xs.drop n) := by
  show DpAll K H (vs.drop n) ((xs.drop n).map Datum.toD)
  rw [List.map_drop]
  exact dpAll_drop h n
end
end

/-! ### ==, !=, in, not in of such -/
section
variable {X : Cx}
def rEqH (α : Type) [DecidableEq α] [Datum α] (K : PySem.W.Frag) : R2 := fun x y H Q => ∃ a b : α, Hd K H x a ∧ Hd K H y b ∧ Q (.bl (decide (a = b))) H
def rNeH (α : Type) [DecidableEq α] [Datum α] (K : PySem.W.Frag) : R2 := fun x y H Q => ∃ a b : α, Hd K H x a ∧ Hd K H y b ∧ Q (.bl (decide (a ≠ b))) H
def rInH (α : Type) [DecidableEq α] [Datum α] (K : PySem.W.Frag) : R2 := fun x y H Q => ∃ (a : α) (bs : List α), Hd K H x a ∧ Hd K H y bs ∧ Q (.bl (decide (a ∈ bs))) H
def rNiH (α : Type) [DecidableEq α] [Datum α] (K : PySem.W.Frag) : R2 := fun x y H Q => ∃ (a : α) (bs : List α), Hd K H x a ∧ Hd K H y bs ∧ Q (.bl (decide (a ∉ bs))) H
theorem op_eqH (α : Type) [DecidableEq α] [Datum α] (hu : X.A.units + Datum.depth α < cLine) : OpR X (compareOp .Eq) (rEqH α X.K) := by
  intro pins s σ H x y v u Q I rx ry h
  obtain ⟨a, b, ha, hb, q⟩ := h
  exact eq_datum (Dp.reads I _ x v ha rx) (Dp.reads I _ y u hb ry) hu ⟨.bl _, H, I, rfl, q⟩
theorem op_neH (α : Type) [DecidableEq α] [Datum α] (hu : X.A.units + Datum.depth α < cLine) : OpR X (compareOp .NotEq) (rNeH α X.K) := by
  intro pins s σ H x y v u Q I rx ry h
  obtain ⟨a, b, ha, hb, q⟩ := h
  exact ne_datum (Dp.reads I _ x v ha rx) (Dp.reads I _ y u hb ry) hu ⟨.bl _, H, I, rfl, q⟩
theorem op_inH (α : Type) [DecidableEq α] [Datum α] (hu : X.A.units + 1 + Datum.depth α < cLine) : OpR X (compareOp .In) (rInH α X.K) := by
  intro pins s σ H x y v u Q I rx ry h
  obtain ⟨a, bs, ha, hb, q⟩ := h
  obtain ⟨l, vs, rfl, hs, r⟩ := lst_hd hb
  obtain ⟨its, rv, pl, _⟩ := I.list hs
  cases ry
  exact in_list_datum pl.isList (Dp.readsAll I _ vs its r rv) (Dp.reads I _ x v ha rx) hu ⟨.bl _, H, I, rfl, q⟩
theorem op_niH (α : Type) [DecidableEq α] [Datum α] (hu : X.A.units + 1 + Datum.depth α < cLine) : OpR X (compareOp .NotIn) (rNiH α X.K) := by
  intro pins s σ H x y v u Q I rx ry h
  obtain ⟨a, bs, ha, hb, q⟩ := h
  obtain ⟨l, vs, rfl, hs, r⟩ := lst_hd hb
  obtain ⟨its, rv, pl, _⟩ := I.list hs
  cases ry
  exact notIn_list_datum pl.isList (Dp.readsAll I _ vs its r rv) (Dp.reads I _ x v ha rx) hu ⟨.bl _, H, I, rfl, q⟩
end

/-! ### sorted of such, any number -/
section
variable {X : Cx}
/-- data that a sort takes: all of one build, no tuples -/
class Srt1 (α : Type) [DecidableEq α] [Datum α] : Prop where
  like : ∀ a b : α, alike (Datum.toD a) (Datum.toD b) = true
  other : ∀ a : α, Datum.toD a ≠ .none ∧ ∀ xs, Datum.toD a ≠ .tuple xs
theorem like_all {α : Type} [DecidableEq α] [Datum α] (h : ∀ a b : α, alike (Datum.toD a) (Datum.toD b) = true) : ∀ xs ys : List α, alikeAll (xs.map Datum.toD) (ys.map Datum.toD) = true
  | [], _ => by simp [alikeAll]
  | _ :: _, [] => by simp [alikeAll]
  | x :: xs, y :: ys => by
    show alikeAll (Datum.toD x :: xs.map Datum.toD) (Datum.toD y :: ys.map Datum.toD) = true
    rw [alikeAll, h x y, like_all h xs ys]; rfl
instance : Srt1 Int where
  like _ _ := by simp [Datum.toD, alike]
  other _ := ⟨(fun z => by cases z), (fun _ z => by cases z)⟩
instance {α : Type} [DecidableEq α] [Datum α] [Srt1 α] : Srt1 (List α) where
  like a b := by
    show alike (.list (a.map Datum.toD)) (.list (b.map Datum.toD)) = true
    simpa [alike] using like_all Srt1.like a b
  other _ := ⟨(fun z => by cases z), (fun _ z => by cases z)⟩
theorem vals_of_each {R : Value → V → Prop} : ∀ {out : List Value}, (∀ v ∈ out, ∃ x, R v x) → ∃ ws : List V, EachIs R out ws
  | [], _ => ⟨[], .nil⟩
  | v :: out, h => by
    obtain ⟨x, hx⟩ := h v List.mem_cons_self
    obtain ⟨ws, e⟩ := vals_of_each (out := out) fun u hu => h u (List.mem_cons_of_mem _ hu)
    exact ⟨x :: ws, .cons hx e⟩
def SrR (K : PySem.W.Frag) (H : Hp) (vs : List V) {α : Type} [DecidableEq α] [Datum α] (v : Value) (b : α) : Prop := ∃ x, x ∈ vs ∧ RelV x v ∧ Hd K H x b
theorem srt_in {α : Type} [DecidableEq α] [Datum α] {K : PySem.W.Frag} {H : Hp} {all : List V} : ∀ {vs : List V} {its : List Value} {xs : List α}, (∀ v ∈ vs, v ∈ all) → Vals vs its → Hs K H vs xs → EachIs (SrR K H all) its xs
  | [], _, [], _, r, _ => by cases r; exact .nil
  | [], _, _ :: _, _, _, h => by cases h
  | _ :: _, _, [], _, _, h => by cases h
  | v :: vs, _, x :: xs, m, r, h => by
    cases r with
    | cons r1 r2 =>
      cases h with
      | cons h1 h2 => exact .cons ⟨v, m v List.mem_cons_self, r1, h1⟩ (srt_in (fun u hu => m u (List.mem_cons_of_mem _ hu)) r2 h2)
theorem srt_out {α : Type} [DecidableEq α] [Datum α] {K : PySem.W.Frag} {H : Hp} {all : List V} : ∀ {its : List Value} {xs : List α}, EachIs (SrR K H all) its xs → ∃ ws, Vals ws its ∧ Hs K H ws xs ∧ ∀ w ∈ ws, w ∈ all
  | _, _, .nil => ⟨[], .nil, .nil, fun w h => by cases h⟩
  | _, _, .cons h r => by
    obtain ⟨x, m, rx, hx⟩ := h
    obtain ⟨ws, r1, r2, r3⟩ := srt_out r
    exact ⟨x :: ws, .cons rx r1, .cons hx r2, fun w hw => by
      rcases List.mem_cons.mp hw with e | e
      · rw [e]; exact m
      · exact r3 w e⟩
/-- the order of sorted -/
def leH {α : Type} [DecidableEq α] [Datum α] : α → α → Bool := dataLe false Datum.toD
def rSortH (α : Type) [DecidableEq α] [Datum α] (K : PySem.W.Frag) : List V → Hp → VK → Prop := fun vs H Q => ∃ (a : Addr) (xs : List V) (L : List α), vs = [V.ref a] ∧ SqL K H a xs ∧ Hs K H xs L ∧
  ∀ p ws, (∀ w ∈ ws, w ∈ xs) → Hs K H ws (L.mergeSort leH) → H p = none → Q (.ref p) (upd H p (.lst ws))
theorem cr_sortH (α : Type) [DecidableEq α] [Datum α] [Srt1 α] (hu : X.A.units + 2 + Datum.depth α < cLine) : CallR X (.builtin "sorted") (rSortH α X.K) := by
  intro pins s σ H vs us Q I r h
  obtain ⟨a, xs, L, rfl, hs, hL, q⟩ := h
  obtain ⟨its, rv, hl, hz⟩ := I.list hs
  rw [Vals.ref1 r]
  have el := srt_in (all := xs) (fun _ m => m) rv hL
  have n1 : L.length = xs.length := hL.len.symm
  have er : EachIs (fun v (b : α) => ∃ as, Reads s.heap v (Datum.toD b) as) its L := el.mono fun v b ⟨x, _, rx, hx⟩ => Dp.reads I _ x v hx rx
  refine sorted_data (enc := Datum.toD) hl.isList el er (AllAlike.of Srt1.like) (Sortable.others Srt1.other) (by rw [n1]; exact hz) (fun b _ => Nat.lt_of_le_of_lt (Nat.add_le_add_left (Datum.depth_le b) _) hu) fun out ho eo => ?_
  obtain ⟨ws, r1, r2, r3⟩ := srt_out eo
  obtain ⟨ep, he'⟩ := PyProof.Rows.sortedAll_at s.heap its out.toArray
  have hlen : ws.length ≤ sizeLine := by rw [r1.length, ho, n1]; exact hz
  exact ⟨.ref _, upd H (s.heap.objs.size + 1) (.lst ws), I.laid (t' := s.toks) (fun _ _ => PyProof.Rows.sortedAll_old) (Nat.le_succ _) ⟨hlen, out, ep, r1, he'⟩, rfl, q _ _ r3 r2 (I.hok.fresh (Nat.le_succ _))⟩
end

/-! ### zip of lists and tuples -/
def SqK (κ : Bool) (K : PySem.W.Frag) (H : Hp) (a : Addr) (xs : List V) : Prop := if κ = true then SqT K H a xs else SqL K H a xs
theorem sqk_of {K : PySem.W.Frag} {H : Hp} {a : Addr} {xs : List V} (h : Sq K H a xs) : ∃ κ, SqK κ K H a xs := h.elim (fun q => ⟨false, q⟩) (fun q => ⟨true, q⟩)
theorem SqK.same {κ : Bool} {K : PySem.W.Frag} {H H' : Hp} {a : Addr} {xs : List V} (e : Same H H') (h : SqK κ K H a xs) : SqK κ K H' a xs := by
  cases κ with
  | false => exact e.seq (show SqL K H a xs from h)
  | true => exact same_sqT e (show SqT K H a xs from h)
theorem sqk_lst {K : PySem.W.Frag} {H : Hp} {a : Addr} {xs : List V} (h : H a = some (.lst xs)) : SqK false K H a xs := SqL.of h
theorem SqK.sq {κ : Bool} {K : PySem.W.Frag} {H : Hp} {a : Addr} {xs : List V} (h : SqK κ K H a xs) : Sq K H a xs := by
  cases κ with
  | false => exact .inl h
  | true => exact .inr h
def ItAtK (κ : Bool) (h : Heap) (it l : Addr) (i : Nat) : Prop := if κ = true then h.IsTupleIter it l i else h.IsListIter it l i
def SqAtK (κ : Bool) (h : Heap) (l : Addr) (its : Array Value) : Prop := if κ = true then h.IsTuple l its else h.IsList l its
theorem ItAtK.at {κ : Bool} {h h' : Heap} {it l : Addr} {i : Nat} (a : ItAtK κ h it l i) (k : ∀ o, h.get? it = some o → h'.get? it = some o) : ItAtK κ h' it l i := by
  cases κ with
  | false => exact Heap.IsListIter.at (show h.IsListIter it l i from a) k
  | true => exact Heap.IsTupleIter.at (show h.IsTupleIter it l i from a) k
theorem ItAtK.obj {κ : Bool} {h : Heap} {it l : Addr} {i : Nat} (a : ItAtK κ h it l i) : ∃ o, h.get? it = some o ∧ ∀ v, o.data ≠ .cell v := by
  cases κ with
  | false => obtain ⟨o, e, _, d⟩ := (show h.IsListIter it l i from a); exact ⟨o, e, fun v q => by rw [d] at q; cases q⟩
  | true => obtain ⟨o, e, _, d⟩ := (show h.IsTupleIter it l i from a); exact ⟨o, e, fun v q => by rw [d] at q; cases q⟩
theorem draws_k {prog : Program} {w : World} {A : Around} (κ : Bool) (hh : A.handled = none) (it l : Addr) (ne : l ≠ it) (its : Array Value) :
    Draws prog w A it [it, l] its.size (fun i v => its[i]? = some v) (fun i h => ItAtK κ h it l i ∧ SqAtK κ h l its) := by
  cases κ with
  | false => exact Draws.list hh it l ne its
  | true => exact Draws.tuple hh it l ne its
theorem Inv.seqK {X : Cx} {pins : List (Addr × Obj)} {σ : L2.St} {H : Hp} {s : Shared} {κ : Bool} {a : Addr} {xs : List V} (I : L2.Inv X pins σ H s) (h : SqK κ X.K H a xs) : ∃ its : List Value, Vals xs its ∧ SqAtK κ s.heap a its.toArray ∧ a < s.heap.objs.size := by
  cases κ with
  | false =>
    obtain ⟨its, rv, p, _⟩ := I.list (show SqL X.K H a xs from h)
    exact ⟨its, rv, p.isList, p.lt⟩
  | true =>
    obtain ⟨its, rv, p, _⟩ := I.tuple (show SqT X.K H a xs from h)
    obtain ⟨o, ho, _⟩ := id p
    exact ⟨its, rv, p, Heap.lt_size ho⟩
theorem Inv.seqK_inj {X : Cx} {pins : List (Addr × Obj)} {σ : L2.St} {H : Hp} {s : Shared} {κ : Bool} {a : Addr} {xs ys : List V} (I : L2.Inv X pins σ H s) (h : SqK κ X.K H a xs) (g : SqK κ X.K H a ys) : xs = ys := by
  cases κ with
  | false => exact I.list_inj (show SqL X.K H a xs from h) (show SqL X.K H a ys from g)
  | true => exact I.tuple_inj (show SqT X.K H a xs from h) (show SqT X.K H a ys from g)
def ItZ (K : PySem.W.Frag) (κ1 κ2 : Bool) (a b : Addr) (xs ys : List V) : It :=
  ⟨fun i H => SqK κ1 K H a xs ∧ SqK κ2 K H b ys ∧ i < xs.length ∧ i < ys.length,
    fun i H v H' => ∃ T x y, v = .ref T ∧ H T = none ∧ H' = upd H T (.tup [x, y]) ∧ xs[i]? = some x ∧ ys[i]? = some y,
    fun i H => SqK κ1 K H a xs ∧ SqK κ2 K H b ys ∧ i ≤ xs.length ∧ i ≤ ys.length ∧ (i = xs.length ∨ i = ys.length)⟩
def TnZ (κ1 κ2 : Bool) (z TI TO i1 i2 a b : Addr) (i : Nat) (h : Heap) : Prop := IsZip h z TI TO .none ∧ IsPair h TI (.ref i1) (.ref i2) ∧ (∃ x y, IsPair h TO x y) ∧ ItAtK κ1 h i1 a i ∧ ItAtK κ2 h i2 b i
theorem zip_turns {P : Program} {w : World} {K : PySem.W.Frag} {elts : List Expr} {kk : Nat} {tpos : Pos} {κ1 κ2 : Bool} {a b z TI TO i1 i2 : Addr} {xs ys : List V} (D : ZipApart z TI TO i1 i2 a b) :
    Turn P w K (.Tuple elts kk tpos) (ItZ K κ1 κ2 a b xs ys) [z, TI, TO, i1, i2] z (TnZ κ1 κ2 z TI TO i1 i2 a b) := by
  have S : ZipSep2 z TI TO i1 i2 [i1, a] [i2, b] := by
    refine ⟨D.TIz, D.TOz, D.TITO, D.TIi1, by simp, ?_, ?_, D.TIi2, by simp, ?_, ?_, ?_, ?_⟩ <;>
      · simp only [List.mem_cons, List.not_mem_nil, or_false, not_or]
        first
          | exact ⟨D.i1z.symm, D.l1z.symm⟩ | exact ⟨D.TOi1, D.l1TO.symm⟩ | exact ⟨D.i2z.symm, D.l2z.symm⟩ | exact ⟨D.TOi2, D.l2TO.symm⟩ | exact ⟨D.i12, D.l2i1.symm⟩ | exact ⟨D.i12.symm, D.l1i2.symm⟩
  refine ⟨by simp, ?_, ?_, ?_, ?_, ?_⟩
  · rintro i h ⟨hz, hTI, ⟨x, y, hTO⟩, h1, h2⟩ c hc
    have e' : c = z ∨ c = TI ∨ c = TO ∨ c = i1 ∨ c = i2 := by simpa using hc
    rcases e' with q | q | q | q | q <;> subst q
    · exact ⟨_, hz, fun v q => nomatch q⟩
    · exact ⟨_, hTI, fun v q => nomatch q⟩
    · exact ⟨_, hTO, fun v q => nomatch q⟩
    · exact h1.obj
    · exact h2.obj
  · rintro i h h' ⟨hz, hTI, ⟨x, y, hTO⟩, h1, h2⟩ k
    exact ⟨k z (by simp) _ hz, k TI (by simp) _ hTI, ⟨x, y, k TO (by simp) _ hTO⟩, h1.at fun o q => k i1 (by simp) o q, h2.at fun o q => k i2 (by simp) o q⟩
  · intro X hP hw hK hc i pins s σ H E I hf st hg
    subst hP hw hK
    obtain ⟨hz, hTI, ⟨x0, y0, hTO⟩, h1, h2⟩ := st
    obtain ⟨qx, qy, l1, l2⟩ := hg
    obtain ⟨its, rv, p, _⟩ := Inv.seqK I qx
    obtain ⟨its2, rv2, p2, _⟩ := Inv.seqK I qy
    have hA : X.A.in1.handled = none := by
      have q := I.ok.hd hc
      simpa using q
    have zl : z < s.heap.objs.size := Heap.lt_size hz
    have n1 := rv.length
    have n2 := rv2.length
    refine wpAny_pyNext_zipD2_item S (draws_k κ1 hA i1 a D.l1i1 its.toArray) (draws_k κ2 hA i2 b D.l2i2 its2.toArray) hz hTI hTO ⟨h1, p⟩ ⟨h2, p2⟩ (by simp; omega) (by simp; omega) ?_
    intro u u2 h' tk hu hu2 z' TO' st1 st2 hT hsz hk
    obtain ⟨x, hx, ru⟩ : ∃ x, xs[i]? = some x ∧ RelV x u := by
      obtain ⟨u', e1, e2⟩ := rv.get (List.getElem?_eq_getElem l1)
      have e3 : its[i]? = some u := by simpa using hu
      rw [e1] at e3
      obtain rfl := Option.some.inj e3
      exact ⟨_, List.getElem?_eq_getElem l1, e2⟩
    obtain ⟨y, hy, ru2⟩ : ∃ y, ys[i]? = some y ∧ RelV y u2 := by
      obtain ⟨u', e1, e2⟩ := rv2.get (List.getElem?_eq_getElem l2)
      have e3 : its2[i]? = some u2 := by simpa using hu2
      rw [e1] at e3
      obtain rfl := Option.some.inj e3
      exact ⟨_, List.getElem?_eq_getElem l2, e2⟩
    refine ⟨_, rfl, wpAny_letOwnedTupleGo_zip (s := { s with heap := h', toks := tk }) z' fun h'' z'' sb => ?_⟩
    have T2 : h''.get? s.heap.objs.size = some { cls := .type "tuple", data := .seq #[u, u2] } := (sb.2 _ (Nat.ne_of_gt zl)).trans hT
    have far : ∀ c o, c ∉ [z, TI, TO, i1, i2] → s.heap.get? c = some o → h''.get? c = some o := fun c o hb q => by
      simp only [List.mem_cons, List.not_mem_nil, or_false, not_or] at hb
      exact (sb.2 c hb.1).trans (hk c o hb.1 hb.2.2.1 hb.2.2.2.1 hb.2.2.2.2 q)
    have I1 : L2.Inv X pins σ (upd H s.heap.objs.size (.tup [x, y])) { s with heap := h'', toks := tk } :=
      I.turnedNew (t' := tk) (ch := [z, TI, TO, i1, i2]) far hf (Nat.le_refl _) ⟨by show 2 ≤ sizeLine; decide, [u, u2], .cons ru (.cons ru2 .nil), ⟨_, T2, rfl, _, rfl⟩⟩
    refine ⟨.ref s.heap.objs.size, _, I1, rfl, ⟨_, x, y, rfl, I.hok.fresh (Nat.le_refl _), rfl, hx, hy⟩, ⟨z'', ?_, ⟨u, u2, ?_⟩, ?_, ?_⟩, fun c hcm => ?_⟩
    · exact (sb.2 _ D.TIz).trans (hk _ _ D.TIz D.TITO D.TIi1 D.TIi2 hTI)
    · exact (sb.2 _ D.TOz).trans TO'
    · exact st1.1.at fun o q => (sb.2 _ D.i1z).trans q
    · exact st2.1.at fun o q => (sb.2 _ D.i2z).trans q
    · have lt : c < s.heap.objs.size := by
        have e' : c = z ∨ c = TI ∨ c = TO ∨ c = i1 ∨ c = i2 := by simpa using hcm
        rcases e' with q | q | q | q | q <;> subst q
        · exact zl
        · exact Heap.lt_size hTI
        · exact Heap.lt_size hTO
        · obtain ⟨_, e1, _⟩ := h1.obj; exact Heap.lt_size e1
        · obtain ⟨_, e2, _⟩ := h2.obj; exact Heap.lt_size e2
      rw [upd_ne (Nat.ne_of_lt lt)]
      exact (hf c hcm).1
  · intro X hP hw hK hc i pins s σ H E I hf st hg
    subst hP hw hK
    obtain ⟨hz, hTI, ⟨x0, y0, hTO⟩, h1, h2⟩ := st
    obtain ⟨qx, qy, l1, l2, l3⟩ := hg
    obtain ⟨its, rv, p, _⟩ := Inv.seqK I qx
    obtain ⟨its2, rv2, p2, _⟩ := Inv.seqK I qy
    have hA : X.A.in1.handled = none := by
      have q := I.ok.hd hc
      simpa using q
    have n1 := rv.length
    have n2 := rv2.length
    refine wpAny_pyNext_zipD2_end S (draws_k κ1 hA i1 a D.l1i1 its.toArray) (draws_k κ2 hA i2 b D.l2i2 its2.toArray) hz hTI hTO ⟨h1, p⟩ ⟨h2, p2⟩ (by simp; omega) (by simp; omega) (by simp; omega) fun h' tk hk => ?_
    refine ⟨rfl, I.turnedL (t' := tk) (ch := [z, TI, TO, i1, i2]) (fun c o hb q => ?_) hf⟩
    simp only [List.mem_cons, List.not_mem_nil, or_false, not_or] at hb
    exact hk c o hb.1 hb.2.2.1 hb.2.2.2.1 hb.2.2.2.2 q
  · intro A i s Q E st h
    exact wpAny_pyIter_zip st.1 h
def iZipS (K : PySem.W.Frag) (ta : TA) : TI := fun σ H R => ta σ H fun vs H1 => ∃ a b xs ys κ1 κ2, vs = [.ref a, .ref b] ∧ SqK κ1 K H1 a xs ∧ SqK κ2 K H1 b ys ∧ R (ItZ K κ1 κ2 a b xs ys) H1
theorem zip_made {prog : Program} {w : World} {A : Around} {E : Value → Shared → Prop} {s : Shared} {κ1 κ2 : Bool} {l1 l2 : Addr} {xs ys : Array Value} {Q : Value → Shared → Prop} (h1 : SqAtK κ1 s.heap l1 xs) (h2 : SqAtK κ2 s.heap l2 ys)
    (h : ∀ h', IsZip h' (s.heap.objs.size + 4) (s.heap.objs.size + 2) (s.heap.objs.size + 3) .none → IsPair h' (s.heap.objs.size + 2) (.ref s.heap.objs.size) (.ref (s.heap.objs.size + 1)) → IsPair h' (s.heap.objs.size + 3) .none .none →
      ItAtK κ1 h' s.heap.objs.size l1 0 → ItAtK κ2 h' (s.heap.objs.size + 1) l2 0 → (∀ c o, s.heap.get? c = some o → h'.get? c = some o) → Q (.ref (s.heap.objs.size + 4)) { s with heap := h' }) :
    wpAny (model prog w) A (call (.type "zip") [.ref l1, .ref l2]) Q E s := by
  cases κ1 <;> cases κ2
  · exact zip_begins2 (begins_list l1 xs) (begins_list l2 ys) h1 h2 fun h' a b c d e _ f => h h' a b c ⟨_, d, rfl, rfl⟩ ⟨_, e, rfl, rfl⟩ f
  · exact zip_begins2 (begins_list l1 xs) (begins_tuple l2 ys) h1 h2 fun h' a b c d e _ f => h h' a b c ⟨_, d, rfl, rfl⟩ ⟨_, e, rfl, rfl⟩ f
  · exact zip_begins2 (begins_tuple l1 xs) (begins_list l2 ys) h1 h2 fun h' a b c d e _ f => h h' a b c ⟨_, d, rfl, rfl⟩ ⟨_, e, rfl, rfl⟩ f
  · exact zip_begins2 (begins_tuple l1 xs) (begins_tuple l2 ys) h1 h2 fun h' a b c d e _ f => h h' a b c ⟨_, d, rfl, rfl⟩ ⟨_, e, rfl, rfl⟩ f
theorem pi_zipS {X : Cx} {e e2 : Expr} {ta : TA} {p pos tpos : Pos} {elts : List Expr} {kk : Nat} (hg : Gl X "zip") (hm : X.mg "zip" = none) (ha : PA X [e, e2] ta)
    (hs : starEach [e, e2] X.env = (false, eval e X.env) :: starEach [e2] X.env := by rfl) (hpl : (backTo pos (starEach [e2] X.env)).any (·.1) = false := by rfl) :
    PI X (.Tuple elts kk tpos) (.Call (.Name "zip" p) [e, e2] [] pos) (iZipS X.K ta) := by
  refine ⟨fun pins s σ H R I h => Call_ (ld_blt I hg hm PyProof.Rows.boot_zip (PyProof.Rows.callWith_type1 (thn (ha.run pos pins s σ H _ I h) ?_) hs hpl))⟩
  rintro us s1 ⟨vs, H1, I1, r1, a, b, xs, ys, κ1, κ2, rfl, kx, ky, q⟩
  obtain ⟨u1, u2, rfl, ra, rb⟩ := vals2 r1
  cases ra
  cases rb
  obtain ⟨its, rv, p1, la⟩ := Inv.seqK I1 kx
  obtain ⟨its2, rv2, p2, lb⟩ := Inv.seqK I1 ky
  refine zip_made p1 p2 fun h' hz hTI hTO h1 h2 hk => wpAny_pyIter_zip hz ?_
  refine ⟨s1.heap.objs.size + 4, _, _, _, H1, rfl, I1.kept (t' := s1.toks) hk, zip_turns (PySem.W.ktu_apart s1.heap.objs.size a b la lb), ⟨hz, hTI, ⟨_, _, hTO⟩, h1, h2⟩, fun c hcm => ?_, q⟩
  have le : s1.heap.objs.size ≤ c := by
    have e' : c = s1.heap.objs.size + 4 ∨ c = s1.heap.objs.size + 2 ∨ c = s1.heap.objs.size + 3 ∨ c = s1.heap.objs.size ∨ c = s1.heap.objs.size + 1 := by simpa using hcm
    rcases e' with z | z | z | z | z <;> rw [z] <;> first | exact Nat.le_refl _ | exact Nat.le_add_right _ _
  exact I1.fpOk le (I1.hok.fresh le)
theorem walk_zipS {K : PySem.W.Frag} {κ1 κ2 : Bool} {a b : Addr} {xs ys : List V} {n : Nat} (hn : n = min xs.length ys.length) :
    Walk (ItZ K κ1 κ2 a b xs ys) n (fun H => SqK κ1 K H a xs ∧ SqK κ2 K H b ys) (YPair (fun i => xs[i]?) (fun i => ys[i]?)) := by
  subst hn
  refine ⟨fun i _ hi q => ⟨q.1, q.2, by omega, by omega⟩, fun _ q => ⟨q.1, q.2, by omega, by omega, by omega⟩, fun i H v H' _ q y => ?_⟩
  obtain ⟨T, x, z, h1, h2, h3, h4, h5⟩ := y
  exact ⟨T, x, z, h1, h2, h3, h4, h5⟩

/-! ### comprehensions whose elements make new objects: Rel by the turn and what was made so far -/
/-- the heap without D -/
def wo (D : Addr) (H : Hp) : Hp := fun b => if b = D then none else H b
theorem wo_upd {D : Addr} {H : Hp} {o : HO} : wo D (upd H D o) = wo D H := by
  funext b
  unfold wo
  by_cases e : b = D
  · rw [if_pos e, if_pos e]
  · rw [if_neg e, if_neg e, upd_ne e]
theorem wo_same {D : Addr} {H H' : Hp} (e : Same H H') : Same (wo D H) (wo D H') := fun b o q => by
  unfold wo at q ⊢
  by_cases z : b = D
  · rw [if_pos z] at q; cases q
  · rw [if_neg z] at q ⊢; exact e _ _ q
theorem same_wo {D : Addr} {H H' : Hp} (n : H D = none) (e : Same H H') : Same H (wo D H') := fun b o q => by
  unfold wo
  rw [if_neg (ne_of_none q n)]
  exact e _ _ q
theorem wo_le {D : Addr} {H : Hp} : Same (wo D H) H := fun b o q => by
  unfold wo at q
  by_cases z : b = D
  · rw [if_pos z] at q; cases q
  · rw [if_neg z] at q; exact q
theorem wo_ne {D b : Addr} {H : Hp} (h : b ≠ D) : wo D H b = H b := if_neg h
/-- a new object beside D -/
theorem wo_new {D p : Addr} {H : Hp} {o : HO} {acc : List V} (hD : H D = some (.lst acc)) (hp : H p = none) : wo D (upd H p o) = upd (wo D H) p o := by
  have ne : p ≠ D := fun z => by rw [z, hD] at hp; cases hp
  funext b
  by_cases e : b = D
  · subst e
    rw [upd_ne ne.symm]
    exact (if_pos rfl).trans (if_pos rfl).symm
  · rw [wo_ne e]
    by_cases z : b = p
    · subst z
      rw [upd_same, upd_same]
    · rw [upd_ne z, upd_ne z, wo_ne e]
section
variable {J : It} {n : Nat} {G : Hp → Prop} {Y : Nat → Hp → V → Hp → Prop} {g : TG} {tt : TT} {te : TE} {vs : List Nat} {σ : L2.St} {H1 : Hp} {D : Addr} {Qd : Hp → Prop}
def RInv (Rel : Nat → List V → Hp → Prop) (H1 : Hp) (D : Addr) (i : Nat) (H : Hp) : Prop := Same H1 H ∧ ∃ acc, H D = some (.lst acc) ∧ acc.length ≤ i ∧ Rel i acc (wo D H)
theorem lc_rel (w : Walk J n G Y) (Rel : Nat → List V → Hp → Prop) (hD : H1 D = none) (hz : n ≤ sizeLine) (hG : ∀ H', Same H1 H' → G H') (h0 : Rel 0 [] H1) (hm : ∀ i acc A B, Same A B → Rel i acc A → Rel i acc B)
    (hs : ∀ i x acc Ha Hb, i < n → Same H1 Ha → Ha D = some (.lst acc) → Rel i acc (wo D Ha) → Y i Ha x Hb → ∀ (Yc : V → Hp → Prop) (Nc : Hp → Prop), (∀ y H4, Same Ha H4 → Rel (i + 1) (acc ++ [y]) (wo D H4) → Yc y H4) → (∀ H3, Same Ha H3 → Rel (i + 1) acc (wo D H3) → Nc H3) →
      g x (wipe σ vs) Hb fun σ2 H2 => wipe σ2 vs = wipe σ vs ∧ tt σ2 H2 fun b H3 => if b = true then te σ2 H3 Yc else Nc H3)
    (hd : ∀ acc H', Same H1 H' → H' D = some (.lst acc) → Rel n acc (wo D H') → Qd H') :
    ∃ W : Nat → Nat → Hp → Prop, (∃ m, W 0 m (upd H1 D (.lst []))) ∧ ∀ i m H, W i m H →
      (J.stop i H ∧ Qd H) ∨ (J.go i H ∧ ∃ Nx : Hp → Prop, (∀ H', Nx H' → ∃ m', m' < m ∧ W (i + 1) m' H') ∧ ∀ x H', J.yld i H x H' → g x (wipe σ vs) H' fun σ2 H2 => wipe σ2 vs = wipe σ vs ∧ tt σ2 H2 fun b H3 =>
        if b = true then te σ2 H3 fun y H4 => ∃ acc, H4 D = some (.lst acc) ∧ acc.length < sizeLine ∧ Nx (upd H4 D (.lst (acc ++ [y]))) else Nx H3) := by
  refine lc_it w (RInv Rel H1 D) ⟨same_new hD, [], upd_same, Nat.le_refl _, ?_⟩ (fun i H hi p => hG H p.1) (fun i x H H' hi ⟨s1, acc, ha, hl, hr⟩ y => ?_) (fun H ⟨s1, acc, ha, _, hr⟩ => hd acc H s1 ha hr)
  · rw [wo_upd]
    exact hm _ _ _ _ (same_wo hD (Same.refl _)) h0
  · refine hs i x acc H H' hi s1 ha hr y _ _ (fun y H4 s2 r => ?_) (fun H3 s2 r => ?_)
    · refine ⟨acc, s2 _ _ ha, by omega, ?_, acc ++ [y], upd_same, ?_, ?_⟩
      · intro b o q
        rw [upd_ne (ne_of_none q hD)]
        exact s2 _ _ (s1 _ _ q)
      · rw [List.length_append]; simp only [List.length_cons, List.length_nil]; omega
      · rw [wo_upd]; exact r
    · exact ⟨s1.trans s2, acc, s2 _ _ ha, by omega, r⟩
end
end Fp

namespace K21
/-- the numbers that are sums of the ints that P tells -/
inductive Rch (P : Int → Prop) : Int → Prop
  | zero : Rch P 0
  | step {n c : Int} (h : P c) (r : Rch P n) : Rch P (n + c)
theorem Rch.add {P : Int → Prop} {a b : Int} (ha : Rch P a) (hb : Rch P b) : Rch P (a + b) := by
  induction hb with
  | zero => rw [Int.add_zero]; exact ha
  | step h r ih => rw [← Int.add_assoc]; exact .step h ih
theorem Rch.one {P : Int → Prop} {c : Int} (h : P c) : Rch P c := by
  have q := Rch.step h (.zero (P := P))
  rw [Int.zero_add] at q
  exact q
theorem Rch.trans {P Q : Int → Prop} (h : ∀ c, P c → Rch Q c) {n : Int} (r : Rch P n) : Rch Q n := by
  induction r with
  | zero => exact .zero
  | step hc _ ih => exact ih.add (h _ hc)
theorem Rch.mono {P Q : Int → Prop} (h : ∀ c, P c → Q c) {n : Int} (r : Rch P n) : Rch Q n := r.trans fun c hc => .one (h c hc)
theorem Rch.nonneg {P : Int → Prop} (h : ∀ c, P c → 0 < c) {n : Int} (r : Rch P n) : 0 ≤ n := by
  induction r with
  | zero => exact Int.le_refl 0
  | step hc _ ih => have := h _ hc; omega
theorem Rch.le {P : Int → Prop} (h : ∀ c, P c → 0 < c) {n : Int} (r : Rch P n) : Rch (fun c => P c ∧ c ≤ n) n := by
  induction r with
  | zero => exact .zero
  | @step n c hc r ih =>
    have h0 := Rch.nonneg h r
    have h1 := h _ hc
    exact .step ⟨hc, by omega⟩ (ih.mono fun d hd => ⟨hd.1, by omega⟩)
theorem rch_next {P : Int → Prop} (h : ∀ c, P c → 0 < c) {n : Int} (hn : 0 < n) : Rch P n ↔ ∃ c, P c ∧ c ≤ n ∧ Rch P (n - c) := by
  constructor
  · intro r
    cases r with
    | zero => omega
    | @step m c hc r =>
      have h0 := Rch.nonneg h r
      refine ⟨c, hc, by omega, ?_⟩
      rw [Int.add_sub_cancel]
      exact r
  · rintro ⟨c, hc, _, r⟩
    have q := Rch.step hc r
    rw [Int.sub_add_cancel] at q
    exact q
/-- met, as a bool -/
noncomputable def mb (cs : List Int) (n : Int) : Bool := @decide (Rch (· ∈ cs) n) (Classical.propDecidable _)
theorem mb_iff {cs : List Int} {n : Int} : mb cs n = true ↔ Rch (· ∈ cs) n := by
  unfold mb
  exact @decide_eq_true_iff _ (Classical.propDecidable _)
theorem mb_false {cs : List Int} {n : Int} : mb cs n = false ↔ ¬ Rch (· ∈ cs) n := by
  rw [← mb_iff]
  cases mb cs n <;> simp
theorem mb_congr {cs ds : List Int} {n : Int} (h : Rch (· ∈ cs) n ↔ Rch (· ∈ ds) n) : mb cs n = mb ds n := by
  cases e : mb ds n with
  | true => exact mb_iff.mpr (h.mpr (mb_iff.mp e))
  | false => exact mb_false.mpr fun z => mb_false.mp e (h.mp z)
theorem mb_zero {cs : List Int} : mb cs 0 = true := mb_iff.mpr .zero
def Pos (cs : List Int) : Prop := ∀ c ∈ cs, 0 < c
theorem mb_next {cs : List Int} (h : Pos cs) {n : Int} (hn : 0 < n) : mb cs n = cs.any fun c => decide (c ≤ n) && mb cs (n - c) := by
  cases e : (cs.any fun c => decide (c ≤ n) && mb cs (n - c)) with
  | true =>
    obtain ⟨c, hc, q⟩ := List.any_eq_true.mp e
    rw [Bool.and_eq_true, decide_eq_true_eq] at q
    exact mb_iff.mpr ((rch_next h hn).mpr ⟨c, hc, q.1, mb_iff.mp q.2⟩)
  | false =>
    refine mb_false.mpr fun r => ?_
    obtain ⟨c, hc, hl, r⟩ := (rch_next h hn).mp r
    have q := List.any_eq_false.mp e c hc
    rw [mb_iff.mpr r, decide_eq_true hl] at q
    exact q rfl
/-- the table of what is met -/
noncomputable def tb (cs : List Int) (m : Nat) : List Bool := (List.range m).map fun i : Nat => mb cs ((i : Nat) : Int)
theorem tb_len (cs : List Int) (m : Nat) : (tb cs m).length = m := by unfold tb; rw [List.length_map, List.length_range]
theorem tb_at {cs : List Int} {m i : Nat} (h : i < m) : (tb cs m)[i]? = some (mb cs (i : Int)) := by
  unfold tb
  rw [List.getElem?_map, List.getElem?_range h]; rfl
theorem tb_succ (cs : List Int) (m : Nat) : tb cs (m + 1) = tb cs m ++ [mb cs (m : Int)] := by
  unfold tb
  rw [List.range_succ, List.map_append]; rfl
theorem tb_one (cs : List Int) : tb cs 1 = [true] := by
  rw [tb_succ]
  show [] ++ [mb cs ((0 : Nat) : Int)] = [true]
  rw [show ((0 : Nat) : Int) = 0 from rfl, mb_zero]; rfl
/-! ### least counts -/
def stepL (f : List Int → Int → Bool) (found : List Int) (x : Int) : List Int := if f found x = true then found else found ++ [x]
noncomputable def lst (s : List Int) : List Int := s.foldl (stepL mb) []
structure IsL (cs R : List Int) : Prop where
  srt : R.Pairwise (· < ·)
  mem : ∀ x, x ∈ R ↔ x ∈ cs ∧ ¬ Rch (fun c => c ∈ cs ∧ c < x) x
theorem sorted_ext : ∀ {R S : List Int}, R.Pairwise (· < ·) → S.Pairwise (· < ·) → (∀ x, x ∈ R ↔ x ∈ S) → R = S
  | [], [], _, _, _ => rfl
  | [], y :: _, _, _, h => absurd ((h y).mpr List.mem_cons_self) (by simp)
  | x :: _, [], _, _, h => absurd ((h x).mp List.mem_cons_self) (by simp)
  | x :: R, y :: S, hR, hS, h => by
    obtain ⟨h1, h2⟩ := List.pairwise_cons.mp hR
    obtain ⟨h3, h4⟩ := List.pairwise_cons.mp hS
    have exy : x = y := by
      rcases List.mem_cons.mp ((h x).mp List.mem_cons_self) with e | e
      · exact e
      · rcases List.mem_cons.mp ((h y).mpr List.mem_cons_self) with e' | e'
        · exact e'.symm
        · have a := h1 _ e'
          have b := h3 _ e
          omega
    subst exy
    rw [sorted_ext h2 h4 fun z => ?_]
    constructor
    · intro hz
      rcases List.mem_cons.mp ((h z).mp (List.mem_cons_of_mem _ hz)) with e | e
      · have := h1 _ hz; omega
      · exact e
    · intro hz
      rcases List.mem_cons.mp ((h z).mpr (List.mem_cons_of_mem _ hz)) with e | e
      · have := h3 _ hz; omega
      · exact e
theorem IsL.uniq {cs R S : List Int} (a : IsL cs R) (b : IsL cs S) : R = S := sorted_ext a.srt b.srt fun x => (a.mem x).trans (b.mem x).symm
theorem IsL.congr {cs ds R : List Int} (a : IsL cs R) (h : ∀ x, x ∈ cs ↔ x ∈ ds) : IsL ds R :=
  ⟨a.srt, fun x => by
    have e : (fun c => c ∈ cs ∧ c < x) = fun c => c ∈ ds ∧ c < x := funext fun c => propext (by rw [h])
    rw [a.mem x, h, e]⟩
/-- the state of the search behind a part p of the sorted counts -/
structure Sch (cs p f : List Int) : Prop where
  srt : f.Pairwise (· < ·)
  mem : ∀ x, x ∈ f ↔ x ∈ p ∧ ¬ Rch (fun c => c ∈ cs ∧ c < x) x
  rch : ∀ n, Rch (· ∈ f) n ↔ Rch (· ∈ p) n
theorem Sch.nil {cs : List Int} : Sch cs [] [] := ⟨List.Pairwise.nil, fun x => by simp, fun n => Iff.rfl⟩
theorem Sch.turn {cs p f r : List Int} {x : Int} (hs : (p ++ x :: r).Pairwise (· ≤ ·)) (hm : ∀ c, c ∈ cs ↔ c ∈ p ++ x :: r) (S : Sch cs p f) : Sch cs (p ++ [x]) (stepL mb f x) := by
  have hp : ∀ c ∈ p, c ≤ x := fun c hc => (List.pairwise_append.mp hs).2.2 c hc x List.mem_cons_self
  have hr : ∀ c ∈ r, x ≤ c := fun c hc => (List.pairwise_cons.mp (List.pairwise_append.mp hs).2.1).1 c hc
  have hpc : ∀ c ∈ p, c ∈ cs := fun c hc => (hm c).mpr (List.mem_append_left _ hc)
  have hlow : ∀ c, c ∈ cs → c < x → c ∈ p := fun c hc hl => by
    rcases List.mem_append.mp ((hm c).mp hc) with h | h
    · exact h
    · rcases List.mem_cons.mp h with h | h
      · omega
      · have := hr c h; omega
  have hfp : ∀ c ∈ f, c ∈ p := fun c hc => ((S.mem c).mp hc).1
  have mem1 : ∀ c, c ∈ p ++ [x] ↔ c ∈ p ∨ c = x := fun c => by simp
  unfold stepL
  cases e : mb f x with
  | true =>
    rw [if_pos rfl]
    have rx : Rch (· ∈ p) x := (S.rch x).mp (mb_iff.mp e)
    refine ⟨S.srt, fun y => ?_, fun n => ?_⟩
    · rw [S.mem y, mem1]
      constructor
      · exact fun h => ⟨.inl h.1, h.2⟩
      · rintro ⟨h | h, h2⟩
        · exact ⟨h, h2⟩
        · subst h
          by_cases hy : y ∈ p
          · exact ⟨hy, h2⟩
          · refine absurd (rx.mono fun c hc => ⟨hpc c hc, ?_⟩) h2
            have := hp c hc
            have hne : c ≠ y := fun z => hy (z ▸ hc)
            omega
    · rw [S.rch n]
      constructor
      · exact fun q => q.mono fun c hc => (mem1 c).mpr (.inl hc)
      · refine fun q => q.trans fun c hc => ?_
        rcases (mem1 c).mp hc with h | h
        · exact .one h
        · rw [h]; exact rx
  | false =>
    rw [if_neg Bool.false_ne_true]
    have nx : ¬ Rch (· ∈ p) x := fun z => mb_false.mp e ((S.rch x).mpr z)
    have hxp : x ∉ p := fun z => nx (.one z)
    have mem2 : ∀ c, c ∈ f ++ [x] ↔ c ∈ f ∨ c = x := fun c => by simp
    refine ⟨?_, fun y => ?_, fun n => ?_⟩
    · refine List.pairwise_append.mpr ⟨S.srt, List.pairwise_singleton _ _, fun a ha b hb => ?_⟩
      rw [List.mem_singleton.mp hb]
      have := hp a (hfp a ha)
      have hne : a ≠ x := fun z => hxp (z ▸ hfp a ha)
      omega
    · rw [mem2, S.mem y, mem1]
      constructor
      · rintro (h | h)
        · exact ⟨.inl h.1, h.2⟩
        · subst h
          exact ⟨.inr rfl, fun z => nx (z.mono fun c hc => hlow c hc.1 hc.2)⟩
      · rintro ⟨h | h, h2⟩
        · exact .inl ⟨h, h2⟩
        · exact .inr h
    · constructor
      · refine fun q => q.mono fun c hc => (mem1 c).mpr ?_
        rcases (mem2 c).mp hc with h | h
        · exact .inl (hfp c h)
        · exact .inr h
      · refine fun q => q.trans fun c hc => ?_
        rcases (mem1 c).mp hc with h | h
        · exact ((S.rch c).mpr (.one h)).mono fun d hd => (mem2 d).mpr (.inl hd)
        · exact .one ((mem2 c).mpr (.inr h))
theorem take_split {α : Type} {l : List α} {i : Nat} {x : α} (h : l[i]? = some x) : l = l.take i ++ x :: l.drop (i + 1) := by
  obtain ⟨hi, e⟩ := List.getElem?_eq_some_iff.mp h
  subst e
  rw [← List.drop_eq_getElem_cons hi, List.take_append_drop]
theorem take_one {α : Type} {l : List α} {i : Nat} {x : α} (h : l[i]? = some x) : l.take (i + 1) = l.take i ++ [x] := by
  rw [List.take_add_one, h]; rfl
theorem lst_take {s : List Int} {i : Nat} {x : Int} (h : s[i]? = some x) : lst (s.take (i + 1)) = stepL mb (lst (s.take i)) x := by
  unfold lst
  rw [take_one h, List.foldl_append]; rfl
theorem sch_take {cs s : List Int} (hs : s.Pairwise (· ≤ ·)) (hm : ∀ c, c ∈ cs ↔ c ∈ s) : ∀ i, i ≤ s.length → Sch cs (s.take i) (lst (s.take i))
  | 0, _ => by rw [List.take_zero]; exact Sch.nil
  | i + 1, h => by
    have hx : s[i]? = some s[i] := List.getElem?_eq_getElem h
    have e := take_split hx
    rw [lst_take hx, take_one hx]
    refine Sch.turn (r := s.drop (i + 1)) ?_ ?_ (sch_take hs hm i (Nat.le_of_lt h))
    · rw [← e]; exact hs
    · rw [← e]; exact hm
theorem lst_len_le (s : List Int) : ∀ i, (lst (s.take i)).length ≤ i
  | 0 => by simp [lst]
  | i + 1 => by
    cases e : s[i]? with
    | none =>
      have h : s.length ≤ i := List.getElem?_eq_none_iff.mp e
      have q := lst_len_le s i
      rw [List.take_of_length_le h] at q
      rw [List.take_of_length_le (Nat.le_succ_of_le h)]
      omega
    | some x =>
      have q := lst_len_le s i
      rw [lst_take e]
      unfold stepL
      split
      · omega
      · rw [List.length_append, List.length_singleton]; omega
theorem lst_mem {s : List Int} : ∀ i, ∀ x ∈ lst (s.take i), x ∈ s
  | 0, x, h => by simp [lst] at h
  | i + 1, x, h => by
    cases e : s[i]? with
    | none =>
      have hl : s.length ≤ i := List.getElem?_eq_none_iff.mp e
      rw [List.take_of_length_le (Nat.le_succ_of_le hl), ← List.take_of_length_le hl] at h
      exact lst_mem i x h
    | some y =>
      rw [lst_take e] at h
      unfold stepL at h
      split at h
      · exact lst_mem i x h
      · rcases List.mem_append.mp h with h | h
        · exact lst_mem i x h
        · rw [List.mem_singleton.mp h]; exact List.mem_of_getElem? e
/-- what least counts are -/
structure IsLst (cs R : List Int) : Prop where
  isL : IsL cs R
  rch : ∀ n, Rch (· ∈ R) n ↔ Rch (· ∈ cs) n
theorem lst_is {cs s : List Int} (hs : s.Pairwise (· ≤ ·)) (hm : ∀ c, c ∈ cs ↔ c ∈ s) : IsLst cs (lst s) := by
  have S := sch_take hs hm s.length (Nat.le_refl _)
  rw [List.take_length] at S
  refine ⟨⟨S.srt, fun x => (S.mem x).trans (by rw [hm])⟩, fun n => (S.rch n).trans ?_⟩
  have e : (· ∈ s) = (· ∈ cs) := funext fun c => propext (hm c).symm
  rw [e]
theorem IsLst.self {cs R : List Int} (a : IsLst cs R) : IsL R R :=
  ⟨a.isL.srt, fun x => ⟨fun h => ⟨h, fun z => ((a.isL.mem x).mp h).2 (z.mono fun c hc => ⟨((a.isL.mem c).mp hc.1).1, hc.2⟩)⟩, fun h => h.1⟩⟩
theorem IsLst.more {cs ds R : List Int} {b : Int} (hp : Pos cs) (hb : Rch (· ∈ cs) b) (hm : ∀ x, x ∈ ds ↔ x ∈ cs ∨ x = b) (a : IsLst cs R) : IsL ds R := by
  refine ⟨a.isL.srt, fun x => ?_⟩
  rw [a.isL.mem x, hm]
  have hb' := Rch.le hp hb
  constructor
  · rintro ⟨h1, h2⟩
    refine ⟨.inl h1, fun z => h2 (z.trans fun c hc => ?_)⟩
    rcases (hm c).mp hc.1 with h | h
    · exact .one ⟨h, hc.2⟩
    · subst h
      exact hb'.mono fun d hd => ⟨hd.1, by have := hc.2; have := hd.2; omega⟩
  · rintro ⟨h1, h2⟩
    rcases h1 with h1 | h1
    · exact ⟨h1, fun z => h2 (z.mono fun c hc => ⟨(hm c).mpr (.inl hc.1), hc.2⟩)⟩
    · subst h1
      by_cases hx : x ∈ cs
      · exact ⟨hx, fun z => h2 (z.mono fun c hc => ⟨(hm c).mpr (.inl hc.1), hc.2⟩)⟩
      · refine absurd (hb'.mono fun c hc => ⟨(hm c).mpr (.inl hc.1), ?_⟩) h2
        have hne : c ≠ x := fun z => hx (z ▸ hc.1)
        have := hc.2
        omega
theorem rch_more {cs ds : List Int} {b : Int} (hb : Rch (· ∈ cs) b) (hm : ∀ x, x ∈ ds ↔ x ∈ cs ∨ x = b) (n : Int) : Rch (· ∈ ds) n ↔ Rch (· ∈ cs) n :=
  ⟨fun q => q.trans fun c hc => by
    rcases (hm c).mp hc with h | h
    · exact .one h
    · rw [h]; exact hb, fun q => q.mono fun c hc => (hm c).mpr (.inl hc)⟩
theorem rch_congr {cs ds : List Int} (hm : ∀ x, x ∈ ds ↔ x ∈ cs) (n : Int) : Rch (· ∈ ds) n ↔ Rch (· ∈ cs) n := by
  have e : (· ∈ ds) = (· ∈ cs) := funext fun c => propext (hm c)
  rw [e]
/-! ### common counts -/
def gstep (g c : Int) : Int := ((Nat.gcd g.natAbs c.natAbs : Nat) : Int)
def gl (cs : List Int) : Int := cs.foldl gstep 0
theorem gl_take {s : List Int} {i : Nat} {x : Int} (h : s[i]? = some x) : gl (s.take (i + 1)) = gstep (gl (s.take i)) x := by
  unfold gl
  rw [take_one h, List.foldl_append]; rfl
theorem gfold_nonneg : ∀ (cs : List Int) (g : Int), 0 ≤ g → 0 ≤ cs.foldl gstep g
  | [], g, h => h
  | c :: r, g, _ => gfold_nonneg r (gstep g c) (Int.natCast_nonneg _)
theorem gl_nonneg (cs : List Int) : 0 ≤ gl cs := gfold_nonneg cs 0 (Int.le_refl 0)
theorem gfold_dvd : ∀ (cs : List Int) (g : Int) (d : Nat), d ∣ (cs.foldl gstep g).natAbs ↔ d ∣ g.natAbs ∧ ∀ c ∈ cs, d ∣ c.natAbs
  | [], g, d => by simp
  | c :: r, g, d => by
    rw [List.foldl_cons, gfold_dvd r (gstep g c) d]
    unfold gstep
    rw [Int.natAbs_natCast, Nat.dvd_gcd_iff]
    constructor
    · rintro ⟨⟨h1, h2⟩, h3⟩
      exact ⟨h1, fun x hx => (List.mem_cons.mp hx).elim (fun e => e ▸ h2) (h3 x)⟩
    · rintro ⟨h1, h2⟩
      exact ⟨⟨h1, h2 c List.mem_cons_self⟩, fun x hx => h2 x (List.mem_cons_of_mem _ hx)⟩
theorem gl_dvd (cs : List Int) (d : Nat) : d ∣ (gl cs).natAbs ↔ ∀ c ∈ cs, d ∣ c.natAbs := by
  unfold gl
  rw [gfold_dvd]
  simp
theorem gl_eq {cs ds : List Int} (h : ∀ d : Nat, (∀ c ∈ cs, d ∣ c.natAbs) ↔ ∀ c ∈ ds, d ∣ c.natAbs) : gl cs = gl ds := by
  have e : (gl cs).natAbs = (gl ds).natAbs := Nat.dvd_antisymm ((gl_dvd ds _).mpr ((h _).mp ((gl_dvd cs _).mp (Nat.dvd_refl _)))) ((gl_dvd cs _).mpr ((h _).mpr ((gl_dvd ds _).mp (Nat.dvd_refl _))))
  have h1 := gl_nonneg cs
  have h2 := gl_nonneg ds
  omega
theorem rch_dvd {cs : List Int} {d : Nat} (h : ∀ c ∈ cs, d ∣ c.natAbs) {n : Int} (r : Rch (· ∈ cs) n) : d ∣ n.natAbs := by
  rw [← Int.ofNat_dvd_left] at *
  induction r with
  | zero => exact Int.dvd_zero _
  | step hc _ ih => exact Int.dvd_add ih (Int.ofNat_dvd_left.mpr (h _ hc))
theorem gl_more {cs ds : List Int} {b : Int} (hb : Rch (· ∈ cs) b) (hm : ∀ x, x ∈ ds ↔ x ∈ cs ∨ x = b) : gl ds = gl cs :=
  gl_eq fun d => ⟨fun h c hc => h c ((hm c).mpr (.inl hc)), fun h c hc => by
    rcases (hm c).mp hc with q | q
    · exact h c q
    · rw [q]; exact rch_dvd h hb⟩
theorem gl_congr {cs ds : List Int} (hm : ∀ x, x ∈ ds ↔ x ∈ cs) : gl ds = gl cs := gl_eq fun d => ⟨fun h c hc => h c ((hm c).mpr hc), fun h c hc => h c ((hm c).mp hc)⟩
end K21

namespace K21
open PySem PySem.Spec PyProof.Rows L2 Fp
def top (i : Nat) : Stmt := PySem.Challenge.pw_fromplaces_k29_whole_gaps_by_rests.main.body.getD i (.Pass ⟨0, 0, 0, 0⟩)
abbrev sInteger : Stmt := top 8
abbrev sCount : Stmt := top 9
abbrev sList : Stmt := top 10
abbrev sMany : Stmt := top 11
abbrev sCommon : Stmt := top 16
abbrev sIsMet : Stmt := top 17
abbrev sLeast : Stmt := top 18
abbrev sLeastOf : Stmt := top 25
abbrev sIsCounts : Stmt := top 21
abbrev sCheck : Stmt := top 22
abbrev sTable : Stmt := top 23
abbrev sNext : Stmt := top 24
/-- what the module's names hold -/
structure Mg (mg : Str → Option Value) : Prop where
  isi : mg "isinstance" = none
  int : mg "int" = none
  bool : mg "bool" = none
  list : mg "list" = none
  tuple : mg "tuple" = none
  len : mg "len" = none
  all : mg "all" = none
  any : mg "any" = none
  range : mg "range" = none
  enum : mg "enumerate" = none
  sorted : mg "sorted" = none
  set : mg "set" = none
  repr : mg "repr" = none
  abs : mg "abs" = none
  max : mg "max" = none
  divmod : mg "divmod" = none
  gcd : mg "gcd" = some (.builtin "math.gcd")
  told : ∃ t, mg "MOST_TOLD" = some (.int 8 t)
  great : ∃ t, mg "GREATEST_TOLD" = some (.int 48 t)
  many : ∃ t, mg "MOST_MANY" = some (.int 400 t)
/-- a value is handed back, what is tracked is as it was -/
abbrev Ret (H : Hp) (Q : VK) (v : V) : Prop := ∀ H', Same H H' → Q v H'
theorem ifF {c A B : Prop} [Decidable c] (h : ¬ c) (b : B) : if decide c = true then A else B := by rw [decide_eq_false h]; exact iteF b
theorem ifT {c A B : Prop} [Decidable c] (h : c) (a : A) : if decide c = true then A else B := by rw [decide_eq_true h]; exact iteT a
abbrev VI (ns : List Int) : List V := ns.map V.int
theorem vi_at {ns : List Int} {i : Nat} {x : V} (h : (VI ns)[i]? = some x) : ∃ n, ns[i]? = some n ∧ x = .int n := by
  rw [List.getElem?_map] at h
  cases e : ns[i]? with
  | none => rw [e] at h; cases h
  | some n => rw [e] at h; exact ⟨n, rfl, (Option.some.inj h).symm⟩
section
variable {P : Program} {w : World} {K : PySem.W.Frag} {mg : Str → Option Value} {base : Heap} {k : Nat}
/-! ### whole numbers and lists -/
def spInteger : Sp := fun vs H Q _ => ∃ i : Int, vs = [.int i] ∧ Ret H Q (.bl true)
theorem sc6 : FnScope ["value"] ["value"] (defScope sInteger) := ⟨rfl, rfl, rfl, by decide +kernel, rfl, by decide +kernel, by decide +kernel⟩
theorem d_integer (B : Bnd K mg "is_integer" sInteger) (M : Mg mg) : Def P w K mg base (k + 1) "is_integer" sInteger ["value"] spInteger := by
  refine def_of B sc6 (by rintro _ _ _ _ ⟨i, rfl, _⟩; rfl) (fun _ _ _ _ _ _ us hl => match us, hl with | [_], _ => rfl) fun f cdv A outer s H vs Q E hr h => ?_
  obtain ⟨i, rfl, q⟩ := h
  refine ⟨_, pss_one (ps_ret (pe_and (pe_callB call_isi (by rfl) M.isi (by decide +kernel) (pa_cons (pv 0) (pa_cons (pe_bltn (v := .ty "int") (by rfl) M.int (by decide +kernel) rfl) pa_nil)))
    (pe_one (pe_not (pe_callB call_isi (by rfl) M.isi (by decide +kernel) (pa_cons (pv 0) (pa_cons (pe_bltn (v := .ty "bool") (by rfl) M.bool (by decide +kernel) rfl) pa_nil))))))), ?_⟩
  refine ⟨_, rfl, _, _, _, _, true, rfl, .ty _, .base (.int i), kit_int, true, rfl, iteT ?_⟩
  exact ⟨_, rfl, _, _, _, _, false, rfl, .ty _, .base (.int i), kit_int_bool, false, rfl, q H (Same.refl H)⟩
def spCount : Sp := fun vs H Q _ => ∃ i : Int, vs = [.int i] ∧ Ret H Q (.bl (decide (0 ≤ i)))
theorem sc7 : FnScope ["value"] ["value"] (defScope sCount) := ⟨rfl, rfl, rfl, by decide +kernel, rfl, by decide +kernel, by decide +kernel⟩
theorem d_count (B : Bnd K mg "is_count" sCount) (D : Def P w K mg base k "is_integer" sInteger ["value"] spInteger) : Def P w K mg base (k + 1) "is_count" sCount ["value"] spCount := by
  refine def_of B sc7 (by rintro _ _ _ _ ⟨i, rfl, _⟩; rfl) (fun _ _ _ _ _ _ us hl => match us, hl with | [_], _ => rfl) fun f cdv A outer s H vs Q E hr h => ?_
  obtain ⟨i, rfl, q⟩ := h
  refine ⟨_, pss_one (ps_ret (pe_and (pe_d D hr (by rfl) (pa_cons (pv 0) pa_nil)) (pe_one (pe_cmpR op_ge (pv 0) pe_int (nomark _))))), ?_⟩
  exact ⟨_, rfl, i, rfl, fun H1 s1 => ⟨true, rfl, iteT ⟨_, rfl, i, 0, rfl, rfl, q H1 s1⟩⟩⟩
def spList (K : PySem.W.Frag) : Sp := fun vs H Q _ => ∃ (a : Addr) (xs : List V), vs = [.ref a] ∧ Sq K H a xs ∧ Ret H Q (.bl true)
theorem sc8 : FnScope ["value"] ["value"] (defScope sList) := ⟨rfl, rfl, rfl, by decide +kernel, rfl, by decide +kernel, by decide +kernel⟩
theorem d_list (B : Bnd K mg "is_list" sList) (M : Mg mg) : Def P w K mg base (k + 1) "is_list" sList ["value"] (spList K) := by
  refine def_of B sc8 (by rintro _ _ _ _ ⟨a, xs, rfl, _⟩; rfl) (fun _ _ _ _ _ _ us hl => match us, hl with | [_], _ => rfl) fun f cdv A outer s H vs Q E hr h => ?_
  obtain ⟨a, xs, rfl, hS, q⟩ := h
  refine ⟨_, pss_one (ps_ret (pe_callB call_isiT (by rfl) M.isi (by decide +kernel) (pa_cons (pv 0) (pa_cons (pe_tup (pa_cons (pe_bltn (v := .ty "list") (by rfl) M.list (by decide +kernel) rfl) (pa_cons (pe_bltn (v := .ty "tuple") (by rfl) M.tuple (by decide +kernel) rfl) pa_nil))) pa_nil)))), ?_⟩
  exact ⟨_, rfl, (by show 2 ≤ sizeLine; decide), fun p hp => isi_lt (hS.same (same_new hp)) upd_same (q _ (same_new hp))⟩
def spMany : Sp := fun vs H Q _ => ∃ m lo hi : Int, vs = [.int m, .int lo, .int hi] ∧ 0 ≤ m ∧ lo ≤ m ∧ m ≤ hi ∧ Ret H Q .non
theorem sc9 : FnScope ["many", "least", "most"] ["many", "least", "most"] (defScope sMany) := ⟨rfl, rfl, rfl, by decide +kernel, rfl, by decide +kernel, by decide +kernel⟩
theorem d_many (B : Bnd K mg "check_many" sMany) (D : Def P w K mg base k "is_count" sCount ["value"] spCount) : Def P w K mg base (k + 1) "check_many" sMany ["many", "least", "most"] spMany := by
  refine def_of B sc9 (by rintro _ _ _ _ ⟨m, lo, hi, rfl, _⟩; rfl) (fun _ _ _ _ _ _ us hl => match us, hl with | [_, _, _], _ => rfl) fun f cdv A outer s H vs Q E hr h => ?_
  obtain ⟨m, lo, hi, rfl, h0, h1, h2, q⟩ := h
  refine ⟨_, pss_one (ps_if (PW.pt (pw_or (pt_not (pt_val (pe_d D hr (by rfl) (pa_cons (pv 0) pa_nil)))) (pw_or (pt_cmpR op_lt (pv 0) (pv 1) (nomark _)) (pw_or1 (pt_cmpR op_gt (pv 0) (pv 2) (nomark _)))))) pss_never pss_nil), ?_⟩
  refine ⟨_, rfl, m, rfl, fun H1 s1 => ⟨_, rfl, iteNS h0 ?_⟩⟩
  refine ⟨_, rfl, _, rfl, m, lo, rfl, rfl, _, rfl, ifF (by omega) ?_⟩
  exact ⟨_, rfl, _, rfl, m, hi, rfl, rfl, _, rfl, ifF (by omega) (q H1 s1)⟩
/-! ### told counts -/
/-- told counts: 1 to 8 of them, each from 1 to 48 -/
structure Told (cs : List Int) : Prop where
  lo : 1 ≤ cs.length
  hi : cs.length ≤ 8
  each : ∀ c ∈ cs, 1 ≤ c ∧ c ≤ 48
theorem Told.pos {cs : List Int} (h : Told cs) : Pos cs := fun c hc => by have := (h.each c hc).1; omega
def spIsCounts (K : PySem.W.Frag) : Sp := fun vs H Q _ => ∃ (a : Addr) (cs : List Int), vs = [.ref a] ∧ Sq K H a (VI cs) ∧ Told cs ∧ Ret H Q (.bl true)
theorem sc18 : FnScope ["value", "one"] ["value"] (defScope sIsCounts) := ⟨rfl, rfl, rfl, by decide +kernel, rfl, by decide +kernel, by decide +kernel⟩
theorem all_true {n : Nat} : ((List.range n).filterMap fun _ => some (V.bl true)) = (List.replicate n true).map V.bl := by
  induction n with
  | zero => rfl
  | succ n ih => rw [fm_succ, ih, List.replicate_succ', List.map_append]; rfl
theorem all_rep : ∀ n : Nat, (List.replicate n true).all id = true
  | 0 => rfl
  | n + 1 => by rw [List.replicate_succ, List.all_cons, all_rep n]; rfl
theorem d_isCounts (B : Bnd K mg "is_counts" sIsCounts) (M : Mg mg) (DL : Def P w K mg base k "is_list" sList ["value"] (spList K)) (DC : Def P w K mg base k "is_count" sCount ["value"] spCount) :
    Def P w K mg base (k + 1) "is_counts" sIsCounts ["value"] (spIsCounts K) := by
  refine def_of B sc18 (by rintro _ _ _ _ ⟨a, xs, rfl, _⟩; rfl) (fun _ _ _ _ _ _ us hl => match us, hl with | [_], _ => rfl) fun f cdv A outer s H vs Q E hr h => ?_
  obtain ⟨a, cs, rfl, hS, T, q⟩ := h
  obtain ⟨t8, m8⟩ := M.told
  obtain ⟨t48, m48⟩ := M.great
  refine ⟨_, pss_cons (ps_if (PW.pt (pw_or (pt_not (pt_val (pe_d DL hr (by rfl) (pa_cons (pv 0) pa_nil)))) (pw_or (pt_cmpR op_lt (pe_callB call_len_seq (by rfl) M.len boot_len (pa_cons (pv 0) pa_nil)) pe_int (nomark _))
      (pw_or1 (pt_cmpR op_gt (pe_callB call_len_seq (by rfl) M.len boot_len (pa_cons (pv 0) pa_nil)) (pe_glob (v := .int 8) (by rfl) m8 ⟨_, rfl⟩) (nomark _)))))) pss_never pss_nil)
    (pss_one (ps_ret (pe_callB (cr_all rfl) (by rfl) M.all (by decide +kernel) (pa_cons (pe_lc (own := [("one", 1)]) (g := gName 1) (tt := tYes) rfl sc18.nd (pi_sq (pv 0)) (blkOk_by (own := [("one", 1)]) (N := ["value", "one"]) (sc := defScope sIsCounts) (by decide +kernel))
      (fun _ _ _ _ _ => pg_name (i := 1) sc18.nd rfl (Or.inl rfl)) (fun _ _ _ _ _ => pts_nil)
      (fun _ _ _ _ _ => pe_and (pe_d DC hr (by rfl) (pa_cons (pv 1) pa_nil)) (pe_one (pe_chain op_le op_le pe_int (pv 1) (pe_glob (v := .int 48) (by rfl) m48 ⟨_, rfl⟩))))) pa_nil)))), ?_⟩
  have hl : (VI cs).length = cs.length := List.length_map _
  have t1 := T.lo
  have t2 := T.hi
  refine ⟨_, rfl, a, _, rfl, hS, fun H1 s1 => ⟨true, rfl, ?_⟩⟩
  refine iteF ⟨_, rfl, a, _, rfl, hS.same s1, _, _, rfl, rfl, _, rfl, ifF (by rw [hl]; omega) ?_⟩
  refine ⟨_, rfl, a, _, rfl, hS.same s1, _, _, rfl, rfl, _, rfl, ifF (by rw [hl]; omega) ?_⟩
  dsimp only [tNext, tRet, tCB, tCons, tNil]
  refine lc_sq (xs := VI cs) (fun _ => some (.bl true)) (fun R r => ⟨_, rfl, r⟩) (hS.same s1) (by rw [hl, sizeLine_eq]; omega) (fun i x H2 hx s2 Y N y n => ?_) (fun D H2 s2 hD hD2 => ?_)
  · obtain ⟨c, hc, rfl⟩ := vi_at hx
    have hc2 := T.each c (List.mem_of_getElem? hc)
    refine ⟨rfl, _, rfl, c, rfl, fun H3 s3 => ⟨_, rfl, ifT (by omega) ?_⟩⟩
    refine ⟨_, rfl, _, _, rfl, rfl, _, rfl, ifT (by omega) ⟨_, _, rfl, rfl, ?_⟩⟩
    refine y _ _ s3 ?_
    show some (V.bl true) = some (V.bl (decide (c ≤ 48)))
    rw [decide_eq_true (show c ≤ 48 by omega)]
  · refine ⟨D, List.replicate cs.length true, rfl, SqL.of ?_, ?_⟩
    · rw [hD2, hl, all_true]
    · rw [all_rep]
      exact q H2 (s1.trans s2)
def spCheck (K : PySem.W.Frag) : Sp := fun vs H Q _ => ∃ (a : Addr) (cs : List Int), vs = [.ref a] ∧ Sq K H a (VI cs) ∧ Told cs ∧ Ret H Q .non
theorem sc19 : FnScope ["counts"] ["counts"] (defScope sCheck) := ⟨rfl, rfl, rfl, by decide +kernel, rfl, by decide +kernel, by decide +kernel⟩
theorem d_check (B : Bnd K mg "check_counts" sCheck) (D : Def P w K mg base k "is_counts" sIsCounts ["value"] (spIsCounts K)) : Def P w K mg base (k + 1) "check_counts" sCheck ["counts"] (spCheck K) := by
  refine def_of B sc19 (by rintro _ _ _ _ ⟨a, xs, rfl, _⟩; rfl) (fun _ _ _ _ _ _ us hl => match us, hl with | [_], _ => rfl) fun f cdv A outer s H vs Q E hr h => ?_
  obtain ⟨a, cs, rfl, hS, T, q⟩ := h
  refine ⟨_, pss_one (ps_if (pt_not (pt_val (pe_d D hr (by rfl) (pa_cons (pv 0) pa_nil)))) pss_never pss_nil), ?_⟩
  exact ⟨_, rfl, a, cs, rfl, hS, T, fun H1 s1 => ⟨true, rfl, iteF (q H1 s1)⟩⟩
end
section
variable {P : Program} {w : World} {K : PySem.W.Frag} {mg : Str → Option Value} {base : Heap} {k : Nat}
theorem vi_len (ns : List Int) : (VI ns).length = ns.length := List.length_map _
theorem small {n : Nat} (h : n ≤ 1000) : n < sizeLine := small1000 h
/-! ### common_count -/
def spCommon (K : PySem.W.Frag) : Sp := fun vs H Q _ => ∃ (a : Addr) (cs : List Int), vs = [.ref a] ∧ Sq K H a (VI cs) ∧ Told cs ∧ Ret H Q (.int (gl cs))
theorem sc14 : FnScope ["counts", "found", "one"] ["counts"] (defScope sCommon) := ⟨rfl, rfl, rfl, by decide +kernel, rfl, by decide +kernel, by decide +kernel⟩
theorem d_common (B : Bnd K mg "common_count" sCommon) (M : Mg mg) (D : Def P w K mg base k "check_counts" sCheck ["counts"] (spCheck K)) : Def P w K mg base (k + 1) "common_count" sCommon ["counts"] (spCommon K) := by
  refine def_of B sc14 (by rintro _ _ _ _ ⟨a, xs, rfl, _⟩; rfl) (fun _ _ _ _ _ _ us hl => match us, hl with | [_], _ => rfl) fun f cdv A outer s H vs Q E hr h => ?_
  obtain ⟨a, cs, rfl, hS, T, q⟩ := h
  refine ⟨_, pss_cons (ps_expr (pe_d D hr (by rfl) (pa_cons (pv 0) pa_nil))) (pss_cons (ps_set (i := 1) sc14.nd rfl (.inl rfl) pe_int)
    (pss_cons (ps_for PassesOwn.never rfl (pi_sq (pv 0)) (pg_name (i := 2) sc14.nd rfl (.inl rfl)) (pss_one (ps_set (i := 1) sc14.nd rfl (.inl rfl) (pe_callBfun cr_gcd (by rfl) M.gcd (pa_cons (pv 1) (pa_cons (pv 2) pa_nil))))))
    (pss_one (ps_ret (pv 1))))), ?_⟩
  refine ⟨_, rfl, a, cs, rfl, hS, T, fun H1 s1 => ?_⟩
  dsimp only [tSeq, tAsg, tC, gName]
  refine for_sq (a := a) (xs := VI cs) (fun i σ H' => ∃ y, σ = [some (.ref a), some (.int (gl (cs.take i))), y] ∧ Same H1 H') (fun R r => ⟨_, rfl, r⟩) hS s1 ⟨none, rfl, Same.refl _⟩
    (fun i σ' H' ⟨y, e, s2⟩ => s1.trans s2) (fun i x σ' H' hx ⟨y, e, s2⟩ => ?_) (fun σ' H' ⟨y, e, s2⟩ => ?_)
  · obtain ⟨c, hc, rfl⟩ := vi_at hx
    subst e
    refine ⟨_, rfl, _, rfl, gl (cs.take i), c, rfl, some (.int c), ?_, s2⟩
    rw [gl_take hc]; rfl
  · subst e
    rw [vi_len, List.take_length]
    exact ⟨_, rfl, q _ (s1.trans s2)⟩
/-! ### is_next_met, met_table -/
def spNext (K : PySem.W.Frag) : Sp := fun vs H Q _ => ∃ (a t : Addr) (cs : List Int) (n : Int), vs = [.ref a, .ref t, .int n] ∧ Sq K H a (VI cs) ∧ Pos cs ∧ cs.length ≤ 1000 ∧ SqL K H t ((tb cs n.toNat).map V.bl) ∧ 1 ≤ n ∧ Ret H Q (.bl (mb cs n))
theorem sc21 : FnScope ["counts", "table", "count", "one"] ["counts", "table", "count"] (defScope sNext) := ⟨rfl, rfl, rfl, by decide +kernel, rfl, by decide +kernel, by decide +kernel⟩
theorem bls {cs : List Int} (g : Int → Bool) : (List.range (VI cs).length).filterMap (fun i => (cs[i]?).bind fun c => some (V.bl (g c))) = (cs.map g).map V.bl := by
  rw [vi_len, fm_all, List.map_map]
  induction cs with
  | nil => rfl
  | cons c r ih => rw [List.filterMap_cons, List.map_cons, ih]; rfl
theorem d_next (B : Bnd K mg "is_next_met" sNext) (M : Mg mg) : Def P w K mg base (k + 1) "is_next_met" sNext ["counts", "table", "count"] (spNext K) := by
  refine def_of B sc21 (by rintro _ _ _ _ ⟨a, t, cs, n, rfl, _⟩; rfl) (fun _ _ _ _ _ _ us hl => match us, hl with | [_, _, _], _ => rfl) fun f cdv A outer s H vs Q E hr h => ?_
  obtain ⟨a, t, cs, n, rfl, hS, hp, hz, hT, hn, q⟩ := h
  refine ⟨_, pss_one (ps_ret (pe_callB (cr_any rfl) (by rfl) M.any (by decide +kernel) (pa_cons (pe_lc (own := [("one", 3)]) (g := gName 3) (tt := tYes) rfl sc21.nd (pi_sq (pv 0)) (blkOk_by (own := [("one", 3)]) (N := ["counts", "table", "count", "one"]) (sc := defScope sNext) (by decide +kernel))
      (fun _ _ _ _ _ => pg_name (i := 3) sc21.nd rfl (Or.inl rfl)) (fun _ _ _ _ _ => pts_nil)
      (fun _ _ _ _ _ => pe_and (pe_cmpR op_le (pv 3) (pv 2) (nomark _)) (pe_one (pe_ix (r := rIxL K) ix_list (pv 1) (pe_op op_sub (pv 2) (pv 3)) (fun _ _ => rfl))))) pa_nil))), ?_⟩
  dsimp only [tNext, tRet, tCB, tCons, tNil]
  refine lc_sq (xs := VI cs) (fun i => (cs[i]?).bind fun c => some (.bl (decide (c ≤ n) && mb cs (n - c)))) (fun R r => ⟨_, rfl, r⟩) hS (by rw [vi_len]; exact Nat.le_of_lt (small hz)) (fun i x H2 hx s2 Y N y nn => ?_) (fun D H2 s2 hD hD2 => ?_)
  · obtain ⟨c, hc, rfl⟩ := vi_at hx
    have hc0 := hp c (List.mem_of_getElem? hc)
    refine ⟨rfl, _, rfl, _, rfl, c, n, rfl, rfl, decide (c ≤ n), rfl, ite2 (fun h => ?_) (fun h => ?_)⟩
    · have hle : c ≤ n := of_decide_eq_true h
      have hg : ((tb cs n.toNat).map V.bl)[(n - c).toNat]? = some (.bl (mb cs (n - c))) := by
        rw [List.getElem?_map, tb_at (by omega), show (((n - c).toNat : Nat) : Int) = n - c by omega]; rfl
      refine ⟨_, rfl, _, rfl, _, rfl, n, c, rfl, rfl, t, _, n - c, .bl (mb cs (n - c)), rfl, rfl, s2.seq hT, at_of (by omega) hg, y _ _ (Same.refl _) ?_⟩
      dsimp only
      rw [hc]
      show some (V.bl (decide (c ≤ n) && mb cs (n - c))) = _
      rw [h, Bool.true_and]
    · refine y _ _ (Same.refl _) ?_
      dsimp only
      rw [hc]
      show some (V.bl (decide (c ≤ n) && mb cs (n - c))) = _
      rw [Bool.eq_false_iff.mpr h, Bool.false_and]
  · rw [bls fun c => decide (c ≤ n) && mb cs (n - c)] at hD2
    refine ⟨D, _, rfl, SqL.of hD2, ?_⟩
    rw [List.any_map]
    have e := mb_next hp (show 0 < n by omega)
    show Q (.bl (cs.any fun c => decide (c ≤ n) && mb cs (n - c))) H2
    rw [← e]
    exact q _ s2
def spTable (K : PySem.W.Frag) : Sp := fun vs H Q _ => ∃ (a : Addr) (cs : List Int) (m : Int), vs = [.ref a, .int m] ∧ Sq K H a (VI cs) ∧ Pos cs ∧ cs.length ≤ 1000 ∧ 0 ≤ m ∧ m ≤ 900 ∧
  ∀ p H', Same H H' → H p = none → H' p = some (.lst ((tb cs (m.toNat + 1)).map V.bl)) → Q (.ref p) H'
theorem sc20 : FnScope ["counts", "many", "table", "count"] ["counts", "many"] (defScope sTable) := ⟨rfl, rfl, rfl, by decide +kernel, rfl, by decide +kernel, by decide +kernel⟩
theorem d_table (B : Bnd K mg "met_table" sTable) (M : Mg mg) (D : Def P w K mg base k "is_next_met" sNext ["counts", "table", "count"] (spNext K)) : Def P w K mg base (k + 1) "met_table" sTable ["counts", "many"] (spTable K) := by
  refine def_of B sc20 (by rintro _ _ _ _ ⟨a, cs, n, rfl, _⟩; rfl) (fun _ _ _ _ _ _ us hl => match us, hl with | [_, _], _ => rfl) fun f cdv A outer s H vs Q E hr h => ?_
  obtain ⟨a, cs, m, rfl, hS, hp, hz, h0, h1, q⟩ := h
  refine ⟨_, pss_cons (ps_set (i := 2) sc20.nd rfl (.inl rfl) (pe_lst (pa_cons pe_bl pa_nil)))
    (pss_cons (ps_for PassesOwn.never rfl (pi_range2 (by rfl) M.range (pa_cons pe_int (pa_cons (pe_op op_add (pv 1) pe_int) pa_nil))) (pg_name (i := 3) sc20.nd rfl (.inl rfl))
      (pss_one (ps_expr (pe_bm PySem.F.plainAttrs_list PySem.F.slot_list_append PySem.F.type_list_append mt_append (pv 2) (pa_cons (pe_d D hr (by rfl) (pa_cons (pv 0) (pa_cons (pv 2) (pa_cons (pv 3) pa_nil)))) pa_nil)))))
    (pss_one (ps_ret (pv 2)))), ?_⟩
  refine ⟨(by show 1 ≤ sizeLine; decide), fun p np => ?_⟩
  refine ⟨_, rfl, m, 1, rfl, rfl, 1, m + 1, rfl, ⟨by omega, by omega, by omega, by omega⟩, ?_⟩
  refine for_range (lo := 1) (n := (m + 1 - 1).toNat) (fun i σ H' => ∃ y, σ = [some (.ref a), some (.int m), some (.ref p), y] ∧ Same H H' ∧ H' p = some (.lst ((tb cs (i + 1)).map V.bl)))
    ⟨none, rfl, same_new np, by rw [upd_same, tb_one]; rfl⟩ (fun i σ' H' hi ⟨y, e, s1, hp1⟩ => ?_) (fun σ' H' ⟨y, e, s1, hp1⟩ => ?_)
  · subst e
    refine ⟨_, rfl, Or.inl ⟨rfl, _, SqL.of hp1⟩, _, rfl, _, rfl, _, rfl, a, p, cs, 1 + i, rfl, hS.same s1, hp, hz, ?_, by omega, fun H2 s2 => ?_⟩
    · rw [show (1 + (i : Int)).toNat = i + 1 by omega]
      exact SqL.of hp1
    · refine ⟨p, _, _, rfl, rfl, s2 _ _ hp1, ?_, some (.int (1 + i)), rfl, fun b o hb => ?_, ?_⟩
      · rw [List.length_map, tb_len]
        exact small (by omega)
      · rw [upd_ne (ne_of_none hb np)]
        exact s2 _ _ (s1 _ _ hb)
      · rw [upd_same, tb_succ cs (i + 1), List.map_append, show (1 + (i : Int)) = ((i + 1 : Nat) : Int) by omega]; rfl
  · subst e
    rw [show (m + 1 - 1).toNat = m.toNat by omega] at hp1
    exact ⟨_, rfl, q p H' s1 np hp1⟩
end
section
variable {P : Program} {w : World} {K : PySem.W.Frag} {mg : Str → Option Value} {base : Heap} {k : Nat}
/-! ### is_met, met -/
def spIsMet (K : PySem.W.Frag) : Sp := fun vs H Q _ => ∃ (a : Addr) (cs : List Int) (m : Int), vs = [.ref a, .int m] ∧ Sq K H a (VI cs) ∧ Told cs ∧ 0 ≤ m ∧ m ≤ 400 ∧ Ret H Q (.bl (mb cs m))
theorem sc15 : FnScope ["counts", "many"] ["counts", "many"] (defScope sIsMet) := ⟨rfl, rfl, rfl, by decide +kernel, rfl, by decide +kernel, by decide +kernel⟩
theorem d_isMet (B : Bnd K mg "is_met" sIsMet) (M : Mg mg) (DC : Def P w K mg base k "check_counts" sCheck ["counts"] (spCheck K)) (DM : Def P w K mg base k "check_many" sMany ["many", "least", "most"] spMany)
    (DT : Def P w K mg base k "met_table" sTable ["counts", "many"] (spTable K)) : Def P w K mg base (k + 1) "is_met" sIsMet ["counts", "many"] (spIsMet K) := by
  refine def_of B sc15 (by rintro _ _ _ _ ⟨a, cs, n, rfl, _⟩; rfl) (fun _ _ _ _ _ _ us hl => match us, hl with | [_, _], _ => rfl) fun f cdv A outer s H vs Q E hr h => ?_
  obtain ⟨a, cs, m, rfl, hS, T, h0, h1, q⟩ := h
  obtain ⟨t4, m4⟩ := M.many
  refine ⟨_, pss_cons (ps_expr (pe_d DC hr (by rfl) (pa_cons (pv 0) pa_nil)))
    (pss_cons (ps_expr (pe_d DM hr (by rfl) (pa_cons (pv 1) (pa_cons pe_int (pa_cons (pe_glob (v := .int 400) (by rfl) m4 ⟨_, rfl⟩) pa_nil)))))
    (pss_one (ps_ret (pe_ix ix_list (pe_d DT hr (by rfl) (pa_cons (pv 0) (pa_cons (pv 1) pa_nil))) (pv 1) (fun _ _ => rfl))))), ?_⟩
  have t2 := T.hi
  refine ⟨_, rfl, a, cs, rfl, hS, T, fun H1 s1 => ?_⟩
  refine ⟨_, rfl, m, 0, 400, rfl, h0, h0, h1, fun H2 s2 => ?_⟩
  have s3 := s1.trans s2
  refine ⟨_, rfl, _, rfl, a, cs, m, rfl, hS.same s3, T.pos, by omega, h0, by omega, fun p H4 s4 np hp => ?_⟩
  refine ⟨_, rfl, p, _, m, _, rfl, rfl, SqL.of hp, at_of (j := m.toNat) (by omega) ?_, q _ (s3.trans s4)⟩
  rw [List.getElem?_map, tb_at (by omega), show ((m.toNat : Nat) : Int) = m by omega]; rfl
/-- the met ones up to m -/
noncomputable def metL (cs : List Int) (m : Nat) : List Int := (List.range (m + 1)).filterMap fun i : Nat => if mb cs ((i : Nat) : Int) = true then some ((i : Nat) : Int) else none
theorem metL_congr {cs ds : List Int} (h : ∀ n, mb cs n = mb ds n) (m : Nat) : metL cs m = metL ds m := by
  unfold metL
  congr 1
  funext i
  rw [h]
theorem metL_len (cs : List Int) (m : Nat) : (metL cs m).length ≤ m + 1 := fm_len _ _
theorem mem_metL {cs : List Int} {m : Nat} {x : Int} (h : x ∈ metL cs m) : mb cs x = true ∧ 0 ≤ x ∧ x ≤ m := by
  obtain ⟨i, hi, e⟩ := List.mem_filterMap.mp h
  split at e
  · rename_i hm
    have e' := Option.some.inj e
    have := List.mem_range.mp hi
    rw [← e']
    exact ⟨hm, by omega, by omega⟩
  · cases e
theorem fm_vi (f : Nat → Option Int) (n : Nat) : (List.range n).filterMap (fun i => (f i).map V.int) = VI ((List.range n).filterMap f) := by
  induction n with
  | zero => rfl
  | succ n ih =>
    rw [fm_succ, fm_succ, ih]
    cases f n <;> simp
/-! ### least_counts -/
def spLeast (K : PySem.W.Frag) : Sp := fun vs H Q _ => ∃ (a : Addr) (cs : List Int), vs = [.ref a] ∧ Sq K H a (VI cs) ∧ Told cs ∧
  ∀ p H' R, IsLst cs R → (∀ x ∈ R, x ∈ cs) → R.length ≤ 8 → Same H H' → H p = none → H' p = some (.lst (VI R)) → Q (.ref p) H'
theorem sc17 : FnScope ["counts", "found", "one"] ["counts"] (defScope sLeastOf) := ⟨rfl, rfl, rfl, by decide +kernel, rfl, by decide +kernel, by decide +kernel⟩
theorem d_leastOf (B : Bnd K mg "least_of" sLeastOf) (M : Mg mg) (DT : Def P w K mg base k "met_table" sTable ["counts", "many"] (spTable K)) :
    Def P w K mg base (k + 1) "least_of" sLeastOf ["counts"] (spLeast K) := by
  refine def_of B sc17 (by rintro _ _ _ _ ⟨a, cs, rfl, _⟩; rfl) (fun _ _ _ _ _ _ us hl => match us, hl with | [_], _ => rfl) fun f cdv A outer s H vs Q E hr h => ?_
  obtain ⟨a, cs, rfl, hS, T, q⟩ := h
  refine ⟨_, pss_cons (ps_set (i := 1) sc17.nd rfl (.inl rfl) (pe_lst pa_nil))
    (pss_cons (ps_for PassesOwn.never rfl (pi_list (pe_callB (cr_sortedSet rfl) (by rfl) M.sorted (by decide +kernel) (pa_cons (pe_callTy (cr_setI rfl) (by rfl) M.set (by decide +kernel) (pa_cons (pv 0) pa_nil)) pa_nil))) (pg_name (i := 2) sc17.nd rfl (.inl rfl))
      (pss_one (ps_if (pt_not (pt_val (pe_ix ix_list (pe_d DT hr (by rfl) (pa_cons (pv 1) (pa_cons (pv 2) pa_nil))) (pv 2) (fun _ _ => rfl)))) (pss_one (ps_expr (pe_bm PySem.F.plainAttrs_list PySem.F.slot_list_append PySem.F.type_list_append mt_append (pv 1) (pa_cons (pv 2) pa_nil)))) pss_nil)))
    (pss_one (ps_ret (pv 1)))), ?_⟩
  have t2 := T.hi
  have s1 := Same.refl H
  refine ⟨Nat.zero_le _, fun p np => ?_⟩
  have s2 : Same H (upd H p (.lst [])) := same_new np
  refine ⟨_, rfl, a, cs, rfl, hS.same (s1.trans s2), by omega, fun d n hn nd => ?_⟩
  have s3 : Same (upd H p (.lst [])) (upd (upd H p (.lst [])) d (SetO w d (fun j => decide (j ∈ cs)) n)) := same_new nd
  refine ⟨d, _, n, rfl, upd_same, by omega, fun ns r srt mem ln nr => ?_⟩
  have s4 := s3.trans (same_new (o := .lst (VI ns)) nr)
  have hm : ∀ c, c ∈ cs ↔ c ∈ ns := fun c => by rw [mem c, decide_eq_true_eq]
  have ne : p ≠ r := ne_of_none (s3 _ _ upd_same) nr
  refine ⟨r, rfl, ⟨_, SqL.of upd_same⟩, ?_⟩
  refine for_list (xs := VI ns) (fun i σ H' => ∃ y, σ = [some (.ref a), some (.ref p), y] ∧ Same H H' ∧ H' p = some (.lst (VI (lst (ns.take i)))) ∧ H' r = some (.lst (VI ns)))
    ⟨none, rfl, s2.trans s4, by rw [upd_ne ne]; exact s3 _ _ upd_same, upd_same⟩ (fun i σ' H' _ ⟨_, _, _, _, e⟩ => SqL.of e) (fun i x σ' H' hx ⟨y, e, s5, hp, hr2⟩ => ?_) (fun σ' H' ⟨y, e, s5, hp, hr2⟩ => ?_)
  · obtain ⟨c, hc, rfl⟩ := vi_at hx
    subst e
    have hcn : c ∈ cs := (hm c).mpr (List.mem_of_getElem? hc)
    have hc2 := T.each c hcn
    have hi : i < ns.length := (List.getElem?_eq_some_iff.mp hc).1
    have hl := lst_len_le ns i
    refine ⟨_, rfl, _, rfl, p, lst (ns.take i), c, rfl, sq_lst hp, fun z hz => ?_, by omega, by omega, by omega, fun t H6 s6 nt ht => ?_⟩
    · have := (T.each z ((hm z).mpr (lst_mem i z hz))).1
      omega
    refine ⟨_, rfl, t, _, c, .bl (mb (lst (ns.take i)) c), rfl, rfl, SqL.of ht, at_of (j := c.toNat) (by omega) ?_, mb (lst (ns.take i)) c, rfl, ?_⟩
    · rw [List.getElem?_map, tb_at (by omega), show ((c.toNat : Nat) : Int) = c by omega]; rfl
    · have e2 := lst_take hc
      unfold stepL at e2
      cases em : mb (lst (ns.take i)) c with
      | true =>
        rw [em, if_pos rfl] at e2
        refine iteF ⟨some (.int c), rfl, s5.trans s6, ?_, s6 _ _ hr2⟩
        rw [e2]
        exact s6 _ _ hp
      | false =>
        rw [em, if_neg Bool.false_ne_true] at e2
        refine iteT ⟨_, rfl, Or.inl ⟨rfl, _, SqL.of (s6 _ _ hp)⟩, _, rfl, p, _, _, rfl, rfl, s6 _ _ hp, ?_, some (.int c), rfl, fun b o hb => ?_, ?_, ?_⟩
        · rw [vi_len]
          exact small (by omega)
        · rw [upd_ne (ne_of_none hb np)]
          exact s6 _ _ (s5 _ _ hb)
        · rw [upd_same, e2]
          show some (HO.lst (VI (lst (ns.take i)) ++ [V.int c])) = some (HO.lst (VI (lst (ns.take i) ++ [c])))
          unfold VI
          rw [List.map_append]; rfl
        · rw [upd_ne ne.symm]
          exact s6 _ _ hr2
  · subst e
    rw [vi_len, List.take_length] at hp
    have srt' : ns.Pairwise (· ≤ ·) := srt.imp fun h => Int.le_of_lt h
    have ll := lst_len_le ns ns.length
    rw [List.take_length] at ll
    refine ⟨_, rfl, q p H' (lst ns) (lst_is srt' hm) (fun x hx => (hm x).mpr ?_) (by omega) (s1.trans s5) (s1.free np) hp⟩
    have z := lst_mem (s := ns) ns.length x
    rw [List.take_length] at z
    exact z hx
theorem sc17b : FnScope ["counts"] ["counts"] (defScope sLeast) := ⟨rfl, rfl, rfl, by decide +kernel, rfl, by decide +kernel, by decide +kernel⟩
theorem d_least (B : Bnd K mg "least_counts" sLeast) (DC : Def P w K mg base k "check_counts" sCheck ["counts"] (spCheck K)) (DO : Def P w K mg base k "least_of" sLeastOf ["counts"] (spLeast K)) :
    Def P w K mg base (k + 1) "least_counts" sLeast ["counts"] (spLeast K) := by
  refine def_of B sc17b (by rintro _ _ _ _ ⟨a, cs, rfl, _⟩; rfl) (fun _ _ _ _ _ _ us hl => match us, hl with | [_], _ => rfl) fun f cdv A outer s H vs Q E hr h => ?_
  obtain ⟨a, cs, rfl, hS, T, q⟩ := h
  refine ⟨_, pss_cons (ps_expr (pe_d DC hr (by rfl) (pa_cons (pv 0) pa_nil))) (pss_one (ps_ret (pe_d DO hr (by rfl) (pa_cons (pv 0) pa_nil)))), ?_⟩
  exact ⟨_, rfl, a, cs, rfl, hS, T, fun H1 s1 => ⟨_, rfl, a, cs, rfl, hS.same s1, T, fun p H' R r1 r2 r3 s2 np hp => q p H' R r1 r2 r3 (s1.trans s2) (s1.free np) hp⟩⟩
end
abbrev sPot : Stmt := top 28
abbrev sDraw : Stmt := top 29
abbrev sDivisor : Stmt := top 30
abbrev sLCommon : Stmt := top 31
abbrev sCounts : Stmt := top 32
/-- a pot: two numbers, none below 0, the second one small -/
def PotOk (H : Hp) (p : Addr) : Prop := ∃ u v : Int, H p = some (.lst [.int u, .int v]) ∧ 0 ≤ u ∧ 0 ≤ v ∧ v ≤ 2147483563
theorem PotOk.same {H H' : Hp} {p : Addr} (h : PotOk H p) (e : Same H H') : PotOk H' p := let ⟨u, v, a, b⟩ := h; ⟨u, v, e _ _ a, b⟩
section
variable {P : Program} {w : World} {K : PySem.W.Frag} {mg : Str → Option Value} {base : Heap} {k : Nat}
def spPot (K : PySem.W.Frag) : Sp := fun vs H Q _ => ∃ (a : Addr) (ns : List Int) (k : Int), vs = [.ref a, .int k] ∧ SqL K H a (VI ns) ∧ 0 ≤ k ∧ k ≤ 100 ∧ ∀ p H', Same H H' → H p = none → PotOk H' p → Q (.ref p) H'
theorem sc23 : FnScope ["_law_script", "_law_k", "_law_cell"] ["_law_script", "_law_k"] (defScope sPot) := ⟨rfl, rfl, rfl, by decide +kernel, rfl, by decide +kernel, by decide +kernel⟩
theorem d_pot (B : Bnd K mg "_law_pot" sPot) (M : Mg mg) : Def P w K mg base (k + 1) "_law_pot" sPot ["_law_script", "_law_k"] (spPot K) := by
  refine def_of B sc23 (by rintro _ _ _ _ ⟨a, ns, n, rfl, _⟩; rfl) (fun _ _ _ _ _ _ us hl => match us, hl with | [_, _], _ => rfl) fun f cdv A outer s H vs Q E hr h => ?_
  obtain ⟨a, ns, n, rfl, hS, h0, h1, q⟩ := h
  refine ⟨_, pss_cons (ps_set (i := 2) sc23.nd rfl (.inl rfl) (pe_ifExp (pt_cmpR op_lt (pv 1) (pe_callB call_len_seq (by rfl) M.len boot_len (pa_cons (pv 0) pa_nil)) (nomark _)) (pe_callB call_abs (by rfl) M.abs (by decide +kernel) (pa_cons (pe_ix ix_list (pv 0) (pv 1) (fun _ _ => rfl)) pa_nil))
      (pe_op op_add (pe_op op_mul pe_int (pv 1)) pe_int)))
    (pss_one (ps_ret (pe_lst (pa_cons (pe_callB (call_max2 rfl) (by rfl) M.max (by decide +kernel) (pa_cons pe_int (pa_cons (pe_op op_sub (pv 2) (pe_op op_pow pe_int pe_int)) pa_nil)))
      (pa_cons (pe_op op_add (pe_op op_mod (pe_callTy call_int1 (by rfl) M.int (by decide +kernel) (pa_cons (pe_op op_add (pe_op op_add (pe_op op_mul (pe_op op_mod (pe_callTy call_int1 (by rfl) M.int (by decide +kernel) (pa_cons (pv 2) pa_nil)) pe_int) pe_int) (pe_op op_mul pe_int (pv 1))) pe_int) pa_nil)) pe_int) pe_int) pa_nil))))), ?_⟩
  have l0 := vi_len ns
  refine ⟨_, rfl, _, rfl, a, _, rfl, .inl hS, _, _, rfl, rfl, _, rfl, ite2 (fun c => ?_) (fun c => ?_)⟩
  · have c' := of_decide_eq_true c
    rw [l0] at c'
    have hz : ns[n.toNat]? = some ns[n.toNat] := List.getElem?_eq_getElem (by omega)
    refine ⟨_, rfl, _, rfl, a, _, n, .int ns[n.toNat], rfl, rfl, hS, at_of (j := n.toNat) (by omega) (by rw [List.getElem?_map, hz]; rfl), _, rfl, ?_⟩
    refine ⟨_, rfl, 10, 18, rfl, rfl, ⟨by omega, by omega, by decide⟩, _, _, rfl, rfl, _, _, rfl, ?_⟩
    refine ⟨_, rfl, Or.inl ⟨_, rfl, ?_⟩⟩
    refine ⟨_, _, rfl, rfl, (by omega), _, _, rfl, rfl, .inl ⟨by omega, by omega⟩, _, rfl, _, _, rfl, rfl, .inl ⟨by omega, by omega⟩, _, _, rfl, rfl, _, _, rfl, rfl, ?_⟩
    refine Or.inl ⟨_, rfl, ?_⟩
    refine ⟨_, _, rfl, rfl, (by omega), _, _, rfl, rfl, (by show 2 ≤ sizeLine; decide), fun p hp => ?_⟩
    refine q p _ (same_new hp) hp ⟨_, _, upd_same, ?_, ?_, ?_⟩
    · split <;> omega
    · omega
    · omega
  · refine ⟨_, rfl, _, _, rfl, rfl, .inl ⟨by omega, by omega⟩, _, _, rfl, rfl, ?_⟩
    refine ⟨_, rfl, 10, 18, rfl, rfl, ⟨by omega, by omega, by decide⟩, _, _, rfl, rfl, _, _, rfl, ?_⟩
    refine ⟨_, rfl, Or.inl ⟨_, rfl, ?_⟩⟩
    refine ⟨_, _, rfl, rfl, (by omega), _, _, rfl, rfl, .inl ⟨by omega, by omega⟩, _, rfl, _, _, rfl, rfl, .inl ⟨by omega, by omega⟩, _, _, rfl, rfl, _, _, rfl, rfl, ?_⟩
    refine Or.inl ⟨_, rfl, ?_⟩
    refine ⟨_, _, rfl, rfl, (by omega), _, _, rfl, rfl, (by show 2 ≤ sizeLine; decide), fun p hp => ?_⟩
    refine q p _ (same_new hp) hp ⟨_, _, upd_same, ?_, ?_, ?_⟩
    · split <;> omega
    · omega
    · omega
/-! ### draws -/
def spDraw : Sp := fun vs H Q _ => ∃ (p : Addr) (m : Int), vs = [.ref p, .int m] ∧ PotOk H p ∧ 1 ≤ m ∧ m ≤ 1000000 ∧ ∀ d H', 0 ≤ d → d < m → PotOk H' p → Keep p H H' → Q (.int d) H'
theorem sc24 : FnScope ["_law_pot_here", "_law_many", "_law_digit"] ["_law_pot_here", "_law_many"] (defScope sDraw) := ⟨rfl, rfl, rfl, by decide +kernel, rfl, by decide +kernel, by decide +kernel⟩
theorem d_draw (B : Bnd K mg "_law_draw" sDraw) (M : Mg mg) : Def P w K mg base (k + 1) "_law_draw" sDraw ["_law_pot_here", "_law_many"] spDraw := by
  refine def_of B sc24 (by rintro _ _ _ _ ⟨a, n, rfl, _⟩; rfl) (fun _ _ _ _ _ _ us hl => match us, hl with | [_, _], _ => rfl) fun f cdv A outer s H vs Q E hr h => ?_
  obtain ⟨p, m, rfl, ⟨u, v, hp, hu, hv, hv2⟩, h1, h2, q⟩ := h
  refine ⟨_, pss_cons (ps_if (pt_cmpR op_gt (pe_ix ix_list (pv 0) pe_int (fun _ _ => rfl)) pe_int (nomark _))
      (pss_cons (ps_asg (pe_callB call_divmod (by rfl) M.divmod (by decide +kernel) (pa_cons (pe_ix ix_list (pv 0) pe_int (fun _ _ => rfl)) (pa_cons (pv 1) pa_nil))) (pg_tup rfl (pgs_cons (pg_sub (pv 0) pe_int set_list) (pgs_cons (pg_name (i := 2) sc24.nd rfl (.inl rfl)) pgs_nil))))
        (pss_one (ps_ret (pv 2)))) pss_nil)
    (pss_cons (ps_asg (pe_op op_mod (pe_callTy call_int1 (by rfl) M.int (by decide +kernel) (pa_cons (pe_op op_add (pe_op op_mul (pe_ix ix_list (pv 0) pe_int (fun _ _ => rfl)) pe_int) pe_int) pa_nil)) pe_int) (pg_sub (pv 0) pe_int set_list))
    (pss_one (ps_ret (pe_op op_mod (pe_callTy call_int1 (by rfl) M.int (by decide +kernel) (pa_cons (pe_op op_fdiv (pe_op op_mod (pe_callTy call_int1 (by rfl) M.int (by decide +kernel) (pa_cons (pe_op op_mul (pe_ix ix_list (pv 0) pe_int (fun _ _ => rfl)) (pe_ix ix_list (pv 0) pe_int (fun _ _ => rfl))) pa_nil)) pe_int) pe_int) pa_nil)) (pv 1))))), ?_⟩
  refine ⟨_, rfl, p, _, 0, .int u, rfl, rfl, SqL.of hp, rfl, u, 0, rfl, rfl, _, rfl, ite2 (fun c => ?_) (fun c => ?_)⟩
  · have c' := of_decide_eq_true c
    refine ⟨_, rfl, p, _, 0, .int u, rfl, rfl, SqL.of hp, rfl, _, rfl, u, m, rfl, ⟨by omega, by omega⟩, fun t nt => ?_⟩
    have ne : p ≠ t := ne_of_none hp nt
    refine ⟨t, _, rfl, SqT.of upd_same, rfl, _, _, rfl, _, rfl, p, _, 0, 0, rfl, rfl, by rw [upd_ne ne]; exact hp, rfl, _, _, rfl, rfl, _, rfl, ?_⟩
    refine q _ _ (Int.emod_nonneg _ (by omega)) (Int.emod_lt_of_pos _ (by omega)) ⟨u / m, v, upd_same, Int.ediv_nonneg hu (by omega), hv, hv2⟩ ?_
    exact (Keep.of (same_new nt)).trans keep_upd
  · refine ⟨_, rfl, p, _, 1, .int v, rfl, rfl, SqL.of hp, rfl, v, _, rfl, rfl, .inl ⟨by omega, by omega⟩, _, _, rfl, rfl, Or.inl ⟨_, rfl, _, _, rfl, rfl, by omega, ?_⟩⟩
    refine ⟨_, rfl, p, _, 1, 1, rfl, rfl, hp, rfl, ?_⟩
    have b0 : 0 ≤ (v * 40014 + 1109) % 2147483563 := Int.emod_nonneg _ (by omega)
    have b1 : (v * 40014 + 1109) % 2147483563 < 2147483563 := Int.emod_lt_of_pos _ (by omega)
    have hp' : (upd H p (.lst ([V.int u, V.int v].set 1 (.int ((v * 40014 + 1109) % 2147483563))))) p = some (.lst [.int u, .int ((v * 40014 + 1109) % 2147483563)]) := upd_same
    refine ⟨_, rfl, p, _, 1, _, rfl, rfl, SqL.of hp', rfl, _, rfl, p, _, 1, _, rfl, rfl, SqL.of hp', rfl, _, _, rfl, rfl, .inl ⟨by omega, by omega⟩, Or.inl ⟨_, rfl, _, _, rfl, rfl, by omega, _, _, rfl, rfl, ⟨by omega, by omega⟩, Or.inl ⟨_, rfl, ?_⟩⟩⟩
    refine ⟨_, rfl, _, m, rfl, rfl, by omega, ?_⟩
    exact q _ _ (Int.emod_nonneg _ (by omega)) (Int.emod_lt_of_pos _ (by omega)) ⟨u, _, hp', hu, b0, by omega⟩ keep_upd
def spCounts : Sp := fun vs H Q _ => ∃ (p : Addr) (mm mo : Int), vs = [.ref p, .int mm, .int mo] ∧ PotOk H p ∧ 1 ≤ mm ∧ mm ≤ 500 ∧ 1 ≤ mo ∧ mo ≤ 1000 ∧
  ∀ r H' (cs : List Int), 1 ≤ cs.length → (cs.length : Int) ≤ mm → (∀ c ∈ cs, 1 ≤ c ∧ c ≤ mo) → PotOk H' p → Keep p H H' → H r = none → H' r = some (.lst (VI cs)) → Q (.ref r) H'
theorem sc29 : FnScope ["_law_pot_here", "_law_most_many", "_law_most", "_law_found", "_law_turn"] ["_law_pot_here", "_law_most_many", "_law_most"] (defScope sCounts) := ⟨rfl, rfl, rfl, by decide +kernel, rfl, by decide +kernel, by decide +kernel⟩
theorem d_counts (B : Bnd K mg "_law_counts" sCounts) (M : Mg mg) (D : Def P w K mg base k "_law_draw" sDraw ["_law_pot_here", "_law_many"] spDraw) : Def P w K mg base (k + 1) "_law_counts" sCounts ["_law_pot_here", "_law_most_many", "_law_most"] spCounts := by
  refine def_of B sc29 (by rintro _ _ _ _ ⟨a, n, x, rfl, _⟩; rfl) (fun _ _ _ _ _ _ us hl => match us, hl with | [_, _, _], _ => rfl) fun f cdv A outer s H vs Q E hr h => ?_
  obtain ⟨p, mm, mo, rfl, hp, l1, l2, l3, l4, q⟩ := h
  refine ⟨_, pss_cons (ps_set (i := 3) sc29.nd rfl (.inl rfl) (pe_lst pa_nil))
    (pss_cons (ps_for PassesOwn.never rfl (pi_range1 (by rfl) M.range (pa_cons (pe_op op_add pe_int (pe_d D hr (by rfl) (pa_cons (pv 0) (pa_cons (pv 1) pa_nil)))) pa_nil)) (pg_name (i := 4) sc29.nd rfl (.inl rfl))
      (pss_one (ps_expr (pe_bm PySem.F.plainAttrs_list PySem.F.slot_list_append PySem.F.type_list_append mt_append (pv 3) (pa_cons (pe_op op_add pe_int (pe_d D hr (by rfl) (pa_cons (pv 0) (pa_cons (pv 2) pa_nil)))) pa_nil)))))
    (pss_one (ps_ret (pv 3)))), ?_⟩
  refine ⟨Nat.zero_le _, fun r nr => ?_⟩
  have ne : r ≠ p := fun z => by
    obtain ⟨u, v, e, _⟩ := hp
    rw [z, e] at nr
    cases nr
  have s1 : Same H (upd H r (.lst [])) := same_new nr
  refine ⟨_, rfl, _, rfl, p, mm, rfl, hp.same s1, l1, by omega, fun d H1 d0 d1 hp1 k1 => ?_⟩
  refine ⟨1, d, rfl, rfl, 1 + d, rfl, by omega, by omega, ?_⟩
  refine for_range (lo := 0) (n := (1 + d).toNat) (fun i σ H' => ∃ (y : Option V) (cs : List Int), σ = [some (.ref p), some (.int mm), some (.int mo), some (.ref r), y] ∧ cs.length = i ∧ (∀ c ∈ cs, 1 ≤ c ∧ c ≤ mo) ∧ PotOk H' p ∧ Keep p H H' ∧ H' r = some (.lst (VI cs)))
    ⟨none, [], rfl, rfl, fun c hc => absurd hc (by simp), hp1, (Keep.of s1).trans k1, k1 _ _ ne upd_same⟩ (fun i σ' H' hi ⟨y, cs, e, el, ec, pk, kk, hr'⟩ => ?_) (fun σ' H' ⟨y, cs, e, el, ec, pk, kk, hr'⟩ => ?_)
  · subst e
    refine ⟨_, rfl, Or.inl ⟨rfl, _, SqL.of hr'⟩, _, rfl, _, rfl, p, mo, rfl, pk, l3, by omega, fun z H2 z0 z1 pk2 k2 => ?_⟩
    have hr2 := k2 _ _ ne hr'
    refine ⟨1, z, rfl, rfl, r, _, _, rfl, rfl, hr2, by rw [vi_len]; exact small (by omega), some (.int (0 + (i : Int))), cs ++ [1 + z], rfl, by rw [List.length_append, el]; rfl, fun c hc => ?_, ?_, fun b o hb ho => ?_, ?_⟩
    · rcases List.mem_append.mp hc with h | h
      · exact ec c h
      · rw [List.mem_singleton.mp h]; omega
    · obtain ⟨u, v, e, x⟩ := pk2
      exact ⟨u, v, by rw [upd_ne ne.symm]; exact e, x⟩
    · rw [upd_ne (ne_of_none ho nr)]
      exact k2 _ _ hb (kk _ _ hb ho)
    · rw [upd_same]
      unfold VI
      rw [List.map_append]; rfl
  · subst e
    exact ⟨_, rfl, q r H' cs (by omega) (by omega) ec pk kk nr hr'⟩
end
/-! ### lists of marks -/
theorem set_mid {α : Type} : ∀ (A : List α) (b x : α) (R : List α), (A ++ b :: R).set A.length x = A ++ x :: R
  | [], _, _, _ => rfl
  | a :: A, b, x, R => by
    show a :: ((A ++ b :: R).set A.length x) = a :: (A ++ x :: R)
    rw [set_mid A b x R]
/-- the marks while the number i + 1 is asked -/
noncomputable def mid (cs : List Int) (i m : Nat) (b : Bool) : List Bool := tb cs (i + 1) ++ b :: List.replicate (m - i - 1) false
theorem mid_len {cs : List Int} {i m : Nat} {b : Bool} (h : i < m) : (mid cs i m b).length = m + 1 := by
  unfold mid
  rw [List.length_append, tb_len, List.length_cons, List.length_replicate]
  omega
theorem mid_at {cs : List Int} {i m j : Nat} {b : Bool} (h : j ≤ i) : (mid cs i m b)[j]? = some (mb cs (j : Int)) := by
  unfold mid
  rw [List.getElem?_append_left (by rw [tb_len]; omega), tb_at (by omega)]
theorem mid_set {cs : List Int} {i m : Nat} {b x : Bool} : ((mid cs i m b).map V.bl).set (i + 1) (.bl x) = (mid cs i m x).map V.bl := by
  unfold mid
  have e := set_mid ((tb cs (i + 1)).map V.bl) (V.bl b) (V.bl x) ((List.replicate (m - i - 1) false).map V.bl)
  rw [List.length_map, tb_len] at e
  rw [List.map_append, List.map_append, List.map_cons, List.map_cons]
  exact e
theorem mid_start {cs : List Int} {i m : Nat} (h : i < m) : mid cs i m false = tb cs (i + 1) ++ List.replicate (m - i) false := by
  unfold mid
  rw [show m - i = (m - i - 1) + 1 by omega, List.replicate_succ]
  rw [show m - i - 1 + 1 - 1 = m - i - 1 by omega]
theorem mid_end {cs : List Int} {i m : Nat} : mid cs i m (mb cs ((i + 1 : Nat) : Int)) = tb cs (i + 1 + 1) ++ List.replicate (m - (i + 1)) false := by
  unfold mid
  rw [tb_succ cs (i + 1), List.append_assoc, show m - (i + 1) = m - i - 1 by omega]; rfl
section
variable {P : Program} {w : World} {K : PySem.W.Frag} {mg : Str → Option Value} {base : Heap} {k : Nat}
end
theorem euclid {x y : Int} (hx : 0 ≤ x) (hy : 0 < y) : Nat.gcd y.natAbs (x - x / y * y).natAbs = Nat.gcd x.natAbs y.natAbs := by
  have e : x - x / y * y = x % y := by
    have := Int.emod_add_mul_ediv x y
    rw [Int.mul_comm (x / y) y]
    omega
  rw [e]
  obtain ⟨a, rfl⟩ : ∃ n : Nat, x = n := ⟨x.toNat, by omega⟩
  obtain ⟨b, rfl⟩ : ∃ n : Nat, y = n := ⟨y.toNat, by omega⟩
  rw [← Int.natCast_emod, Int.natAbs_natCast, Int.natAbs_natCast, Int.natAbs_natCast, Nat.gcd_comm b (a % b), ← Nat.gcd_rec, Nat.gcd_comm]
theorem gl_small {cs : List Int} (h : ∀ c ∈ cs, 1 ≤ c ∧ c ≤ 48) : gl cs ≤ 48 := by
  cases cs with
  | nil => decide
  | cons c r =>
    have h1 := (gl_dvd (c :: r) (gl (c :: r)).natAbs).mp (Nat.dvd_refl _) c List.mem_cons_self
    have h2 := h c List.mem_cons_self
    have h3 := Nat.le_of_dvd (by omega) h1
    have h4 := gl_nonneg (c :: r)
    omega
section
variable {P : Program} {w : World} {K : PySem.W.Frag} {mg : Str → Option Value} {base : Heap} {k : Nat}
def spDivisor : Sp := fun vs H Q _ => ∃ x y : Int, vs = [.int x, .int y] ∧ 0 ≤ x ∧ 0 ≤ y ∧ y ≤ 1000000 ∧ Ret H Q (.int ((Nat.gcd x.natAbs y.natAbs : Nat) : Int))
theorem sc27 : FnScope ["_law_one", "_law_other"] ["_law_one", "_law_other"] (defScope sDivisor) := ⟨rfl, rfl, rfl, by decide +kernel, rfl, by decide +kernel, by decide +kernel⟩
theorem d_divisor (B : Bnd K mg "_law_divisor" sDivisor) : Def P w K mg base (k + 1) "_law_divisor" sDivisor ["_law_one", "_law_other"] spDivisor := by
  refine def_of B sc27 (by rintro _ _ _ _ ⟨a, n, rfl, _⟩; rfl) (fun _ _ _ _ _ _ us hl => match us, hl with | [_, _], _ => rfl) fun f cdv A outer s H vs Q E hr h => ?_
  obtain ⟨x, y, rfl, hx, hy, hy2, q⟩ := h
  refine ⟨_, pss_cons (ps_while PassesOwn.never (pt_cmpR op_gt (pv 1) pe_int (nomark _)) (pss_one (ps_par (i := 0) (j := 1) rfl sc27.nd rfl rfl (by decide) rfl rfl (pa_cons (pv 1) (pa_cons (pe_op op_sub (pv 0) (pe_op op_mul (pe_op op_fdiv (pv 0) (pv 1)) (pv 1))) pa_nil)) (by rfl))))
    (pss_one (ps_ret (pv 0))), ?_⟩
  refine ⟨fun m σ H' => ∃ u v : Int, σ = [some (.int u), some (.int v)] ∧ m = v.toNat ∧ 0 ≤ u ∧ 0 ≤ v ∧ v ≤ 1000000 ∧ Nat.gcd u.natAbs v.natAbs = Nat.gcd x.natAbs y.natAbs ∧ H' = H, ⟨_, x, y, rfl, rfl, hx, hy, hy2, rfl, rfl⟩, ?_⟩
  rintro m σ H' ⟨u, v, rfl, rfl, hu, hv, hv2, hg, rfl⟩
  refine ⟨_, rfl, v, 0, rfl, rfl, _, rfl, ite2 (fun c => ?_) (fun c => ?_)⟩
  · have c' : 0 < v := of_decide_eq_true c
    have b0 : 0 ≤ u - u / v * v ∧ u - u / v * v < v := by
      have e := Int.emod_add_mul_ediv u v
      have e1 := Int.emod_nonneg u (show v ≠ 0 by omega)
      have e2 := Int.emod_lt_of_pos u c'
      rw [Int.mul_comm v] at e
      omega
    refine ⟨fun σ' H1 => ∃ u' v' : Int, σ' = [some (.int u'), some (.int v')] ∧ v'.toNat < v.toNat ∧ 0 ≤ u' ∧ 0 ≤ v' ∧ v' ≤ 1000000 ∧ Nat.gcd u'.natAbs v'.natAbs = Nat.gcd x.natAbs y.natAbs ∧ H1 = H', fun σ' H1 ⟨u', v', a1, a2, a3, a4, a5, a6, a7⟩ => ⟨_, a2, u', v', a1, rfl, a3, a4, a5, a6, a7⟩, ?_⟩
    refine ⟨_, rfl, _, rfl, _, rfl, _, rfl, u, v, rfl, rfl, ⟨c', by omega⟩, _, rfl, u / v, v, rfl, rfl, .inr ⟨by omega, by omega⟩, u, u / v * v, rfl, rfl, _, _, rfl, v, u - u / v * v, rfl, by omega, by omega, by omega, by omega, ?_, rfl⟩
    rw [euclid hu c', hg]
  · have c' : v = 0 := by
      have c2 : ¬ 0 < v := of_decide_eq_false (Bool.eq_false_iff.mpr c)
      omega
    subst c'
    refine ⟨_, rfl, ?_⟩
    rw [Int.natAbs_zero, Nat.gcd_zero_right] at hg
    have e : u = ((Nat.gcd x.natAbs y.natAbs : Nat) : Int) := by omega
    rw [e]
    exact q _ (Same.refl _)
theorem sc28 : FnScope ["_law_counts_here", "_law_found", "_law_count"] ["_law_counts_here"] (defScope sLCommon) := ⟨rfl, rfl, rfl, by decide +kernel, rfl, by decide +kernel, by decide +kernel⟩
theorem d_lcommon (B : Bnd K mg "_law_common" sLCommon) (D : Def P w K mg base k "_law_divisor" sDivisor ["_law_one", "_law_other"] spDivisor) : Def P w K mg base (k + 1) "_law_common" sLCommon ["_law_counts_here"] (spCommon K) := by
  refine def_of B sc28 (by rintro _ _ _ _ ⟨a, xs, rfl, _⟩; rfl) (fun _ _ _ _ _ _ us hl => match us, hl with | [_], _ => rfl) fun f cdv A outer s H vs Q E hr h => ?_
  obtain ⟨a, cs, rfl, hS, T, q⟩ := h
  refine ⟨_, pss_cons (ps_set (i := 1) sc28.nd rfl (.inl rfl) pe_int)
    (pss_cons (ps_for PassesOwn.never rfl (pi_sq (pv 0)) (pg_name (i := 2) sc28.nd rfl (.inl rfl)) (pss_one (ps_set (i := 1) sc28.nd rfl (.inl rfl) (pe_d D hr (by rfl) (pa_cons (pv 2) (pa_cons (pv 1) pa_nil))))))
    (pss_one (ps_ret (pv 1)))), ?_⟩
  dsimp only [tSeq, tAsg, tC, gName]
  refine for_sq (a := a) (xs := VI cs) (fun i σ H' => ∃ y, σ = [some (.ref a), some (.int (gl (cs.take i))), y] ∧ Same H H') (fun R r => ⟨_, rfl, r⟩) hS (Same.refl _) ⟨none, rfl, Same.refl _⟩
    (fun i σ' H' ⟨y, e, s2⟩ => s2) (fun i x σ' H' hx ⟨y, e, s2⟩ => ?_) (fun σ' H' ⟨y, e, s2⟩ => ?_)
  · obtain ⟨c, hc, rfl⟩ := vi_at hx
    subst e
    have hc2 := T.each c (List.mem_of_getElem? hc)
    have g1 := gl_small (cs := cs.take i) fun z hz => T.each z (List.mem_of_mem_take hz)
    refine ⟨_, rfl, _, rfl, c, gl (cs.take i), rfl, by omega, gl_nonneg _, by omega, fun H3 s3 => ⟨some (.int c), ?_, s2.trans s3⟩⟩
    rw [gl_take hc]
    unfold gstep
    rw [Nat.gcd_comm]; rfl
  · subst e
    rw [vi_len, List.take_length]
    exact ⟨_, rfl, q _ s2⟩
end
/-! ### lists of ints as data -/
abbrev DI (ns : List Int) : PyData := .list (ns.map PyData.int)
theorem dpAll_ints {K : PySem.W.Frag} {H : Hp} : ∀ ns : List Int, DpAll K H (VI ns) (ns.map PyData.int)
  | [] => .nil
  | n :: r => .cons (.int n) (dpAll_ints r)
theorem dp_ints {K : PySem.W.Frag} {H : Hp} {a : Addr} {ns : List Int} (h : SqL K H a (VI ns)) : Dp K H (.ref a) (DI ns) := .lst h (dpAll_ints ns)
theorem di_lay : ∀ ns : List Int, PyData.canLayAll0 (ns.map PyData.int) = true
  | [] => rfl
  | n :: r => by rw [List.map_cons, PyData.canLayAll0, di_lay r]; rfl
theorem di_depthAll : ∀ ns : List Int, PyData.depthAll (ns.map PyData.int) ≤ 1
  | [] => by simp [PyData.depthAll]
  | n :: r => by
    have := di_depthAll r
    rw [List.map_cons, PyData.depthAll]
    simp only [PyData.depth]
    omega
theorem di_depth (ns : List Int) : (DI ns).depth ≤ 8 := by
  have := di_depthAll ns
  simp only [PyData.depth]
  omega
theorem di_shaped (ns : List Int) : SeqAt.shaped (DI ns) = true := by
  unfold SeqAt.shaped
  have h1 : (DI ns).canLay0 = true := by rw [PyData.canLay0]; exact di_lay ns
  have h2 := di_depth ns
  rw [h1, decide_eq_true (by omega)]; rfl
theorem di_refl (ns : List Int) : PyData.eqv (DI ns) (DI ns) = true := SeqAt.eqv_refl _ (by rw [PyData.canLay0]; exact di_lay ns)
theorem di_nil : ∀ ns : List Int, PyData.eqv (DI ns) (DI []) = ns.isEmpty
  | [] => di_refl []
  | n :: r => by rw [PyData.eqv, List.map_cons, List.map_nil]; rfl
theorem int_short : ∀ n : Nat, n < 1000 → (PyData.shown (.int (n : Int))).length ≤ 8 := by decide +kernel
theorem int_log : ∀ n : Nat, n < 1000 → n.log2 < 1920 := fun n h => by
  have h1 : n < 2 ^ 10 := by omega
  by_cases h0 : n = 0
  · subst h0; decide
  · have := (Nat.log2_lt h0).mpr h1
    omega
abbrev Sm (ns : List Int) : Prop := ∀ n ∈ ns, 0 ≤ n ∧ n < 1000
theorem di_leaves : ∀ ns : List Int, Sm ns → PyData.leavesShortAll 8 (ns.map PyData.int) = true
  | [], _ => rfl
  | n :: r, h => by
    have h1 := h n List.mem_cons_self
    rw [List.map_cons, PyData.leavesShortAll, di_leaves r fun x hx => h x (List.mem_cons_of_mem _ hx), Bool.and_true, PyData.leavesShort]
    have h2 := int_short n.toNat (by omega)
    rw [show ((n.toNat : Nat) : Int) = n by omega] at h2
    exact decide_eq_true h2
theorem di_showAll : ∀ ns : List Int, Sm ns → PyData.showableAll (ns.map PyData.int) = true
  | [], _ => rfl
  | n :: r, h => by
    have h1 := h n List.mem_cons_self
    rw [List.map_cons, PyData.showableAll, di_showAll r fun x hx => h x (List.mem_cons_of_mem _ hx), Bool.and_true, PyData.showable]
    exact decide_eq_true (int_log n.natAbs (by omega))
theorem di_dictAll : ∀ ns : List Int, PyData.hasDictAll (ns.map PyData.int) = false
  | [] => rfl
  | n :: r => by rw [List.map_cons, PyData.hasDictAll, di_dictAll r]; rfl
theorem di_bulk : ∀ ns : List Int, PyData.bulkAll (ns.map PyData.int) = ns.length
  | [] => rfl
  | n :: r => by rw [List.map_cons, PyData.bulkAll, di_bulk r, PyData.bulk, List.length_cons]; omega
/-- what repr asks of a list of small ints -/
theorem di_repr {ns : List Int} (h : Sm ns) (hz : ns.length ≤ 1000) : (DI ns).showable = true ∧ (DI ns).hasDict = false ∧ (DI ns).depth ≤ 8 ∧ (DI ns).shown.length ≤ sizeLine := by
  refine ⟨by rw [PyData.showable]; exact di_showAll ns h, by rw [PyData.hasDict]; exact di_dictAll ns, di_depth ns, PyData.shown_fits_bulk (B := 8) (by omega) (by omega) (by rw [PyData.leavesShort]; exact di_leaves ns h) ?_⟩
  rw [PyData.bulk, di_bulk]
  omega
/-- a pair of bools -/
theorem db_repr (b c : Bool) : (PyData.list [.bool b, .bool c]).showable = true ∧ (PyData.list [.bool b, .bool c]).hasDict = false ∧ (PyData.list [.bool b, .bool c]).depth ≤ 8 ∧ (PyData.list [.bool b, .bool c]).shown.length ≤ sizeLine := by
  cases b <;> cases c <;> refine ⟨by decide +kernel, by decide +kernel, by decide +kernel, ?_⟩ <;> exact Nat.le_trans (show _ ≤ 100 by decide +kernel) (by decide)
/-! ### slices -/
theorem cut_last (L : List V) (x : V) : cutV (L ++ [x]) none (some (-1)) = L := by
  have e : HT.sIx (L ++ [x]).length (L ++ [x]).length (some (-1)) = L.length := by
    show (if (-1 : Int) < 0 then ((-1 : Int) + ((L ++ [x]).length : Int)).toNat else min (-1 : Int).toNat (L ++ [x]).length) = L.length
    rw [if_pos (by decide), List.length_append, List.length_singleton]
    omega
  unfold cutV
  rw [e, HT.sIx_none, List.drop_zero, Nat.sub_zero]
  simp
/-! ### comprehensions over a list -/
section
variable {K : PySem.W.Frag} {a : Addr} {xs : List V} {g : TG} {tt : TT} {te : TE} {vs : List Nat} {σ : L2.St} {H : Hp}
theorem lc_l {Dd : Addr} {Qd : Hp → Prop} (f : Nat → Option V) (hS : SqL K H a xs) (hD : H Dd = none) (hz : xs.length ≤ sizeLine)
    (hs : ∀ i x H1, xs[i]? = some x → Same H H1 → LcTurn f g tt te vs σ i x H1 H1)
    (hd : ∀ H1, Same H H1 → H1 Dd = some (.lst ((List.range xs.length).filterMap f)) → Qd H1) : ∃ W : Nat → Nat → Hp → Prop, (∃ m, W 0 m (upd H Dd (.lst []))) ∧ ∀ i m H, W i m H →
      ((Itl K a).stop i H ∧ Qd H) ∨ ((Itl K a).go i H ∧ ∃ Nx : Hp → Prop, (∀ H', Nx H' → ∃ m', m' < m ∧ W (i + 1) m' H') ∧ ∀ x H', (Itl K a).yld i H x H' → g x (wipe σ vs) H' fun σ2 H2 => wipe σ2 vs = wipe σ vs ∧ tt σ2 H2 fun b H3 =>
        if b = true then te σ2 H3 fun y H4 => ∃ acc, H4 Dd = some (.lst acc) ∧ acc.length < sizeLine ∧ Nx (upd H4 Dd (.lst (acc ++ [y]))) else Nx H3) :=
  lc_list (xs := xs) (LcInv f H Dd) (LcInv.start hD) (fun i H1 _ p => p.1.seq hS) (fun i x H1 hx p => p.turn hD (Nat.lt_of_lt_of_le (List.getElem?_eq_some_iff.mp hx).1 hz) (Same.refl _) (hs i x H1 hx p.1)) fun H1 p => hd H1 p.1 p.2
end
theorem ints_map (c0 : List Int) (h : Int → Int) : (List.range (VI c0).length).filterMap (fun i => (c0[i]?).bind fun c => some (V.int (h c))) = VI (c0.map h) := by
  rw [vi_len, fm_all]
  unfold VI
  rw [List.map_map]
  induction c0 with
  | nil => rfl
  | cons c r ih => rw [List.filterMap_cons, List.map_cons, ih]; rfl
theorem ints_filter (c0 : List Int) (p : Int → Bool) : (List.range (VI c0).length).filterMap (fun i => (c0[i]?).bind fun c => if p c = true then some (V.int c) else none) = VI (c0.filter p) := by
  rw [vi_len, fm_all]
  induction c0 with
  | nil => rfl
  | cons c r ih =>
    rw [List.filterMap_cons, List.filter_cons, ih]
    cases e : p c <;> simp
/-! ### facts of the search with one count more -/
theorem rch_nil {n : Int} (r : Rch (fun c => c ∈ ([] : List Int)) n) : n = 0 := by
  cases r with
  | zero => rfl
  | step h _ => simp at h
theorem told_of {cs R : List Int} (T : Told cs) (h : IsLst cs R) (hm : ∀ x ∈ R, x ∈ cs) (hl : R.length ≤ 8) : Told R := by
  refine ⟨?_, hl, fun c hc => T.each c (hm c hc)⟩
  cases R with
  | nil =>
    have t1 := T.lo
    obtain ⟨c, hc⟩ : ∃ c, c ∈ cs := ⟨cs[0], List.getElem_mem (by omega)⟩
    have z := rch_nil ((h.rch c).mpr (.one hc))
    have := (T.each c hc).1
    omega
  | cons c r => rw [List.length_cons]; omega
structure More (cs ms R : List Int) : Prop where
  told : Told ms
  gl : gl ms = gl cs
  mb : ∀ n, mb ms n = mb cs n
  isL : IsL ms R
theorem more_of {cs R ex : List Int} (T : Told cs) (hl : cs.length ≤ 5) (h : IsLst cs R) (hex : ex = [] ∨ ∃ b, ex = [b] ∧ 0 < b ∧ b ≤ 48 ∧ mb cs b = true) : More cs (cs.reverse ++ ex) R := by
  have t1 := T.lo
  rcases hex with rfl | ⟨b, rfl, h0, h1, hb⟩
  · rw [List.append_nil]
    have m : ∀ x, x ∈ cs.reverse ↔ x ∈ cs := fun x => List.mem_reverse
    exact ⟨⟨by rw [List.length_reverse]; omega, by rw [List.length_reverse]; omega, fun c hc => T.each c ((m c).mp hc)⟩, gl_congr m, fun n => mb_congr (rch_congr m n), h.isL.congr fun x => (m x).symm⟩
  · have m : ∀ x, x ∈ cs.reverse ++ [b] ↔ x ∈ cs ∨ x = b := fun x => by rw [List.mem_append, List.mem_reverse, List.mem_singleton]
    have hb' := mb_iff.mp hb
    refine ⟨⟨by rw [List.length_append, List.length_reverse]; omega, by rw [List.length_append, List.length_reverse, List.length_singleton]; omega, fun c hc => ?_⟩, gl_more hb' m, fun n => mb_congr (rch_more hb' m n), h.more T.pos hb' m⟩
    rcases (m c).mp hc with q | q
    · exact T.each c q
    · omega
end K21

namespace K21
/-! ### residues -/
/-- z is a reached number, but for multiples of a -/
def Md (P : Int → Prop) (a z : Int) : Prop := ∃ n, Rch P n ∧ a ∣ z - n
theorem Md.zero {P : Int → Prop} {a : Int} : Md P a 0 := ⟨0, .zero, by simp⟩
theorem Md.add {P : Int → Prop} {a x y : Int} (hx : Md P a x) (hy : Md P a y) : Md P a (x + y) := by
  obtain ⟨n, rn, dn⟩ := hx
  obtain ⟨m, rm, dm⟩ := hy
  refine ⟨n + m, rn.add rm, ?_⟩
  have e : x + y - (n + m) = (x - n) + (y - m) := by omega
  rw [e]
  exact Int.dvd_add dn dm
theorem Md.nmul {P : Int → Prop} {a x : Int} (hx : Md P a x) : ∀ k : Nat, Md P a ((k : Int) * x)
  | 0 => by rw [Int.natCast_zero, Int.zero_mul]; exact .zero
  | k + 1 => by
    have e : ((k + 1 : Nat) : Int) * x = (k : Int) * x + x := by
      rw [Int.natCast_succ, Int.add_mul, Int.one_mul]
    rw [e]
    exact (hx.nmul k).add hx
theorem Md.congr {P : Int → Prop} {a x y : Int} (hx : Md P a x) (h : a ∣ y - x) : Md P a y := by
  obtain ⟨n, rn, dn⟩ := hx
  refine ⟨n, rn, ?_⟩
  have e : y - n = (y - x) + (x - n) := by omega
  rw [e]
  exact Int.dvd_add h dn
theorem Md.neg {P : Int → Prop} {a x : Int} (ha : 0 < a) (hx : Md P a x) : Md P a (-x) := by
  refine (hx.nmul (a.toNat - 1)).congr ?_
  have e : -x - ((a.toNat - 1 : Nat) : Int) * x = a * (-x) := by
    have e1 : ((a.toNat - 1 : Nat) : Int) = a - 1 := by omega
    rw [e1, Int.sub_mul, Int.one_mul, Int.mul_neg]
    omega
  rw [e]
  exact Int.dvd_mul_right _ _
theorem Md.mul {P : Int → Prop} {a x : Int} (ha : 0 < a) (hx : Md P a x) (k : Int) : Md P a (k * x) := by
  rcases Int.le_total 0 k with h | h
  · have := hx.nmul k.toNat
    rwa [show ((k.toNat : Nat) : Int) = k by omega] at this
  · have := (hx.nmul (-k).toNat).neg ha
    rw [show (((-k).toNat : Nat) : Int) = -k by omega, Int.neg_mul, Int.neg_neg] at this
    exact this
theorem Md.gcd {P : Int → Prop} {a : Int} (ha : 0 < a) (x y : Nat) : Md P a x → Md P a y → Md P a ((Nat.gcd x y : Nat) : Int) := by
  induction x, y using Nat.gcd.induction with
  | H0 n => intro _ hy; rw [Nat.gcd_zero_left]; exact hy
  | H1 m n hm ih =>
    intro hx hy
    rw [Nat.gcd_rec]
    refine ih ?_ hx
    have e : ((n % m : Nat) : Int) = (n : Int) + (-((n / m : Nat) : Int)) * (m : Int) := by
      have := Nat.mod_add_div n m
      have h2 : ((n % m : Nat) : Int) + ((m * (n / m) : Nat) : Int) = (n : Int) := by rw [← Int.natCast_add, this]
      rw [Int.natCast_mul] at h2
      rw [Int.neg_mul, Int.mul_comm]
      omega
    rw [e]
    exact hy.add (hx.mul ha _)
theorem md_gl {cs : List Int} {a : Int} (ha : 0 < a) (hp : Pos cs) : Md (· ∈ cs) a (gl cs) := by
  have gen : ∀ (ds : List Int) (g : Int), (∀ d ∈ ds, d ∈ cs) → 0 ≤ g → Md (· ∈ cs) a g → Md (· ∈ cs) a (ds.foldl gstep g) := by
    intro ds
    induction ds with
    | nil => intro g _ _ h; exact h
    | cons d r ih =>
      intro g hm h0 hg
      rw [List.foldl_cons]
      have hd : Md (· ∈ cs) a d := ⟨d, .one (hm d List.mem_cons_self), by simp⟩
      have hd0 := hp d (hm d List.mem_cons_self)
      refine ih _ (fun x hx => hm x (List.mem_cons_of_mem _ hx)) (Int.natCast_nonneg _) (Md.gcd ha _ _ ?_ ?_)
      · rw [show ((g.natAbs : Nat) : Int) = g by omega]; exact hg
      · rw [show ((d.natAbs : Nat) : Int) = d by omega]; exact hd
  exact gen cs 0 (fun _ h => h) (Int.le_refl 0) .zero
theorem cover {cs : List Int} {a : Int} (ha : 0 < a) (hp : Pos cs) (h1 : gl cs = 1) (z : Int) : Md (· ∈ cs) a z := by
  have h := (md_gl ha hp).mul ha z
  rw [h1, Int.mul_one] at h
  exact h
/-- a reached number is reached by few of each -/
theorem few {a : Int} (ha : 0 < a) : ∀ (cs : List Int), Pos cs → ∀ n, Rch (· ∈ cs) n → ∃ m, Rch (· ∈ cs) m ∧ a ∣ n - m ∧ m ≤ (a - 1) * cs.sum
  | [], _, n, r => by
    refine ⟨0, .zero, ?_, by simp⟩
    cases r with
    | zero => simp
    | step h _ => simp at h
  | c :: cs, hp, n, r => by
    have split : ∃ (k : Nat) (n1 : Int), n = (k : Int) * c + n1 ∧ Rch (· ∈ cs) n1 := by
      clear hp
      induction r with
      | zero => exact ⟨0, 0, by simp, .zero⟩
      | @step n d hd _ ih =>
        obtain ⟨k, n1, e, r1⟩ := ih
        rcases List.mem_cons.mp hd with h | h
        · subst h
          refine ⟨k + 1, n1, ?_, r1⟩
          rw [e, Int.natCast_succ, Int.add_mul, Int.one_mul]
          omega
        · exact ⟨k, n1 + d, by omega, .step h r1⟩
    obtain ⟨k, n1, e, r1⟩ := split
    obtain ⟨m1, q1, d1, b1⟩ := few ha cs (fun x hx => hp x (List.mem_cons_of_mem _ hx)) n1 r1
    have hc := hp c List.mem_cons_self
    have rep : ∀ j : Nat, Rch (· ∈ c :: cs) ((j : Int) * c) := by
      intro j
      induction j with
      | zero => rw [Int.natCast_zero, Int.zero_mul]; exact .zero
      | succ j ih =>
        rw [Int.natCast_succ, Int.add_mul, Int.one_mul]
        exact .step List.mem_cons_self ih
    have k0 : 0 ≤ (k : Int) % a := Int.emod_nonneg _ (by omega)
    have k1 : (k : Int) % a < a := Int.emod_lt_of_pos _ ha
    have ek : ((((k : Int) % a).toNat : Nat) : Int) = (k : Int) % a := by omega
    refine ⟨(k : Int) % a * c + m1, ?_, ?_, ?_⟩
    · have q := rep ((k : Int) % a).toNat
      rw [ek] at q
      exact q.add (q1.mono fun x hx => List.mem_cons_of_mem _ hx)
    · have e2 : n - ((k : Int) % a * c + m1) = a * ((k : Int) / a * c) + (n1 - m1) := by
        have e3 := Int.emod_add_mul_ediv (k : Int) a
        have e4 : (k : Int) * c = ((k : Int) % a) * c + a * ((k : Int) / a) * c := by rw [← Int.add_mul, e3]
        rw [Int.mul_assoc] at e4
        omega
      rw [e2]
      exact Int.dvd_add (Int.dvd_mul_right _ _) d1
    · rw [List.sum_cons, Int.mul_add]
      have h2 : (k : Int) % a * c ≤ (a - 1) * c := Int.mul_le_mul_of_nonneg_right (by omega) (by omega)
      omega
theorem rch_up {P : Int → Prop} {a m : Int} (ha : P a) (hm : Rch P m) : ∀ k : Nat, Rch P (m + a * (k : Int))
  | 0 => by rw [Int.natCast_zero, Int.mul_zero, Int.add_zero]; exact hm
  | k + 1 => by
    have e : m + a * ((k + 1 : Nat) : Int) = m + a * (k : Int) + a := by
      rw [Int.natCast_succ, Int.mul_add, Int.mul_one]
      omega
    rw [e]
    exact .step ha (rch_up ha hm k)
theorem rch_ge {P : Int → Prop} {a m n : Int} (ha : P a) (h0 : 0 < a) (hm : Rch P m) (hd : a ∣ n - m) (hle : m ≤ n) : Rch P n := by
  obtain ⟨k, hk⟩ := hd
  have k0 : 0 ≤ k := by
    rcases Int.lt_or_le k 0 with h | h
    · have := Int.mul_neg_of_pos_of_neg h0 h
      omega
    · exact h
  have q := rch_up ha hm k.toNat
  rw [show ((k.toNat : Nat) : Int) = k by omega, ← hk] at q
  rw [show n = m + (n - m) by omega]
  exact q
/-- from some number on all are met -/
theorem all_met {cs : List Int} {a n : Int} (hp : Pos cs) (ha : a ∈ cs) (h1 : gl cs = 1) (hn : (a - 1) * cs.sum ≤ n) : Rch (· ∈ cs) n := by
  have h0 := hp a ha
  obtain ⟨m, rm, dm⟩ := cover h0 hp h1 n
  obtain ⟨m2, r2, d2, b2⟩ := few h0 cs hp m rm
  have e : n - m2 = (n - m) + (m - m2) := by omega
  exact rch_ge ha h0 r2 (by rw [e]; exact Int.dvd_add dm d2) (by omega)
/-! ### gaps -/
noncomputable def gapsL (cs : List Int) (m : Nat) : List Int := (List.range m).filterMap fun i : Nat => if mb cs ((i : Nat) : Int) = true then none else some ((i : Nat) : Int)
theorem gapsL_succ (cs : List Int) (m : Nat) : gapsL cs (m + 1) = gapsL cs m ++ (if mb cs ((m : Nat) : Int) = true then [] else [((m : Nat) : Int)]) := by
  unfold gapsL
  rw [List.range_succ, List.filterMap_append]
  cases e : mb cs ((m : Nat) : Int) <;> simp [e]
theorem mem_gapsL {cs : List Int} {m : Nat} {x : Int} : x ∈ gapsL cs m ↔ 0 ≤ x ∧ x < m ∧ mb cs x = false := by
  unfold gapsL
  rw [List.mem_filterMap]
  constructor
  · rintro ⟨i, hi, e⟩
    have := List.mem_range.mp hi
    split at e
    · cases e
    · rename_i h
      have e' := Option.some.inj e
      subst e'
      exact ⟨by omega, by omega, Bool.eq_false_iff.mpr h⟩
  · rintro ⟨h0, h1, h2⟩
    refine ⟨x.toNat, List.mem_range.mpr (by omega), ?_⟩
    rw [show ((x.toNat : Nat) : Int) = x by omega, h2]; rfl
theorem gapsL_len (cs : List Int) : ∀ m, (gapsL cs m).length ≤ m
  | 0 => Nat.le_refl _
  | m + 1 => by
    rw [gapsL_succ, List.length_append]
    have := gapsL_len cs m
    split <;> simp <;> omega
theorem gapsL_srt (cs : List Int) : ∀ m, (gapsL cs m).Pairwise (· < ·)
  | 0 => List.Pairwise.nil
  | m + 1 => by
    rw [gapsL_succ]
    refine List.pairwise_append.mpr ⟨gapsL_srt cs m, by split <;> simp, fun x hx y hy => ?_⟩
    have := (mem_gapsL.mp hx).2.1
    split at hy
    · simp at hy
    · rw [List.mem_singleton.mp hy]
      exact this
/-- the gaps -/
structure GapOf (cs R : List Int) : Prop where
  srt : R.Pairwise (· < ·)
  mem : ∀ x, x ∈ R ↔ 0 ≤ x ∧ mb cs x = false
theorem GapOf.uniq {cs R S : List Int} (a : GapOf cs R) (b : GapOf cs S) : R = S := sorted_ext a.srt b.srt fun x => (a.mem x).trans (b.mem x).symm
theorem gapOf_L {cs : List Int} {m : Nat} (h : ∀ n : Int, (m : Int) ≤ n → mb cs n = true) : GapOf cs (gapsL cs m) := by
  refine ⟨gapsL_srt cs m, fun x => mem_gapsL.trans ⟨fun q => ⟨q.1, q.2.2⟩, fun q => ⟨q.1, ?_, q.2⟩⟩⟩
  rcases Int.lt_or_le x (m : Int) with h1 | h1
  · exact h1
  · have := h x h1
    rw [q.2] at this
    cases this
theorem GapOf.congr {cs ds R : List Int} (a : GapOf cs R) (h : ∀ n, mb cs n = mb ds n) : GapOf ds R := ⟨a.srt, fun x => by rw [a.mem x, h]⟩
/-- as many met ones in a row as the least count: all that come are met -/
theorem row_all {cs : List Int} {a : Int} {n : Nat} (ha : a ∈ cs) (h0 : 0 < a) (h : ∀ i : Int, (n : Int) - a ≤ i → i < n → mb cs i = true) : ∀ i : Int, (n : Int) - a ≤ i → mb cs i = true := by
  have gen : ∀ (k : Nat) (i : Int), (n : Int) - a ≤ i → i < n + (k : Int) → mb cs i = true := by
    intro k
    induction k with
    | zero => intro i h1 h2; exact h i h1 (by omega)
    | succ k ih =>
      intro i h1 h2
      rcases Int.lt_or_le i (n + (k : Int)) with h3 | h3
      · exact ih i h1 h3
      · have q := mb_iff.mp (ih (i - a) (by omega) (by omega))
        have q2 := Rch.step ha q
        rw [Int.sub_add_cancel] at q2
        exact mb_iff.mpr q2
  intro i h1
  exact gen (i - n + 1).toNat i h1 (by omega)
end K21

namespace K21
open PySem PySem.Spec PyProof.Rows L2 Fp
abbrev sGaps : Stmt := top 19
abbrev sGreat : Stmt := top 20
abbrev sUnmet : Stmt := top 26
theorem sum_le : ∀ cs : List Int, (∀ c ∈ cs, 1 ≤ c ∧ c ≤ 48) → cs.sum ≤ 48 * cs.length ∧ 0 ≤ cs.sum
  | [], _ => by simp
  | c :: r, h => by
    have := sum_le r fun x hx => h x (List.mem_cons_of_mem _ hx)
    have := h c List.mem_cons_self
    rw [List.sum_cons, List.length_cons]
    omega
theorem Told.met {cs : List Int} {a n : Int} (T : Told cs) (ha : a ∈ cs) (h1 : gl cs = 1) (hn : 18048 ≤ n) : mb cs n = true := by
  refine mb_iff.mpr (all_met T.pos ha h1 ?_)
  have q := sum_le cs T.each
  have t := T.hi
  have e := T.each a ha
  have b1 : (a - 1) * cs.sum ≤ (a - 1) * 384 := Int.mul_le_mul_of_nonneg_left (by omega) (by omega)
  omega
section
variable {P : Program} {w : World} {K : PySem.W.Frag} {mg : Str → Option Value} {base : Heap} {k : Nat}
def spUnmet (K : PySem.W.Frag) : Sp := fun vs H Q _ => ∃ (a : Addr) (cs : List Int), vs = [.ref a] ∧ SqL K H a (VI cs) ∧ Told cs ∧ gl cs = 1 ∧
  ∀ p H' R, GapOf cs R → R.length ≤ 18200 → Same H H' → H p = none → H' p = some (.lst (VI R)) → Q (.ref p) H'
theorem scU : FnScope ["counts", "wanted", "table", "found", "in_a_row", "count"] ["counts"] (defScope sUnmet) := ⟨rfl, rfl, rfl, by decide +kernel, rfl, by decide +kernel, by decide +kernel⟩
theorem big {n : Nat} (h : n ≤ 20000) : n < sizeLine := by rw [sizeLine_eq]; omega
theorem d_unmet (B : Bnd K mg "unmet" sUnmet) (M : Mg mg) (hmin : mg "min" = none) (D : Def P w K mg base k "is_next_met" sNext ["counts", "table", "count"] (spNext K)) : Def P w K mg base (k + 1) "unmet" sUnmet ["counts"] (spUnmet K) := by
  refine def_of B scU (by rintro _ _ _ _ ⟨a, cs, rfl, _⟩; rfl) (fun _ _ _ _ _ _ us hl => match us, hl with | [_], _ => rfl) fun f cdv A outer s H vs Q E hr h => ?_
  obtain ⟨a, cs, rfl, hS, T, hg, q⟩ := h
  refine ⟨_, pss_cons (ps_set (i := 1) scU.nd rfl (.inl rfl) (pe_callB (cr_min rfl) (by rfl) hmin (by decide +kernel) (pa_cons (pv 0) pa_nil)))
    (pss_cons (ps_par3 (i := 2) (j := 3) (l := 4) rfl scU.nd rfl rfl rfl (by decide) (by decide) (by decide) rfl rfl rfl (pa_cons (pe_lst (pa_cons pe_bl pa_nil)) (pa_cons (pe_lst pa_nil) (pa_cons pe_int pa_nil))) (by rfl))
    (pss_cons (ps_while PassesOwn.never (pt_cmpR op_lt (pv 4) (pv 1) (nomark _))
      (pss_cons (ps_set (i := 5) scU.nd rfl (.inl rfl) (pe_callB call_len_seq (by rfl) M.len boot_len (pa_cons (pv 2) pa_nil)))
      (pss_cons (ps_expr (pe_bm PySem.F.plainAttrs_list PySem.F.slot_list_append PySem.F.type_list_append mt_append (pv 2) (pa_cons (pe_d D hr (by rfl) (pa_cons (pv 0) (pa_cons (pv 2) (pa_cons (pv 5) pa_nil)))) pa_nil)))
      (pss_one (ps_if (pt_val (pe_ix ix_list (pv 2) (pv 5) (fun _ _ => rfl))) (pss_one (ps_aug (i := 4) scU.nd rfl (.inl rfl) pe_int ip_add))
        (pss_cons (ps_set (i := 4) scU.nd rfl (.inl rfl) pe_int) (pss_one (ps_expr (pe_bm PySem.F.plainAttrs_list PySem.F.slot_list_append PySem.F.type_list_append mt_append (pv 3) (pa_cons (pv 5) pa_nil))))))))))
    (pss_one (ps_ret (pv 3))))), ?_⟩
  have t1 := T.lo
  have t2 := T.hi
  refine ⟨_, rfl, a, cs, rfl, hS, by omega, fun m hm hmin => ?_⟩
  have hm2 := T.each m hm
  refine ⟨(by show 1 ≤ sizeLine; decide), fun p np => ⟨Nat.zero_le _, fun r nr => ⟨_, _, _, rfl, ?_⟩⟩⟩
  have s1 : Same H (upd H p (.lst [.bl true])) := same_new np
  have s2 := s1.trans (same_new (o := .lst []) nr)
  have ne : p ≠ r := ne_of_none upd_same nr
  have nrH : H r = none := s1.free nr
  refine ⟨fun mm σ H' => ∃ (n : Nat) (j : Int) (y : Option V), σ = [some (.ref a), some (.int m), some (.ref p), some (.ref r), some (.int j), y] ∧ mm = 40000 - n ∧ 1 ≤ n ∧ 0 ≤ j ∧ j ≤ n ∧ (n : Int) ≤ 18049 + j ∧ j ≤ m ∧ (∀ i : Int, (n : Int) - j ≤ i → i < n → mb cs i = true) ∧
      Same H H' ∧ H' p = some (.lst ((tb cs n).map V.bl)) ∧ H' r = some (.lst (VI (gapsL cs n))), ⟨_, 1, 1, none, rfl, rfl, by omega, by omega, by omega, by omega, by omega, fun i h1 h2 => ?_, s2, ?_, ?_⟩, ?_⟩
  · rw [show i = 0 by omega]; exact mb_zero
  · rw [upd_ne ne, upd_same, tb_one]; rfl
  · rw [upd_same, gapsL_succ, show ((0 : Nat) : Int) = 0 from rfl, mb_zero]; rfl
  rintro mm σ H' ⟨n, j, y, rfl, rfl, n1, j0, jn, nb, jm, row, sm, hp, hr2⟩
  refine ⟨_, rfl, _, rfl, j, m, rfl, rfl, _, rfl, ite2 (fun c => ?_) (fun c => ?_)⟩
  · have c' : j < m := of_decide_eq_true c
    refine ⟨fun σ' H1 => ∃ (j' : Int) (y : Option V), σ' = [some (.ref a), some (.int m), some (.ref p), some (.ref r), some (.int j'), y] ∧ 0 ≤ j' ∧ j' ≤ (n + 1 : Nat) ∧ ((n + 1 : Nat) : Int) ≤ 18049 + j' ∧ j' ≤ m ∧ (∀ i : Int, ((n + 1 : Nat) : Int) - j' ≤ i → i < (n + 1 : Nat) → mb cs i = true) ∧
      Same H H1 ∧ H1 p = some (.lst ((tb cs (n + 1)).map V.bl)) ∧ H1 r = some (.lst (VI (gapsL cs (n + 1)))), fun σ' H1 ⟨j', y', a1, a2, a3, a4, a5, a6, a7, a8, a9⟩ => ⟨40000 - (n + 1), by omega, n + 1, j', y', a1, rfl, by omega, a2, a3, a4, a5, a6, a7, a8, a9⟩, ?_⟩
    have ln : ((tb cs n).map V.bl).length = n := by rw [List.length_map, tb_len]
    refine ⟨_, rfl, p, _, rfl, .inl (SqL.of hp), ?_⟩
    rw [ln]
    refine ⟨_, rfl, Or.inl ⟨rfl, _, SqL.of hp⟩, _, rfl, _, rfl, _, rfl, a, p, cs, n, rfl, .inl (sm.seq hS), T.pos, by omega, (by rw [Int.toNat_natCast]; exact SqL.of hp), by omega, fun H2 s3 => ?_⟩
    refine ⟨p, _, _, rfl, rfl, s3 _ _ hp, (by rw [ln]; exact big (by omega)), ?_⟩
    have hp3 : (upd H2 p (.lst ((tb cs n).map V.bl ++ [.bl (mb cs n)]))) p = some (.lst ((tb cs (n + 1)).map V.bl)) := by
      rw [upd_same, tb_succ, List.map_append]; rfl
    have hr3 : (upd H2 p (.lst ((tb cs n).map V.bl ++ [.bl (mb cs n)]))) r = some (.lst (VI (gapsL cs n))) := by
      rw [upd_ne ne.symm]
      exact s3 _ _ hr2
    have s4 : Same H (upd H2 p (.lst ((tb cs n).map V.bl ++ [.bl (mb cs n)]))) := fun b o hb => by
      rw [upd_ne (ne_of_none hb np)]
      exact s3 _ _ (sm _ _ hb)
    refine ⟨_, rfl, _, rfl, p, _, (n : Int), .bl (mb cs n), rfl, rfl, SqL.of hp3, atI_nat (by rw [List.getElem?_map, tb_at (Nat.lt_succ_self n)]; rfl), mb cs n, rfl, ?_⟩
    cases em : mb cs (n : Int) with
    | true =>
      refine iteT ⟨_, rfl, j, 1, rfl, rfl, j + 1, some (.int n), rfl, by omega, by omega, by omega, by omega, fun i h1 h2 => ?_, ?_, ?_, ?_⟩
      · rcases Int.lt_or_le i (n : Int) with h3 | h3
        · exact row i (by omega) h3
        · rw [show i = (n : Int) by omega]; exact em
      · rw [em] at s4; exact s4
      · rw [em] at hp3; exact hp3
      · rw [gapsL_succ, em, if_pos rfl, List.append_nil]
        rw [em] at hr3
        exact hr3
    | false =>
      have n2 : (n : Int) < 18048 := by
        rcases Int.lt_or_le (n : Int) 18048 with h3 | h3
        · exact h3
        · have := T.met hm hg h3
          rw [em] at this
          cases this
      rw [em] at s4 hp3 hr3
      refine iteF ⟨_, rfl, Or.inl ⟨rfl, _, SqL.of hr3⟩, _, rfl, r, _, _, rfl, rfl, hr3, ?_, 0, some (.int n), rfl, by omega, by omega, by omega, by omega, fun i h1 h2 => by omega, fun b o hb => ?_, ?_, ?_⟩
      · have := gapsL_len cs n
        rw [vi_len]
        exact big (by omega)
      · rw [upd_ne (ne_of_none hb nrH)]
        exact s4 _ _ hb
      · rw [upd_ne ne]
        exact hp3
      · rw [upd_same, gapsL_succ, em, if_neg Bool.false_ne_true]
        unfold VI
        rw [List.map_append]; rfl
  · have c' : ¬ j < m := of_decide_eq_false (Bool.eq_false_iff.mpr c)
    have ej : j = m := by omega
    subst ej
    have all := row_all hm (by omega) row
    refine ⟨_, rfl, q r H' (gapsL cs n) (gapOf_L fun i hi => all i (by omega)) ?_ sm nrH hr2⟩
    have := gapsL_len cs n
    omega
def spGaps (K : PySem.W.Frag) : Sp := spUnmet K
theorem scG : FnScope ["counts"] ["counts"] (defScope sGaps) := ⟨rfl, rfl, rfl, by decide +kernel, rfl, by decide +kernel, by decide +kernel⟩
theorem d_gaps (B : Bnd K mg "gaps" sGaps) (DC : Def P w K mg base k "common_count" sCommon ["counts"] (spCommon K)) (DU : Def P w K mg base k "unmet" sUnmet ["counts"] (spUnmet K)) : Def P w K mg base (k + 1) "gaps" sGaps ["counts"] (spGaps K) := by
  refine def_of B scG (by rintro _ _ _ _ ⟨a, cs, rfl, _⟩; rfl) (fun _ _ _ _ _ _ us hl => match us, hl with | [_], _ => rfl) fun f cdv A outer s H vs Q E hr h => ?_
  obtain ⟨a, cs, rfl, hS, T, hg, q⟩ := h
  refine ⟨_, pss_cons (ps_if (pt_cmpR op_gt (pe_d DC hr (by rfl) (pa_cons (pv 0) pa_nil)) pe_int (nomark _)) pss_never pss_nil) (pss_one (ps_ret (pe_d DU hr (by rfl) (pa_cons (pv 0) pa_nil)))), ?_⟩
  refine ⟨_, rfl, a, cs, rfl, .inl hS, T, fun H1 s1 => ⟨_, _, rfl, rfl, _, rfl, ifF (by omega) ?_⟩⟩
  exact ⟨_, rfl, a, cs, rfl, s1.seq hS, T, hg, fun p H' R h1 h2 s2 np hp => q p H' R h1 h2 (s1.trans s2) (s1.free np) hp⟩
/-- the greatest gap: the last one -/
def lastV (R : List Int) : V := match R.getLast? with
  | some g => .int g
  | none => .non
def spGreat (K : PySem.W.Frag) : Sp := fun vs H Q _ => ∃ (a : Addr) (cs : List Int), vs = [.ref a] ∧ SqL K H a (VI cs) ∧ Told cs ∧ gl cs = 1 ∧ ∀ H' R, GapOf cs R → Same H H' → Q (lastV R) H'
theorem scM : FnScope ["counts", "missing"] ["counts"] (defScope sGreat) := ⟨rfl, rfl, rfl, by decide +kernel, rfl, by decide +kernel, by decide +kernel⟩
theorem d_great (B : Bnd K mg "greatest_gap" sGreat) (DG : Def P w K mg base k "gaps" sGaps ["counts"] (spGaps K)) : Def P w K mg base (k + 1) "greatest_gap" sGreat ["counts"] (spGreat K) := by
  refine def_of B scM (by rintro _ _ _ _ ⟨a, cs, rfl, _⟩; rfl) (fun _ _ _ _ _ _ us hl => match us, hl with | [_], _ => rfl) fun f cdv A outer s H vs Q E hr h => ?_
  obtain ⟨a, cs, rfl, hS, T, hg, q⟩ := h
  refine ⟨_, pss_cons (ps_set (i := 1) scM.nd rfl (.inl rfl) (pe_d DG hr (by rfl) (pa_cons (pv 0) pa_nil))) (pss_one (ps_ret (pe_ifExp (pt_truth (pv 1) (by intro _; rfl)) (pe_ix ix_list (pv 1) (pe_un un_neg pe_int) (fun _ _ => rfl)) pe_non))), ?_⟩
  refine ⟨_, rfl, a, cs, rfl, hS, T, hg, fun p H1 R h1 h2 s1 np hp => ?_⟩
  refine ⟨_, rfl, !(VI R).isEmpty, .inl ⟨_, SqL.of hp, rfl⟩, ?_⟩
  have hq := q H1 R h1 s1
  rcases List.eq_nil_or_concat R with e | ⟨L, g, e⟩
  · subst e
    exact iteF hq
  · rw [List.concat_eq_append] at e
    subst e
    have e1 : VI (L ++ [g]) = VI L ++ [.int g] := by unfold VI; rw [List.map_append]; rfl
    have e2 : (!(VI (L ++ [g])).isEmpty) = true := by rw [e1]; cases VI L <;> rfl
    have e3 : lastV (L ++ [g]) = .int g := by unfold lastV; rw [List.getLast?_append]; rfl
    rw [e3] at hq
    rw [e2]
    exact iteT ⟨_, rfl, 1, rfl, p, _, -1, .int g, rfl, rfl, SqL.of hp, (by rw [e1]; exact atI_last _ _), hq⟩
end
end K21

namespace K21
/-! ### the least met number of each rest -/
def cell : Option Int → Nat
  | none => 1000
  | some v => v.toNat
def mu : List (Option Int) → Nat
  | [] => 0
  | o :: r => cell o + mu r
def nn : List (Option Int) → Nat
  | [] => 0
  | o :: r => (if o.isSome = true then 1 else 0) + nn r
theorem nn_le : ∀ F : List (Option Int), nn F ≤ F.length
  | [] => Nat.le_refl _
  | o :: r => by
    have := nn_le r
    unfold nn
    rw [List.length_cons]
    split <;> omega
theorem mu_set : ∀ {F : List (Option Int)} {r : Nat} {o : Option Int} (v : Int), F[r]? = some o → mu (F.set r (some v)) + cell o = mu F + v.toNat
  | [], r, o, v, h => by simp at h
  | x :: R, 0, o, v, h => by
    obtain rfl : x = o := Option.some.inj h
    show (v.toNat + mu R) + cell x = (cell x + mu R) + v.toNat
    omega
  | x :: R, r + 1, o, v, h => by
    have := mu_set (F := R) (r := r) (o := o) v h
    show (cell x + mu (R.set r (some v))) + cell o = (cell x + mu R) + v.toNat
    omega
theorem nn_set : ∀ {F : List (Option Int)} {r : Nat} {o : Option Int} (v : Int), F[r]? = some o → nn (F.set r (some v)) = nn F + (if o.isSome = true then 0 else 1)
  | [], r, o, v, h => by simp at h
  | x :: R, 0, o, v, h => by
    obtain rfl : x = o := Option.some.inj h
    show 1 + nn R = ((if x.isSome = true then 1 else 0) + nn R) + _
    cases x <;> simp <;> omega
  | x :: R, r + 1, o, v, h => by
    have := nn_set (F := R) (r := r) (o := o) v h
    show (if x.isSome = true then 1 else 0) + nn (R.set r (some v)) = ((if x.isSome = true then 1 else 0) + nn R) + _
    omega
structure FI (cs : List Int) (a : Nat) (F : List (Option Int)) : Prop where
  len : F.length = a
  zero : F[0]? = some (some 0)
  ok : ∀ (r : Nat) (v : Int), F[r]? = some (some v) → Rch (· ∈ cs) v ∧ v % (a : Int) = (r : Int) ∧ v ≤ 14 * (nn F : Int)
/-- the number v + c is told at its rest -/
def Chk (a : Nat) (F : List (Option Int)) (v c : Int) : Prop := ∃ w, F[((v + c) % (a : Int)).toNat]? = some (some w) ∧ w ≤ v + c
def Fix (cs : List Int) (a : Nat) (F : List (Option Int)) : Prop := ∀ (r : Nat) (v : Int), F[r]? = some (some v) → ∀ c ∈ cs, Chk a F v c
theorem FI.small {cs : List Int} {a : Nat} {F : List (Option Int)} (h : FI cs a F) (ha : a ≤ 14) {r : Nat} {v : Int} (e : F[r]? = some (some v)) : v ≤ 196 := by
  have h1 := (h.ok r v e).2.2
  have h2 := nn_le F
  have h3 := h.len
  omega
/-- one number is told better -/
theorem FI.put {cs : List Int} {a : Nat} {F : List (Option Int)} (h : FI cs a F) (hp : Pos cs) (ha0 : 0 < a) (ha : a ≤ 14) {r t : Nat} {v c : Int} {o : Option Int} (e : F[r]? = some (some v)) (hc : c ∈ cs) (hc2 : c ≤ 14) (ht : ((v + c) % (a : Int)) = (t : Int)) (eo : F[t]? = some o)
    (hb : ∀ w, o = some w → v + c < w) : FI cs a (F.set t (some (v + c))) ∧ mu (F.set t (some (v + c))) < mu F := by
  obtain ⟨r1, r2, r3⟩ := h.ok r v e
  have v0 := Rch.nonneg hp r1
  have c0 := hp c hc
  have tl : t < F.length := (List.getElem?_eq_some_iff.mp eo).1
  have t0 : t ≠ 0 := fun z => by
    subst z
    have z2 := Option.some.inj (eo.symm.trans h.zero)
    have := hb 0 z2
    omega
  have en := nn_set (v + c) eo
  have em := mu_set (v + c) eo
  have v196 := h.small ha e
  refine ⟨⟨by rw [List.length_set]; exact h.len, by rw [List.getElem?_set_ne t0]; exact h.zero, fun r' v' e' => ?_⟩, ?_⟩
  · by_cases hr : r' = t
    · subst hr
      rw [List.getElem?_set_self tl] at e'
      obtain rfl : v + c = v' := Option.some.inj (Option.some.inj e')
      refine ⟨.step hc r1, ht, ?_⟩
      rw [en]
      cases o with
      | none => simp; omega
      | some w =>
        have h1 := hb w rfl
        have h2 := (h.ok r' w eo).2.2
        simp
        omega
    · rw [List.getElem?_set_ne (Ne.symm hr)] at e'
      obtain ⟨q1, q2, q3⟩ := h.ok r' v' e'
      refine ⟨q1, q2, ?_⟩
      rw [en]
      split <;> omega
  · cases o with
    | none =>
      rw [show cell none = 1000 from rfl] at em
      omega
    | some w =>
      have h1 := hb w rfl
      rw [show cell (some w) = w.toNat from rfl] at em
      omega
theorem fix_le {cs : List Int} {a : Nat} {F : List (Option Int)} (ha0 : 0 < a) (h : FI cs a F) (hf : Fix cs a F) {n : Int} (r : Rch (· ∈ cs) n) : ∃ w, F[(n % (a : Int)).toNat]? = some (some w) ∧ w ≤ n := by
  induction r with
  | zero => exact ⟨0, by rw [Int.zero_emod]; exact h.zero, Int.le_refl 0⟩
  | @step n c hc _ ih =>
    obtain ⟨w, e, hw⟩ := ih
    obtain ⟨w2, e2, hw2⟩ := hf _ w e c hc
    have q := (h.ok _ w e).2.1
    have n0 : 0 ≤ n % (a : Int) := Int.emod_nonneg _ (by omega)
    rw [show (((n % (a : Int)).toNat : Nat) : Int) = n % (a : Int) by omega] at q
    have q2 : (w + c) % (a : Int) = (n + c) % (a : Int) := by rw [Int.add_emod, q, ← Int.add_emod]
    rw [q2] at e2
    exact ⟨w2, e2, by omega⟩
/-- the least met numbers, rest by rest -/
structure First (cs : List Int) (a : Nat) (ws : List Int) : Prop where
  len : ws.length = a
  rch : ∀ (r : Nat) (w : Int), ws[r]? = some w → Rch (· ∈ cs) w ∧ w % (a : Int) = (r : Int) ∧ w ≤ 196
  low : ∀ (r : Nat) (w : Int), ws[r]? = some w → ∀ n, Rch (· ∈ cs) n → n % (a : Int) = (r : Int) → w ≤ n
theorem first_of {cs : List Int} {a : Nat} {F : List (Option Int)} (hp : Pos cs) (ha0 : 0 < a) (ha : a ≤ 14) (h1 : gl cs = 1) (h : FI cs a F) (hf : Fix cs a F) : ∃ ws, F = ws.map some ∧ First cs a ws := by
  have all : ∀ o ∈ F, ∃ v, o = some v := fun o ho => by
    obtain ⟨r, hr, e⟩ := List.mem_iff_getElem.mp ho
    obtain ⟨n, rn, d⟩ := cover (a := (a : Int)) (by omega) hp h1 (r : Int)
    obtain ⟨w, ew, _⟩ := fix_le ha0 h hf rn
    have hr2 : r < a := by rw [← h.len]; exact hr
    have en : n % (a : Int) = (r : Int) := by
      have e1 : (r : Int) % (a : Int) = (r : Int) := Int.emod_eq_of_lt (by omega) (by omega)
      rw [← e1]
      exact (Int.emod_eq_emod_iff_emod_sub_eq_zero.mpr (Int.emod_eq_zero_of_dvd d)).symm
    rw [en, Int.toNat_natCast, List.getElem?_eq_getElem hr] at ew
    exact ⟨w, by rw [← e]; exact Option.some.inj ew⟩
  have hmap : ∀ G : List (Option Int), (∀ o ∈ G, ∃ v, o = some v) → ∃ ws : List Int, G = ws.map some := by
    intro G
    induction G with
    | nil => intro _; exact ⟨[], rfl⟩
    | cons o R ih =>
      intro hG
      obtain ⟨v, rfl⟩ := hG o List.mem_cons_self
      obtain ⟨ws, rfl⟩ := ih fun x hx => hG x (List.mem_cons_of_mem _ hx)
      exact ⟨v :: ws, rfl⟩
  obtain ⟨ws, rfl⟩ := hmap F all
  have at_ : ∀ {r : Nat} {w : Int}, ws[r]? = some w → (ws.map some)[r]? = some (some w) := fun {r w} e => by rw [List.getElem?_map, e]; rfl
  refine ⟨ws, rfl, ⟨by have := h.len; rwa [List.length_map] at this, fun r w e => ?_, fun r w e n rn hn => ?_⟩⟩
  · obtain ⟨q1, q2, _⟩ := h.ok r w (at_ e)
    exact ⟨q1, q2, h.small ha (at_ e)⟩
  · obtain ⟨w2, e2, hw⟩ := fix_le ha0 h hf rn
    rw [hn, Int.toNat_natCast, at_ e] at e2
    obtain rfl : w = w2 := Option.some.inj (Option.some.inj e2)
    exact hw
end K21

namespace K21
open PySem PySem.Spec PyProof.Rows L2 Fp
abbrev sFirst : Stmt := top 33
def oV : Option Int → V
  | none => .non
  | some v => .int v
theorem oV_at {F : List (Option Int)} {r : Nat} {o : Option Int} (h : F[r]? = some o) : (F.map oV)[r]? = some (oV o) := by rw [List.getElem?_map, h]; rfl
theorem oV_set (F : List (Option Int)) (r : Nat) (v : Int) : (F.map oV).set r (.int v) = (F.set r (some v)).map oV := by rw [List.map_set]; rfl
theorem ixN_of {n t : Nat} {k : Int} (e : k = (t : Int)) (h : t < n) : ixN n k = some t := by
  unfold ixN
  rw [if_pos (by omega), if_pos (by omega), show k.toNat = t by omega]
section
variable {P : Program} {w : World} {K : PySem.W.Frag} {mg : Str → Option Value} {base : Heap} {k : Nat}
def spFirst (K : PySem.W.Frag) : Sp := fun vs H Q _ => ∃ (a : Addr) (cs : List Int), vs = [.ref a] ∧ SqL K H a (VI cs) ∧ 1 ≤ cs.length ∧ cs.length ≤ 8 ∧ (∀ c ∈ cs, 1 ≤ c ∧ c ≤ 14) ∧ gl cs = 1 ∧
  ∀ p H' ws (m : Nat), (m : Int) ∈ cs → (∀ c ∈ cs, (m : Int) ≤ c) → First cs m ws → Same H H' → H p = none → H' p = some (.lst (VI ws)) → Q (.ref p) H'
abbrev NF : List Str := ["_law_counts_here", "_law_least", "_law_found", "_law_is_moved", "_law_rest", "_law_count", "_law_there", "_law_to"]
theorem scF : FnScope NF ["_law_counts_here"] (defScope sFirst) := ⟨rfl, rfl, rfl, by decide +kernel, rfl, by decide +kernel, by decide +kernel⟩
theorem d_first (B : Bnd K mg "_law_first_met" sFirst) (M : Mg mg) (hmin : mg "min" = none) : Def P w K mg base (k + 1) "_law_first_met" sFirst ["_law_counts_here"] (spFirst K) := by
  refine def_of B scF (by rintro _ _ _ _ ⟨a, cs, rfl, _⟩; rfl) (fun _ _ _ _ _ _ us hl => match us, hl with | [_], _ => rfl) fun f cdv A outer s H vs Q E hr h => ?_
  obtain ⟨a, cs, rfl, hS, t1, t2, T, hg, q⟩ := h
  refine ⟨_, pss_cons (ps_set (i := 1) scF.nd rfl (.inl rfl) (pe_callB (cr_min rfl) (by rfl) hmin (by decide +kernel) (pa_cons (pv 0) pa_nil)))
    (pss_cons (ps_par (i := 2) (j := 3) rfl scF.nd rfl rfl (by decide) rfl rfl (pa_cons (pe_op op_cat (pe_lst (pa_cons pe_int pa_nil)) (pe_op op_rep (pe_lst (pa_cons pe_non pa_nil)) (pe_op op_sub (pv 1) pe_int))) (pa_cons pe_bl pa_nil)) (by rfl))
    (pss_cons (ps_while PassesOwn.never (pt_val (pv 3))
      (pss_cons (ps_set (i := 3) scF.nd rfl (.inl rfl) pe_bl)
      (pss_one (ps_for PassesOwn.never rfl (pi_range1 (by rfl) M.range (pa_cons (pv 1) pa_nil)) (pg_name (i := 4) scF.nd rfl (.inl rfl))
        (pss_one (ps_for PassesOwn.never rfl (pi_list (pv 0)) (pg_name (i := 5) scF.nd rfl (.inl rfl))
          (pss_one (ps_if (pt_cmpR op_notN (pe_ix ix_list (pv 2) (pv 4) (fun _ _ => rfl)) pe_non (nomark _))
            (pss_cons (ps_set (i := 6) scF.nd rfl (.inl rfl) (pe_op op_add (pe_ix ix_list (pv 2) (pv 4) (fun _ _ => rfl)) (pv 5)))
            (pss_cons (ps_set (i := 7) scF.nd rfl (.inl rfl) (pe_op op_sub (pv 6) (pe_op op_mul (pe_op op_fdiv (pv 6) (pv 1)) (pv 1))))
            (pss_one (ps_if (PW.pt (pw_or (pt_cmpR op_isN (pe_ix ix_list (pv 2) (pv 7) (fun _ _ => rfl)) pe_non (nomark _)) (pw_or1 (pt_cmpR op_lt (pv 6) (pe_ix ix_list (pv 2) (pv 7) (fun _ _ => rfl)) (nomark _)))))
              (pss_one (ps_asg (pe_tup (pa_cons (pv 6) (pa_cons pe_bl pa_nil))) (pg_tup rfl (pgs_cons (pg_sub (pv 2) (pv 7) set_list) (pgs_cons (pg_name (i := 3) scF.nd rfl (.inl rfl)) pgs_nil))))) pss_nil)))) pss_nil))))))))
    (pss_one (ps_ret (pv 2))))), ?_⟩
  have hp : Pos cs := fun c hc => by have := (T c hc).1; omega
  refine ⟨_, rfl, a, cs, rfl, hS, by omega, fun m hm hmin => ?_⟩
  have hm2 := T m hm
  obtain ⟨aN, rfl⟩ : ∃ n : Nat, m = n := ⟨m.toNat, by omega⟩
  refine ⟨(by show 1 ≤ sizeLine; decide), fun p1 np1 => ⟨(by show 1 ≤ sizeLine; decide), fun p2 np2 => ?_⟩⟩
  have s1 : Same H (upd H p1 (.lst [.int 0])) := same_new np1
  have s2 : Same (upd H p1 (.lst [.int 0])) (upd (upd H p1 (.lst [.int 0])) p2 (.lst [.non])) := same_new np2
  refine ⟨_, rfl, aN, 1, rfl, rfl, p2, (aN : Int) - 1, _, rfl, rfl, upd_same, by omega, by omega, by rw [List.length_singleton, Nat.one_mul]; exact Nat.le_of_lt (small (by omega)), fun p3 np3 => ?_⟩
  have s3 := same_new (o := .lst (List.replicate ((aN : Int) - 1).toNat [V.non]).flatten) np3
  refine ⟨p1, p3, _, _, rfl, rfl, s3 _ _ (s2 _ _ upd_same), upd_same, ?_, fun p np => ⟨_, _, rfl, ?_⟩⟩
  · rw [show (List.replicate ((aN : Int) - 1).toNat [V.non]).flatten = List.replicate ((aN : Int) - 1).toNat V.non by simp, List.length_replicate, List.length_singleton]
    exact Nat.le_of_lt (small (by omega))
  have s4 := s1.trans (s2.trans (s3.trans (same_new (o := .lst ([V.int 0] ++ (List.replicate ((aN : Int) - 1).toNat [V.non]).flatten)) np)))
  have npH : H p = none := (s1.trans (s2.trans s3)).free np
  have F0 : FI cs aN (some 0 :: List.replicate (aN - 1) none) := by
    refine ⟨by rw [List.length_cons, List.length_replicate]; omega, rfl, fun r v e => ?_⟩
    cases r with
    | zero =>
      obtain rfl : (0 : Int) = v := Option.some.inj (Option.some.inj e)
      exact ⟨.zero, by simp, by omega⟩
    | succ r =>
      rw [List.getElem?_cons_succ, List.getElem?_replicate] at e
      split at e <;> cases e
  -- the while's word
  refine ⟨fun mm σ H' => ∃ (F : List (Option Int)) (mv : Bool) (y4 y5 y6 y7 : Option V), σ = [some (.ref a), some (.int aN), some (.ref p), some (.bl mv), y4, y5, y6, y7] ∧ mm = 2 * mu F + (if mv = true then 1 else 0) ∧ FI cs aN F ∧ (mv = false → Fix cs aN F) ∧ Same H H' ∧ H' p = some (.lst (F.map oV)),
    ⟨_, _, true, none, none, none, none, rfl, rfl, F0, (fun z => by cases z), s4, ?_⟩, ?_⟩
  · rw [upd_same]
    show some (HO.lst ([V.int 0] ++ (List.replicate ((aN : Int) - 1).toNat [V.non]).flatten)) = _
    rw [show ((aN : Int) - 1).toNat = aN - 1 by omega]
    simp [oV]
  rintro mm σ H' ⟨F, mv, y4, y5, y6, y7, rfl, rfl, hF, hfx, sm, hpF⟩
  refine ⟨_, rfl, mv, rfl, ?_⟩
  cases mv with
  | false =>
    refine iteF ?_
    obtain ⟨ws, rfl, fw⟩ := first_of hp (by omega) (by omega) hg hF (hfx rfl)
    refine ⟨_, rfl, q p H' ws aN hm hmin fw sm npH ?_⟩
    rw [hpF, List.map_map]; rfl
  | true =>
    refine iteT ⟨fun σ' H1 => ∃ (F' : List (Option Int)) (mv : Bool) (y4 y5 y6 y7 : Option V), σ' = [some (.ref a), some (.int aN), some (.ref p), some (.bl mv), y4, y5, y6, y7] ∧ FI cs aN F' ∧ (mv = false → F' = F ∧ Fix cs aN F') ∧ (mv = true → mu F' < mu F) ∧ Same H H1 ∧ H1 p = some (.lst (F'.map oV)),
      fun σ' H1 ⟨F', mv', z4, z5, z6, z7, a1, a2, a3, a4, a5, a6⟩ => ⟨_, ?_, F', mv', z4, z5, z6, z7, a1, rfl, a2, fun e => (a3 e).2, a5, a6⟩, ?_⟩
    · cases mv' with
      | true => have := a4 rfl; simp; omega
      | false => rw [(a3 rfl).1]; simp
    refine ⟨_, rfl, aN, rfl, by omega, by omega, ?_⟩
    -- rest by rest
    refine for_range (lo := 0) (n := (aN : Int).toNat) (fun i σ H1 => ∃ (F' : List (Option Int)) (mv : Bool) (y4 y5 y6 y7 : Option V), σ = [some (.ref a), some (.int aN), some (.ref p), some (.bl mv), y4, y5, y6, y7] ∧ FI cs aN F' ∧ (mv = false → F' = F ∧ ∀ (r : Nat) (v : Int), r < i → F'[r]? = some (some v) → ∀ c ∈ cs, Chk aN F' v c) ∧ (mv = true → mu F' < mu F) ∧ Same H H1 ∧ H1 p = some (.lst (F'.map oV)))
      ⟨F, false, y4, y5, y6, y7, rfl, hF, fun _ => ⟨rfl, fun r v h => by omega⟩, (fun z => by cases z), sm, hpF⟩ (fun i σ1 H1 hi ⟨F1, mv, z4, z5, z6, z7, e, h1, h2, h3, h4, h5⟩ => ?_) (fun σ1 H1 ⟨F1, mv, z4, z5, z6, z7, e, h1, h2, h3, h4, h5⟩ => ?_)
    · subst e
      -- count by count
      refine ⟨_, rfl, a, rfl, ⟨_, h4.seq hS⟩, ?_⟩
      refine for_list (xs := VI cs) (fun j σ H1 => ∃ (F' : List (Option Int)) (mv : Bool) (y5 y6 y7 : Option V), σ = [some (.ref a), some (.int aN), some (.ref p), some (.bl mv), some (.int (0 + (i : Int))), y5, y6, y7] ∧ FI cs aN F' ∧ (mv = false → F' = F ∧ (∀ (r : Nat) (v : Int), r < i → F'[r]? = some (some v) → ∀ c ∈ cs, Chk aN F' v c) ∧ ∀ v, F'[i]? = some (some v) → ∀ c ∈ cs.take j, Chk aN F' v c) ∧ (mv = true → mu F' < mu F) ∧ Same H H1 ∧ H1 p = some (.lst (F'.map oV)))
        ⟨F1, mv, z5, z6, z7, rfl, h1, fun e => ⟨(h2 e).1, (h2 e).2, fun v _ c hc => by simp at hc⟩, h3, h4, h5⟩ (fun j σ2 H2 _ ⟨_, _, _, _, _, _, _, _, _, h, _⟩ => h.seq hS) (fun j x σ2 H2 hx ⟨F2, mv2, w5, w6, w7, e2, g1, g2, g3, g4, g5⟩ => ?_) (fun σ2 H2 ⟨F2, mv2, w5, w6, w7, e2, g1, g2, g3, g4, g5⟩ => ?_)
      · obtain ⟨c, hc, rfl⟩ := vi_at hx
        subst e2
        have hcm := List.mem_of_getElem? hc
        have tk := take_one hc
        have hi2 : i < F2.length := by rw [g1.len]; omega
        obtain ⟨o, ho⟩ : ∃ o, F2[i]? = some o := ⟨_, List.getElem?_eq_getElem hi2⟩
        refine ⟨_, rfl, _, rfl, p, _, 0 + (i : Int), oV o, rfl, rfl, SqL.of g5, at_of (by omega) (oV_at ho), rfl, _, rfl, ?_⟩
        cases o with
        | none =>
          rw [show decide (oV none = V.non) = true from rfl]
          refine iteF ?_
          refine ⟨F2, mv2, some (.int c), _, _, rfl, g1, fun e => ⟨(g2 e).1, (g2 e).2.1, fun v' hv c' hc' => ?_⟩, g3, g4, g5⟩
          rw [tk, List.mem_append, List.mem_singleton] at hc'
          rcases hc' with hc' | rfl
          · exact (g2 e).2.2 v' hv c' hc'
          · rw [ho] at hv; cases hv
        | some v =>
          rw [show decide (oV (some v) = V.non) = false from rfl]
          refine iteT ?_
          refine ⟨_, rfl, _, rfl, p, _, 0 + (i : Int), .int v, rfl, rfl, SqL.of g5, at_of (by omega) (oV_at ho), _, rfl, v, c, rfl, rfl, ?_⟩
          refine ⟨_, rfl, _, rfl, _, rfl, v + c, (aN : Int), rfl, rfl, ⟨by omega, by omega⟩, _, rfl, (v + c) / (aN : Int), (aN : Int), rfl, rfl, .inr ⟨by omega, by omega⟩, v + c, _, rfl, rfl, ?_⟩
          obtain ⟨t, et2⟩ : ∃ t : Nat, (v + c) % (aN : Int) = (t : Int) := ⟨((v + c) % (aN : Int)).toNat, by have := Int.emod_nonneg (v + c) (show (aN : Int) ≠ 0 by omega); omega⟩
          have et : v + c - (v + c) / (aN : Int) * (aN : Int) = (t : Int) := by
            have := Int.emod_add_mul_ediv (v + c) (aN : Int)
            rw [Int.mul_comm (aN : Int)] at this
            omega
          have ht : t < aN := by have := Int.emod_lt_of_pos (v + c) (show (0 : Int) < aN by omega); omega
          obtain ⟨o2, ho2⟩ : ∃ o, F2[t]? = some o := ⟨_, List.getElem?_eq_getElem (by rw [g1.len]; exact ht)⟩
          refine ⟨_, rfl, _, rfl, p, _, _, oV o2, rfl, rfl, SqL.of g5, at_of et (oV_at ho2), rfl, _, rfl, ?_⟩
          cases o2 with
          | none =>
          rw [show decide (oV none = V.non) = true from rfl]
          refine iteT (iteT ?_)
          refine ⟨_, rfl, (by show 2 ≤ sizeLine; decide), fun Tt nT => ?_⟩
          have neT : p ≠ Tt := ne_of_none g5 nT
          obtain ⟨i1, i2⟩ := FI.put g1 hp (by omega) (by omega) ho hcm (T c hcm).2 et2 ho2 (fun w e => by cases e)
          have hset : ((F2.map oV).set t (.int (v + c))) = (F2.set t (some (v + c))).map oV := oV_set _ _ _
          refine ⟨Tt, _, rfl, SqT.of upd_same, rfl, _, _, rfl, _, rfl, _, rfl, p, _, _, t, rfl, rfl, (by rw [upd_ne neT]; exact g5), ixN_of et (by rw [List.length_map, g1.len]; exact ht), _, _, rfl, rfl, ?_⟩
          refine ⟨F2.set t (some (v + c)), true, some (.int c), some (.int (v + c)), some (.int (v + c - (v + c) / (aN : Int) * (aN : Int))), rfl, i1, (fun z => by cases z), fun _ => ?_, fun b o hb => ?_, ?_⟩
          · cases mv2 with
            | true => have := g3 rfl; omega
            | false => rw [(g2 rfl).1] at i2; rw [(g2 rfl).1]; exact i2
          · rw [upd_ne (ne_of_none hb npH)]
            exact same_new nT _ _ (g4 _ _ hb)
          · rw [upd_same, hset]
          | some w0 =>
          rw [show decide (oV (some w0) = V.non) = false from rfl]
          refine iteF ⟨_, rfl, _, rfl, _, rfl, p, _, _, .int w0, rfl, rfl, SqL.of g5, at_of et (oV_at ho2), v + c, w0, rfl, rfl, _, rfl, ite2 (fun h => ?_) (fun h => ?_)⟩
          · have hlt : v + c < w0 := of_decide_eq_true h
            refine ⟨_, rfl, (by show 2 ≤ sizeLine; decide), fun Tt nT => ?_⟩
            have neT : p ≠ Tt := ne_of_none g5 nT
            obtain ⟨i1, i2⟩ := FI.put g1 hp (by omega) (by omega) ho hcm (T c hcm).2 et2 ho2 (fun w e => by obtain rfl := Option.some.inj e; exact hlt)
            have hset : ((F2.map oV).set t (.int (v + c))) = (F2.set t (some (v + c))).map oV := oV_set _ _ _
            refine ⟨Tt, _, rfl, SqT.of upd_same, rfl, _, _, rfl, _, rfl, _, rfl, p, _, _, t, rfl, rfl, (by rw [upd_ne neT]; exact g5), ixN_of et (by rw [List.length_map, g1.len]; exact ht), _, _, rfl, rfl, ?_⟩
            refine ⟨F2.set t (some (v + c)), true, some (.int c), some (.int (v + c)), some (.int (v + c - (v + c) / (aN : Int) * (aN : Int))), rfl, i1, (fun z => by cases z), fun _ => ?_, fun b o hb => ?_, ?_⟩
            · cases mv2 with
              | true => have := g3 rfl; omega
              | false => rw [(g2 rfl).1] at i2; rw [(g2 rfl).1]; exact i2
            · rw [upd_ne (ne_of_none hb npH)]
              exact same_new nT _ _ (g4 _ _ hb)
            · rw [upd_same, hset]
          · have hge : w0 ≤ v + c := by
              have h2 : ¬ v + c < w0 := of_decide_eq_false (Bool.eq_false_iff.mpr h)
              omega
            refine ⟨F2, mv2, some (.int c), _, _, rfl, g1, fun e => ⟨(g2 e).1, (g2 e).2.1, fun v' hv c' hc' => ?_⟩, g3, g4, g5⟩
            rw [tk, List.mem_append, List.mem_singleton] at hc'
            rcases hc' with hc' | rfl
            · exact (g2 e).2.2 v' hv c' hc'
            · rw [ho] at hv
              obtain rfl := Option.some.inj (Option.some.inj hv)
              exact ⟨w0, by rw [et2, Int.toNat_natCast]; exact ho2, hge⟩
      · subst e2
        refine ⟨F2, mv2, some (.int (0 + (i : Int))), w5, w6, w7, rfl, g1, fun e => ⟨(g2 e).1, fun r v hr he c hc => ?_⟩, g3, g4, g5⟩
        rcases Nat.lt_or_ge r i with h | h
        · exact (g2 e).2.1 r v h he c hc
        · obtain rfl : r = i := by omega
          refine (g2 e).2.2 v he c ?_
          rw [vi_len, List.take_length]
          exact hc
    · subst e
      refine ⟨F1, mv, z4, z5, z6, z7, rfl, h1, fun e => ⟨(h2 e).1, fun r v he c hc => (h2 e).2 r v ?_ he c hc⟩, h3, h4, h5⟩
      have := (List.getElem?_eq_some_iff.mp he).1
      have := h1.len
      omega
end
end K21

namespace K21
theorem rch_min {cs : List Int} {a n : Int} (hp : Pos cs) (hm : ∀ c ∈ cs, a ≤ c) (r : Rch (· ∈ cs) n) (hn : 0 < n) : a ≤ n := by
  obtain ⟨c, hc, hl, _⟩ := (rch_next hp hn).mp r
  have := hm c hc
  omega
section
variable {cs ws : List Int} {a : Nat}
theorem First.at (h : First cs a ws) (ha : 0 < a) (n : Int) : ∃ w, ws[(n % (a : Int)).toNat]? = some w ∧ (((n % (a : Int)).toNat : Nat) : Int) = n % (a : Int) := by
  have h0 := Int.emod_nonneg n (show (a : Int) ≠ 0 by omega)
  have h1 := Int.emod_lt_of_pos n (show (0 : Int) < a by omega)
  exact ⟨_, List.getElem?_eq_getElem (by rw [h.len]; omega), by omega⟩
theorem First.met (h : First cs a ws) (ha : (a : Int) ∈ cs) (hp : Pos cs) {n w : Int} (e : ws[(n % (a : Int)).toNat]? = some w) : mb cs n = true ↔ w ≤ n := by
  have ha0 := hp _ ha
  obtain ⟨_, _, e2⟩ := h.at (by omega) n
  obtain ⟨r1, r2, _⟩ := h.rch _ w e
  rw [mb_iff]
  constructor
  · intro r
    exact h.low _ w e n r e2.symm
  · intro hl
    refine rch_ge ha ha0 r1 ?_ hl
    rw [e2] at r2
    exact Int.dvd_of_emod_eq_zero (Int.emod_eq_emod_iff_emod_sub_eq_zero.mp r2.symm)
theorem First.unmet (h : First cs a ws) (ha : (a : Int) ∈ cs) (hp : Pos cs) {n w : Int} (e : ws[(n % (a : Int)).toNat]? = some w) : mb cs n = false ↔ n < w := by
  have q := h.met ha hp e
  cases em : mb cs n with
  | true =>
    have := q.mp em
    constructor
    · intro z; cases z
    · intro z; omega
  | false =>
    constructor
    · intro _
      rcases Int.lt_or_le n w with z | z
      · exact z
      · rw [q.mpr z] at em; cases em
    · intro _; rfl
theorem First.big (h : First cs a ws) (ha : (a : Int) ∈ cs) (hp : Pos cs) {n : Int} (hn : 196 ≤ n) : mb cs n = true := by
  have ha0 := hp _ ha
  obtain ⟨w, e, _⟩ := h.at (by omega) n
  have := (h.rch _ w e).2.2
  exact (h.met ha hp e).mpr (by omega)
/-! ### how many gaps -/
def cnt (p : Nat → Bool) : Nat → Nat
  | 0 => 0
  | j + 1 => cnt p j + if p j = true then 1 else 0
def sumR (f : Nat → Nat) : Nat → Nat
  | 0 => 0
  | j + 1 => sumR f j + f j
theorem cnt_add (p : Nat → Bool) (m : Nat) : ∀ j, cnt p (m + j) = cnt p m + cnt (fun i => p (m + i)) j
  | 0 => rfl
  | j + 1 => by
    show cnt p (m + j) + _ = cnt p m + (cnt (fun i => p (m + i)) j + _)
    rw [cnt_add p m j, Nat.add_assoc]; rfl
theorem gapsL_cnt (cs : List Int) : ∀ m, (gapsL cs m).length = cnt (fun i => !mb cs ((i : Nat) : Int)) m
  | 0 => rfl
  | m + 1 => by
    rw [gapsL_succ, List.length_append, gapsL_cnt cs m]
    show _ = cnt (fun i => !mb cs ((i : Nat) : Int)) m + (if (!mb cs ((m : Nat) : Int)) = true then 1 else 0)
    cases mb cs ((m : Nat) : Int) <;> simp
theorem sumR_congr {f g : Nat → Nat} : ∀ {j : Nat}, (∀ i, i < j → f i = g i) → sumR f j = sumR g j
  | 0, _ => rfl
  | j + 1, h => by
    show sumR f j + f j = sumR g j + g j
    rw [sumR_congr fun i hi => h i (Nat.lt_succ_of_lt hi), h j (Nat.lt_succ_self j)]
theorem cnt_sum (p : Nat → Bool) : ∀ j, cnt p j = sumR (fun i => if p i = true then 1 else 0) j
  | 0 => rfl
  | j + 1 => by
    show cnt p j + _ = sumR _ j + _
    rw [cnt_sum p j]
theorem sumR_add (f g : Nat → Nat) : ∀ j, sumR (fun i => f i + g i) j = sumR f j + sumR g j
  | 0 => rfl
  | j + 1 => by
    show sumR _ j + (f j + g j) = (sumR f j + f j) + (sumR g j + g j)
    rw [sumR_add f g j]
    omega
/-- how often the least count goes into the first met number of a rest -/
def qr (ws : List Int) (a r : Nat) : Nat := (ws.getD r 0 / (a : Int)).toNat
theorem First.block (h : First cs a ws) (ha : (a : Int) ∈ cs) (hp : Pos cs) (K i : Nat) (hi : i < a) : (!mb cs ((a * K + i : Nat) : Int)) = decide (K < qr ws a i) := by
  have ha0 := hp _ ha
  have hl : i < ws.length := by rw [h.len]; exact hi
  have em : ((a * K + i : Nat) : Int) % (a : Int) = (i : Int) := by
    rw [← Int.natCast_emod, Nat.mul_add_mod, Nat.mod_eq_of_lt hi]
  have e : ws[(((a * K + i : Nat) : Int) % (a : Int)).toNat]? = some ws[i] := by rw [em, Int.toNat_natCast, List.getElem?_eq_getElem hl]
  have hw := h.rch i ws[i] (List.getElem?_eq_getElem hl)
  have w0 := Rch.nonneg hp hw.1
  have eq : qr ws a i = (ws[i] / (a : Int)).toNat := by unfold qr; rw [List.getD_eq_getElem?_getD, List.getElem?_eq_getElem hl]; rfl
  have dm := Int.emod_add_mul_ediv ws[i] (a : Int)
  rw [hw.2.1] at dm
  have q0 : 0 ≤ ws[i] / (a : Int) := Int.ediv_nonneg w0 (by omega)
  obtain ⟨Q, hQ⟩ : ∃ Q : Nat, ws[i] / (a : Int) = (Q : Int) := ⟨(ws[i] / (a : Int)).toNat, by omega⟩
  rw [hQ] at dm
  rw [eq, hQ, Int.toNat_natCast]
  have key : ((a * K + i : Nat) : Int) < ws[i] ↔ K < Q := by
    rw [← dm, Int.natCast_add, Int.natCast_mul]
    constructor
    · intro z
      rcases Nat.lt_or_ge K Q with y | y
      · exact y
      · have := Int.mul_le_mul_of_nonneg_left (show (Q : Int) ≤ K by omega) (show (0 : Int) ≤ a by omega)
        omega
    · intro z
      have := Int.mul_lt_mul_of_pos_left (show (Q : Int) > K by omega) (show (0 : Int) < a by omega)
      omega
  have um := h.unmet ha hp e
  by_cases z : K < Q
  · rw [um.mpr (key.mpr z), decide_eq_true z]; rfl
  · rw [decide_eq_false z]
    cases em2 : mb cs ((a * K + i : Nat) : Int) with
    | true => rfl
    | false => exact absurd (key.mp (um.mp em2)) z
theorem First.count (h : First cs a ws) (ha : (a : Int) ∈ cs) (hp : Pos cs) : ∀ K : Nat, cnt (fun i => !mb cs ((i : Nat) : Int)) (a * K) = sumR (fun r => min (qr ws a r) K) a
  | 0 => by
    have : ∀ j, sumR (fun r => min (qr ws a r) 0) j = 0 := by
      intro j
      induction j with
      | zero => rfl
      | succ j ih => show sumR _ j + _ = 0; rw [ih]; simp
    rw [this]; rfl
  | K + 1 => by
    rw [Nat.mul_succ, cnt_add, First.count h ha hp K, cnt_sum, ← sumR_add]
    refine sumR_congr fun i hi => ?_
    rw [h.block ha hp K i hi]
    by_cases z : K < qr ws a i
    · rw [decide_eq_true z, if_pos rfl]; omega
    · rw [decide_eq_false z, if_neg Bool.false_ne_true]; omega
theorem First.sum (h : First cs a ws) (ha0 : 0 < a) (hp : Pos cs) : ∀ j, j ≤ a → ((ws.take j).map fun w => w / (a : Int)).sum = (sumR (qr ws a) j : Nat)
  | 0, _ => by rw [List.take_zero]; rfl
  | j + 1, hj => by
    have hl : j < ws.length := by rw [h.len]; exact hj
    have hx : ws[j]? = some ws[j] := List.getElem?_eq_getElem hl
    have w0 := Rch.nonneg hp (h.rch j _ hx).1
    have q0 : 0 ≤ ws[j] / (a : Int) := Int.ediv_nonneg w0 (by omega)
    rw [take_one hx, List.map_append, List.sum_append, First.sum h ha0 hp j (Nat.le_of_lt hj)]
    show _ + (List.map _ [ws[j]]).sum = ((sumR (qr ws a) j + qr ws a j : Nat) : Int)
    have eq : qr ws a j = (ws[j] / (a : Int)).toNat := by unfold qr; rw [List.getD_eq_getElem?_getD, hx]; rfl
    rw [eq, List.map_singleton, List.sum_cons, List.sum_nil]
    omega
theorem First.gaps (h : First cs a ws) (ha : (a : Int) ∈ cs) (hp : Pos cs) {R : List Int} (hR : GapOf cs R) : (ws.map fun w => w / (a : Int)).sum = (R.length : Int) := by
  have ha0 := hp _ ha
  have e : R = gapsL cs (a * 200) := hR.uniq (gapOf_L fun n hn => h.big ha hp (by
    have : 1 * 200 ≤ a * 200 := Nat.mul_le_mul_right 200 (by omega)
    omega))
  have s := h.sum (by omega) hp a (Nat.le_refl a)
  rw [← h.len, List.take_length] at s
  rw [h.len] at s
  rw [s, e, gapsL_cnt, h.count ha hp 200]
  congr 1
  refine sumR_congr fun i hi => ?_
  have hl : i < ws.length := by rw [h.len]; exact hi
  have hx : ws[i]? = some ws[i] := List.getElem?_eq_getElem hl
  have hw := (h.rch i _ hx).2.2
  have eq : qr ws a i = (ws[i] / (a : Int)).toNat := by unfold qr; rw [List.getD_eq_getElem?_getD, hx]; rfl
  have : ws[i] / (a : Int) ≤ 196 := by
    rcases Int.lt_or_le ws[i] 0 with z | z
    · have := Int.ediv_neg_of_neg_of_pos z (show (0 : Int) < a by omega)
      omega
    · exact Int.le_trans (Int.ediv_le_self _ z) hw
  omega
/-! ### the greatest gap -/
theorem last_of {R : List Int} {g : Int} (hs : R.Pairwise (· < ·)) (hg : g ∈ R) (hm : ∀ x ∈ R, x ≤ g) : R.getLast? = some g := by
  rcases List.eq_nil_or_concat R with e | ⟨L, z, e⟩
  · subst e
    simp at hg
  · rw [List.concat_eq_append] at e
    subst e
    rw [List.getLast?_append]
    have hz := hm z (by simp)
    rcases List.mem_append.mp hg with q | q
    · have := (List.pairwise_append.mp hs).2.2 g q z (by simp)
      omega
    · rw [List.mem_singleton.mp q]; rfl
theorem First.none (h : First cs a ws) (ha : (a : Int) ∈ cs) (hp : Pos cs) (h1 : a = 1) {R : List Int} (hR : GapOf cs R) : R = [] := by
  refine List.eq_nil_iff_forall_not_mem.mpr fun x hx => ?_
  obtain ⟨x0, hx⟩ := (hR.mem x).mp hx
  subst h1
  refine mb_false.mp hx ?_
  have := rch_up ha (.zero (P := (· ∈ cs))) x.toNat
  rw [Int.zero_add, show ((x.toNat : Nat) : Int) = x by omega, show ((1 : Nat) : Int) * x = x by omega] at this
  exact this
theorem First.last (h : First cs a ws) (ha : (a : Int) ∈ cs) (hp : Pos cs) (hm : ∀ c ∈ cs, (a : Int) ≤ c) (h1 : 1 < a) {m : Int} (hw : m ∈ ws) (hx : ∀ y ∈ ws, y ≤ m) {R : List Int} (hR : GapOf cs R) : R.getLast? = some (m - a) := by
  have ha0 := hp _ ha
  obtain ⟨r, hr, er⟩ := List.mem_iff_getElem.mp hw
  have e : ws[r]? = some m := by rw [List.getElem?_eq_getElem hr, er]
  obtain ⟨r1, r2, r3⟩ := h.rch r m e
  -- the rest 1
  have l1 : 1 < ws.length := by rw [h.len]; exact h1
  have e1 : ws[1]? = some ws[1] := List.getElem?_eq_getElem l1
  obtain ⟨q1, q2, _⟩ := h.rch 1 ws[1] e1
  have w1 : 0 < ws[1] := by
    have := Rch.nonneg hp q1
    rcases Int.lt_or_le 0 ws[1] with z | z
    · exact z
    · have z0 : ws[1] = 0 := by omega
      rw [z0] at q2
      simp at q2
  have w1a := rch_min hp hm q1 w1
  have m1 := hx ws[1] (List.getElem_mem l1)
  refine last_of hR.srt ((hR.mem _).mpr ⟨by omega, mb_false.mpr fun z => ?_⟩) fun x hxR => ?_
  · have em : (m - (a : Int)) % (a : Int) = (r : Int) := by rw [Int.sub_emod, Int.emod_self, Int.sub_zero, Int.emod_emod_of_dvd _ (Int.dvd_refl _)]; exact r2
    have := h.low r m e _ z em
    omega
  · obtain ⟨x0, x1⟩ := (hR.mem x).mp hxR
    obtain ⟨w, ew, e2⟩ := h.at (by omega) x
    have lt := (h.unmet ha hp ew).mp x1
    have q := (h.rch _ w ew).2.1
    rw [e2] at q
    have hd : (a : Int) ∣ w - x := Int.dvd_of_emod_eq_zero (Int.emod_eq_emod_iff_emod_sub_eq_zero.mp q)
    have := Int.le_of_dvd (by omega) hd
    have := hx w (List.mem_of_getElem? ew)
    omega
/-! ### least counts are first ones -/
theorem First.least (h : First cs a ws) (ha : (a : Int) ∈ cs) (hp : Pos cs) {R : List Int} (hR : IsL cs R) {c : Int} (hc : c ∈ R) (hne : c ≠ a) : c ∈ ws := by
  have ha0 := hp _ ha
  obtain ⟨hcs, hn⟩ := (hR.mem c).mp hc
  obtain ⟨w, ew, e2⟩ := h.at (by omega) c
  have q := h.rch _ w ew
  have hle := h.low _ w ew c (.one hcs) e2.symm
  rcases Int.lt_or_le w c with z | z
  · refine absurd ?_ hn
    have w0 := Rch.nonneg hp q.1
    have q2 := q.2.1
    rw [e2] at q2
    obtain ⟨k, hk⟩ : (a : Int) ∣ c - w := Int.dvd_of_emod_eq_zero (Int.emod_eq_emod_iff_emod_sub_eq_zero.mp q2.symm)
    have k1 : 1 ≤ k := by
      rcases Int.lt_or_le k 1 with y | y
      · have := Int.mul_le_mul_of_nonneg_left (show k ≤ 0 by omega) (show (0 : Int) ≤ a by omega)
        omega
      · exact y
    have ac : (a : Int) < c := by
      have h2 := Int.mul_le_mul_of_nonneg_left k1 (show (0 : Int) ≤ a by omega)
      omega
    have low : Rch (fun d => d ∈ cs ∧ d < c) w := (Rch.le hp q.1).mono fun d hd => ⟨hd.1, by omega⟩
    have up := rch_up (P := fun d => d ∈ cs ∧ d < c) ⟨ha, ac⟩ low k.toNat
    rw [show ((k.toNat : Nat) : Int) = k by omega, ← hk, show w + (c - w) = c by omega] at up
    exact up
  · rw [show c = w by omega]
    exact List.mem_of_getElem? ew
end
end K21

namespace K21
open PySem PySem.Spec PyProof.Rows L2 Fp
abbrev sRight : Stmt := top 34
abbrev sLaw : Stmt := top 35
theorem cut_mem {xs : List V} {lo hi : Option Int} {x : V} (h : x ∈ cutV xs lo hi) : x ∈ xs := by
  unfold cutV at h
  exact List.mem_of_mem_drop (List.mem_of_mem_take h)
theorem gl_pos {cs : List Int} (h : 1 ≤ cs.length) (hp : Pos cs) : 1 ≤ gl cs := by
  have h0 := gl_nonneg cs
  have hc := hp cs[0] (List.getElem_mem (by omega))
  have hd := (gl_dvd cs (gl cs).natAbs).mp (Nat.dvd_refl _) cs[0] (List.getElem_mem (by omega))
  rcases Int.lt_or_le 0 (gl cs) with z | z
  · omega
  · rw [show (gl cs).natAbs = 0 by omega] at hd
    have := Nat.eq_zero_of_zero_dvd hd
    omega
theorem gl_app {cs : List Int} {m : Int} (hm : m ∈ cs) (h0 : 0 < m) : gl (cs ++ [m + 1]) = 1 := by
  have hd := (gl_dvd (cs ++ [m + 1]) (gl (cs ++ [m + 1])).natAbs).mp (Nat.dvd_refl _)
  have h1 := hd m (List.mem_append_left _ hm)
  have h2 := hd (m + 1) (by simp)
  rw [show (m + 1).natAbs = m.natAbs + 1 by omega] at h2
  have h3 := (Nat.dvd_add_right h1).mp h2
  have h4 := Nat.dvd_one.mp h3
  have := gl_nonneg (cs ++ [m + 1])
  omega
theorem scal_last (R : List Int) : scal (lastV R) (lastV R) = true := by
  unfold lastV
  cases R.getLast? <;> rfl
section
variable {P : Program} {w : World} {K : PySem.W.Frag} {mg : Str → Option Value} {base : Heap} {k : Nat}
def spRight : Sp := fun vs H Q _ => ∃ p : Addr, vs = [.ref p] ∧ PotOk H p ∧ ∀ H', Keep p H H' → Q (.bl true) H'
abbrev NR : List Str := ["_law_pot_here", "_law_counts_here", "_law_least", "_law_firsts", "_law_found", "_law_due", "_law_number", "_law_gap", "_law_count"]
theorem sc33 : FnScope NR ["_law_pot_here"] (defScope sRight) := ⟨rfl, rfl, rfl, by decide +kernel, rfl, by decide +kernel, by decide +kernel⟩
structure Dfs (P : Program) (w : World) (K : PySem.W.Frag) (mg : Str → Option Value) (base : Heap) (k : Nat) : Prop where
  counts : Def P w K mg base k "_law_counts" sCounts ["_law_pot_here", "_law_most_many", "_law_most"] spCounts
  lcommon : Def P w K mg base k "_law_common" sLCommon ["_law_counts_here"] (spCommon K)
  first : Def P w K mg base k "_law_first_met" sFirst ["_law_counts_here"] (spFirst K)
  common : Def P w K mg base k "common_count" sCommon ["counts"] (spCommon K)
  isMet : Def P w K mg base k "is_met" sIsMet ["counts", "many"] (spIsMet K)
  least : Def P w K mg base k "least_counts" sLeast ["counts"] (spLeast K)
  gaps : Def P w K mg base k "gaps" sGaps ["counts"] (spGaps K)
  great : Def P w K mg base k "greatest_gap" sGreat ["counts"] (spGreat K)
theorem bk_isMet : BindK 0 2 true "is_met" sIsMet ["counts", "many"] ["many", "counts"] := fun _ _ _ _ _ _ us ws hu hw => match us, ws, hu, hw with | [], [_, _], _, _ => rfl
theorem bk_great : BindK 0 1 false "greatest_gap" sGreat ["counts"] ["counts"] := fun _ _ _ _ _ _ us ws hu hw => match us, ws, hu, hw with | [], [_], _, _ => rfl
theorem d_right (B : Bnd K mg "_law_right" sRight) (M : Mg mg) (hmin : mg "min" = none) (hsum : mg "sum" = none) (D : Dfs P w K mg base k) : DefG P w K mg base (k + 1) "_law_right" sRight ["_law_pot_here"] spRight := by
  refine defG_of B sc33 (by rintro _ _ _ _ ⟨a, rfl, _⟩; rfl) (fun _ _ _ _ _ _ us hl => match us, hl with | [_], _ => rfl) fun f cdv A outer s H vs Q E hgd hr h => ?_
  obtain ⟨p, rfl, hp, q⟩ := h
  have hu := hr.units
  refine ⟨_,
    pss_cons (ps_set (i := 1) sc33.nd rfl (.inl rfl) (pe_d D.counts hr (by rfl) (pa_cons (pv 0) (pa_cons pe_int (pa_cons pe_int pa_nil)))))
    (C8.pss_cut (ps_if (pt_cmpR op_gt (pe_d D.lcommon hr (by rfl) (pa_cons (pv 1) pa_nil)) pe_int (nomark _))
      (pss_one (ps_expr (pe_bm PySem.F.plainAttrs_list PySem.F.slot_list_append PySem.F.type_list_append mt_append (pv 1) (pa_cons (pe_op op_add (pe_callB (cr_max rfl) (by rfl) M.max (by decide +kernel) (pa_cons (pv 1) pa_nil)) pe_int) pa_nil)))) pss_nil)
    (pss_cons (ps_asg (pe_tup (pa_cons (pe_callB (cr_min rfl) (by rfl) hmin (by decide +kernel) (pa_cons (pv 1) pa_nil)) (pa_cons (pe_d D.first hr (by rfl) (pa_cons (pv 1) pa_nil)) pa_nil)))
      (pg_tup rfl (pgs_cons (pg_name (i := 2) sc33.nd rfl (.inr rfl)) (pgs_cons (pg_name (i := 3) sc33.nd rfl (.inr rfl)) pgs_nil))))
    (pss_cons (ps_set (i := 4) sc33.nd rfl (.inl rfl) (pe_d D.gaps hr (by rfl) (pa_cons (pv 1) pa_nil)))
    (pss_cons (ps_if (PW.pt (pw_or (pt_cmpR op_ne (pe_d D.common hr (by rfl) (pa_cons (pv 1) pa_nil)) pe_int (nomark _))
        (pw_or1 (pt_cmpR op_ne (pe_callB call_len_seq (by rfl) M.len boot_len (pa_cons (pv 4) pa_nil)) (pe_callB (cr_sum rfl) (by rfl) hsum (by decide +kernel) (pa_cons
          (pe_lc (own := [("_law_number", 6)]) (g := gName 6) (tt := tYes) rfl sc33.nd (pi_list (pv 3)) (blkOk_by (own := [("_law_number", 6)]) (N := NR) (sc := defScope sRight) (by decide +kernel))
            (fun _ _ _ _ _ => pg_name (i := 6) sc33.nd rfl (Or.inl rfl)) (fun _ _ _ _ _ => pts_nil) (fun _ _ _ _ _ => pe_op op_fdiv (pv 6) (pv 2))) pa_nil)) (nomark _))))) pss_never pss_nil)
    (pss_cons (ps_set (i := 5) sc33.nd rfl (.inl rfl) (pe_op op_sub (pe_callB (cr_max rfl) (by rfl) M.max (by decide +kernel) (pa_cons (pv 3) pa_nil)) (pv 2)))
    (C8.pss_cut (ps_if (PW.pt (pw_or (pt_cmpR op_ne (pe_d D.great hr (by rfl) (pa_cons (pv 1) pa_nil)) (pe_ifExp (pt_cmpR op_gt (pv 2) pe_int (nomark _)) (pv 5) pe_non) (nomark _))
        (pw_or1 (pt_cmpR op_ne (pe_dk0 D.great hr (by rfl) 1 false ["counts"] bk_great (pk_cons (pe_revL (pv 1)) pk_nil)) (pe_d D.great hr (by rfl) (pa_cons (pv 1) pa_nil)) (nomark _))))) pss_never pss_nil)
    (pss_cons (ps_for PassesOwn.never rfl (pi_list (pv 3)) (pg_name (i := 6) sc33.nd rfl (.inl rfl))
      (pss_cons (ps_if (PW.pt (pw_or (pt_cmpR op_notBl (pe_d D.isMet hr (by rfl) (pa_cons (pv 1) (pa_cons (pv 6) pa_nil))) pe_bl (nomark _))
          (pw_or1 (pt_cmpR op_notBl (pe_d D.isMet hr (by rfl) (pa_cons (pv 1) (pa_cons (pe_op op_add (pv 6) (pv 2)) pa_nil))) pe_bl (nomark _))))) pss_never pss_nil)
      (pss_one (ps_if (PW.pt (pw_and (pt_cmpR op_gt (pv 6) pe_int (nomark _)) (pw_and1 (pt_cmpR op_notBl (pe_dk0 D.isMet hr (by rfl) 2 true ["many", "counts"] bk_isMet (pk_cons (pe_op op_sub (pv 6) (pv 2)) (pk_cons (pv 1) pk_nil))) pe_bl (nomark _))))) pss_never pss_nil))))
    (pss_cons (ps_for PassesOwn.never rfl (pi_list (pe_op op_cat (pe_slice sl_list (pv 4) po_none (po_some pe_int)) (pe_slice sl_list (pv 4) (po_some (pe_un un_neg pe_int)) po_none))) (pg_name (i := 7) sc33.nd rfl (.inl rfl))
      (pss_one (ps_if (PW.pt (pw_or (pt_cmpR op_le (pe_ix ix_list (pv 3) (pe_op op_sub (pv 7) (pe_op op_mul (pe_op op_fdiv (pv 7) (pv 2)) (pv 2))) (fun _ _ => rfl)) (pv 7) (nomark _))
          (pw_or1 (pt_cmpR op_notBl (pe_d D.isMet hr (by rfl) (pa_cons (pv 1) (pa_cons (pv 7) pa_nil))) pe_bl (nomark _))))) pss_never pss_nil)))
    (pss_one (ps_ret (pe_cmpR (op_eqD hu) (pe_lc (own := [("_law_count", 8)]) (g := gName 8) (tt := tAnd (tTest (tOp rNe (tVar 8) (tVar 2))) (tTest (tOp (rIn K true) (tVar 8) (tVar 3)))) (te := tVar 8) rfl sc33.nd (pi_list (pe_d D.least hr (by rfl) (pa_cons (pv 1) pa_nil)))
        (blkOk_by (own := [("_law_count", 8)]) (N := NR) (sc := defScope sRight) (by decide +kernel)) (fun _ _ _ _ _ => pg_name (i := 8) sc33.nd rfl (Or.inl rfl))
        (fun _ _ _ _ _ => pts_one (PW.pt (pw_and (pt_cmpR op_ne (pv 8) (pv 2) (nomark _)) (pw_and1 (pt_cmpR op_notIn_seq (pv 8) (pv 3) (by rfl)))))) (fun _ _ _ _ _ => pv 8)) (pe_lst pa_nil) (nomark _)))))))))))), ?_⟩
  refine ⟨_, rfl, p, 4, 13, rfl, hp, by omega, by omega, by omega, by omega, fun C H2 c0 l1 l2 ec hp2 k2 nC hC => ?_⟩
  have hp0 : Pos c0 := fun c hc => by have := (ec c hc).1; omega
  have T0 : Told c0 := ⟨l1, by omega, fun c hc => by have := ec c hc; omega⟩
  have nCp : C ≠ p := fun z => by
    obtain ⟨u, v, e, _⟩ := hp
    rw [z, e] at nC
    cases nC
  -- the counts' common divisor is 1 behind this
  refine ⟨fun σ H' => ∃ cs : List Int, σ = [some (.ref p), some (.ref C), none, none, none, none, none, none, none] ∧ Keep p H H' ∧ H' C = some (.lst (VI cs)) ∧ 1 ≤ cs.length ∧ cs.length ≤ 5 ∧ (∀ c ∈ cs, 1 ≤ c ∧ c ≤ 14) ∧ gl cs = 1, ?_, ?_⟩
  · refine ⟨_, rfl, C, c0, rfl, sq_lst hC, T0, fun H3 s3 => ⟨gl c0, 1, rfl, rfl, _, rfl, ite2 (fun c => ?_) (fun c => ?_)⟩⟩
    · refine ⟨_, rfl, Or.inl ⟨rfl, _, SqL.of (s3 _ _ hC)⟩, _, rfl, C, c0, rfl, SqL.of (s3 _ _ hC), by omega, fun m hm hmx => ⟨m, 1, rfl, rfl, C, _, _, rfl, rfl, s3 _ _ hC, (by rw [vi_len]; exact small (by omega)), c0 ++ [m + 1], rfl, fun b o nb hb => ?_, ?_, ?_, ?_, fun c hc => ?_, ?_⟩⟩
      · rw [upd_ne (ne_of_none hb nC)]
        exact s3 _ _ (k2 _ _ nb hb)
      · rw [upd_same]
        unfold VI
        rw [List.map_append]; rfl
      · rw [List.length_append]; omega
      · rw [List.length_append, List.length_singleton]; omega
      · rcases List.mem_append.mp hc with h | h
        · have := ec c h; omega
        · rw [List.mem_singleton.mp h]
          have := ec m hm
          omega
      · exact gl_app hm (hp0 m hm)
    · have c' : ¬ 1 < gl c0 := of_decide_eq_false (Bool.eq_false_iff.mpr c)
      have g1 := gl_pos l1 hp0
      exact ⟨c0, rfl, k2.trans (Keep.of s3), s3 _ _ hC, l1, by omega, fun c hc => by have := ec c hc; omega, by omega⟩
  clear T0 hp0 hC ec l1 l2 k2 hp2 c0 H2
  rintro _ H2 ⟨cs, rfl, k2, hC, l1, l5, ec, hg⟩
  have T : Told cs := ⟨l1, by omega, fun c hc => by have := ec c hc; omega⟩
  -- least, firsts
  refine ⟨_, rfl, C, cs, rfl, SqL.of hC, by omega, fun m hm hmin => ?_⟩
  refine ⟨_, rfl, C, cs, rfl, SqL.of hC, l1, by omega, ec, hg, fun fs H3 ws aN haN hminN fw s3 nfs hfs => ?_⟩
  obtain rfl : m = (aN : Int) := by have := hmin _ haN; have := hminN _ hm; omega
  have ha1 := ec _ hm
  refine ⟨(by show 2 ≤ sizeLine; decide), fun Tt nT => ⟨Tt, _, rfl, SqT.of upd_same, rfl, _, _, rfl, _, _, rfl, rfl, ?_⟩⟩
  have s4 := s3.trans (same_new (o := .tup [.int (aN : Int), .ref fs]) nT)
  have hfs4 := same_new (o := .tup [.int (aN : Int), .ref fs]) nT _ _ hfs
  have hC4 := s4 _ _ hC
  generalize upd H3 Tt (.tup [.int (aN : Int), .ref fs]) = H4 at s4 hfs4 hC4 ⊢
  -- found
  refine ⟨_, rfl, C, cs, rfl, SqL.of hC4, T, hg, fun G H5 R gR lR s5 nG hG => ?_⟩
  have hC5 := s5 _ _ hC4
  have hfs5 := s5 _ _ hfs4
  have lws : (VI ws).length = aN := by rw [vi_len, fw.len]
  -- the first question
  refine ⟨_, rfl, C, cs, rfl, sq_lst hC5, T, fun H6 s6 => ⟨rfl, _, rfl, ?_⟩⟩
  rw [hg, decide_eq_true rfl]
  refine iteF ⟨_, rfl, G, _, rfl, .inl (SqL.of (s6 _ _ hG)), ?_⟩
  refine ⟨_, rfl, fs, rfl, ⟨_, SqL.of (s6 _ _ hfs5)⟩, fun D1 nD1 => ?_⟩
  refine lc_l (xs := VI ws) (fun i => (ws[i]?).bind fun w => some (.int (w / (aN : Int)))) (SqL.of (s6 _ _ hfs5)) nD1 (by rw [lws]; exact Nat.le_of_lt (small (by omega))) (fun i x H7 hx s7 Y N y nn => ?_) (fun H7 s7 hD1 => ?_)
  · obtain ⟨w1, hw, rfl⟩ := vi_at hx
    refine ⟨rfl, _, rfl, _, rfl, w1, aN, rfl, rfl, ⟨by omega, by omega⟩, y _ _ (Same.refl _) ?_⟩
    dsimp only
    rw [hw]; rfl
  rw [ints_map ws fun w => w / (aN : Int)] at hD1
  have s57 := s6.trans s7
  refine ⟨D1, _, rfl, SqL.of hD1, rfl, _, rfl, ?_⟩
  rw [fw.gaps hm T.pos gR, vi_len, decide_eq_true rfl]
  refine iteF ?_
  have hC7 := s57 _ _ hC5
  have hfs7 := s57 _ _ hfs5
  have hG7 := s57 _ _ hG
  -- due
  refine ⟨_, rfl, fs, ws, rfl, SqL.of hfs7, by rw [fw.len]; omega, fun mx hmx hmax => ⟨_, rfl, mx, aN, rfl, rfl, ?_⟩⟩
  have eL : lastV R = if (1 : Int) < aN then .int (mx - aN) else .non := by
    unfold lastV
    by_cases h1 : (1 : Int) < aN
    · rw [if_pos h1, fw.last hm T.pos hminN (by omega) hmx hmax gR]
    · rw [if_neg h1, fw.none hm T.pos (by omega) gR]; rfl
  -- the second question
  refine ⟨fun σ H' => σ = [some (.ref p), some (.ref C), some (.int aN), some (.ref fs), some (.ref G), some (.int (mx - aN)), none, none, none] ∧ Same H7 H', ?_, ?_⟩
  · refine ⟨_, rfl, C, cs, rfl, SqL.of hC7, T, hg, fun H8 R2 gR2 s8 => ?_⟩
    obtain rfl := gR.uniq gR2
    have Tr : Told cs.reverse := ⟨by rw [List.length_reverse]; exact l1, by rw [List.length_reverse]; omega, fun c hc => T.each c (List.mem_reverse.mp hc)⟩
    have hgr : gl cs.reverse = 1 := (gl_congr (ds := cs.reverse) (cs := cs) fun x => List.mem_reverse).trans hg
    have mr : ∀ n, mb cs.reverse n = mb cs n := fun n => mb_congr (rch_congr (fun x => List.mem_reverse) n)
    have erv : (VI cs).reverse = VI cs.reverse := by unfold VI; rw [List.map_reverse]
    refine ⟨_, rfl, aN, 1, rfl, rfl, _, rfl, ite2 (fun c => ?_) (fun c => ?_)⟩
    · have c' : (1 : Int) < aN := of_decide_eq_true c
      refine ⟨_, rfl, ?_⟩
      rw [if_pos c'] at eL
      rw [eL]
      refine ⟨rfl, _, rfl, ?_⟩
      rw [decide_eq_true rfl]
      refine iteF ⟨_, rfl, C, _, rfl, SqL.of (s8 _ _ hC7), fun rv nrv => ⟨rfl, rfl, rv, cs.reverse, rfl, SqL.of (by rw [upd_same, erv]), Tr, hgr, fun H9 R3 gR3 s9 => ?_⟩⟩
      obtain rfl := gR.uniq (gR3.congr mr)
      have s79 := s8.trans ((same_new (o := .lst (VI cs).reverse) nrv).trans s9)
      refine ⟨_, rfl, C, cs, rfl, SqL.of (s79 _ _ hC7), T, hg, fun H10 R4 gR4 s10 => ?_⟩
      obtain rfl := gR.uniq gR4
      refine ⟨scal_last R, _, rfl, ?_⟩
      rw [decide_eq_true rfl]
      exact iteF ⟨rfl, s79.trans s10⟩
    · have c' : ¬ (1 : Int) < aN := of_decide_eq_false (Bool.eq_false_iff.mpr c)
      rw [if_neg c'] at eL
      rw [eL]
      refine ⟨rfl, _, rfl, ?_⟩
      rw [decide_eq_true rfl]
      refine iteF ⟨_, rfl, C, _, rfl, SqL.of (s8 _ _ hC7), fun rv nrv => ⟨rfl, rfl, rv, cs.reverse, rfl, SqL.of (by rw [upd_same, erv]), Tr, hgr, fun H9 R3 gR3 s9 => ?_⟩⟩
      obtain rfl := gR.uniq (gR3.congr mr)
      have s79 := s8.trans ((same_new (o := .lst (VI cs).reverse) nrv).trans s9)
      refine ⟨_, rfl, C, cs, rfl, SqL.of (s79 _ _ hC7), T, hg, fun H10 R4 gR4 s10 => ?_⟩
      obtain rfl := gR.uniq gR4
      refine ⟨scal_last R, _, rfl, ?_⟩
      rw [decide_eq_true rfl]
      exact iteF ⟨rfl, s79.trans s10⟩
  clear eL hmx hmax
  rintro _ H8 ⟨rfl, s8⟩
  have hC8 := s8 _ _ hC7
  have hfs8 := s8 _ _ hfs7
  have hG8 := s8 _ _ hG7
  have k8 : Keep p H H8 := k2.trans (Keep.of (s4.trans (s5.trans (s57.trans s8))))
  -- the first met numbers, one after another
  refine ⟨_, rfl, fs, rfl, ⟨_, SqL.of hfs8⟩, ?_⟩
  refine for_list (xs := VI ws) (fun i σ H' => ∃ y, σ = [some (.ref p), some (.ref C), some (.int aN), some (.ref fs), some (.ref G), some (.int (mx - aN)), y, none, none] ∧ Same H8 H') ⟨none, rfl, Same.refl _⟩ (fun i σ' H' _ ⟨_, _, s⟩ => SqL.of (s _ _ hfs8)) (fun i x σ' H' hx ⟨y, e, s9⟩ => ?_) (fun σ' H' ⟨y, e, s9⟩ => ?_)
  · obtain ⟨w1, hw, rfl⟩ := vi_at hx
    subst e
    obtain ⟨r1, r2, r3⟩ := fw.rch i w1 hw
    have w0 := Rch.nonneg T.pos r1
    have hC9 := s9 _ _ hC8
    refine ⟨_, rfl, _, rfl, C, cs, w1, rfl, sq_lst hC9, T, w0, by omega, fun H10 s10 => ⟨_, true, rfl, rfl, _, rfl, ?_⟩⟩
    rw [mb_iff.mpr r1, decide_eq_true rfl]
    refine iteF ⟨_, rfl, _, rfl, _, rfl, w1, aN, rfl, rfl, C, cs, w1 + aN, rfl, sq_lst (s10 _ _ hC9), T, by omega, by omega, fun H11 s11 => ⟨_, true, rfl, rfl, _, rfl, ?_⟩⟩
    rw [mb_iff.mpr (.step hm r1), decide_eq_true rfl]
    refine iteF ?_
    have s811 := s9.trans (s10.trans s11)
    refine ⟨_, rfl, w1, 0, rfl, rfl, _, rfl, ite2 (fun c => ?_) (fun c => ?_)⟩
    · have c' : 0 < w1 := of_decide_eq_true c
      have wa := rch_min T.pos hminN r1 c'
      refine ⟨_, rfl, _, rfl, w1, aN, rfl, rfl, _, rfl, rfl, rfl, C, cs, w1 - aN, rfl, sq_lst (s811 _ _ hC8), T, by omega, by omega, fun H12 s12 => ⟨_, false, rfl, rfl, _, rfl, ?_⟩⟩
      have em : mb cs (w1 - aN) = false := mb_false.mpr fun z => by
        have em : (w1 - (aN : Int)) % (aN : Int) = (i : Int) := by rw [Int.sub_emod, Int.emod_self, Int.sub_zero, Int.emod_emod_of_dvd _ (Int.dvd_refl _)]; exact r2
        have := fw.low i w1 hw _ z em
        omega
      rw [em, decide_eq_true rfl]
      exact iteF ⟨_, rfl, s811.trans s12⟩
    · exact iteF ⟨_, rfl, s811⟩
  subst e
  have k9 := k8.trans (Keep.of s9)
  have hC9 := s9 _ _ hC8
  have hfs9 := s9 _ _ hfs8
  have hG9 := s9 _ _ hG8
  clear s9 s8 hC8 hfs8 hG8 k8
  -- some gaps
  have cl : ∀ lo hi : Option Int, (cutV (VI R) lo hi).length ≤ 18200 := fun lo hi => Nat.le_trans (cutV_length _ _ _) (by rw [vi_len]; exact lR)
  refine ⟨_, rfl, 4, rfl, G, _, rfl, SqL.of hG9, fun c1 nc1 => ⟨_, rfl, 3, rfl, -3, rfl, G, _, rfl, SqL.of (same_new nc1 _ _ hG9), fun c2 nc2 => ?_⟩⟩
  have sa := (same_new (o := .lst (cutV (VI R) none (some 4))) nc1).trans (same_new (o := .lst (cutV (VI R) (some (-3)) none)) nc2)
  refine ⟨c1, c2, _, _, rfl, rfl, same_new nc2 _ _ upd_same, upd_same, ?_, fun cc ncc => ⟨cc, rfl, ⟨_, SqL.of upd_same⟩, ?_⟩⟩
  · have := cl none (some 4)
    have := cl (some (-3)) none
    rw [sizeLine_eq]
    omega
  have sb := sa.trans (same_new (o := .lst (cutV (VI R) none (some 4) ++ cutV (VI R) (some (-3)) none)) ncc)
  refine for_list (xs := cutV (VI R) none (some 4) ++ cutV (VI R) (some (-3)) none) (fun i σ H'' => ∃ y z, σ = [some (.ref p), some (.ref C), some (.int aN), some (.ref fs), some (.ref G), some (.int (mx - aN)), y, z, none] ∧ Same H' H'' ∧ H'' cc = some (.lst (cutV (VI R) none (some 4) ++ cutV (VI R) (some (-3)) none))) ⟨_, _, rfl, sb, upd_same⟩ (fun i σ' H'' _ ⟨_, _, _, _, s⟩ => SqL.of s) (fun i x σ' H'' hx ⟨y, z, e, s10, hcc⟩ => ?_) (fun σ' H'' ⟨y, z, e, s10, hcc⟩ => ?_)
  · subst e
    have hxm : x ∈ VI R := by
      rcases List.mem_append.mp (List.mem_of_getElem? hx) with h | h
      · exact cut_mem h
      · exact cut_mem h
    obtain ⟨g, hgR, rfl⟩ := List.mem_map.mp hxm
    obtain ⟨g0, g1⟩ := (gR.mem g).mp hgR
    obtain ⟨w1, ew, e2⟩ := fw.at (by omega) g
    have gw := (fw.unmet hm T.pos ew).mp g1
    have w3 := (fw.rch _ w1 ew).2.2
    have et : g - g / (aN : Int) * (aN : Int) = (((g % (aN : Int)).toNat : Nat) : Int) := by
      have := Int.emod_add_mul_ediv g (aN : Int)
      rw [Int.mul_comm (aN : Int)] at this
      omega
    refine ⟨_, rfl, _, rfl, _, rfl, _, rfl, g, aN, rfl, rfl, ⟨by omega, by omega⟩, _, rfl, g / (aN : Int), aN, rfl, rfl, .inr ⟨by omega, by omega⟩, g, _, rfl, rfl, fs, _, _, .int w1, rfl, rfl, SqL.of (s10 _ _ hfs9), at_of et (by rw [List.getElem?_map, ew]; rfl), _, rfl, w1, g, rfl, rfl, _, rfl, ifF (by omega) ?_⟩
    refine ⟨_, rfl, _, rfl, C, cs, g, rfl, sq_lst (s10 _ _ hC9), T, g0, by omega, fun H12 s12 => ⟨_, false, rfl, rfl, _, rfl, ?_⟩⟩
    rw [g1, decide_eq_true rfl]
    exact iteF ⟨_, _, rfl, s10.trans s12, s12 _ _ hcc⟩
  subst e
  -- the end
  have hC10 := s10 _ _ hC9
  refine ⟨_, rfl, C, cs, rfl, sq_lst hC10, T, fun le H11 R0 iR mR lR s11 nle hle => ⟨le, rfl, ⟨_, SqL.of hle⟩, fun D2 nD2 => ?_⟩⟩
  refine lc_l (xs := VI R0) (fun _ => none) (SqL.of hle) nD2 (by rw [vi_len]; exact Nat.le_of_lt (small (by omega))) (fun i x H12 hx s12 Y N y nn => ?_) (fun H12 s12 hD2 => ?_)
  · obtain ⟨c, hc, rfl⟩ := vi_at hx
    refine ⟨rfl, _, rfl, _, rfl, rfl, _, rfl, ?_⟩
    by_cases hca : c = (aN : Int)
    · subst hca
      rw [decide_eq_true rfl]
      exact iteF (iteF (nn _ (Same.refl _) rfl))
    · have hcw := fw.least hm T.pos iR.isL (List.mem_of_getElem? hc) hca
      rw [decide_eq_false (fun z => hca (V.int.inj z))]
      have hin : inV (.int c) (VI ws) = true := by
        unfold inV
        refine List.any_eq_true.mpr ⟨.int c, List.mem_map.mpr ⟨c, hcw, rfl⟩, ?_⟩
        show eqV (.int c) (.int c) = true
        simp [eqV]
      have hfl : (VI ws).all flatV = true := List.all_eq_true.mpr fun v hv => by
        obtain ⟨n, _, rfl⟩ := List.mem_map.mp hv
        rfl
      refine iteT ⟨_, rfl, _, rfl, fs, _, rfl, .inl (SqL.of (s12 _ _ (s11 _ _ (s10 _ _ hfs9)))), rfl, hfl, _, rfl, ?_⟩
      rw [hin]
      exact iteF (nn _ (Same.refl _) rfl)
  have e0 : (List.range (VI R0).length).filterMap (fun _ => (none : Option V)) = VI [] := by
    have : ∀ n, (List.range n).filterMap (fun _ => (none : Option V)) = [] := fun n => by
      induction n with
      | zero => rfl
      | succ n ih => rw [fm_succ, ih]; rfl
    exact this _
  rw [e0] at hD2
  refine ⟨(by show 0 ≤ sizeLine; decide), fun nl nnl => ⟨DI [], DI [], dp_ints (SqL.of (same_new nnl _ _ hD2)), dp_ints (SqL.of upd_same), di_shaped _, di_shaped _, ?_⟩⟩
  rw [di_refl]
  exact q _ (k9.trans (Keep.of (((s10.trans s11).trans s12).trans (same_new nnl))))
end
end K21

namespace K21
open PySem PySem.Spec PyProof.Rows L2 Fp
section
variable {P : Program} {w : World} {K : PySem.W.Frag} {mg : Str → Option Value} {base : Heap} {k : Nat}
def spLaw (K : PySem.W.Frag) : Sp := fun vs H Q _ => ∃ (a : Addr) (ns : List Int), vs = [.ref a] ∧ SqL K H a (VI ns) ∧ ns.length ≤ 63 ∧ ∀ H', Q (.bl true) H'
theorem sc34 : FnScope ["_law_script", "_law_k"] ["_law_script"] (defScope sLaw) := ⟨rfl, rfl, rfl, by decide +kernel, rfl, by decide +kernel, by decide +kernel⟩
theorem d_law (B : Bnd K mg "law" sLaw) (M : Mg mg) (hmin : mg "min" = none) (DP : Def P w K mg base k "_law_pot" sPot ["_law_script", "_law_k"] (spPot K)) (DR : DefG P w K mg base k "_law_right" sRight ["_law_pot_here"] spRight) : DefG P w K mg base (k + 1) "law" sLaw ["_law_script"] (spLaw K) := by
  refine defG_of B sc34 (by rintro _ _ _ _ ⟨a, ns, rfl, _⟩; rfl) (fun _ _ _ _ _ _ us hl => match us, hl with | [_], _ => rfl) fun f cdv A outer s H vs Q E hgd hr h => ?_
  obtain ⟨a, ns, rfl, hS, hl, q⟩ := h
  have hg2 : (A.deeper (envOfC "law" (defScope sLaw) s.heap.objs.size f cdv)).guards = some [] := hgd
  refine ⟨_, pss_one (ps_ret (pe_callB (cr_all rfl) (by rfl) M.all (by decide +kernel) (pa_cons (pe_lc (own := [("_law_k", 1)]) (g := gName 1) (tt := tYes) rfl sc34.nd
      (pi_range1 (by rfl) M.range (pa_cons (pe_callB (call_max2 rfl) (by rfl) M.max (by decide +kernel) (pa_cons pe_int (pa_cons (pe_callB (call_min2 rfl) (by rfl) hmin (by decide +kernel) (pa_cons pe_int (pa_cons (pe_callB call_len_seq (by rfl) M.len boot_len (pa_cons (pv 0) pa_nil)) pa_nil))) pa_nil))) pa_nil))
      (blkOk_by (own := [("_law_k", 1)]) (N := ["_law_script", "_law_k"]) (sc := defScope sLaw) (by decide +kernel)) (fun _ _ _ _ _ => pg_name (i := 1) sc34.nd rfl (Or.inl rfl)) (fun _ _ _ _ _ => pts_nil)
      (fun _ _ _ _ _ => pe_dG DR hg2 hr (by rfl) (pa_cons (pe_d DP hr (by rfl) (pa_cons (pv 0) (pa_cons (pv 1) pa_nil))) pa_nil))) pa_nil))), ?_⟩
  refine ⟨_, rfl, a, _, rfl, .inl hS, 2, _, rfl, 1, _, rfl, _, rfl, ?_, ?_, fun D nD => ?_⟩
  · split <;> split <;> omega
  · split <;> split <;> omega
  generalize hn : (if (if (((VI ns).length : Int)) < 2 then (((VI ns).length : Int)) else 2) > 1 then (if (((VI ns).length : Int)) < 2 then (((VI ns).length : Int)) else 2) else (1 : Int)) = n
  have hn2 : n ≤ 2 := by rw [← hn]; split <;> split <;> omega
  refine lc_rg (lo := 0) (n := n.toNat) (fun _ => some (.bl true)) nD (Nat.le_of_lt (small (by omega))) (fun i H1 hi s1 Y N y nn => ?_) (fun H1 s1 hD1 => ?_)
  · refine ⟨rfl, _, rfl, _, rfl, a, ns, 0 + (i : Int), rfl, s1.seq hS, by omega, by omega, fun p H2 s2 np hp => ⟨p, rfl, hp, fun H3 k3 => ?_⟩⟩
    exact y _ _ (fun b o hb => k3 _ _ (ne_of_none hb np) (s2 _ _ hb)) rfl
  · rw [all_true] at hD1
    refine ⟨D, List.replicate n.toNat true, rfl, SqL.of hD1, ?_⟩
    rw [all_rep]
    exact q _
end
theorem bnd {K : PySem.W.Frag} {h : Heap} {mg : Str → Option Value} (X : K.In h) (G : h.Ns mainGlobals mg) {x : Str} {st : Stmt} {f : Addr} {oc kV dc pm cd ct : Value} {od an : Option Addr} {sl : Array (Option Value)} (a : PySem.W.nsIn K mainGlobals x = some (some (.ref f)))
    (l : K.lookup f = some ⟨oc, od, .func (PySem.W.fnOf x x (defArgs st) (defBody st) (defScope st) .none kV dc pm an cd ct), sl⟩) (c : PySem.W.codeIn K cd x = true) (k : PySem.W.keepIn K (.ref f) = true) : Bnd K mg x st :=
  ⟨f, _, PySem.W.mg_of X G a, fun_mk (st := st) l c k⟩
structure All (K : PySem.W.Frag) (mg : Str → Option Value) : Prop where
  g : Mg mg
  min : mg "min" = none
  sum : mg "sum" = none
  b8 : Bnd K mg "is_integer" sInteger
  b9 : Bnd K mg "is_count" sCount
  b10 : Bnd K mg "is_list" sList
  b11 : Bnd K mg "check_many" sMany
  b16 : Bnd K mg "common_count" sCommon
  b17 : Bnd K mg "is_met" sIsMet
  b18 : Bnd K mg "least_counts" sLeast
  b19 : Bnd K mg "gaps" sGaps
  b20 : Bnd K mg "greatest_gap" sGreat
  b21 : Bnd K mg "is_counts" sIsCounts
  b22 : Bnd K mg "check_counts" sCheck
  b23 : Bnd K mg "met_table" sTable
  b24 : Bnd K mg "is_next_met" sNext
  b25 : Bnd K mg "unmet" sUnmet
  b27 : Bnd K mg "_law_pot" sPot
  b28 : Bnd K mg "_law_draw" sDraw
  b29 : Bnd K mg "_law_divisor" sDivisor
  b30 : Bnd K mg "_law_common" sLCommon
  b31 : Bnd K mg "_law_counts" sCounts
  b32 : Bnd K mg "_law_first_met" sFirst
  b33 : Bnd K mg "_law_right" sRight
  b34 : Bnd K mg "law" sLaw
  bl : Bnd K mg "least_of" sLeastOf
theorem all_law {P : Program} {w : World} {K : PySem.W.Frag} {mg : Str → Option Value} {base : Heap} (A : All K mg) : DefG P w K mg base 20 "law" sLaw ["_law_script"] (spLaw K) := by
  have di : Def P w K mg base 1 _ _ _ _ := d_integer A.b8 A.g
  have dc := d_count A.b9 di
  have dl : Def P w K mg base 2 _ _ _ _ := (d_list (k := 0) A.b10 A.g).mono (by omega)
  have dm := d_many A.b11 dc
  have dic := d_isCounts A.b21 A.g dl dc
  have dch := d_check A.b22 dic
  have dn : Def P w K mg base 1 _ _ _ _ := d_next A.b24 A.g
  have dt := d_table A.b23 A.g dn
  have dch4 : Def P w K mg base 5 _ _ _ _ := dch.mono (by omega)
  have dt4 : Def P w K mg base 5 _ _ _ _ := dt.mono (by omega)
  have dm4 : Def P w K mg base 5 _ _ _ _ := dm.mono (by omega)
  have dd : Def P w K mg base 1 _ _ _ _ := d_draw A.b28 A.g
  have ddv : Def P w K mg base 1 _ _ _ _ := d_divisor A.b29
  have dco := d_common A.b16 A.g dch4
  have du : Def P w K mg base 6 _ _ _ _ := (d_unmet A.b25 A.g A.min dn).mono (by omega)
  have dg := d_gaps A.b19 dco du
  have dgr := d_great A.b20 dg
  have D : Dfs P w K mg base 18 := ⟨(d_counts A.b31 A.g dd).mono (by omega), (d_lcommon A.b30 ddv).mono (by omega), (d_first (k := 0) A.b32 A.g A.min).mono (by omega), dco.mono (by omega), (d_isMet A.b17 A.g dch4 dm4 dt4).mono (by omega), (d_least A.b18 (dch4.mono (by omega)) (d_leastOf A.bl A.g dt4)).mono (by omega), dg.mono (by omega), dgr.mono (by omega)⟩
  exact d_law A.b34 A.g A.min ((d_pot (k := 0) A.b27 A.g).mono (by omega)) (d_right A.b33 A.g A.min A.sum D)
theorem mg_int {K : PySem.W.Frag} {h : Heap} {mg : Str → Option Value} {x : Str} {z : Int} {t : Tok} (X : K.In h) (G : h.Ns mainGlobals mg) (a : PySem.W.nsIn K mainGlobals x = some (some (.int z t))) : ∃ t, mg x = some (.int z t) := ⟨t, PySem.W.mg_of X G a⟩
theorem fun_fd {K : PySem.W.Frag} {x : Str} {st : Stmt} {f : Addr} {fd fd' : FuncData} (a : Fun K x x st f fd) (b : Fun K x x st f fd') : fd = fd' := by
  obtain ⟨_, _, _, _, _, _, _, _, _, _, l1, _⟩ := a.ex
  obtain ⟨_, _, _, _, _, _, _, _, _, _, l2, _⟩ := b.ex
  rw [l1] at l2
  cases l2
  rfl
theorem fin {l : PySem.W.OpenLaw} {w : World} {K : PySem.W.Frag} {mg : Str → Option Value} {fa : Addr} (hfa : mg "law" = some (.ref fa)) (A : All K mg) :
    ∃ fd : FuncData, (∀ (s : Shared) (v : Value), BindsTo s fd ⟨[v], []⟩ [("_law_script", v)]) ∧ ∀ base : Heap, K.In base → base.Ns mainGlobals mg → FnG l.prog w K mg base CX0 20 fa fd ["_law_script"] (spLaw K) := by
  obtain ⟨f, fd, hm, F⟩ := A.b34.ex
  obtain rfl : f = fa := by
    rw [hfa] at hm
    cases hm
    rfl
  refine ⟨fd, fun s v => ?_, fun base _ _ => ?_⟩
  · obtain ⟨_, _, _, _, _, _, _, _, _, rfl, _⟩ := F.ex
    exact .of_eq rfl
  · obtain ⟨f', fd', hm', F', _, ok⟩ := (all_law (P := l.prog) (w := w) (base := base) A).ex
    obtain rfl : f = f' := by
      rw [hm] at hm'
      cases hm'
      rfl
    rw [fun_fd F F']
    exact ok
end K21
open PySem PySem.W PyProof.Rows
set_option maxRecDepth 100000 in
set_option maxHeartbeats 0 in
theorem PySem.Challenge.cw_fromplaces_k29_whole_gaps_by_rests_holds : PySem.Challenge.rw_fromplaces_k29_whole_gaps_by_rests.Holds := by
  w_on; o_law; k_head; (case hw => w_witness2)
  k_fill
  refine Fp.walk_ofG (l := PySem.Challenge.rw_fromplaces_k29_whole_gaps_by_rests) (n := 63) (k := 20) (x := "_law_script") (sp := K21.spLaw) rfl (by decide) rfl ⟨rfl, by decide, by decide⟩ (fun w h Y => PySem.W.kIn_of Y) ?F (fun K H a ns hl _ hS => ⟨a, ns, rfl, hS, hl, fun _ => rfl⟩)
  case F =>
    intro w mg fa h KX G hmg
    refine' K21.fin hmg ?_
    refine' ⟨⟨?_, ?_, ?_, ?_, ?_, ?_, ?_, ?_, ?_, ?_, ?_, ?_, ?_, ?_, ?_, ?_, ?_, ?_, ?_, ?_⟩, ?_, ?_, ?_, ?_, ?_, ?_, ?_, ?_, ?_, ?_, ?_, ?_, ?_, ?_, ?_, ?_, ?_, ?_, ?_, ?_, ?_, ?_, ?_, ?_, ?_⟩
    iterate 16 (refine' PySem.W.mg_none_of KX G ?a; (case a => k_is))
    (refine' PySem.W.mg_of KX G ?a; (case a => k_is))
    iterate 3 (refine' K21.mg_int KX G ?a; (case a => k_is))
    iterate 2 (refine' PySem.W.mg_none_of KX G ?a; (case a => k_is))
    all_goals (refine' K21.bnd KX G ?a ?l ?c ?k; (case a => k_is); (case l => k_is); (case c => k_is); (case k => k_is))
