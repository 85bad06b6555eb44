import PyProof.Rows.All
import Wide.All
import OpenK.AllK
import Wide.FinOn
import HandS.ForMost
import HandS.IsInst
import HandS.Gcd
import HandS.Style
import HandS.SetFor
import HandS.Strs
import PyProof.ReprRoads
import PyProof.ReprBulk
import PySem.Challenge.RW_fromplaces_k21_whole_met_and_least_count
set_option Elab.async false
set_option linter.all false
set_option maxRecDepth 100000
set_option maxHeartbeats 8000000
namespace Fp
open PySem PySem.Spec PyProof.Rows L2

/-! ### heaps -/
theorem same_new {H : Hp} {p : Addr} {o : HO} (h : H p = none) : Same H (upd H p o) := fun b u q => by rw [upd_ne (ne_of_none q h)]; exact q
theorem same_sqT {K : PySem.W.Frag} {H H' : Hp} {a : Addr} {xs : List V} (e : Same H H') (h : SqT K H a xs) : SqT K H' a xs := by
  rcases h with (h | ⟨o, h⟩) | h
  · exact Or.inl (Or.inl (e _ _ h))
  · exact Or.inl (Or.inr ⟨o, e _ _ h⟩)
  · exact Or.inr h
/-- a list or a tuple that is read -/
def Sq (K : PySem.W.Frag) (H : Hp) (a : Addr) (xs : List V) : Prop := SqL K H a xs ∨ SqT K H a xs
theorem Sq.same {K : PySem.W.Frag} {H H' : Hp} {a : Addr} {xs : List V} (h : Sq K H a xs) (e : Same H H') : Sq K H' a xs := h.imp (fun q => e.seq q) (fun q => same_sqT e q)
theorem sq_lst {K : PySem.W.Frag} {H : Hp} {a : Addr} {xs : List V} (h : H a = some (.lst xs)) : Sq K H a xs := Or.inl (SqL.of h)
theorem sq_tup {K : PySem.W.Frag} {H : Hp} {a : Addr} {xs : List V} (h : H a = some (.tup xs)) : Sq K H a xs := Or.inr (SqT.of h)
/-- all but p as it was -/
def Keep (p : Addr) (H H' : Hp) : Prop := ∀ b o, b ≠ p → H b = some o → H' b = some o
theorem Keep.refl (p : Addr) (H : Hp) : Keep p H H := fun _ _ _ h => h
theorem Keep.trans {p : Addr} {H H1 H2 : Hp} (a : Keep p H H1) (b : Keep p H1 H2) : Keep p H H2 := fun c o n h => b c o n (a c o n h)
theorem Keep.of {p : Addr} {H H' : Hp} (a : Same H H') : Keep p H H' := fun c o _ h => a c o h
theorem keep_upd {p : Addr} {H : Hp} {o : HO} : Keep p H (upd H p o) := fun b u n q => by rw [upd_ne n]; exact q

/-! ### what is walked: a list or a tuple -/
section
variable {X : Cx} {tg : Expr}
theorem pi_or {l : Expr} {w1 w2 : TI} (h1 : PI X tg l w1) (h2 : PI X tg l w2) : PI X tg l (fun σ H R => w1 σ H R ∨ w2 σ H R) :=
  ⟨fun pins s σ H R I h => h.elim (fun q => h1.run pins s σ H R I q) (fun q => h2.run pins s σ H R I q)⟩
def iSq (K : PySem.W.Frag) (tl : TE) : TI := fun σ H R => iList K tl σ H R ∨ iTup K tl σ H R
theorem pi_sq {l : Expr} {tl : TE} (hl : PE X l tl) : PI X tg l (iSq X.K tl) := pi_or (pi_list hl) (pi_tup hl)
end
section
variable {K : PySem.W.Frag} {tl : TE} {a : Addr} {xs : List V} {g : TG} {tt : TT} {te : TE} {vs : List Nat} {σ : L2.St} {H : Hp} {Q : VK} {tb : TS} {D : Ends}
/-- for x in a list or a tuple that stood at H0 and stands still -/
theorem for_sq {H0 : Hp} (Pv : Nat → L2.St → Hp → Prop) (hv : ∀ R : V → Hp → Prop, R (.ref a) H → tl σ H R) (hS : Sq K H0 a xs) (e0 : Same H0 H) (h0 : Pv 0 σ H) (hl : ∀ i σ' H', Pv i σ' H' → Same H0 H')
    (hs : ∀ i x σ H, xs[i]? = some x → Pv i σ H → g x σ H fun σ2 H2 => tb { D with nx := Pv (i + 1), ct := Pv (i + 1), bk := D.nx } σ2 H2) (hd : ∀ σ H, Pv xs.length σ H → D.nx σ H) : tFor (iSq K tl) g tb D σ H := by
  rcases hS with hS | hS
  · exact Or.inl (hv _ ⟨a, rfl, ⟨xs, e0.seq hS⟩, for_list (xs := xs) Pv h0 (fun i σ' H' _ p => (hl i σ' H' p).seq hS) hs hd⟩)
  · exact Or.inr (hv _ ⟨a, rfl, ⟨xs, same_sqT e0 hS⟩, for_tup (xs := xs) Pv h0 (fun i σ' H' _ p => same_sqT (hl i σ' H' p) hS) hs hd⟩)

/-! ### comprehensions whose elements leave what is tracked as it was: index i yields f i (or is left out) -/
theorem fm_succ {α : Type} (f : Nat → Option α) (i : Nat) : (List.range (i + 1)).filterMap f = (List.range i).filterMap f ++ (match f i with | some y => [y] | none => []) := by
  rw [List.range_succ, List.filterMap_append]
  cases e : f i <;> simp [e]
theorem fm_len {α : Type} (f : Nat → Option α) (n : Nat) : ((List.range n).filterMap f).length ≤ n := by
  have q := List.length_filterMap_le f (List.range n)
  rw [List.length_range] at q
  exact q
/-- the part of a reading that a turn of such a comprehension is -/
def LcTurn (f : Nat → Option V) (g : TG) (tt : TT) (te : TE) (vs : List Nat) (σ : L2.St) (i : Nat) (x : V) (H0 H1 : Hp) : Prop :=
  ∀ (Y : V → Hp → Prop) (N : Hp → Prop), (∀ y H2, Same H0 H2 → f i = some y → Y y H2) → (∀ H2, Same H0 H2 → f i = none → N H2) →
    g x (wipe σ vs) H1 fun σ2 H2 => wipe σ2 vs = wipe σ vs ∧ tt σ2 H2 fun b H3 => if b = true then te σ2 H3 Y else N H3
/-- the invariant -/
def LcInv (f : Nat → Option V) (H : Hp) (Dd : Addr) (i : Nat) (H1 : Hp) : Prop := Same H H1 ∧ H1 Dd = some (.lst ((List.range i).filterMap f))
theorem LcInv.start {f : Nat → Option V} {Dd : Addr} (hD : H Dd = none) : LcInv f H Dd 0 (upd H Dd (.lst [])) := ⟨same_new hD, by rw [upd_same]; rfl⟩
theorem LcInv.turn {f : Nat → Option V} {Dd : Addr} (hD : H Dd = none) {i : Nat} (hz : i < sizeLine) {x : V} {H1 H0 : Hp} (h : LcInv f H Dd i H1) (h0 : Same H1 H0) (t : LcTurn f g tt te vs σ i x H1 H0) :
    g x (wipe σ vs) H0 fun σ2 H2 => wipe σ2 vs = wipe σ vs ∧ tt σ2 H2 fun b H3 =>
      if b = true then te σ2 H3 fun y H4 => ∃ acc, H4 Dd = some (.lst acc) ∧ acc.length < sizeLine ∧ LcInv f H Dd (i + 1) (upd H4 Dd (.lst (acc ++ [y]))) else LcInv f H Dd (i + 1) H3 := by
  refine t _ _ (fun y H2 sm e => ?_) fun H2 sm e => ?_
  · refine ⟨_, sm _ _ h.2, Nat.lt_of_le_of_lt (fm_len f i) hz, fun b o q => ?_, ?_⟩
    · rw [upd_ne (ne_of_none q hD)]
      exact sm _ _ (h.1 _ _ q)
    · rw [upd_same, fm_succ, e]
  · refine ⟨fun b o q => sm _ _ (h.1 _ _ q), ?_⟩
    rw [sm _ _ h.2, fm_succ, e, List.append_nil]
theorem lc_sq (f : Nat → Option V) (hv : ∀ R : V → Hp → Prop, R (.ref a) H → tl σ H R) (hS : Sq K H a xs) (hz : xs.length ≤ sizeLine)
    (hs : ∀ i x H1, xs[i]? = some x → Same H H1 → LcTurn f g tt te vs σ i x H1 H1)
    (hd : ∀ Dd H1, Same H H1 → H Dd = none → H1 Dd = some (.lst ((List.range xs.length).filterMap f)) → Q (.ref Dd) H1) : tLc (iSq K tl) g tt te vs σ H Q := by
  have hi : ∀ {i : Nat} {x : V}, xs[i]? = some x → i < sizeLine := fun {i x} e => Nat.lt_of_lt_of_le (List.getElem?_eq_some_iff.mp e).1 hz
  rcases hS with hS | hS
  · exact Or.inl (hv _ ⟨a, rfl, ⟨xs, hS⟩, fun Dd hD => lc_list (xs := xs) (LcInv f H Dd) (LcInv.start hD) (fun i H1 _ p => p.1.seq hS)
      (fun i x H1 hx p => p.turn hD (hi hx) (Same.refl _) (hs i x H1 hx p.1)) fun H1 p => hd Dd H1 p.1 hD p.2⟩)
  · exact Or.inr (hv _ ⟨a, rfl, ⟨xs, hS⟩, fun Dd hD => lc_tup (xs := xs) (LcInv f H Dd) (LcInv.start hD) (fun i H1 _ p => same_sqT p.1 hS)
      (fun i x H1 hx p => p.turn hD (hi hx) (Same.refl _) (hs i x H1 hx p.1)) fun H1 p => hd Dd H1 p.1 hD p.2⟩)
/-- over a range: ahead of it stand the range's own words -/
theorem lc_rg {lo : Int} {n : Nat} {Dd : Addr} {Qd : Hp → Prop} (f : Nat → Option V) (hD : H Dd = none) (hz : n ≤ sizeLine)
    (hs : ∀ i H1, i < n → Same H H1 → LcTurn f g tt te vs σ i (.int (lo + i)) H1 H1)
    (hd : ∀ H1, Same H H1 → H1 Dd = some (.lst ((List.range n).filterMap f)) → Qd H1) : ∃ W : Nat → Nat → Hp → Prop, (∃ m, W 0 m (upd H Dd (.lst []))) ∧ ∀ i m H, W i m H →
      ((Itr lo n).stop i H ∧ Qd H) ∨ ((Itr lo n).go i H ∧ ∃ Nx : Hp → Prop, (∀ H', Nx H' → ∃ m', m' < m ∧ W (i + 1) m' H') ∧ ∀ x H', (Itr lo n).yld i H x H' → g x (wipe σ vs) H' fun σ2 H2 => wipe σ2 vs = wipe σ vs ∧ tt σ2 H2 fun b H3 =>
        if b = true then te σ2 H3 fun y H4 => ∃ acc, H4 Dd = some (.lst acc) ∧ acc.length < sizeLine ∧ Nx (upd H4 Dd (.lst (acc ++ [y]))) else Nx H3) :=
  lc_range (lo := lo) (n := n) (LcInv f H Dd) (LcInv.start hD) (fun i H1 hi p => p.turn hD (Nat.lt_of_lt_of_le hi hz) (Same.refl _) (hs i H1 hi p.1)) fun H1 p => hd H1 p.1 p.2
/-- over enumerate of a list -/
theorem lc_en {Dd : Addr} {Qd : Hp → Prop} (f : Nat → Option V) (hS : SqL K H a xs) (hD : H Dd = none) (hz : xs.length ≤ sizeLine)
    (hs : ∀ i x H1 T, xs[i]? = some x → Same H H1 → H1 T = none → LcTurn f g tt te vs σ i (.ref T) H1 (upd H1 T (.tup [.int (i : Nat), x])))
    (hd : ∀ H1, Same H H1 → H1 Dd = some (.lst ((List.range xs.length).filterMap f)) → Qd H1) : ∃ W : Nat → Nat → Hp → Prop, (∃ m, W 0 m (upd H Dd (.lst []))) ∧ ∀ i m H, W i m H →
      ((Ite K a).stop i H ∧ Qd H) ∨ ((Ite K a).go i H ∧ ∃ Nx : Hp → Prop, (∀ H', Nx H' → ∃ m', m' < m ∧ W (i + 1) m' H') ∧ ∀ x H', (Ite K a).yld i H x H' → g x (wipe σ vs) H' fun σ2 H2 => wipe σ2 vs = wipe σ vs ∧ tt σ2 H2 fun b H3 =>
        if b = true then te σ2 H3 fun y H4 => ∃ acc, H4 Dd = some (.lst acc) ∧ acc.length < sizeLine ∧ Nx (upd H4 Dd (.lst (acc ++ [y]))) else Nx H3) := by
  refine ⟨fun i m H1 => m = xs.length - i ∧ i ≤ xs.length ∧ LcInv f H Dd i H1, ⟨xs.length, rfl, Nat.zero_le _, LcInv.start hD⟩, ?_⟩
  rintro i m H1 ⟨rfl, hi, p⟩
  have q : SqL K H1 a xs := p.1.seq hS
  by_cases hlt : i < xs.length
  · have hx : xs[i]? = some xs[i] := List.getElem?_eq_getElem hlt
    refine Or.inr ⟨⟨xs, xs[i], q, hx⟩, LcInv f H Dd (i + 1), fun H' p' => ⟨xs.length - (i + 1), by omega, rfl, hlt, p'⟩, ?_⟩
    rintro v H' ⟨T, x, rfl, hT, rfl, hy⟩
    have ex : x = xs[i] := Option.some.inj ((hy xs q).symm.trans hx)
    subst ex
    exact p.turn hD (Nat.lt_of_lt_of_le hlt hz) (same_new hT) (hs i _ H1 T hx p.1 hT)
  · have e : i = xs.length := by omega
    subst e
    exact Or.inl ⟨⟨xs, q, Nat.le_refl _⟩, hd H1 p.1 p.2⟩
end
/-- from an index to the items -/
theorem fm_take {α : Type} (xs : List α) (h : α → Option V) : ∀ n, (List.range n).filterMap (fun i => (xs[i]?).bind h) = (xs.take n).filterMap h
  | 0 => by rw [List.take_zero]; rfl
  | n + 1 => by
    rw [fm_succ, fm_take xs h n, List.take_add_one, List.filterMap_append]
    cases e : xs[n]? with
    | none => rfl
    | some x =>
      cases e2 : h x <;> simp [e2]
theorem fm_all {α : Type} (xs : List α) (h : α → Option V) : (List.range xs.length).filterMap (fun i => (xs[i]?).bind h) = xs.filterMap h := by
  rw [fm_take, List.take_length]
end Fp

namespace Fp
open PySem PySem.Spec PyProof.Rows L2

/-! ### isinstance(x, (list, tuple)) -/
theorem tyx_of {K : PySem.W.Frag} {H : Hp} {a : Addr} {xs : List V} (h : Sq K H a xs) : TyX K H (.ref a) (.type "list") ∨ TyX K H (.ref a) (.type "tuple") := by
  rcases h with ((h | ⟨o, h⟩) | ⟨o, its, n, hk, hc, _⟩) | ((h | ⟨o, h⟩) | ⟨o, its, n, hk, hc, _⟩)
  · exact Or.inl (.base (.lst h))
  · exact Or.inl (.base (.frz h))
  · exact Or.inl (.kList hk hc)
  · exact Or.inr (.base (.tup h))
  · exact Or.inr (.fTuple h)
  · exact Or.inr (.kTuple hk hc)
theorem kit_lt {K : PySem.W.Frag} : PySem.W.kitAny K (.type "list") [.type "list", .type "tuple"] = some true ∧ PySem.W.kitAny K (.type "tuple") [.type "list", .type "tuple"] = some true := by
  refine ⟨kitAny_cons (kit_ty (r := true) (by decide +kernel)) (fun z => nomatch z) (fun _ => rfl), ?_⟩
  exact kitAny_cons (kit_ty (r := false) (by decide +kernel)) (fun _ => kitAny_cons (kit_ty (r := true) (by decide +kernel)) (fun z => nomatch z) (fun _ => rfl)) (fun z => nomatch z)
theorem isi_lt {K : PySem.W.Frag} {H : Hp} {a tp : Addr} {xs : List V} {Q : VK} (h : Sq K H a xs) (ht : H tp = some (.tup [.ty "list", .ty "tuple"])) (q : Q (.bl true) H) : rIsiT K [.ref a, .ref tp] H Q := by
  rcases tyx_of h with t | t
  · exact ⟨_, tp, _, _, _, true, rfl, ht, .cons (.ty _) (.cons (.ty _) .nil), t, kit_lt.1, q⟩
  · exact ⟨_, tp, _, _, _, true, rfl, ht, .cons (.ty _) (.cons (.ty _) .nil), t, kit_lt.2, q⟩
theorem kit_int {K : PySem.W.Frag} : PySem.W.kitOne K (.type "int") (.type "int") = some true := kit_ty (by decide +kernel)
theorem kit_int_bool {K : PySem.W.Frag} : PySem.W.kitOne K (.type "int") (.type "bool") = some false := kit_ty (by decide +kernel)
theorem isi_int {K : PySem.W.Frag} {H : Hp} {i : Int} {Q : VK} (q : Q (.bl true) H) : rIsi K [.int i, .ty "int"] H Q := ⟨_, _, _, _, true, rfl, .ty _, .base (.int i), kit_int, q⟩
theorem isi_bool {K : PySem.W.Frag} {H : Hp} {i : Int} {Q : VK} (q : Q (.bl false) H) : rIsi K [.int i, .ty "bool"] H Q := ⟨_, _, _, _, false, rfl, .ty _, .base (.int i), kit_int_bool, q⟩

/-! ### len of a list or a tuple -/
theorem len_sq {K : PySem.W.Frag} {H : Hp} {a : Addr} {xs : List V} {Q : VK} (h : Sq K H a xs) (q : Q (.int xs.length) H) : ∃ p ys, [V.ref a] = [.ref p] ∧ (SqL K H p ys ∨ SqT K H p ys) ∧ Q (.int ys.length) H := ⟨a, xs, rfl, h, q⟩

/-! ### set(..) of a list or a tuple of ints -/
abbrev eset (w : World) : Obj := { cls := .type "set", dict := none, data := .set #[] 0 (.fresh 0 0 (!w.params.followText "set-order")) }
section
variable {P : Program} {w : World} {A : Around} {E : Value → Shared → Prop} {s : Shared}
theorem call_set_lstI {l : Addr} {xs : Array Value} (ns : List Int) {Q : Value → Shared → Prop} (hh : A.handled = none) (hl : s.heap.IsList l xs) (hi : IntsAre xs.toList ns) (hb : ns.length + 1 < scanBound)
    (q : ∀ (h' : Heap) (tk c : Nat), SetR w h' s.heap.objs.size (fun j => decide (j ∈ ns)) c → c ≤ ns.length → (∀ b o, s.heap.get? b = some o → h'.get? b = some o) → Q (.ref s.heap.objs.size) { s with heap := h', toks := tk }) :
    wpAny (model P w) A (call (.type "set") [.ref l]) Q E s := by
  have sz : xs.size = ns.length := by have z := IntsAre.length hi; rw [Array.length_toList] at z; exact z
  obtain ⟨c0, tl0, mro0⟩ := F.called_set.mro
  have f1 := F.called_set.made
  have f2 := F.called_set.sub
  have f3 := F.called_set.notType
  have f4 := F.called_set.canCreate
  have f5 := F.typeCall_set_1 (.ref l)
  refine wpAny_call (codeAny_of_tree (wpAny_pure ⟨Code.quiet_builtin _ (by decide +kernel), codeAny_builtin F.entry_type_call ?_⟩))
  rw [Around.under_plain (weight_type_call_type "set" [.ref l] []) rfl]
  repeat (any_goals (first | assumption | wp_step))
  refine codeAny_mono (code_set_led1 (.ref l) (E := E) (Q₁ := fun ob sb => ob = .ref s.heap.objs.size ∧ sb = { s with heap := s.heap.push (eset w) }) ⟨rfl, rfl⟩) ?_
  rintro (e | fl) s1 hr
  · exact hr
  cases fl with
  | next => exact hr.elim
  | brk => exact hr.elim
  | cont => exact hr.elim
  | ret ob =>
    obtain ⟨rfl, rfl⟩ := hr
    have g0 : (s.heap.push (eset w)).get? s.heap.objs.size = some (eset w) := Heap.get?_push_size _ rfl
    have gT : Shared.TypeIs { s with heap := s.heap.push (eset w) } (.ref s.heap.objs.size) "set" := ⟨_, g0, rfl⟩
    have i1 := F.called_set.init.lookup
    have i2 := F.called_set.init.bind (.ref s.heap.objs.size)
    repeat (any_goals (first | assumption | wp_step))
    refine codeAny_mono (codeAny_call_builtin (R := wants (fun r sb => r = .none ∧ ∃ h' tk c, sb = { s with heap := h', toks := tk } ∧ SetR w h' s.heap.objs.size (fun j => decide (j ∈ ns)) c ∧ c ≤ ns.length ∧
        (∀ b o, s.heap.get? b = some o → h'.get? b = some o)) E) F.called_set.init.plain F.entry_set_init (check_set_init_1 gT ?_)) ?_
    · obtain ⟨⟨ocls, odict, odata, oslots⟩, hol, hcl, nl, hdl⟩ := hl
      simp only at hcl hdl
      subst hcl; subst hdl
      have hl0 : l < s.heap.objs.size := Heap.lt_size hol
      have hol1 : (s.heap.push (eset w)).get? l = some { cls := .type "list", dict := odict, data := .seq xs nl, slots := oslots } := Heap.get?_push_of_some _ hol
      have hl1 : (s.heap.push (eset w)).IsList l xs := ⟨_, hol1, rfl, nl, rfl⟩
      have u1 := F.sub_list_set
      have u2 := F.sub_list_frozenset
      have u3 : (Value.type "list" == Value.type "dict") = false := by decide
      unfold Builtin.«set.__init__» noKeywords Builtin.Frozenset.updateFrom
      generalize hPI : pyIter = PI
      wp_walk
      subst hPI
      refine wpAny_pyIter_list hl1 ?_
      refine wpAny_bind (wpAny_runValue ?_)
      have z1 : (s.heap.push (eset w)).objs.size = s.heap.objs.size + 1 := Heap.size_push ..
      have n1 : l ≠ (s.heap.push (eset w)).objs.size := Nat.ne_of_lt (by rw [z1]; exact Nat.lt_succ_of_lt hl0)
      have n2 : s.heap.objs.size ∉ [(s.heap.push (eset w)).objs.size, l] := by
        simp only [List.mem_cons, List.not_mem_nil, or_false, not_or]
        exact ⟨Nat.ne_of_lt (by rw [z1]; exact Nat.lt_succ_self _), Nat.ne_of_gt hl0⟩
      have it : ∀ (i : Nat) (v : Value), xs[i]? = some v → ∃ k t, ns[i]? = some k ∧ v = .int k t := fun i v hv => by
        have hlt : i < ns.length := by rw [← sz]; exact (Array.getElem?_eq_some_iff.mp hv).1
        obtain ⟨t, e⟩ := PyProof.Rows.IntsAre.int_at hi i v (by rw [Array.getElem?_toList]; exact hv)
        refine ⟨ns[i], t, List.getElem?_eq_getElem hlt, e.trans ?_⟩
        rw [List.getD_eq_getElem?_getD, List.getElem?_eq_getElem hlt]; rfl
      have hA3 : A.in1.in1.in1.handled = none := by simp [hh]
      refine set_update_ints ((Walks.list hA3 _ l n1 xs).toS) s.heap.objs.size n2 ns sz hb it (xs.size - 0) 0 _ (by omega) (Nat.zero_le _) ⟨⟨_, Heap.get?_push_size _ rfl, rfl, rfl⟩, (hl1.push _)⟩ ?_ ?_
      · exact ⟨0, Nat.le_refl 0, setR_new_at (Heap.get?_push_of_some _ g0)⟩
      · rintro ⟨h', g2, d', tk', os'⟩ c' hm hc' hS'
        obtain rfl : g2 = s.gens := hm.gens
        obtain rfl : d' = s.drawn := hm.drawn
        obtain rfl : os' = s.os := hm.os
        rw [sz] at hc'
        refine wpAny_pure (wpAny_pure ⟨rfl, h', tk', c', rfl, hS', hc', fun b o e => ?_⟩)
        have hb0 : b < s.heap.objs.size := Heap.lt_size e
        refine hm.heap b o ?_ (Heap.get?_push_of_some _ (Heap.get?_push_of_some _ e))
        simp only [List.mem_cons, List.not_mem_nil, or_false, not_or]
        exact ⟨Nat.ne_of_lt hb0, Nat.ne_of_lt (by rw [z1]; exact Nat.lt_succ_of_lt hb0)⟩
    · rintro (e | f2) s2 hr2
      · exact hr2
      cases f2 with
      | next => exact hr2.elim
      | brk => exact hr2.elim
      | cont => exact hr2.elim
      | ret r =>
        obtain ⟨rfl, h', tk, c', rfl, hS', hc', hk'⟩ := hr2
        repeat (any_goals (first | assumption | wp_step))
        exact q _ _ _ hS' hc' hk'
end
end Fp

namespace Fp
open PySem PySem.Spec PyProof.Rows L2

/-! ### repr(..) of data, where nothing is being shown -/
def rRepr (K : PySem.W.Frag) : List V → Hp → VK → Prop := fun vs H Q => ∃ (a : Addr) (d : PyData), vs = [.ref a] ∧ Dp K H (.ref a) d ∧ d.showable = true ∧ d.hasDict = false ∧ d.depth ≤ 8 ∧ d.shown.length ≤ sizeLine ∧ Q (.str d.shown) H
theorem cr_repr {X : Cx} (hu : X.A.units + 64 < cLine) (hg : X.A.guards = some []) : CallR X (.builtin "repr") (rRepr X.K) := by
  intro pins s σ H xs us Q I r h
  obtain ⟨a, d, rfl, hd, h1, h2, h3, h4, q⟩ := h
  rw [Vals.ref1 r]
  obtain ⟨as, hr⟩ := Dp.reads I d _ (.ref a) hd rfl
  refine repr_of_reads' hr h1 (fun z => by rw [h2] at z; cases z) hg (by omega) (fun _ _ e => e) (fun h' u tk k => ?_) h4
  exact ⟨.str d.shown, H, I.kept (t' := tk) k, ⟨u, rfl⟩, q⟩

/-! ### defs that are called where nothing is being shown -/
structure FnG (P : Program) (w : World) (K : PySem.W.Frag) (mg : Str → Option Value) (base : Heap) (CX : CXT) (k : Nat) (f : Addr) (fd : FuncData) (ps : List Str) (sp : Sp) : Prop where
  len : ∀ vs H Q E, sp vs H Q E → vs.length = ps.length
  go : ∀ (A : Around) (outer : List Env) (s : Shared) (H : Hp) (args : Args) (us : List Value) (vs : List V) (Q : VK) (E : XK), A.guards = some [] → Room k A → Env0 P w K mg base A outer s H → BindsTo s fd args (ps.zip us) → Vals vs us → sp vs H Q E →
    codeAny (model P w) A (.call (.ref f) args) (CR CX outer P w H s Q E) s
section
variable {P : Program} {w : World} {K : PySem.W.Frag} {mg : Str → Option Value} {base : Heap} {CX : CXT} {k : Nat} {f : Addr}
theorem fnG_of {name qual : Str} {params : Arguments} {body : List Stmt} {scope : Scope} {dV kV doc pm cdv ct oc : Value} {an od : Option Addr} {osl : Array (Option Value)} {N ps : List Str} {sp : Sp}
    (lk : K.lookup f = some ⟨oc, od, .func (PySem.W.fnOf name qual params body scope dV kV doc pm an cdv ct), osl⟩) (hcd : PySem.W.codeIn K cdv qual = true) (S : FnScope N ps scope) (len : ∀ vs H Q E, sp vs H Q E → vs.length = ps.length)
    (hb : ∀ (A : Around) (outer : List Env) (s : Shared) (H : Hp) (vs : List V) (Q : VK) (E : XK), A.guards = some [] → Room k (A.deeper (envOfC qual scope s.heap.objs.size f cdv)) → sp vs H Q E →
      ∃ t, PSs (cxOf CX P w K mg base N qual scope f cdv A outer s H E) body t ∧ t { nx := fun _ H1 => Q .non H1, rt := Q } (start N vs) H) :
    FnG P w K mg base CX (k + 1) f (PySem.W.fnOf name qual params body scope dV kV doc pm an cdv ct) ps sp := by
  constructor
  · exact len
  intro A outer s H args us vs Q E hgd hr e0 hbd rv hsp
  have z := len _ _ _ _ hsp
  have KX : K.In s.heap := e0.mod.kin.keeps (fun b o e => (e0.bs b o e).1)
  have nl : s.heap.NoLimit := e0.mod.nolimit.keeps (fun b o e => (e0.bs b o e).1)
  have par : ∀ y ∈ ps.zip us, scope.names.lookup y.1 = some .local ∨ (scope.names.lookup y.1 = some .cell ∧ ((cellsFrom (s.heap.objs.size + 1) scope.names []).lookup y.1).isSome = true) := by
    rintro ⟨n, v⟩ hy
    exact (S.par n (List.of_mem_zip hy).1).imp id fun q => ⟨q, PySem.W.cellsFrom_some _ _ _ (.inl q)⟩
  refine codeAny_call_function hr.depth (KX _ _ lk) rfl S.co S.gen rfl (PySem.W.codeRec_of KX hcd) (hbd _ _ _ _ (wpAny_newFunctionEnv_cells S.kind par ?_))
  rintro env rfl s1 x
  refine ⟨nl.keeps x.toInCall.keep, codeAny_func ?_⟩
  obtain ⟨t, ht, hq⟩ := hb A outer s H vs Q E hgd (hr.deeper _) hsp
  have I := inv_start (CX := CX) (cd := cdv) (f := f) (E := E) S hr.hd e0 z rv x
  refine wpAny_mono (ht.run [] s1 (start N vs) H _ I hq) ?_ (fun e s' h => h)
  rintro (_ | _ | _ | u) s' h
  · obtain ⟨σ', H', J, q⟩ := h
    exact ⟨.non, H', J.os, J.bare, J.base, J.hok, rfl, q⟩
  · obtain ⟨_, _, _, q⟩ := h
    exact q.elim
  · obtain ⟨_, _, _, q⟩ := h
    exact q.elim
  · obtain ⟨v, σ', H', J, r, q⟩ := h
    exact ⟨v, H', J.os, J.bare, J.base, J.hok, r, q⟩
/-- the rule for such a def -/
theorem fun_okG {x qual : Str} {st : Stmt} {fd : FuncData} {N ps : List Str} {sp : Sp} (F : Fun K x qual st f fd) (S : FnScope N ps (defScope st)) (len : ∀ vs H Q E, sp vs H Q E → vs.length = ps.length)
    (hb : ∀ (cdv : Value) (A : Around) (outer : List Env) (s : Shared) (H : Hp) (vs : List V) (Q : VK) (E : XK), A.guards = some [] → Room k (A.deeper (envOfC qual (defScope st) s.heap.objs.size f cdv)) → sp vs H Q E →
      ∃ t, PSs (cxOf CX0 P w K mg base N qual (defScope st) f cdv A outer s H E).nox (defBody st) t ∧ t { nx := fun _ H' => Q .non H', rt := Q } (start N vs) H) : FnG P w K mg base CX0 (k + 1) f fd ps sp := by
  obtain ⟨oc, od, kV, doc, pm, an, cdv, ct, osl, rfl, lk, hcd⟩ := F.ex
  refine fnG_of lk hcd S len fun A outer s H vs Q E hg hr hsp => ?_
  obtain ⟨t, h, q⟩ := hb cdv A outer s H vs Q E hg hr hsp
  exact ⟨t, h.nox, q⟩
end
section
variable {X : Cx} {CX : CXT} {k : Nat} {f : Addr} {fd : FuncData} {ps : List Str} {sp : Sp} {E : XK} {x : Str} {p pos : Pos} {e : Expr} {es : List Expr} {t : TA}
theorem pe_callG (F : FnG X.prog X.w X.K X.mg X.base CX k f fd ps sp) (hgd : X.A.guards = some []) (hr : Room k X.A) (hg : Gl X x) (hm : X.mg x = some (.ref f)) (hk : PySem.W.keepIn X.K (.ref f) = true) (hb : Binds X.K fd ps []) (hx : Passes CX X E)
    (ha : PA X (e :: es) t) (hdb : (x == ("__debug__" : Str)) = false := by decide) (he : starEach (e :: es) X.env = (false, eval e X.env) :: starEach es X.env := by rfl) (hpl : (backTo pos (starEach es X.env)).any (·.1) = false := by rfl) :
    PE X (.Call (.Name x p) (e :: es) [] pos) (fun σ H Q => t σ H fun vs H1 => sp vs H1 Q E) := by
  constructor
  intro pins s σ H Q I h
  refine wpAny_Call_Name_kw (ld_glob I hg hm (PySem.W.callWith_K (h₀ := X.base) I.ok.mod.kin hk (thn (ha.run pos pins s σ H _ I h) ?_) he hpl) hdb)
  rintro us s1 ⟨vs, H1, I1, r, q⟩
  refine ⟨I1.kIn, ?_⟩
  have hl : us.length = ps.length := by rw [← r.length]; exact F.len _ _ _ _ q
  have hb' : BindsTo s1 fd ⟨us, []⟩ (ps.zip us) := by
    have z := hb s1 us I1.kIn (by rw [List.append_nil]; exact hl)
    rw [List.append_nil] at z
    exact z
  refine wpAny_call (codeAny_mono (F.go X.A X.stack s1 H1 ⟨us, []⟩ us vs Q E hgd hr I1.env0 hb' r q) ?_)
  rintro (e | fl) s' hq
  · exact hx pins σ H1 s1 e s' I1 hq
  · cases fl with
    | ret u => exact I1.after hq
    | next => exact hq.elim
    | brk => exact hq.elim
    | cont => exact hq.elim
end
end Fp

namespace Fp
open PySem PySem.Spec PyProof.Rows L2

/-! ### the law's own call, by FnG -/
theorem only_base {P : Program} {w : World} {K : PySem.W.Frag} {mg mb : Str → Option Value} {a : Addr} {s : Shared} {vs : List Value} {H : Hp} (KX : K.In s.heap) (hns : s.heap.Ns mainGlobals mg) (hb : s.heap.Ns builtinsNs mb)
    (hbb : ∀ x : Str, x ≠ "__name__" → mb x = bootBuiltins x) (hlim : s.heap.NoLimit) (hgen : s.gens = #[]) (ha : s.heap.get? a = some { cls := .type "list", data := .seq vs.toArray }) (hok : HOk P w H s.heap)
    (hA : ∀ b, H b ≠ none → b = a) (hK : H a ≠ none → K.lookup a = none) : K.In (hidT s.heap H) ∧ (hidT s.heap H).Ns mainGlobals mg ∧ Env0 P w K mg (hidT s.heap H) callerA [] s H := by
  have fr : ∀ {b : Addr}, b ≠ a → H b = none := fun {b} n => by
    cases q : H b with
    | none => rfl
    | some u => exact absurd (hA b fun z => by rw [q] at z; cases z) n
  have dn : ∀ {b : Addr} {m : Str → Option Value}, s.heap.Ns b m → (hidT s.heap H).Ns b m := fun {b m} ⟨o, es, ep, e, d, r⟩ => by
    refine ⟨o, es, ep, hidT_get e (fr fun z => ?_), d, r⟩
    subst z
    obtain rfl := Option.some.inj (e.symm.trans ha)
    cases (show Data.seq vs.toArray _ = Data.dict es ep from d)
  have k0 : K.In (hidT s.heap H) := fun b o e => by
    by_cases z : H b = none
    · exact hidT_get (KX b o e) z
    · have eb := hA b z
      subst eb
      rw [hK z] at e
      cases e
  obtain ⟨mc, l1, l2⟩ := hlim
  exact ⟨k0, dn hns, ⟨rfl, ⟨k0, dn hns, ⟨mb, dn hb, hbb⟩, ⟨mc, dn l1, l2⟩⟩, fun b o e => of_hidT e, Nat.le_of_eq (hidT_size _ _), trivial, fun b z => absurd (show b ∈ ([] : List Addr) from z) (by simp), hok, .of_eq hgen⟩⟩
theorem law_callG {P : Program} {w : World} {K : PySem.W.Frag} {mg mb : Str → Option Value} {CX : CXT} {k : Nat} {fa a : Addr} {fd : FuncData} {x : Str} {sp : Sp} {s : Shared} {vs : List Value} {ns : List Int}
    (KX : K.In s.heap) (hns : s.heap.Ns mainGlobals mg) (hb : s.heap.Ns builtinsNs mb) (hbb : ∀ x : Str, x ≠ "__name__" → mb x = bootBuiltins x) (hlim : s.heap.NoLimit) (hgen : s.gens = #[])
    (ha : s.heap.get? a = some { cls := .type "list", data := .seq vs.toArray }) (hi : IntsAre vs ns) (hl : ns.length ≤ sizeLine) (hr : Room k callerA)
    (F : ∀ base : Heap, K.In base → base.Ns mainGlobals mg → FnG P w K mg base CX k fa fd [x] sp) (hbind : ∀ (s : Shared) (u : Value), BindsTo s fd ⟨[u], []⟩ [(x, u)])
    (hsp : ∀ H : Hp, Only H → SqL K H a (ns.map V.int) → sp [.ref a] H (fun v _ => v = .bl true) fun _ _ _ => False) (hCX : ∀ H e s', CX [] H s (fun _ _ _ => False) e s' → False) :
    codeAny (model P w) callerA (.call (.ref fa) ⟨[.ref a], []⟩) (fun r s' => r = .ok (.ret (.bool true)) ∧ OldK s.heap s'.heap ∧ s'.os = s.os ∧ AllBare s'.gens) s := by
  have rv := vals_ints hi
  have core : ∀ H : Hp, Only H → SqL K H a (ns.map V.int) → HOk P w H s.heap → (∀ b, H b ≠ none → b = a) → (H a ≠ none → K.lookup a = none) →
      codeAny (model P w) callerA (.call (.ref fa) ⟨[.ref a], []⟩) (fun r s' => r = .ok (.ret (.bool true)) ∧ OldK s.heap s'.heap ∧ s'.os = s.os ∧ AllBare s'.gens) s := by
    intro H hO hS hok hA hK
    obtain ⟨k0, n0, e0⟩ := only_base (P := P) (w := w) KX hns hb hbb hlim hgen ha hok hA hK
    refine codeAny_mono ((F _ k0 n0).go callerA [] s H ⟨[.ref a], []⟩ [.ref a] [.ref a] _ _ rfl hr e0 (hbind s (.ref a)) (.cons rfl .nil) (hsp H hO hS)) ?_
    rintro (e | fl) s' h
    · exact (hCX H e s' h).elim
    cases fl with
    | next => exact h.elim
    | brk => exact h.elim
    | cont => exact h.elim
    | ret u =>
      obtain ⟨v, H', os, bare, un, hok', r, q⟩ := h
      obtain rfl : v = .bl true := q
      obtain rfl : u = Value.bool true := r
      refine ⟨rfl, OldK.of_keep fun b o e => ?_, os, bare⟩
      rcases hO b with z | ⟨ob, xs, z⟩
      · exact un.keep b o e z (fun z => absurd (show b ∈ ([] : List Addr) from z) (by simp)) (by simp)
      · obtain ⟨e1, _⟩ := hok b _ z
        obtain ⟨e2, _⟩ := hok' b _ (un.frzs b ob _ z)
        exact e2.trans (e1.symm.trans e)
  cases hk : K.lookup a with
  | some o =>
    obtain rfl := Option.some.inj ((KX a o hk).symm.trans ha)
    exact core (fun _ => none) (fun _ => .inl rfl) (.inr ⟨_, vs.toArray, _, hk, rfl, rfl, rfl, by rw [List.size_toArray, hi.length]; exact hl, by simpa using rv⟩) (fun b u z => by cases (show (none : Option HO) = some u from z)) (fun b z => absurd rfl z) (fun z => absurd rfl z)
  | none =>
    have up : ∀ {b : Addr} {u : HO}, (fun c => if c = a then some (HO.frz { cls := .type "list", data := .seq vs.toArray } (.lst (ns.map V.int))) else none) b = some u → b = a ∧ u = HO.frz { cls := .type "list", data := .seq vs.toArray } (.lst (ns.map V.int)) := fun {b u} z => by
      by_cases hb : b = a
      · exact ⟨hb, (Option.some.inj ((if_pos hb).symm.trans z)).symm⟩
      · cases (if_neg hb).symm.trans z
    refine core (fun c => if c = a then some (HO.frz { cls := .type "list", data := .seq vs.toArray } (.lst (ns.map V.int))) else none) (fun b => ?_) (.inl (.inr ⟨_, if_pos rfl⟩)) (fun b u z => ?_) (fun b z => ?_) (fun _ => hk)
    · by_cases hb : b = a
      · exact .inr ⟨_, _, if_pos hb⟩
      · exact .inl (if_neg hb)
    · obtain ⟨rfl, rfl⟩ := up z
      exact ⟨ha, by rw [List.length_map]; exact hl, vs, _, rv, ha⟩
    · by_cases hb : b = a
      · exact hb
      · exact absurd (if_neg hb) z
theorem walk_ofG {l : PySem.W.OpenLaw} {n k : Nat} {q : Program} {loose : List Str} {XP : (Str → Option Value) → Heap → Prop} {YP : World → Heap → Prop} {d : DefRec} {K : Params → PySem.W.Frag} {sp : PySem.W.Frag → Sp} {x : Str}
    (hn : l.most = some n) (hn2 : n ≤ sizeLine) (hdf : d.params.defaults = []) (hr : Room k callerA) (hY : ∀ (w : World) (h : Heap), YP w h → (K w.params).In h)
    (F : ∀ (w : World) (mg : Str → Option Value) (fa : Addr) (h : Heap), (K w.params).In h → h.Ns mainGlobals mg → mg d.name = some (.ref fa) →
      ∃ fd : FuncData, (∀ (s : Shared) (u : Value), BindsTo s fd ⟨[u], []⟩ [(x, u)]) ∧ ∀ base : Heap, (K w.params).In base → base.Ns mainGlobals mg → FnG l.prog w (K w.params) mg base CX0 k fa fd [x] (sp (K w.params)))
    (hsp : ∀ (K : PySem.W.Frag) (H : Hp) (a : Addr) (ns : List Int), ns.length ≤ n → Only H → SqL K H a (ns.map V.int) → sp K [.ref a] H (fun v _ => v = .bl true) fun _ _ _ => False) :
    PySem.W.WalkO q loose XP YP l.row.toRowW d [] (fun f vs => PySem.call f vs) := by
  refine Att.attach_call hn hdf ?_
  intro w s₀ s₁ mg mb fa o pm cd doc a vs ns G Y ho hd hcd hmg hobj hints hlen hg
  have KX := hY w _ Y
  obtain ⟨fd, hb, hF⟩ := F w mg fa _ KX G.T.g hmg
  exact law_callG KX G.T.g G.T.b G.T.builtins G.T.nolimit hg hobj hints (Nat.le_trans hlen hn2) hr hF hb (fun H hO hS => hsp (K w.params) H a ns hlen hO hS) (fun H e s' h => h.elim)
end Fp

namespace Fp
open PySem PySem.Spec PyProof.Rows L2

/-- the def that stands at the module's name x -/
structure Bnd (K : PySem.W.Frag) (mg : Str → Option Value) (x : Str) (st : Stmt) : Prop where
  ex : ∃ (f : Addr) (fd : FuncData), mg x = some (.ref f) ∧ Fun K x x st f fd
/-- the def at the module's name x keeps its promise -/
structure Def (P : Program) (w : World) (K : PySem.W.Frag) (mg : Str → Option Value) (base : Heap) (k : Nat) (x : Str) (st : Stmt) (ps : List Str) (sp : Sp) : Prop where
  ex : ∃ (f : Addr) (fd : FuncData), mg x = some (.ref f) ∧ Fun K x x st f fd ∧ Binds K fd ps [] ∧ FnOk P w K mg base CX0 k f fd ps sp
structure DefG (P : Program) (w : World) (K : PySem.W.Frag) (mg : Str → Option Value) (base : Heap) (k : Nat) (x : Str) (st : Stmt) (ps : List Str) (sp : Sp) : Prop where
  ex : ∃ (f : Addr) (fd : FuncData), mg x = some (.ref f) ∧ Fun K x x st f fd ∧ Binds K fd ps [] ∧ FnG P w K mg base CX0 k f fd ps sp
/-- how a def without defaults binds -/
abbrev Bind (x : Str) (st : Stmt) (ps : List Str) : Prop := ∀ (kV doc pm : Value) (an : Option Addr) (cdv ct : Value) (us : List Value), us.length = ps.length → bindArgs (PySem.W.fnOf x x (defArgs st) (defBody st) (defScope st) .none kV doc pm an cdv ct) ⟨us, []⟩ = pure (ps.zip us)
section
variable {P : Program} {w : World} {K : PySem.W.Frag} {mg : Str → Option Value} {base : Heap} {k : Nat} {x : Str} {st : Stmt} {N ps : List Str} {sp : Sp}
theorem Def.mono {j : Nat} (D : Def P w K mg base k x st ps sp) (h : k ≤ j) : Def P w K mg base j x st ps sp := by
  obtain ⟨f, fd, a, b, c, d⟩ := D.ex
  exact ⟨f, fd, a, b, c, d.mono h⟩
theorem def_of (B : Bnd K mg x st) (S : FnScope N ps (defScope st)) (len : ∀ vs H Q E, sp vs H Q E → vs.length = ps.length) (hbi : Bind x st ps)
    (hb : ∀ (f : Addr) (cdv : Value) (A : Around) (outer : List Env) (s : Shared) (H : Hp) (vs : List V) (Q : VK) (E : XK), Room k (A.deeper (envOfC x (defScope st) s.heap.objs.size f cdv)) → sp vs H Q E →
      ∃ t, PSs (cxOf CX0 P w K mg base N x (defScope st) f cdv A outer s H E).nox (defBody st) t ∧ t { nx := fun _ H' => Q .non H', rt := Q } (start N vs) H) : Def P w K mg base (k + 1) x st ps sp := by
  obtain ⟨f, fd, hm, F⟩ := B.ex
  exact ⟨f, fd, hm, F, F.binds hbi, F.ok S len (hb f)⟩
theorem defG_of (B : Bnd K mg x st) (S : FnScope N ps (defScope st)) (len : ∀ vs H Q E, sp vs H Q E → vs.length = ps.length) (hbi : Bind x st ps)
    (hb : ∀ (f : Addr) (cdv : Value) (A : Around) (outer : List Env) (s : Shared) (H : Hp) (vs : List V) (Q : VK) (E : XK), A.guards = some [] → Room k (A.deeper (envOfC x (defScope st) s.heap.objs.size f cdv)) → sp vs H Q E →
      ∃ t, PSs (cxOf CX0 P w K mg base N x (defScope st) f cdv A outer s H E).nox (defBody st) t ∧ t { nx := fun _ H' => Q .non H', rt := Q } (start N vs) H) : DefG P w K mg base (k + 1) x st ps sp := by
  obtain ⟨f, fd, hm, F⟩ := B.ex
  exact ⟨f, fd, hm, F, F.binds hbi, fun_okG F S len (hb f)⟩
end
def tD (sp : Sp) (t : TA) : TE := fun σ H Q => t σ H fun vs H1 => sp vs H1 Q E0
def tDK (n m : Nat) (b : Bool) (sp : Sp) (t tk : TA) : TE := fun σ H Q => t σ H fun vs H1 => tk σ H1 fun zs H2 => vs.length = n ∧ zs.length = m ∧ sp (vs ++ if b = true then zs.reverse else zs) H2 Q E0
/-- how a def without defaults binds n values by place and m by the names ks (b: turned about) -/
abbrev BindK (n m : Nat) (b : Bool) (x : Str) (st : Stmt) (ps ks : List Str) : Prop := ∀ (kV doc pm : Value) (an : Option Addr) (cdv ct : Value) (us ws : List Value), us.length = n → ws.length = m →
  bindArgs (PySem.W.fnOf x x (defArgs st) (defBody st) (defScope st) .none kV doc pm an cdv ct) ⟨us, ks.zip ws⟩ = pure (ps.zip (us ++ if b = true then ws.reverse else ws))
section
variable {X : Cx} {k : Nat} {x : Str} {st : Stmt} {ps ks : List Str} {sp : Sp} {p pos : Pos} {e : Expr} {es : List Expr} {t tk : TA} {kws : List Keyword} {n m : Nat} {b : Bool}
/-- f(e, ..) -/
theorem pe_d (D : Def X.prog X.w X.K X.mg X.base k x st ps sp) (hr : Room k X.A) (hg : Gl X x) (ha : PA X (e :: es) t)
    (hdb : (x == ("__debug__" : Str)) = false := by decide) (he : starEach (e :: es) X.env = (false, eval e X.env) :: starEach es X.env := by rfl) (hpl : (backTo pos (starEach es X.env)).any (·.1) = false := by rfl) :
    PE X (.Call (.Name x p) (e :: es) [] pos) (tD sp t) := by
  obtain ⟨f, fd, hm, F, hb, ok⟩ := D.ex
  have q := pe_call (p := p) ok hr hg hm F.kp hb .nil (pass0 (X := X)) ha hdb he hpl
  have z : tCall sp [] E0 t = tD sp t := by
    funext σ H Q
    unfold tCall tD
    simp only [List.append_nil]
  rw [z] at q
  exact q
theorem pe_dG (D : DefG X.prog X.w X.K X.mg X.base k x st ps sp) (hgd : X.A.guards = some []) (hr : Room k X.A) (hg : Gl X x) (ha : PA X (e :: es) t)
    (hdb : (x == ("__debug__" : Str)) = false := by decide) (he : starEach (e :: es) X.env = (false, eval e X.env) :: starEach es X.env := by rfl) (hpl : (backTo pos (starEach es X.env)).any (·.1) = false := by rfl) :
    PE X (.Call (.Name x p) (e :: es) [] pos) (tD sp t) := by
  obtain ⟨f, fd, hm, F, hb, ok⟩ := D.ex
  exact pe_callG (p := p) ok hgd hr hg hm F.kp hb (pass0 (X := X)) ha hdb he hpl
theorem run_dk {pins : List (Addr × Obj)} {σ : L2.St} {H : Hp} {s : Shared} {Q : VK} {us ws : List Value} {vs zs : List V} {f : Addr} {fd : FuncData} (F : Fun X.K x x st f fd) (ok : FnOk X.prog X.w X.K X.mg X.base CX0 k f fd ps sp) (hr : Room k X.A)
    (hb : BindK n m b x st ps ks) (I : Inv X pins σ H s) (r : Vals vs us) (rz : Vals zs ws) (hn : vs.length = n) (hm : zs.length = m) (h : sp (vs ++ if b = true then zs.reverse else zs) H Q E0) :
    wpAny (model X.prog X.w) X.A (call (.ref f) us (ks.zip ws)) (EP X pins σ Q) X.xe s := by
  obtain ⟨oc, od, kV, doc, pm, an, cdv, ct, osl, efd, lk, hcd⟩ := F.ex
  have rr : Vals (vs ++ if b = true then zs.reverse else zs) (us ++ if b = true then ws.reverse else ws) := by
    refine r.append ?_
    cases b with
    | true => rw [if_pos rfl, if_pos rfl]; exact rz.reverse
    | false => rw [if_neg Bool.false_ne_true, if_neg Bool.false_ne_true]; exact rz
  have hbd : BindsTo s fd ⟨us, ks.zip ws⟩ (ps.zip (us ++ if b = true then ws.reverse else ws)) := by
    rw [efd]
    exact .of_eq (hb kV doc pm an cdv ct us ws (r.length.symm.trans hn) (rz.length.symm.trans hm))
  refine wpAny_call (codeAny_mono (ok.run X.A X.stack s H ⟨us, ks.zip ws⟩ _ _ Q E0 hr I.env0 hbd rr h) ?_)
  rintro (e | fl) s' hq
  · exact pass0 (X := X) pins σ H s e s' I hq
  · cases fl with
    | ret u => exact I.after hq
    | next => exact hq.elim
    | brk => exact hq.elim
    | cont => exact hq.elim
/-- f(e, .., k = v, ..) -/
theorem pe_dk (D : Def X.prog X.w X.K X.mg X.base k x st ps sp) (hr : Room k X.A) (hg : Gl X x) (n m : Nat) (b : Bool) (ks : List Str) (hb : BindK n m b x st ps ks) (ha : PA X (e :: es) t) (hkw : PK X kws tk)
    (hks : (backToKw pos (keywordEach kws X.env)).filterMap (·.1) = ks := by rfl) (hall : (backToKw pos (keywordEach kws X.env)).all (·.1.isSome) = true := by rfl) (hdb : (x == ("__debug__" : Str)) = false := by decide)
    (he : starEach (e :: es) X.env = (false, eval e X.env) :: starEach es X.env := by rfl) (hpl : ((backTo pos (starEach (e :: es) X.env)).any (·.1) || (backToKw pos (keywordEach kws X.env)).any (·.1.isNone)) = false := by rfl) :
    PE X (.Call (.Name x p) (e :: es) kws pos) (tDK n m b sp t tk) := by
  obtain ⟨f, fd, hm, F, _, ok⟩ := D.ex
  constructor
  intro pins s σ H Q I h
  refine wpAny_Call_Name_kw (ld_glob I hg hm (PySem.W.callWith_KW (h₀ := X.base) I.ok.mod.kin F.kp hall (thn (ha.run pos pins s σ H _ I h) ?_) hpl he) hdb)
  rintro us s1 ⟨vs, H1, I1, r, q⟩
  refine thn (hkw.run pos pins s1 σ H1 _ I1 q) ?_
  rintro ws s2 ⟨zs, H2, I2, rz, q2⟩
  refine ⟨I2.kIn, ?_⟩
  rw [hks]
  exact run_dk F ok hr hb I2 r rz q2.1 q2.2.1 q2.2.2
/-- f(k = v, ..) -/
theorem pe_dk0 (D : Def X.prog X.w X.K X.mg X.base k x st ps sp) (hr : Room k X.A) (hg : Gl X x) (m : Nat) (b : Bool) (ks : List Str) (hb : BindK 0 m b x st ps ks) (hkw : PK X kws tk)
    (hks : (backToKw pos (keywordEach kws X.env)).filterMap (·.1) = ks := by rfl) (hall : (backToKw pos (keywordEach kws X.env)).all (·.1.isSome) = true := by rfl) (hdb : (x == ("__debug__" : Str)) = false := by decide)
    (hpl : ((backTo pos (starEach [] X.env)).any (·.1) || (backToKw pos (keywordEach kws X.env)).any (·.1.isNone)) = false := by rfl) :
    PE X (.Call (.Name x p) [] kws pos) (tDK 0 m b sp tNil tk) := by
  obtain ⟨f, fd, hm, F, _, ok⟩ := D.ex
  constructor
  intro pins s σ H Q I h
  refine wpAny_Call_Name_kw (ld_glob I hg hm (PySem.W.callWith_KW0 (h₀ := X.base) I.ok.mod.kin F.kp hall (thn (hkw.run pos pins s σ H _ I h) ?_) hpl) hdb)
  rintro ws s2 ⟨zs, H2, I2, rz, q2⟩
  refine ⟨I2.kIn, ?_⟩
  rw [hks]
  exact run_dk F ok hr hb I2 .nil rz q2.1 q2.2.1 q2.2.2
end
/-- sorted(set(..)) and set(..) -/
def rSetI (K : PySem.W.Frag) (w : World) : List V → Hp → VK → Prop := fun vs H Q => ∃ (a : Addr) (ns : List Int), vs = [.ref a] ∧ Sq K H a (ns.map V.int) ∧ ns.length ≤ 60 ∧
  ∀ (p : Addr) (n : Nat), n ≤ ns.length → H p = none → Q (.ref p) (upd H p (SetO w p (fun j => decide (j ∈ ns)) n))
theorem cr_setI {X : Cx} (hc : X.calm = true) : CallR X (.type "set") (rSetI X.K X.w) := by
  intro pins s σ H vs us Q I r h
  obtain ⟨a, ns, rfl, hS, hz, q⟩ := h
  rw [Vals.ref1 r]
  have hb : ns.length + 1 < scanBound := by unfold scanBound; omega
  have fin : ∀ (h' : Heap) (tk c : Nat), SetR X.w h' s.heap.objs.size (fun j => decide (j ∈ ns)) c → c ≤ ns.length → (∀ b o, s.heap.get? b = some o → h'.get? b = some o) → EP X pins σ Q (.ref s.heap.objs.size) { s with heap := h', toks := tk } :=
    fun h' tk c R hc k => ⟨.ref s.heap.objs.size, _, I.laid (t' := tk) k (Nat.le_refl _) (setO_new R), rfl, q _ c hc (I.hok.fresh (Nat.le_refl _))⟩
  rcases hS with hS | hS
  · obtain ⟨its, rv, pl, _⟩ := I.list hS
    exact call_set_lstI ns (I.ok.hd hc) pl.isList (by simpa using Vals.ints rv) hb fin
  · obtain ⟨its, rv, pl, _⟩ := I.tuple hS
    exact call_set_tupI ns (I.ok.hd hc) pl (by simpa using Vals.ints rv) hb fin
end Fp

namespace K21
/-- the numbers that are sums of the ints that P tells -/
inductive Rch (P : Int → Prop) : Int → Prop
  | zero : Rch P 0
  | step {n c : Int} (h : P c) (r : Rch P n) : Rch P (n + c)
theorem Rch.add {P : Int → Prop} {a b : Int} (ha : Rch P a) (hb : Rch P b) : Rch P (a + b) := by
  induction hb with
  | zero => rw [Int.add_zero]; exact ha
  | step h r ih => rw [← Int.add_assoc]; exact .step h ih
theorem Rch.one {P : Int → Prop} {c : Int} (h : P c) : Rch P c := by
  have q := Rch.step h (.zero (P := P))
  rw [Int.zero_add] at q
  exact q
theorem Rch.trans {P Q : Int → Prop} (h : ∀ c, P c → Rch Q c) {n : Int} (r : Rch P n) : Rch Q n := by
  induction r with
  | zero => exact .zero
  | step hc _ ih => exact ih.add (h _ hc)
theorem Rch.mono {P Q : Int → Prop} (h : ∀ c, P c → Q c) {n : Int} (r : Rch P n) : Rch Q n := r.trans fun c hc => .one (h c hc)
theorem Rch.nonneg {P : Int → Prop} (h : ∀ c, P c → 0 < c) {n : Int} (r : Rch P n) : 0 ≤ n := by
  induction r with
  | zero => exact Int.le_refl 0
  | step hc _ ih => have := h _ hc; omega
theorem Rch.le {P : Int → Prop} (h : ∀ c, P c → 0 < c) {n : Int} (r : Rch P n) : Rch (fun c => P c ∧ c ≤ n) n := by
  induction r with
  | zero => exact .zero
  | @step n c hc r ih =>
    have h0 := Rch.nonneg h r
    have h1 := h _ hc
    exact .step ⟨hc, by omega⟩ (ih.mono fun d hd => ⟨hd.1, by omega⟩)
theorem rch_next {P : Int → Prop} (h : ∀ c, P c → 0 < c) {n : Int} (hn : 0 < n) : Rch P n ↔ ∃ c, P c ∧ c ≤ n ∧ Rch P (n - c) := by
  constructor
  · intro r
    cases r with
    | zero => omega
    | @step m c hc r =>
      have h0 := Rch.nonneg h r
      refine ⟨c, hc, by omega, ?_⟩
      rw [Int.add_sub_cancel]
      exact r
  · rintro ⟨c, hc, _, r⟩
    have q := Rch.step hc r
    rw [Int.sub_add_cancel] at q
    exact q
/-- met, as a bool -/
noncomputable def mb (cs : List Int) (n : Int) : Bool := @decide (Rch (· ∈ cs) n) (Classical.propDecidable _)
theorem mb_iff {cs : List Int} {n : Int} : mb cs n = true ↔ Rch (· ∈ cs) n := by
  unfold mb
  exact @decide_eq_true_iff _ (Classical.propDecidable _)
theorem mb_false {cs : List Int} {n : Int} : mb cs n = false ↔ ¬ Rch (· ∈ cs) n := by
  rw [← mb_iff]
  cases mb cs n <;> simp
theorem mb_congr {cs ds : List Int} {n : Int} (h : Rch (· ∈ cs) n ↔ Rch (· ∈ ds) n) : mb cs n = mb ds n := by
  cases e : mb ds n with
  | true => exact mb_iff.mpr (h.mpr (mb_iff.mp e))
  | false => exact mb_false.mpr fun z => mb_false.mp e (h.mp z)
theorem mb_zero {cs : List Int} : mb cs 0 = true := mb_iff.mpr .zero
def Pos (cs : List Int) : Prop := ∀ c ∈ cs, 0 < c
theorem mb_next {cs : List Int} (h : Pos cs) {n : Int} (hn : 0 < n) : mb cs n = cs.any fun c => decide (c ≤ n) && mb cs (n - c) := by
  cases e : (cs.any fun c => decide (c ≤ n) && mb cs (n - c)) with
  | true =>
    obtain ⟨c, hc, q⟩ := List.any_eq_true.mp e
    rw [Bool.and_eq_true, decide_eq_true_eq] at q
    exact mb_iff.mpr ((rch_next h hn).mpr ⟨c, hc, q.1, mb_iff.mp q.2⟩)
  | false =>
    refine mb_false.mpr fun r => ?_
    obtain ⟨c, hc, hl, r⟩ := (rch_next h hn).mp r
    have q := List.any_eq_false.mp e c hc
    rw [mb_iff.mpr r, decide_eq_true hl] at q
    exact q rfl
/-- the table of what is met -/
noncomputable def tb (cs : List Int) (m : Nat) : List Bool := (List.range m).map fun i : Nat => mb cs ((i : Nat) : Int)
theorem tb_len (cs : List Int) (m : Nat) : (tb cs m).length = m := by unfold tb; rw [List.length_map, List.length_range]
theorem tb_at {cs : List Int} {m i : Nat} (h : i < m) : (tb cs m)[i]? = some (mb cs (i : Int)) := by
  unfold tb
  rw [List.getElem?_map, List.getElem?_range h]; rfl
theorem tb_succ (cs : List Int) (m : Nat) : tb cs (m + 1) = tb cs m ++ [mb cs (m : Int)] := by
  unfold tb
  rw [List.range_succ, List.map_append]; rfl
theorem tb_one (cs : List Int) : tb cs 1 = [true] := by
  rw [tb_succ]
  show [] ++ [mb cs ((0 : Nat) : Int)] = [true]
  rw [show ((0 : Nat) : Int) = 0 from rfl, mb_zero]; rfl
/-! ### least counts -/
def stepL (f : List Int → Int → Bool) (found : List Int) (x : Int) : List Int := if f found x = true then found else found ++ [x]
noncomputable def lst (s : List Int) : List Int := s.foldl (stepL mb) []
structure IsL (cs R : List Int) : Prop where
  srt : R.Pairwise (· < ·)
  mem : ∀ x, x ∈ R ↔ x ∈ cs ∧ ¬ Rch (fun c => c ∈ cs ∧ c < x) x
theorem sorted_ext : ∀ {R S : List Int}, R.Pairwise (· < ·) → S.Pairwise (· < ·) → (∀ x, x ∈ R ↔ x ∈ S) → R = S
  | [], [], _, _, _ => rfl
  | [], y :: _, _, _, h => absurd ((h y).mpr List.mem_cons_self) (by simp)
  | x :: _, [], _, _, h => absurd ((h x).mp List.mem_cons_self) (by simp)
  | x :: R, y :: S, hR, hS, h => by
    obtain ⟨h1, h2⟩ := List.pairwise_cons.mp hR
    obtain ⟨h3, h4⟩ := List.pairwise_cons.mp hS
    have exy : x = y := by
      rcases List.mem_cons.mp ((h x).mp List.mem_cons_self) with e | e
      · exact e
      · rcases List.mem_cons.mp ((h y).mpr List.mem_cons_self) with e' | e'
        · exact e'.symm
        · have a := h1 _ e'
          have b := h3 _ e
          omega
    subst exy
    rw [sorted_ext h2 h4 fun z => ?_]
    constructor
    · intro hz
      rcases List.mem_cons.mp ((h z).mp (List.mem_cons_of_mem _ hz)) with e | e
      · have := h1 _ hz; omega
      · exact e
    · intro hz
      rcases List.mem_cons.mp ((h z).mpr (List.mem_cons_of_mem _ hz)) with e | e
      · have := h3 _ hz; omega
      · exact e
theorem IsL.uniq {cs R S : List Int} (a : IsL cs R) (b : IsL cs S) : R = S := sorted_ext a.srt b.srt fun x => (a.mem x).trans (b.mem x).symm
theorem IsL.congr {cs ds R : List Int} (a : IsL cs R) (h : ∀ x, x ∈ cs ↔ x ∈ ds) : IsL ds R :=
  ⟨a.srt, fun x => by
    have e : (fun c => c ∈ cs ∧ c < x) = fun c => c ∈ ds ∧ c < x := funext fun c => propext (by rw [h])
    rw [a.mem x, h, e]⟩
/-- the state of the search behind a part p of the sorted counts -/
structure Sch (cs p f : List Int) : Prop where
  srt : f.Pairwise (· < ·)
  mem : ∀ x, x ∈ f ↔ x ∈ p ∧ ¬ Rch (fun c => c ∈ cs ∧ c < x) x
  rch : ∀ n, Rch (· ∈ f) n ↔ Rch (· ∈ p) n
theorem Sch.nil {cs : List Int} : Sch cs [] [] := ⟨List.Pairwise.nil, fun x => by simp, fun n => Iff.rfl⟩
theorem Sch.turn {cs p f r : List Int} {x : Int} (hs : (p ++ x :: r).Pairwise (· ≤ ·)) (hm : ∀ c, c ∈ cs ↔ c ∈ p ++ x :: r) (S : Sch cs p f) : Sch cs (p ++ [x]) (stepL mb f x) := by
  have hp : ∀ c ∈ p, c ≤ x := fun c hc => (List.pairwise_append.mp hs).2.2 c hc x List.mem_cons_self
  have hr : ∀ c ∈ r, x ≤ c := fun c hc => (List.pairwise_cons.mp (List.pairwise_append.mp hs).2.1).1 c hc
  have hpc : ∀ c ∈ p, c ∈ cs := fun c hc => (hm c).mpr (List.mem_append_left _ hc)
  have hlow : ∀ c, c ∈ cs → c < x → c ∈ p := fun c hc hl => by
    rcases List.mem_append.mp ((hm c).mp hc) with h | h
    · exact h
    · rcases List.mem_cons.mp h with h | h
      · omega
      · have := hr c h; omega
  have hfp : ∀ c ∈ f, c ∈ p := fun c hc => ((S.mem c).mp hc).1
  have mem1 : ∀ c, c ∈ p ++ [x] ↔ c ∈ p ∨ c = x := fun c => by simp
  unfold stepL
  cases e : mb f x with
  | true =>
    rw [if_pos rfl]
    have rx : Rch (· ∈ p) x := (S.rch x).mp (mb_iff.mp e)
    refine ⟨S.srt, fun y => ?_, fun n => ?_⟩
    · rw [S.mem y, mem1]
      constructor
      · exact fun h => ⟨.inl h.1, h.2⟩
      · rintro ⟨h | h, h2⟩
        · exact ⟨h, h2⟩
        · subst h
          by_cases hy : y ∈ p
          · exact ⟨hy, h2⟩
          · refine absurd (rx.mono fun c hc => ⟨hpc c hc, ?_⟩) h2
            have := hp c hc
            have hne : c ≠ y := fun z => hy (z ▸ hc)
            omega
    · rw [S.rch n]
      constructor
      · exact fun q => q.mono fun c hc => (mem1 c).mpr (.inl hc)
      · refine fun q => q.trans fun c hc => ?_
        rcases (mem1 c).mp hc with h | h
        · exact .one h
        · rw [h]; exact rx
  | false =>
    rw [if_neg Bool.false_ne_true]
    have nx : ¬ Rch (· ∈ p) x := fun z => mb_false.mp e ((S.rch x).mpr z)
    have hxp : x ∉ p := fun z => nx (.one z)
    have mem2 : ∀ c, c ∈ f ++ [x] ↔ c ∈ f ∨ c = x := fun c => by simp
    refine ⟨?_, fun y => ?_, fun n => ?_⟩
    · refine List.pairwise_append.mpr ⟨S.srt, List.pairwise_singleton _ _, fun a ha b hb => ?_⟩
      rw [List.mem_singleton.mp hb]
      have := hp a (hfp a ha)
      have hne : a ≠ x := fun z => hxp (z ▸ hfp a ha)
      omega
    · rw [mem2, S.mem y, mem1]
      constructor
      · rintro (h | h)
        · exact ⟨.inl h.1, h.2⟩
        · subst h
          exact ⟨.inr rfl, fun z => nx (z.mono fun c hc => hlow c hc.1 hc.2)⟩
      · rintro ⟨h | h, h2⟩
        · exact .inl ⟨h, h2⟩
        · exact .inr h
    · constructor
      · refine fun q => q.mono fun c hc => (mem1 c).mpr ?_
        rcases (mem2 c).mp hc with h | h
        · exact .inl (hfp c h)
        · exact .inr h
      · refine fun q => q.trans fun c hc => ?_
        rcases (mem1 c).mp hc with h | h
        · exact ((S.rch c).mpr (.one h)).mono fun d hd => (mem2 d).mpr (.inl hd)
        · exact .one ((mem2 c).mpr (.inr h))
theorem take_split {α : Type} {l : List α} {i : Nat} {x : α} (h : l[i]? = some x) : l = l.take i ++ x :: l.drop (i + 1) := by
  obtain ⟨hi, e⟩ := List.getElem?_eq_some_iff.mp h
  subst e
  rw [← List.drop_eq_getElem_cons hi, List.take_append_drop]
theorem take_one {α : Type} {l : List α} {i : Nat} {x : α} (h : l[i]? = some x) : l.take (i + 1) = l.take i ++ [x] := by
  rw [List.take_add_one, h]; rfl
theorem lst_take {s : List Int} {i : Nat} {x : Int} (h : s[i]? = some x) : lst (s.take (i + 1)) = stepL mb (lst (s.take i)) x := by
  unfold lst
  rw [take_one h, List.foldl_append]; rfl
theorem sch_take {cs s : List Int} (hs : s.Pairwise (· ≤ ·)) (hm : ∀ c, c ∈ cs ↔ c ∈ s) : ∀ i, i ≤ s.length → Sch cs (s.take i) (lst (s.take i))
  | 0, _ => by rw [List.take_zero]; exact Sch.nil
  | i + 1, h => by
    have hx : s[i]? = some s[i] := List.getElem?_eq_getElem h
    have e := take_split hx
    rw [lst_take hx, take_one hx]
    refine Sch.turn (r := s.drop (i + 1)) ?_ ?_ (sch_take hs hm i (Nat.le_of_lt h))
    · rw [← e]; exact hs
    · rw [← e]; exact hm
theorem lst_len_le (s : List Int) : ∀ i, (lst (s.take i)).length ≤ i
  | 0 => by simp [lst]
  | i + 1 => by
    cases e : s[i]? with
    | none =>
      have h : s.length ≤ i := List.getElem?_eq_none_iff.mp e
      have q := lst_len_le s i
      rw [List.take_of_length_le h] at q
      rw [List.take_of_length_le (Nat.le_succ_of_le h)]
      omega
    | some x =>
      have q := lst_len_le s i
      rw [lst_take e]
      unfold stepL
      split
      · omega
      · rw [List.length_append, List.length_singleton]; omega
theorem lst_mem {s : List Int} : ∀ i, ∀ x ∈ lst (s.take i), x ∈ s
  | 0, x, h => by simp [lst] at h
  | i + 1, x, h => by
    cases e : s[i]? with
    | none =>
      have hl : s.length ≤ i := List.getElem?_eq_none_iff.mp e
      rw [List.take_of_length_le (Nat.le_succ_of_le hl), ← List.take_of_length_le hl] at h
      exact lst_mem i x h
    | some y =>
      rw [lst_take e] at h
      unfold stepL at h
      split at h
      · exact lst_mem i x h
      · rcases List.mem_append.mp h with h | h
        · exact lst_mem i x h
        · rw [List.mem_singleton.mp h]; exact List.mem_of_getElem? e
/-- what least counts are -/
structure IsLst (cs R : List Int) : Prop where
  isL : IsL cs R
  rch : ∀ n, Rch (· ∈ R) n ↔ Rch (· ∈ cs) n
theorem lst_is {cs s : List Int} (hs : s.Pairwise (· ≤ ·)) (hm : ∀ c, c ∈ cs ↔ c ∈ s) : IsLst cs (lst s) := by
  have S := sch_take hs hm s.length (Nat.le_refl _)
  rw [List.take_length] at S
  refine ⟨⟨S.srt, fun x => (S.mem x).trans (by rw [hm])⟩, fun n => (S.rch n).trans ?_⟩
  have e : (· ∈ s) = (· ∈ cs) := funext fun c => propext (hm c).symm
  rw [e]
theorem IsLst.self {cs R : List Int} (a : IsLst cs R) : IsL R R :=
  ⟨a.isL.srt, fun x => ⟨fun h => ⟨h, fun z => ((a.isL.mem x).mp h).2 (z.mono fun c hc => ⟨((a.isL.mem c).mp hc.1).1, hc.2⟩)⟩, fun h => h.1⟩⟩
theorem IsLst.more {cs ds R : List Int} {b : Int} (hp : Pos cs) (hb : Rch (· ∈ cs) b) (hm : ∀ x, x ∈ ds ↔ x ∈ cs ∨ x = b) (a : IsLst cs R) : IsL ds R := by
  refine ⟨a.isL.srt, fun x => ?_⟩
  rw [a.isL.mem x, hm]
  have hb' := Rch.le hp hb
  constructor
  · rintro ⟨h1, h2⟩
    refine ⟨.inl h1, fun z => h2 (z.trans fun c hc => ?_)⟩
    rcases (hm c).mp hc.1 with h | h
    · exact .one ⟨h, hc.2⟩
    · subst h
      exact hb'.mono fun d hd => ⟨hd.1, by have := hc.2; have := hd.2; omega⟩
  · rintro ⟨h1, h2⟩
    rcases h1 with h1 | h1
    · exact ⟨h1, fun z => h2 (z.mono fun c hc => ⟨(hm c).mpr (.inl hc.1), hc.2⟩)⟩
    · subst h1
      by_cases hx : x ∈ cs
      · exact ⟨hx, fun z => h2 (z.mono fun c hc => ⟨(hm c).mpr (.inl hc.1), hc.2⟩)⟩
      · refine absurd (hb'.mono fun c hc => ⟨(hm c).mpr (.inl hc.1), ?_⟩) h2
        have hne : c ≠ x := fun z => hx (z ▸ hc.1)
        have := hc.2
        omega
theorem rch_more {cs ds : List Int} {b : Int} (hb : Rch (· ∈ cs) b) (hm : ∀ x, x ∈ ds ↔ x ∈ cs ∨ x = b) (n : Int) : Rch (· ∈ ds) n ↔ Rch (· ∈ cs) n :=
  ⟨fun q => q.trans fun c hc => by
    rcases (hm c).mp hc with h | h
    · exact .one h
    · rw [h]; exact hb, fun q => q.mono fun c hc => (hm c).mpr (.inl hc)⟩
theorem rch_congr {cs ds : List Int} (hm : ∀ x, x ∈ ds ↔ x ∈ cs) (n : Int) : Rch (· ∈ ds) n ↔ Rch (· ∈ cs) n := by
  have e : (· ∈ ds) = (· ∈ cs) := funext fun c => propext (hm c)
  rw [e]
/-! ### common counts -/
def gstep (g c : Int) : Int := ((Nat.gcd g.natAbs c.natAbs : Nat) : Int)
def gl (cs : List Int) : Int := cs.foldl gstep 0
theorem gl_take {s : List Int} {i : Nat} {x : Int} (h : s[i]? = some x) : gl (s.take (i + 1)) = gstep (gl (s.take i)) x := by
  unfold gl
  rw [take_one h, List.foldl_append]; rfl
theorem gfold_nonneg : ∀ (cs : List Int) (g : Int), 0 ≤ g → 0 ≤ cs.foldl gstep g
  | [], g, h => h
  | c :: r, g, _ => gfold_nonneg r (gstep g c) (Int.natCast_nonneg _)
theorem gl_nonneg (cs : List Int) : 0 ≤ gl cs := gfold_nonneg cs 0 (Int.le_refl 0)
theorem gfold_dvd : ∀ (cs : List Int) (g : Int) (d : Nat), d ∣ (cs.foldl gstep g).natAbs ↔ d ∣ g.natAbs ∧ ∀ c ∈ cs, d ∣ c.natAbs
  | [], g, d => by simp
  | c :: r, g, d => by
    rw [List.foldl_cons, gfold_dvd r (gstep g c) d]
    unfold gstep
    rw [Int.natAbs_natCast, Nat.dvd_gcd_iff]
    constructor
    · rintro ⟨⟨h1, h2⟩, h3⟩
      exact ⟨h1, fun x hx => (List.mem_cons.mp hx).elim (fun e => e ▸ h2) (h3 x)⟩
    · rintro ⟨h1, h2⟩
      exact ⟨⟨h1, h2 c List.mem_cons_self⟩, fun x hx => h2 x (List.mem_cons_of_mem _ hx)⟩
theorem gl_dvd (cs : List Int) (d : Nat) : d ∣ (gl cs).natAbs ↔ ∀ c ∈ cs, d ∣ c.natAbs := by
  unfold gl
  rw [gfold_dvd]
  simp
theorem gl_eq {cs ds : List Int} (h : ∀ d : Nat, (∀ c ∈ cs, d ∣ c.natAbs) ↔ ∀ c ∈ ds, d ∣ c.natAbs) : gl cs = gl ds := by
  have e : (gl cs).natAbs = (gl ds).natAbs := Nat.dvd_antisymm ((gl_dvd ds _).mpr ((h _).mp ((gl_dvd cs _).mp (Nat.dvd_refl _)))) ((gl_dvd cs _).mpr ((h _).mpr ((gl_dvd ds _).mp (Nat.dvd_refl _))))
  have h1 := gl_nonneg cs
  have h2 := gl_nonneg ds
  omega
theorem rch_dvd {cs : List Int} {d : Nat} (h : ∀ c ∈ cs, d ∣ c.natAbs) {n : Int} (r : Rch (· ∈ cs) n) : d ∣ n.natAbs := by
  rw [← Int.ofNat_dvd_left] at *
  induction r with
  | zero => exact Int.dvd_zero _
  | step hc _ ih => exact Int.dvd_add ih (Int.ofNat_dvd_left.mpr (h _ hc))
theorem gl_more {cs ds : List Int} {b : Int} (hb : Rch (· ∈ cs) b) (hm : ∀ x, x ∈ ds ↔ x ∈ cs ∨ x = b) : gl ds = gl cs :=
  gl_eq fun d => ⟨fun h c hc => h c ((hm c).mpr (.inl hc)), fun h c hc => by
    rcases (hm c).mp hc with q | q
    · exact h c q
    · rw [q]; exact rch_dvd h hb⟩
theorem gl_congr {cs ds : List Int} (hm : ∀ x, x ∈ ds ↔ x ∈ cs) : gl ds = gl cs := gl_eq fun d => ⟨fun h c hc => h c ((hm c).mpr hc), fun h c hc => h c ((hm c).mp hc)⟩
end K21

namespace K21
open PySem PySem.Spec PyProof.Rows L2 Fp
def top (i : Nat) : Stmt := PySem.Challenge.pw_fromplaces_k21_whole_met_and_least_count.main.body.getD i (.Pass ⟨0, 0, 0, 0⟩)
abbrev sInteger : Stmt := top 6
abbrev sCount : Stmt := top 7
abbrev sList : Stmt := top 8
abbrev sMany : Stmt := top 9
abbrev sCommon : Stmt := top 14
abbrev sIsMet : Stmt := top 15
abbrev sMet : Stmt := top 16
abbrev sLeast : Stmt := top 17
abbrev sLeastOf : Stmt := top 22
abbrev sIsCounts : Stmt := top 18
abbrev sCheck : Stmt := top 19
abbrev sTable : Stmt := top 20
abbrev sNext : Stmt := top 21
/-- what the module's names hold -/
structure Mg (mg : Str → Option Value) : Prop where
  isi : mg "isinstance" = none
  int : mg "int" = none
  bool : mg "bool" = none
  list : mg "list" = none
  tuple : mg "tuple" = none
  len : mg "len" = none
  all : mg "all" = none
  any : mg "any" = none
  range : mg "range" = none
  enum : mg "enumerate" = none
  sorted : mg "sorted" = none
  set : mg "set" = none
  repr : mg "repr" = none
  abs : mg "abs" = none
  max : mg "max" = none
  divmod : mg "divmod" = none
  gcd : mg "gcd" = some (.builtin "math.gcd")
  told : ∃ t, mg "MOST_TOLD" = some (.int 8 t)
  great : ∃ t, mg "GREATEST_TOLD" = some (.int 48 t)
  many : ∃ t, mg "MOST_MANY" = some (.int 400 t)
/-- a value is handed back, what is tracked is as it was -/
abbrev Ret (H : Hp) (Q : VK) (v : V) : Prop := ∀ H', Same H H' → Q v H'
theorem ifF {c A B : Prop} [Decidable c] (h : ¬ c) (b : B) : if decide c = true then A else B := by rw [decide_eq_false h]; exact iteF b
theorem ifT {c A B : Prop} [Decidable c] (h : c) (a : A) : if decide c = true then A else B := by rw [decide_eq_true h]; exact iteT a
abbrev VI (ns : List Int) : List V := ns.map V.int
theorem vi_at {ns : List Int} {i : Nat} {x : V} (h : (VI ns)[i]? = some x) : ∃ n, ns[i]? = some n ∧ x = .int n := by
  rw [List.getElem?_map] at h
  cases e : ns[i]? with
  | none => rw [e] at h; cases h
  | some n => rw [e] at h; exact ⟨n, rfl, (Option.some.inj h).symm⟩
section
variable {P : Program} {w : World} {K : PySem.W.Frag} {mg : Str → Option Value} {base : Heap} {k : Nat}
/-! ### whole numbers and lists -/
def spInteger : Sp := fun vs H Q _ => ∃ i : Int, vs = [.int i] ∧ Ret H Q (.bl true)
theorem sc6 : FnScope ["value"] ["value"] (defScope sInteger) := ⟨rfl, rfl, rfl, by decide +kernel, rfl, by decide +kernel, by decide +kernel⟩
theorem d_integer (B : Bnd K mg "is_integer" sInteger) (M : Mg mg) : Def P w K mg base (k + 1) "is_integer" sInteger ["value"] spInteger := by
  refine def_of B sc6 (by rintro _ _ _ _ ⟨i, rfl, _⟩; rfl) (fun _ _ _ _ _ _ us hl => match us, hl with | [_], _ => rfl) fun f cdv A outer s H vs Q E hr h => ?_
  obtain ⟨i, rfl, q⟩ := h
  refine ⟨_, pss_one (ps_ret (pe_and (pe_callB call_isi (by rfl) M.isi (by decide +kernel) (pa_cons (pv 0) (pa_cons (pe_bltn (v := .ty "int") (by rfl) M.int (by decide +kernel) rfl) pa_nil)))
    (pe_one (pe_not (pe_callB call_isi (by rfl) M.isi (by decide +kernel) (pa_cons (pv 0) (pa_cons (pe_bltn (v := .ty "bool") (by rfl) M.bool (by decide +kernel) rfl) pa_nil))))))), ?_⟩
  refine ⟨_, rfl, _, _, _, _, true, rfl, .ty _, .base (.int i), kit_int, true, rfl, iteT ?_⟩
  exact ⟨_, rfl, _, _, _, _, false, rfl, .ty _, .base (.int i), kit_int_bool, false, rfl, q H (Same.refl H)⟩
def spCount : Sp := fun vs H Q _ => ∃ i : Int, vs = [.int i] ∧ Ret H Q (.bl (decide (0 ≤ i)))
theorem sc7 : FnScope ["value"] ["value"] (defScope sCount) := ⟨rfl, rfl, rfl, by decide +kernel, rfl, by decide +kernel, by decide +kernel⟩
theorem d_count (B : Bnd K mg "is_count" sCount) (D : Def P w K mg base k "is_integer" sInteger ["value"] spInteger) : Def P w K mg base (k + 1) "is_count" sCount ["value"] spCount := by
  refine def_of B sc7 (by rintro _ _ _ _ ⟨i, rfl, _⟩; rfl) (fun _ _ _ _ _ _ us hl => match us, hl with | [_], _ => rfl) fun f cdv A outer s H vs Q E hr h => ?_
  obtain ⟨i, rfl, q⟩ := h
  refine ⟨_, pss_one (ps_ret (pe_and (pe_d D hr (by rfl) (pa_cons (pv 0) pa_nil)) (pe_one (pe_cmpR op_ge (pv 0) pe_int (nomark _))))), ?_⟩
  exact ⟨_, rfl, i, rfl, fun H1 s1 => ⟨true, rfl, iteT ⟨_, rfl, i, 0, rfl, rfl, q H1 s1⟩⟩⟩
def spList (K : PySem.W.Frag) : Sp := fun vs H Q _ => ∃ (a : Addr) (xs : List V), vs = [.ref a] ∧ Sq K H a xs ∧ Ret H Q (.bl true)
theorem sc8 : FnScope ["value"] ["value"] (defScope sList) := ⟨rfl, rfl, rfl, by decide +kernel, rfl, by decide +kernel, by decide +kernel⟩
theorem d_list (B : Bnd K mg "is_list" sList) (M : Mg mg) : Def P w K mg base (k + 1) "is_list" sList ["value"] (spList K) := by
  refine def_of B sc8 (by rintro _ _ _ _ ⟨a, xs, rfl, _⟩; rfl) (fun _ _ _ _ _ _ us hl => match us, hl with | [_], _ => rfl) fun f cdv A outer s H vs Q E hr h => ?_
  obtain ⟨a, xs, rfl, hS, q⟩ := h
  refine ⟨_, pss_one (ps_ret (pe_callB call_isiT (by rfl) M.isi (by decide +kernel) (pa_cons (pv 0) (pa_cons (pe_tup (pa_cons (pe_bltn (v := .ty "list") (by rfl) M.list (by decide +kernel) rfl) (pa_cons (pe_bltn (v := .ty "tuple") (by rfl) M.tuple (by decide +kernel) rfl) pa_nil))) pa_nil)))), ?_⟩
  exact ⟨_, rfl, (by show 2 ≤ sizeLine; decide), fun p hp => isi_lt (hS.same (same_new hp)) upd_same (q _ (same_new hp))⟩
def spMany : Sp := fun vs H Q _ => ∃ m lo hi : Int, vs = [.int m, .int lo, .int hi] ∧ 0 ≤ m ∧ lo ≤ m ∧ m ≤ hi ∧ Ret H Q .non
theorem sc9 : FnScope ["many", "least", "most"] ["many", "least", "most"] (defScope sMany) := ⟨rfl, rfl, rfl, by decide +kernel, rfl, by decide +kernel, by decide +kernel⟩
theorem d_many (B : Bnd K mg "check_many" sMany) (D : Def P w K mg base k "is_count" sCount ["value"] spCount) : Def P w K mg base (k + 1) "check_many" sMany ["many", "least", "most"] spMany := by
  refine def_of B sc9 (by rintro _ _ _ _ ⟨m, lo, hi, rfl, _⟩; rfl) (fun _ _ _ _ _ _ us hl => match us, hl with | [_, _, _], _ => rfl) fun f cdv A outer s H vs Q E hr h => ?_
  obtain ⟨m, lo, hi, rfl, h0, h1, h2, q⟩ := h
  refine ⟨_, pss_one (ps_if (PW.pt (pw_or (pt_not (pt_val (pe_d D hr (by rfl) (pa_cons (pv 0) pa_nil)))) (pw_or (pt_cmpR op_lt (pv 0) (pv 1) (nomark _)) (pw_or1 (pt_cmpR op_gt (pv 0) (pv 2) (nomark _)))))) pss_never pss_nil), ?_⟩
  refine ⟨_, rfl, m, rfl, fun H1 s1 => ⟨_, rfl, iteNS h0 ?_⟩⟩
  refine ⟨_, rfl, _, rfl, m, lo, rfl, rfl, _, rfl, ifF (by omega) ?_⟩
  exact ⟨_, rfl, _, rfl, m, hi, rfl, rfl, _, rfl, ifF (by omega) (q H1 s1)⟩
/-! ### told counts -/
/-- told counts: 1 to 8 of them, each from 1 to 48 -/
structure Told (cs : List Int) : Prop where
  lo : 1 ≤ cs.length
  hi : cs.length ≤ 8
  each : ∀ c ∈ cs, 1 ≤ c ∧ c ≤ 48
theorem Told.pos {cs : List Int} (h : Told cs) : Pos cs := fun c hc => by have := (h.each c hc).1; omega
def spIsCounts (K : PySem.W.Frag) : Sp := fun vs H Q _ => ∃ (a : Addr) (cs : List Int), vs = [.ref a] ∧ Sq K H a (VI cs) ∧ Told cs ∧ Ret H Q (.bl true)
theorem sc18 : FnScope ["value", "one"] ["value"] (defScope sIsCounts) := ⟨rfl, rfl, rfl, by decide +kernel, rfl, by decide +kernel, by decide +kernel⟩
theorem all_true {n : Nat} : ((List.range n).filterMap fun _ => some (V.bl true)) = (List.replicate n true).map V.bl := by
  induction n with
  | zero => rfl
  | succ n ih => rw [fm_succ, ih, List.replicate_succ', List.map_append]; rfl
theorem all_rep : ∀ n : Nat, (List.replicate n true).all id = true
  | 0 => rfl
  | n + 1 => by rw [List.replicate_succ, List.all_cons, all_rep n]; rfl
theorem d_isCounts (B : Bnd K mg "is_counts" sIsCounts) (M : Mg mg) (DL : Def P w K mg base k "is_list" sList ["value"] (spList K)) (DC : Def P w K mg base k "is_count" sCount ["value"] spCount) :
    Def P w K mg base (k + 1) "is_counts" sIsCounts ["value"] (spIsCounts K) := by
  refine def_of B sc18 (by rintro _ _ _ _ ⟨a, xs, rfl, _⟩; rfl) (fun _ _ _ _ _ _ us hl => match us, hl with | [_], _ => rfl) fun f cdv A outer s H vs Q E hr h => ?_
  obtain ⟨a, cs, rfl, hS, T, q⟩ := h
  obtain ⟨t8, m8⟩ := M.told
  obtain ⟨t48, m48⟩ := M.great
  refine ⟨_, pss_cons (ps_if (PW.pt (pw_or (pt_not (pt_val (pe_d DL hr (by rfl) (pa_cons (pv 0) pa_nil)))) (pw_or (pt_cmpR op_lt (pe_callB call_len_seq (by rfl) M.len boot_len (pa_cons (pv 0) pa_nil)) pe_int (nomark _))
      (pw_or1 (pt_cmpR op_gt (pe_callB call_len_seq (by rfl) M.len boot_len (pa_cons (pv 0) pa_nil)) (pe_glob (v := .int 8) (by rfl) m8 ⟨_, rfl⟩) (nomark _)))))) pss_never pss_nil)
    (pss_one (ps_ret (pe_callB (cr_all rfl) (by rfl) M.all (by decide +kernel) (pa_cons (pe_lc (own := [("one", 1)]) (g := gName 1) (tt := tYes) rfl sc18.nd (pi_sq (pv 0)) (blkOk_by (own := [("one", 1)]) (N := ["value", "one"]) (sc := defScope sIsCounts) (by decide +kernel))
      (fun _ _ _ _ _ => pg_name (i := 1) sc18.nd rfl (Or.inl rfl)) (fun _ _ _ _ _ => pts_nil)
      (fun _ _ _ _ _ => pe_and (pe_d DC hr (by rfl) (pa_cons (pv 1) pa_nil)) (pe_one (pe_chain op_le op_le pe_int (pv 1) (pe_glob (v := .int 48) (by rfl) m48 ⟨_, rfl⟩))))) pa_nil)))), ?_⟩
  have hl : (VI cs).length = cs.length := List.length_map _
  have t1 := T.lo
  have t2 := T.hi
  refine ⟨_, rfl, a, _, rfl, hS, fun H1 s1 => ⟨true, rfl, ?_⟩⟩
  refine iteF ⟨_, rfl, a, _, rfl, hS.same s1, _, _, rfl, rfl, _, rfl, ifF (by rw [hl]; omega) ?_⟩
  refine ⟨_, rfl, a, _, rfl, hS.same s1, _, _, rfl, rfl, _, rfl, ifF (by rw [hl]; omega) ?_⟩
  dsimp only [tNext, tRet, tCB, tCons, tNil]
  refine lc_sq (xs := VI cs) (fun _ => some (.bl true)) (fun R r => ⟨_, rfl, r⟩) (hS.same s1) (by rw [hl, sizeLine_eq]; omega) (fun i x H2 hx s2 Y N y n => ?_) (fun D H2 s2 hD hD2 => ?_)
  · obtain ⟨c, hc, rfl⟩ := vi_at hx
    have hc2 := T.each c (List.mem_of_getElem? hc)
    refine ⟨rfl, _, rfl, c, rfl, fun H3 s3 => ⟨_, rfl, ifT (by omega) ?_⟩⟩
    refine ⟨_, rfl, _, _, rfl, rfl, _, rfl, ifT (by omega) ⟨_, _, rfl, rfl, ?_⟩⟩
    refine y _ _ s3 ?_
    show some (V.bl true) = some (V.bl (decide (c ≤ 48)))
    rw [decide_eq_true (show c ≤ 48 by omega)]
  · refine ⟨D, List.replicate cs.length true, rfl, SqL.of ?_, ?_⟩
    · rw [hD2, hl, all_true]
    · rw [all_rep]
      exact q H2 (s1.trans s2)
def spCheck (K : PySem.W.Frag) : Sp := fun vs H Q _ => ∃ (a : Addr) (cs : List Int), vs = [.ref a] ∧ Sq K H a (VI cs) ∧ Told cs ∧ Ret H Q .non
theorem sc19 : FnScope ["counts"] ["counts"] (defScope sCheck) := ⟨rfl, rfl, rfl, by decide +kernel, rfl, by decide +kernel, by decide +kernel⟩
theorem d_check (B : Bnd K mg "check_counts" sCheck) (D : Def P w K mg base k "is_counts" sIsCounts ["value"] (spIsCounts K)) : Def P w K mg base (k + 1) "check_counts" sCheck ["counts"] (spCheck K) := by
  refine def_of B sc19 (by rintro _ _ _ _ ⟨a, xs, rfl, _⟩; rfl) (fun _ _ _ _ _ _ us hl => match us, hl with | [_], _ => rfl) fun f cdv A outer s H vs Q E hr h => ?_
  obtain ⟨a, cs, rfl, hS, T, q⟩ := h
  refine ⟨_, pss_one (ps_if (pt_not (pt_val (pe_d D hr (by rfl) (pa_cons (pv 0) pa_nil)))) pss_never pss_nil), ?_⟩
  exact ⟨_, rfl, a, cs, rfl, hS, T, fun H1 s1 => ⟨true, rfl, iteF (q H1 s1)⟩⟩
end
end K21

namespace K21
open PySem PySem.Spec PyProof.Rows L2 Fp
section
variable {P : Program} {w : World} {K : PySem.W.Frag} {mg : Str → Option Value} {base : Heap} {k : Nat}
theorem vi_len (ns : List Int) : (VI ns).length = ns.length := List.length_map _
theorem small {n : Nat} (h : n ≤ 1000) : n < sizeLine := small1000 h
/-! ### common_count -/
def spCommon (K : PySem.W.Frag) : Sp := fun vs H Q _ => ∃ (a : Addr) (cs : List Int), vs = [.ref a] ∧ Sq K H a (VI cs) ∧ Told cs ∧ Ret H Q (.int (gl cs))
theorem sc14 : FnScope ["counts", "found", "one"] ["counts"] (defScope sCommon) := ⟨rfl, rfl, rfl, by decide +kernel, rfl, by decide +kernel, by decide +kernel⟩
theorem d_common (B : Bnd K mg "common_count" sCommon) (M : Mg mg) (D : Def P w K mg base k "check_counts" sCheck ["counts"] (spCheck K)) : Def P w K mg base (k + 1) "common_count" sCommon ["counts"] (spCommon K) := by
  refine def_of B sc14 (by rintro _ _ _ _ ⟨a, xs, rfl, _⟩; rfl) (fun _ _ _ _ _ _ us hl => match us, hl with | [_], _ => rfl) fun f cdv A outer s H vs Q E hr h => ?_
  obtain ⟨a, cs, rfl, hS, T, q⟩ := h
  refine ⟨_, pss_cons (ps_expr (pe_d D hr (by rfl) (pa_cons (pv 0) pa_nil))) (pss_cons (ps_set (i := 1) sc14.nd rfl (.inl rfl) pe_int)
    (pss_cons (ps_for PassesOwn.never rfl (pi_sq (pv 0)) (pg_name (i := 2) sc14.nd rfl (.inl rfl)) (pss_one (ps_set (i := 1) sc14.nd rfl (.inl rfl) (pe_callBfun cr_gcd (by rfl) M.gcd (pa_cons (pv 1) (pa_cons (pv 2) pa_nil))))))
    (pss_one (ps_ret (pv 1))))), ?_⟩
  refine ⟨_, rfl, a, cs, rfl, hS, T, fun H1 s1 => ?_⟩
  dsimp only [tSeq, tAsg, tC, gName]
  refine for_sq (a := a) (xs := VI cs) (fun i σ H' => ∃ y, σ = [some (.ref a), some (.int (gl (cs.take i))), y] ∧ Same H1 H') (fun R r => ⟨_, rfl, r⟩) hS s1 ⟨none, rfl, Same.refl _⟩
    (fun i σ' H' ⟨y, e, s2⟩ => s1.trans s2) (fun i x σ' H' hx ⟨y, e, s2⟩ => ?_) (fun σ' H' ⟨y, e, s2⟩ => ?_)
  · obtain ⟨c, hc, rfl⟩ := vi_at hx
    subst e
    refine ⟨_, rfl, _, rfl, gl (cs.take i), c, rfl, some (.int c), ?_, s2⟩
    rw [gl_take hc]; rfl
  · subst e
    rw [vi_len, List.take_length]
    exact ⟨_, rfl, q _ (s1.trans s2)⟩
/-! ### is_next_met, met_table -/
def spNext (K : PySem.W.Frag) : Sp := fun vs H Q _ => ∃ (a t : Addr) (cs : List Int) (n : Int), vs = [.ref a, .ref t, .int n] ∧ Sq K H a (VI cs) ∧ Pos cs ∧ cs.length ≤ 1000 ∧ SqL K H t ((tb cs n.toNat).map V.bl) ∧ 1 ≤ n ∧ Ret H Q (.bl (mb cs n))
theorem sc21 : FnScope ["counts", "table", "count", "one"] ["counts", "table", "count"] (defScope sNext) := ⟨rfl, rfl, rfl, by decide +kernel, rfl, by decide +kernel, by decide +kernel⟩
theorem bls {cs : List Int} (g : Int → Bool) : (List.range (VI cs).length).filterMap (fun i => (cs[i]?).bind fun c => some (V.bl (g c))) = (cs.map g).map V.bl := by
  rw [vi_len, fm_all, List.map_map]
  induction cs with
  | nil => rfl
  | cons c r ih => rw [List.filterMap_cons, List.map_cons, ih]; rfl
theorem d_next (B : Bnd K mg "is_next_met" sNext) (M : Mg mg) : Def P w K mg base (k + 1) "is_next_met" sNext ["counts", "table", "count"] (spNext K) := by
  refine def_of B sc21 (by rintro _ _ _ _ ⟨a, t, cs, n, rfl, _⟩; rfl) (fun _ _ _ _ _ _ us hl => match us, hl with | [_, _, _], _ => rfl) fun f cdv A outer s H vs Q E hr h => ?_
  obtain ⟨a, t, cs, n, rfl, hS, hp, hz, hT, hn, q⟩ := h
  refine ⟨_, pss_one (ps_ret (pe_callB (cr_any rfl) (by rfl) M.any (by decide +kernel) (pa_cons (pe_lc (own := [("one", 3)]) (g := gName 3) (tt := tYes) rfl sc21.nd (pi_sq (pv 0)) (blkOk_by (own := [("one", 3)]) (N := ["counts", "table", "count", "one"]) (sc := defScope sNext) (by decide +kernel))
      (fun _ _ _ _ _ => pg_name (i := 3) sc21.nd rfl (Or.inl rfl)) (fun _ _ _ _ _ => pts_nil)
      (fun _ _ _ _ _ => pe_and (pe_cmpR op_le (pv 3) (pv 2) (nomark _)) (pe_one (pe_ix (r := rIxL K) ix_list (pv 1) (pe_op op_sub (pv 2) (pv 3)) (fun _ _ => rfl))))) pa_nil))), ?_⟩
  dsimp only [tNext, tRet, tCB, tCons, tNil]
  refine lc_sq (xs := VI cs) (fun i => (cs[i]?).bind fun c => some (.bl (decide (c ≤ n) && mb cs (n - c)))) (fun R r => ⟨_, rfl, r⟩) hS (by rw [vi_len]; exact Nat.le_of_lt (small hz)) (fun i x H2 hx s2 Y N y nn => ?_) (fun D H2 s2 hD hD2 => ?_)
  · obtain ⟨c, hc, rfl⟩ := vi_at hx
    have hc0 := hp c (List.mem_of_getElem? hc)
    refine ⟨rfl, _, rfl, _, rfl, c, n, rfl, rfl, decide (c ≤ n), rfl, ite2 (fun h => ?_) (fun h => ?_)⟩
    · have hle : c ≤ n := of_decide_eq_true h
      have hg : ((tb cs n.toNat).map V.bl)[(n - c).toNat]? = some (.bl (mb cs (n - c))) := by
        rw [List.getElem?_map, tb_at (by omega), show (((n - c).toNat : Nat) : Int) = n - c by omega]; rfl
      refine ⟨_, rfl, _, rfl, _, rfl, n, c, rfl, rfl, t, _, n - c, .bl (mb cs (n - c)), rfl, rfl, s2.seq hT, at_of (by omega) hg, y _ _ (Same.refl _) ?_⟩
      dsimp only
      rw [hc]
      show some (V.bl (decide (c ≤ n) && mb cs (n - c))) = _
      rw [h, Bool.true_and]
    · refine y _ _ (Same.refl _) ?_
      dsimp only
      rw [hc]
      show some (V.bl (decide (c ≤ n) && mb cs (n - c))) = _
      rw [Bool.eq_false_iff.mpr h, Bool.false_and]
  · rw [bls fun c => decide (c ≤ n) && mb cs (n - c)] at hD2
    refine ⟨D, _, rfl, SqL.of hD2, ?_⟩
    rw [List.any_map]
    have e := mb_next hp (show 0 < n by omega)
    show Q (.bl (cs.any fun c => decide (c ≤ n) && mb cs (n - c))) H2
    rw [← e]
    exact q _ s2
def spTable (K : PySem.W.Frag) : Sp := fun vs H Q _ => ∃ (a : Addr) (cs : List Int) (m : Int), vs = [.ref a, .int m] ∧ Sq K H a (VI cs) ∧ Pos cs ∧ cs.length ≤ 1000 ∧ 0 ≤ m ∧ m ≤ 900 ∧
  ∀ p H', Same H H' → H p = none → H' p = some (.lst ((tb cs (m.toNat + 1)).map V.bl)) → Q (.ref p) H'
theorem sc20 : FnScope ["counts", "many", "table", "count"] ["counts", "many"] (defScope sTable) := ⟨rfl, rfl, rfl, by decide +kernel, rfl, by decide +kernel, by decide +kernel⟩
theorem d_table (B : Bnd K mg "met_table" sTable) (M : Mg mg) (D : Def P w K mg base k "is_next_met" sNext ["counts", "table", "count"] (spNext K)) : Def P w K mg base (k + 1) "met_table" sTable ["counts", "many"] (spTable K) := by
  refine def_of B sc20 (by rintro _ _ _ _ ⟨a, cs, n, rfl, _⟩; rfl) (fun _ _ _ _ _ _ us hl => match us, hl with | [_, _], _ => rfl) fun f cdv A outer s H vs Q E hr h => ?_
  obtain ⟨a, cs, m, rfl, hS, hp, hz, h0, h1, q⟩ := h
  refine ⟨_, pss_cons (ps_set (i := 2) sc20.nd rfl (.inl rfl) (pe_lst (pa_cons pe_bl pa_nil)))
    (pss_cons (ps_for PassesOwn.never rfl (pi_range2 (by rfl) M.range (pa_cons pe_int (pa_cons (pe_op op_add (pv 1) pe_int) pa_nil))) (pg_name (i := 3) sc20.nd rfl (.inl rfl))
      (pss_one (ps_expr (pe_bm PySem.F.plainAttrs_list PySem.F.slot_list_append PySem.F.type_list_append mt_append (pv 2) (pa_cons (pe_d D hr (by rfl) (pa_cons (pv 0) (pa_cons (pv 2) (pa_cons (pv 3) pa_nil)))) pa_nil)))))
    (pss_one (ps_ret (pv 2)))), ?_⟩
  refine ⟨(by show 1 ≤ sizeLine; decide), fun p np => ?_⟩
  refine ⟨_, rfl, m, 1, rfl, rfl, 1, m + 1, rfl, ⟨by omega, by omega, by omega, by omega⟩, ?_⟩
  refine for_range (lo := 1) (n := (m + 1 - 1).toNat) (fun i σ H' => ∃ y, σ = [some (.ref a), some (.int m), some (.ref p), y] ∧ Same H H' ∧ H' p = some (.lst ((tb cs (i + 1)).map V.bl)))
    ⟨none, rfl, same_new np, by rw [upd_same, tb_one]; rfl⟩ (fun i σ' H' hi ⟨y, e, s1, hp1⟩ => ?_) (fun σ' H' ⟨y, e, s1, hp1⟩ => ?_)
  · subst e
    refine ⟨_, rfl, Or.inl ⟨rfl, _, SqL.of hp1⟩, _, rfl, _, rfl, _, rfl, a, p, cs, 1 + i, rfl, hS.same s1, hp, hz, ?_, by omega, fun H2 s2 => ?_⟩
    · rw [show (1 + (i : Int)).toNat = i + 1 by omega]
      exact SqL.of hp1
    · refine ⟨p, _, _, rfl, rfl, s2 _ _ hp1, ?_, some (.int (1 + i)), rfl, fun b o hb => ?_, ?_⟩
      · rw [List.length_map, tb_len]
        exact small (by omega)
      · rw [upd_ne (ne_of_none hb np)]
        exact s2 _ _ (s1 _ _ hb)
      · rw [upd_same, tb_succ cs (i + 1), List.map_append, show (1 + (i : Int)) = ((i + 1 : Nat) : Int) by omega]; rfl
  · subst e
    rw [show (m + 1 - 1).toNat = m.toNat by omega] at hp1
    exact ⟨_, rfl, q p H' s1 np hp1⟩
end
end K21

namespace K21
open PySem PySem.Spec PyProof.Rows L2 Fp
section
variable {P : Program} {w : World} {K : PySem.W.Frag} {mg : Str → Option Value} {base : Heap} {k : Nat}
/-! ### is_met, met -/
def spIsMet (K : PySem.W.Frag) : Sp := fun vs H Q _ => ∃ (a : Addr) (cs : List Int) (m : Int), vs = [.ref a, .int m] ∧ Sq K H a (VI cs) ∧ Told cs ∧ 0 ≤ m ∧ m ≤ 400 ∧ Ret H Q (.bl (mb cs m))
theorem sc15 : FnScope ["counts", "many"] ["counts", "many"] (defScope sIsMet) := ⟨rfl, rfl, rfl, by decide +kernel, rfl, by decide +kernel, by decide +kernel⟩
theorem d_isMet (B : Bnd K mg "is_met" sIsMet) (M : Mg mg) (DC : Def P w K mg base k "check_counts" sCheck ["counts"] (spCheck K)) (DM : Def P w K mg base k "check_many" sMany ["many", "least", "most"] spMany)
    (DT : Def P w K mg base k "met_table" sTable ["counts", "many"] (spTable K)) : Def P w K mg base (k + 1) "is_met" sIsMet ["counts", "many"] (spIsMet K) := by
  refine def_of B sc15 (by rintro _ _ _ _ ⟨a, cs, n, rfl, _⟩; rfl) (fun _ _ _ _ _ _ us hl => match us, hl with | [_, _], _ => rfl) fun f cdv A outer s H vs Q E hr h => ?_
  obtain ⟨a, cs, m, rfl, hS, T, h0, h1, q⟩ := h
  obtain ⟨t4, m4⟩ := M.many
  refine ⟨_, pss_cons (ps_expr (pe_d DC hr (by rfl) (pa_cons (pv 0) pa_nil)))
    (pss_cons (ps_expr (pe_d DM hr (by rfl) (pa_cons (pv 1) (pa_cons pe_int (pa_cons (pe_glob (v := .int 400) (by rfl) m4 ⟨_, rfl⟩) pa_nil)))))
    (pss_one (ps_ret (pe_ix ix_list (pe_d DT hr (by rfl) (pa_cons (pv 0) (pa_cons (pv 1) pa_nil))) (pv 1) (fun _ _ => rfl))))), ?_⟩
  have t2 := T.hi
  refine ⟨_, rfl, a, cs, rfl, hS, T, fun H1 s1 => ?_⟩
  refine ⟨_, rfl, m, 0, 400, rfl, h0, h0, h1, fun H2 s2 => ?_⟩
  have s3 := s1.trans s2
  refine ⟨_, rfl, _, rfl, a, cs, m, rfl, hS.same s3, T.pos, by omega, h0, by omega, fun p H4 s4 np hp => ?_⟩
  refine ⟨_, rfl, p, _, m, _, rfl, rfl, SqL.of hp, at_of (j := m.toNat) (by omega) ?_, q _ (s3.trans s4)⟩
  rw [List.getElem?_map, tb_at (by omega), show ((m.toNat : Nat) : Int) = m by omega]; rfl
/-- the met ones up to m -/
noncomputable def metL (cs : List Int) (m : Nat) : List Int := (List.range (m + 1)).filterMap fun i : Nat => if mb cs ((i : Nat) : Int) = true then some ((i : Nat) : Int) else none
theorem metL_congr {cs ds : List Int} (h : ∀ n, mb cs n = mb ds n) (m : Nat) : metL cs m = metL ds m := by
  unfold metL
  congr 1
  funext i
  rw [h]
theorem metL_len (cs : List Int) (m : Nat) : (metL cs m).length ≤ m + 1 := fm_len _ _
theorem mem_metL {cs : List Int} {m : Nat} {x : Int} (h : x ∈ metL cs m) : mb cs x = true ∧ 0 ≤ x ∧ x ≤ m := by
  obtain ⟨i, hi, e⟩ := List.mem_filterMap.mp h
  split at e
  · rename_i hm
    have e' := Option.some.inj e
    have := List.mem_range.mp hi
    rw [← e']
    exact ⟨hm, by omega, by omega⟩
  · cases e
theorem fm_vi (f : Nat → Option Int) (n : Nat) : (List.range n).filterMap (fun i => (f i).map V.int) = VI ((List.range n).filterMap f) := by
  induction n with
  | zero => rfl
  | succ n ih =>
    rw [fm_succ, fm_succ, ih]
    cases f n <;> simp
def spMet (K : PySem.W.Frag) : Sp := fun vs H Q _ => ∃ (a : Addr) (cs : List Int) (m : Int), vs = [.ref a, .int m] ∧ Sq K H a (VI cs) ∧ Told cs ∧ 0 ≤ m ∧ m ≤ 400 ∧
  ∀ p H', Same H H' → H p = none → H' p = some (.lst (VI (metL cs m.toNat))) → Q (.ref p) H'
theorem sc16 : FnScope ["counts", "many", "count", "is_one"] ["counts", "many"] (defScope sMet) := ⟨rfl, rfl, rfl, by decide +kernel, rfl, by decide +kernel, by decide +kernel⟩
theorem d_met (B : Bnd K mg "met" sMet) (M : Mg mg) (DC : Def P w K mg base k "check_counts" sCheck ["counts"] (spCheck K)) (DM : Def P w K mg base k "check_many" sMany ["many", "least", "most"] spMany)
    (DT : Def P w K mg base k "met_table" sTable ["counts", "many"] (spTable K)) : Def P w K mg base (k + 1) "met" sMet ["counts", "many"] (spMet K) := by
  refine def_of B sc16 (by rintro _ _ _ _ ⟨a, cs, n, rfl, _⟩; rfl) (fun _ _ _ _ _ _ us hl => match us, hl with | [_, _], _ => rfl) fun f cdv A outer s H vs Q E hr h => ?_
  obtain ⟨a, cs, m, rfl, hS, T, h0, h1, q⟩ := h
  obtain ⟨t4, m4⟩ := M.many
  refine ⟨_, pss_cons (ps_expr (pe_d DC hr (by rfl) (pa_cons (pv 0) pa_nil)))
    (pss_cons (ps_expr (pe_d DM hr (by rfl) (pa_cons (pv 1) (pa_cons pe_int (pa_cons (pe_glob (v := .int 400) (by rfl) m4 ⟨_, rfl⟩) pa_nil)))))
    (pss_one (ps_ret (pe_lc (own := [("count", 2), ("is_one", 3)]) (g := gTup K 2 (gCons (gName 2) (gCons (gName 3) gNil))) (tt := tB (tVar 3)) (te := tVar 2) rfl sc16.nd
      (pi_enum (by rfl) M.enum (pa_cons (pe_d DT hr (by rfl) (pa_cons (pv 0) (pa_cons (pv 1) pa_nil))) pa_nil)) (blkOk_by (own := [("count", 2), ("is_one", 3)]) (N := ["counts", "many", "count", "is_one"]) (sc := defScope sMet) (by decide +kernel))
      (fun _ _ _ _ _ => pg_tup rfl (pgs_cons (pg_name (i := 2) sc16.nd rfl (Or.inl rfl)) (pgs_cons (pg_name (i := 3) sc16.nd rfl (Or.inl rfl)) pgs_nil))) (fun _ _ _ _ _ => pts_one (pt_val (pv 3)))
      (fun _ _ _ _ _ => pv 2))))), ?_⟩
  have t2 := T.hi
  refine ⟨_, rfl, a, cs, rfl, hS, T, fun H1 s1 => ?_⟩
  refine ⟨_, rfl, m, 0, 400, rfl, h0, h0, h1, fun H2 s2 => ?_⟩
  have s3 := s1.trans s2
  refine ⟨_, rfl, _, rfl, a, cs, m, rfl, hS.same s3, T.pos, by omega, h0, by omega, fun p H4 s4 np hp => ?_⟩
  have ln : ((tb cs (m.toNat + 1)).map V.bl).length = m.toNat + 1 := by rw [List.length_map, tb_len]
  refine ⟨p, _, rfl, SqL.of hp, fun D hD => ?_⟩
  refine lc_en (xs := (tb cs (m.toNat + 1)).map V.bl) (fun i => (if mb cs ((i : Nat) : Int) = true then some ((i : Nat) : Int) else none).map V.int) (SqL.of hp) hD (by rw [ln]; exact Nat.le_of_lt (small (by omega))) (fun i x H5 Tt hx s5 hT Y N y nn => ?_) (fun H5 s5 hD5 => ?_)
  · have hi : i < m.toNat + 1 := by rw [← ln]; exact (List.getElem?_eq_some_iff.mp hx).1
    rw [List.getElem?_map, tb_at hi] at hx
    obtain rfl : V.bl (mb cs (i : Int)) = x := Option.some.inj hx
    refine ⟨Tt, _, rfl, SqT.of upd_same, rfl, _, _, rfl, _, _, rfl, rfl, rfl, _, rfl, mb cs (i : Int), rfl, ?_⟩
    dsimp only at y nn
    cases e : mb cs (i : Int) with
    | true =>
      rw [if_pos e] at y
      exact iteT ⟨_, rfl, y _ _ (same_new hT) rfl⟩
    | false =>
      rw [if_neg (by rw [e]; exact Bool.false_ne_true)] at nn
      exact iteF (nn _ (same_new hT) rfl)
  · rw [ln, fm_vi] at hD5
    exact q D H5 ((s3.trans s4).trans s5) ((s3.trans s4).free hD) hD5
/-! ### least_counts -/
def spLeast (K : PySem.W.Frag) : Sp := fun vs H Q _ => ∃ (a : Addr) (cs : List Int), vs = [.ref a] ∧ Sq K H a (VI cs) ∧ Told cs ∧
  ∀ p H' R, IsLst cs R → (∀ x ∈ R, x ∈ cs) → R.length ≤ 8 → Same H H' → H p = none → H' p = some (.lst (VI R)) → Q (.ref p) H'
theorem sc17 : FnScope ["counts", "found", "one"] ["counts"] (defScope sLeastOf) := ⟨rfl, rfl, rfl, by decide +kernel, rfl, by decide +kernel, by decide +kernel⟩
theorem d_leastOf (B : Bnd K mg "least_of" sLeastOf) (M : Mg mg) (DT : Def P w K mg base k "met_table" sTable ["counts", "many"] (spTable K)) :
    Def P w K mg base (k + 1) "least_of" sLeastOf ["counts"] (spLeast K) := by
  refine def_of B sc17 (by rintro _ _ _ _ ⟨a, cs, rfl, _⟩; rfl) (fun _ _ _ _ _ _ us hl => match us, hl with | [_], _ => rfl) fun f cdv A outer s H vs Q E hr h => ?_
  obtain ⟨a, cs, rfl, hS, T, q⟩ := h
  refine ⟨_, pss_cons (ps_set (i := 1) sc17.nd rfl (.inl rfl) (pe_lst pa_nil))
    (pss_cons (ps_for PassesOwn.never rfl (pi_list (pe_callB (cr_sortedSet rfl) (by rfl) M.sorted (by decide +kernel) (pa_cons (pe_callTy (cr_setI rfl) (by rfl) M.set (by decide +kernel) (pa_cons (pv 0) pa_nil)) pa_nil))) (pg_name (i := 2) sc17.nd rfl (.inl rfl))
      (pss_one (ps_if (pt_not (pt_val (pe_ix ix_list (pe_d DT hr (by rfl) (pa_cons (pv 1) (pa_cons (pv 2) pa_nil))) (pv 2) (fun _ _ => rfl)))) (pss_one (ps_expr (pe_bm PySem.F.plainAttrs_list PySem.F.slot_list_append PySem.F.type_list_append mt_append (pv 1) (pa_cons (pv 2) pa_nil)))) pss_nil)))
    (pss_one (ps_ret (pv 1)))), ?_⟩
  have t2 := T.hi
  have s1 := Same.refl H
  refine ⟨Nat.zero_le _, fun p np => ?_⟩
  have s2 : Same H (upd H p (.lst [])) := same_new np
  refine ⟨_, rfl, a, cs, rfl, hS.same (s1.trans s2), by omega, fun d n hn nd => ?_⟩
  have s3 : Same (upd H p (.lst [])) (upd (upd H p (.lst [])) d (SetO w d (fun j => decide (j ∈ cs)) n)) := same_new nd
  refine ⟨d, _, n, rfl, upd_same, by omega, fun ns r srt mem ln nr => ?_⟩
  have s4 := s3.trans (same_new (o := .lst (VI ns)) nr)
  have hm : ∀ c, c ∈ cs ↔ c ∈ ns := fun c => by rw [mem c, decide_eq_true_eq]
  have ne : p ≠ r := ne_of_none (s3 _ _ upd_same) nr
  refine ⟨r, rfl, ⟨_, SqL.of upd_same⟩, ?_⟩
  refine for_list (xs := VI ns) (fun i σ H' => ∃ y, σ = [some (.ref a), some (.ref p), y] ∧ Same H H' ∧ H' p = some (.lst (VI (lst (ns.take i)))) ∧ H' r = some (.lst (VI ns)))
    ⟨none, rfl, s2.trans s4, by rw [upd_ne ne]; exact s3 _ _ upd_same, upd_same⟩ (fun i σ' H' _ ⟨_, _, _, _, e⟩ => SqL.of e) (fun i x σ' H' hx ⟨y, e, s5, hp, hr2⟩ => ?_) (fun σ' H' ⟨y, e, s5, hp, hr2⟩ => ?_)
  · obtain ⟨c, hc, rfl⟩ := vi_at hx
    subst e
    have hcn : c ∈ cs := (hm c).mpr (List.mem_of_getElem? hc)
    have hc2 := T.each c hcn
    have hi : i < ns.length := (List.getElem?_eq_some_iff.mp hc).1
    have hl := lst_len_le ns i
    refine ⟨_, rfl, _, rfl, p, lst (ns.take i), c, rfl, sq_lst hp, fun z hz => ?_, by omega, by omega, by omega, fun t H6 s6 nt ht => ?_⟩
    · have := (T.each z ((hm z).mpr (lst_mem i z hz))).1
      omega
    refine ⟨_, rfl, t, _, c, .bl (mb (lst (ns.take i)) c), rfl, rfl, SqL.of ht, at_of (j := c.toNat) (by omega) ?_, mb (lst (ns.take i)) c, rfl, ?_⟩
    · rw [List.getElem?_map, tb_at (by omega), show ((c.toNat : Nat) : Int) = c by omega]; rfl
    · have e2 := lst_take hc
      unfold stepL at e2
      cases em : mb (lst (ns.take i)) c with
      | true =>
        rw [em, if_pos rfl] at e2
        refine iteF ⟨some (.int c), rfl, s5.trans s6, ?_, s6 _ _ hr2⟩
        rw [e2]
        exact s6 _ _ hp
      | false =>
        rw [em, if_neg Bool.false_ne_true] at e2
        refine iteT ⟨_, rfl, Or.inl ⟨rfl, _, SqL.of (s6 _ _ hp)⟩, _, rfl, p, _, _, rfl, rfl, s6 _ _ hp, ?_, some (.int c), rfl, fun b o hb => ?_, ?_, ?_⟩
        · rw [vi_len]
          exact small (by omega)
        · rw [upd_ne (ne_of_none hb np)]
          exact s6 _ _ (s5 _ _ hb)
        · rw [upd_same, e2]
          show some (HO.lst (VI (lst (ns.take i)) ++ [V.int c])) = some (HO.lst (VI (lst (ns.take i) ++ [c])))
          unfold VI
          rw [List.map_append]; rfl
        · rw [upd_ne ne.symm]
          exact s6 _ _ hr2
  · subst e
    rw [vi_len, List.take_length] at hp
    have srt' : ns.Pairwise (· ≤ ·) := srt.imp fun h => Int.le_of_lt h
    have ll := lst_len_le ns ns.length
    rw [List.take_length] at ll
    refine ⟨_, rfl, q p H' (lst ns) (lst_is srt' hm) (fun x hx => (hm x).mpr ?_) (by omega) (s1.trans s5) (s1.free np) hp⟩
    have z := lst_mem (s := ns) ns.length x
    rw [List.take_length] at z
    exact z hx
theorem sc17b : FnScope ["counts"] ["counts"] (defScope sLeast) := ⟨rfl, rfl, rfl, by decide +kernel, rfl, by decide +kernel, by decide +kernel⟩
theorem d_least (B : Bnd K mg "least_counts" sLeast) (DC : Def P w K mg base k "check_counts" sCheck ["counts"] (spCheck K)) (DO : Def P w K mg base k "least_of" sLeastOf ["counts"] (spLeast K)) :
    Def P w K mg base (k + 1) "least_counts" sLeast ["counts"] (spLeast K) := by
  refine def_of B sc17b (by rintro _ _ _ _ ⟨a, cs, rfl, _⟩; rfl) (fun _ _ _ _ _ _ us hl => match us, hl with | [_], _ => rfl) fun f cdv A outer s H vs Q E hr h => ?_
  obtain ⟨a, cs, rfl, hS, T, q⟩ := h
  refine ⟨_, pss_cons (ps_expr (pe_d DC hr (by rfl) (pa_cons (pv 0) pa_nil))) (pss_one (ps_ret (pe_d DO hr (by rfl) (pa_cons (pv 0) pa_nil)))), ?_⟩
  exact ⟨_, rfl, a, cs, rfl, hS, T, fun H1 s1 => ⟨_, rfl, a, cs, rfl, hS.same s1, T, fun p H' R r1 r2 r3 s2 np hp => q p H' R r1 r2 r3 (s1.trans s2) (s1.free np) hp⟩⟩
end
end K21

namespace K21
open PySem PySem.Spec PyProof.Rows L2 Fp
abbrev sPot : Stmt := top 24
abbrev sDraw : Stmt := top 25
abbrev sPick : Stmt := top 26
abbrev sMarks : Stmt := top 27
abbrev sDivisor : Stmt := top 28
abbrev sLCommon : Stmt := top 29
abbrev sCounts : Stmt := top 30
abbrev sLLeast : Stmt := top 31
/-- a pot: two numbers, none below 0, the second one small -/
def PotOk (H : Hp) (p : Addr) : Prop := ∃ u v : Int, H p = some (.lst [.int u, .int v]) ∧ 0 ≤ u ∧ 0 ≤ v ∧ v ≤ 2147483563
theorem PotOk.same {H H' : Hp} {p : Addr} (h : PotOk H p) (e : Same H H') : PotOk H' p := let ⟨u, v, a, b⟩ := h; ⟨u, v, e _ _ a, b⟩
section
variable {P : Program} {w : World} {K : PySem.W.Frag} {mg : Str → Option Value} {base : Heap} {k : Nat}
def spPot (K : PySem.W.Frag) : Sp := fun vs H Q _ => ∃ (a : Addr) (ns : List Int) (k : Int), vs = [.ref a, .int k] ∧ SqL K H a (VI ns) ∧ 0 ≤ k ∧ k ≤ 100 ∧ ∀ p H', Same H H' → H p = none → PotOk H' p → Q (.ref p) H'
theorem sc23 : FnScope ["script", "k", "cell"] ["script", "k"] (defScope sPot) := ⟨rfl, rfl, rfl, by decide +kernel, rfl, by decide +kernel, by decide +kernel⟩
theorem d_pot (B : Bnd K mg "_law_pot" sPot) (M : Mg mg) : Def P w K mg base (k + 1) "_law_pot" sPot ["script", "k"] (spPot K) := by
  refine def_of B sc23 (by rintro _ _ _ _ ⟨a, ns, n, rfl, _⟩; rfl) (fun _ _ _ _ _ _ us hl => match us, hl with | [_, _], _ => rfl) fun f cdv A outer s H vs Q E hr h => ?_
  obtain ⟨a, ns, n, rfl, hS, h0, h1, q⟩ := h
  refine ⟨_, pss_cons (ps_set (i := 2) sc23.nd rfl (.inl rfl) (pe_ifExp (pt_cmpR op_lt (pv 1) (pe_callB call_len_seq (by rfl) M.len boot_len (pa_cons (pv 0) pa_nil)) (nomark _)) (pe_callB call_abs (by rfl) M.abs (by decide +kernel) (pa_cons (pe_ix ix_list (pv 0) (pv 1) (fun _ _ => rfl)) pa_nil))
      (pe_op op_add (pe_op op_mul pe_int (pv 1)) pe_int)))
    (pss_one (ps_ret (pe_lst (pa_cons (pe_callB (call_max2 rfl) (by rfl) M.max (by decide +kernel) (pa_cons pe_int (pa_cons (pe_op op_sub (pv 2) (pe_op op_pow pe_int pe_int)) pa_nil)))
      (pa_cons (pe_op op_add (pe_op op_mod (pe_callTy call_int1 (by rfl) M.int (by decide +kernel) (pa_cons (pe_op op_add (pe_op op_add (pe_op op_mul (pe_op op_mod (pe_callTy call_int1 (by rfl) M.int (by decide +kernel) (pa_cons (pv 2) pa_nil)) pe_int) pe_int) (pe_op op_mul pe_int (pv 1))) pe_int) pa_nil)) pe_int) pe_int) pa_nil))))), ?_⟩
  have l0 := vi_len ns
  refine ⟨_, rfl, _, rfl, a, _, rfl, .inl hS, _, _, rfl, rfl, _, rfl, ite2 (fun c => ?_) (fun c => ?_)⟩
  · have c' := of_decide_eq_true c
    rw [l0] at c'
    have hz : ns[n.toNat]? = some ns[n.toNat] := List.getElem?_eq_getElem (by omega)
    refine ⟨_, rfl, _, rfl, a, _, n, .int ns[n.toNat], rfl, rfl, hS, at_of (j := n.toNat) (by omega) (by rw [List.getElem?_map, hz]; rfl), _, rfl, ?_⟩
    refine ⟨_, rfl, 10, 18, rfl, rfl, ⟨by omega, by omega, by decide⟩, _, _, rfl, rfl, _, _, rfl, ?_⟩
    refine ⟨_, rfl, Or.inl ⟨_, rfl, ?_⟩⟩
    refine ⟨_, _, rfl, rfl, (by omega), _, _, rfl, rfl, .inl ⟨by omega, by omega⟩, _, rfl, _, _, rfl, rfl, .inl ⟨by omega, by omega⟩, _, _, rfl, rfl, _, _, rfl, rfl, ?_⟩
    refine Or.inl ⟨_, rfl, ?_⟩
    refine ⟨_, _, rfl, rfl, (by omega), _, _, rfl, rfl, (by show 2 ≤ sizeLine; decide), fun p hp => ?_⟩
    refine q p _ (same_new hp) hp ⟨_, _, upd_same, ?_, ?_, ?_⟩
    · split <;> omega
    · omega
    · omega
  · refine ⟨_, rfl, _, _, rfl, rfl, .inl ⟨by omega, by omega⟩, _, _, rfl, rfl, ?_⟩
    refine ⟨_, rfl, 10, 18, rfl, rfl, ⟨by omega, by omega, by decide⟩, _, _, rfl, rfl, _, _, rfl, ?_⟩
    refine ⟨_, rfl, Or.inl ⟨_, rfl, ?_⟩⟩
    refine ⟨_, _, rfl, rfl, (by omega), _, _, rfl, rfl, .inl ⟨by omega, by omega⟩, _, rfl, _, _, rfl, rfl, .inl ⟨by omega, by omega⟩, _, _, rfl, rfl, _, _, rfl, rfl, ?_⟩
    refine Or.inl ⟨_, rfl, ?_⟩
    refine ⟨_, _, rfl, rfl, (by omega), _, _, rfl, rfl, (by show 2 ≤ sizeLine; decide), fun p hp => ?_⟩
    refine q p _ (same_new hp) hp ⟨_, _, upd_same, ?_, ?_, ?_⟩
    · split <;> omega
    · omega
    · omega
/-! ### draws -/
def spDraw : Sp := fun vs H Q _ => ∃ (p : Addr) (m : Int), vs = [.ref p, .int m] ∧ PotOk H p ∧ 1 ≤ m ∧ m ≤ 1000000 ∧ ∀ d H', 0 ≤ d → d < m → PotOk H' p → Keep p H H' → Q (.int d) H'
theorem sc24 : FnScope ["pot", "many", "digit"] ["pot", "many"] (defScope sDraw) := ⟨rfl, rfl, rfl, by decide +kernel, rfl, by decide +kernel, by decide +kernel⟩
theorem d_draw (B : Bnd K mg "_law_draw" sDraw) (M : Mg mg) : Def P w K mg base (k + 1) "_law_draw" sDraw ["pot", "many"] spDraw := by
  refine def_of B sc24 (by rintro _ _ _ _ ⟨a, n, rfl, _⟩; rfl) (fun _ _ _ _ _ _ us hl => match us, hl with | [_, _], _ => rfl) fun f cdv A outer s H vs Q E hr h => ?_
  obtain ⟨p, m, rfl, ⟨u, v, hp, hu, hv, hv2⟩, h1, h2, q⟩ := h
  refine ⟨_, pss_cons (ps_if (pt_cmpR op_gt (pe_ix ix_list (pv 0) pe_int (fun _ _ => rfl)) pe_int (nomark _))
      (pss_cons (ps_asg (pe_callB call_divmod (by rfl) M.divmod (by decide +kernel) (pa_cons (pe_ix ix_list (pv 0) pe_int (fun _ _ => rfl)) (pa_cons (pv 1) pa_nil))) (pg_tup rfl (pgs_cons (pg_sub (pv 0) pe_int set_list) (pgs_cons (pg_name (i := 2) sc24.nd rfl (.inl rfl)) pgs_nil))))
        (pss_one (ps_ret (pv 2)))) pss_nil)
    (pss_cons (ps_asg (pe_op op_mod (pe_callTy call_int1 (by rfl) M.int (by decide +kernel) (pa_cons (pe_op op_add (pe_op op_mul (pe_ix ix_list (pv 0) pe_int (fun _ _ => rfl)) pe_int) pe_int) pa_nil)) pe_int) (pg_sub (pv 0) pe_int set_list))
    (pss_one (ps_ret (pe_op op_mod (pe_callTy call_int1 (by rfl) M.int (by decide +kernel) (pa_cons (pe_op op_fdiv (pe_op op_mod (pe_callTy call_int1 (by rfl) M.int (by decide +kernel) (pa_cons (pe_op op_mul (pe_ix ix_list (pv 0) pe_int (fun _ _ => rfl)) (pe_ix ix_list (pv 0) pe_int (fun _ _ => rfl))) pa_nil)) pe_int) pe_int) pa_nil)) (pv 1))))), ?_⟩
  refine ⟨_, rfl, p, _, 0, .int u, rfl, rfl, SqL.of hp, rfl, u, 0, rfl, rfl, _, rfl, ite2 (fun c => ?_) (fun c => ?_)⟩
  · have c' := of_decide_eq_true c
    refine ⟨_, rfl, p, _, 0, .int u, rfl, rfl, SqL.of hp, rfl, _, rfl, u, m, rfl, ⟨by omega, by omega⟩, fun t nt => ?_⟩
    have ne : p ≠ t := ne_of_none hp nt
    refine ⟨t, _, rfl, SqT.of upd_same, rfl, _, _, rfl, _, rfl, p, _, 0, 0, rfl, rfl, by rw [upd_ne ne]; exact hp, rfl, _, _, rfl, rfl, _, rfl, ?_⟩
    refine q _ _ (Int.emod_nonneg _ (by omega)) (Int.emod_lt_of_pos _ (by omega)) ⟨u / m, v, upd_same, Int.ediv_nonneg hu (by omega), hv, hv2⟩ ?_
    exact (Keep.of (same_new nt)).trans keep_upd
  · refine ⟨_, rfl, p, _, 1, .int v, rfl, rfl, SqL.of hp, rfl, v, _, rfl, rfl, .inl ⟨by omega, by omega⟩, _, _, rfl, rfl, Or.inl ⟨_, rfl, _, _, rfl, rfl, by omega, ?_⟩⟩
    refine ⟨_, rfl, p, _, 1, 1, rfl, rfl, hp, rfl, ?_⟩
    have b0 : 0 ≤ (v * 40014 + 1109) % 2147483563 := Int.emod_nonneg _ (by omega)
    have b1 : (v * 40014 + 1109) % 2147483563 < 2147483563 := Int.emod_lt_of_pos _ (by omega)
    have hp' : (upd H p (.lst ([V.int u, V.int v].set 1 (.int ((v * 40014 + 1109) % 2147483563))))) p = some (.lst [.int u, .int ((v * 40014 + 1109) % 2147483563)]) := upd_same
    refine ⟨_, rfl, p, _, 1, _, rfl, rfl, SqL.of hp', rfl, _, rfl, p, _, 1, _, rfl, rfl, SqL.of hp', rfl, _, _, rfl, rfl, .inl ⟨by omega, by omega⟩, Or.inl ⟨_, rfl, _, _, rfl, rfl, by omega, _, _, rfl, rfl, ⟨by omega, by omega⟩, Or.inl ⟨_, rfl, ?_⟩⟩⟩
    refine ⟨_, rfl, _, m, rfl, rfl, by omega, ?_⟩
    exact q _ _ (Int.emod_nonneg _ (by omega)) (Int.emod_lt_of_pos _ (by omega)) ⟨u, _, hp', hu, b0, by omega⟩ keep_upd
def spPick : Sp := fun vs H Q _ => ∃ (p b : Addr) (xs : List V), vs = [.ref p, .ref b] ∧ PotOk H p ∧ H b = some (.lst xs) ∧ b ≠ p ∧ 1 ≤ xs.length ∧ xs.length ≤ 1000 ∧ ∀ x H', x ∈ xs → PotOk H' p → Keep p H H' → Q x H'
theorem sc25 : FnScope ["pot", "some"] ["pot", "some"] (defScope sPick) := ⟨rfl, rfl, rfl, by decide +kernel, rfl, by decide +kernel, by decide +kernel⟩
theorem d_pick (B : Bnd K mg "_law_pick" sPick) (M : Mg mg) (D : Def P w K mg base k "_law_draw" sDraw ["pot", "many"] spDraw) : Def P w K mg base (k + 1) "_law_pick" sPick ["pot", "some"] spPick := by
  refine def_of B sc25 (by rintro _ _ _ _ ⟨a, n, x, rfl, _⟩; rfl) (fun _ _ _ _ _ _ us hl => match us, hl with | [_, _], _ => rfl) fun f cdv A outer s H vs Q E hr h => ?_
  obtain ⟨p, b, xs, rfl, hp, hb, ne, l1, l2, q⟩ := h
  refine ⟨_, pss_one (ps_ret (pe_ix ix_list (pv 1) (pe_d D hr (by rfl) (pa_cons (pv 0) (pa_cons (pe_callB call_len_seq (by rfl) M.len boot_len (pa_cons (pv 1) pa_nil)) pa_nil))) (fun _ _ => rfl))), ?_⟩
  refine ⟨_, rfl, _, rfl, _, rfl, b, xs, rfl, .inl (SqL.of hb), p, _, rfl, hp, by omega, by omega, fun d H' d0 d1 hp' kp => ?_⟩
  have hd : d.toNat < xs.length := by omega
  exact ⟨b, xs, d, xs[d.toNat], rfl, rfl, SqL.of (kp _ _ ne hb), at_of (j := d.toNat) (by omega) (List.getElem?_eq_getElem hd), q _ _ (List.getElem_mem hd) hp' kp⟩
def spCounts : Sp := fun vs H Q _ => ∃ (p : Addr) (mm mo : Int), vs = [.ref p, .int mm, .int mo] ∧ PotOk H p ∧ 1 ≤ mm ∧ mm ≤ 500 ∧ 1 ≤ mo ∧ mo ≤ 1000 ∧
  ∀ r H' (cs : List Int), 1 ≤ cs.length → (cs.length : Int) ≤ mm → (∀ c ∈ cs, 1 ≤ c ∧ c ≤ mo) → PotOk H' p → Keep p H H' → H r = none → H' r = some (.lst (VI cs)) → Q (.ref r) H'
theorem sc29 : FnScope ["pot", "most_many", "most", "found", "turn"] ["pot", "most_many", "most"] (defScope sCounts) := ⟨rfl, rfl, rfl, by decide +kernel, rfl, by decide +kernel, by decide +kernel⟩
theorem d_counts (B : Bnd K mg "_law_counts" sCounts) (M : Mg mg) (D : Def P w K mg base k "_law_draw" sDraw ["pot", "many"] spDraw) : Def P w K mg base (k + 1) "_law_counts" sCounts ["pot", "most_many", "most"] spCounts := by
  refine def_of B sc29 (by rintro _ _ _ _ ⟨a, n, x, rfl, _⟩; rfl) (fun _ _ _ _ _ _ us hl => match us, hl with | [_, _, _], _ => rfl) fun f cdv A outer s H vs Q E hr h => ?_
  obtain ⟨p, mm, mo, rfl, hp, l1, l2, l3, l4, q⟩ := h
  refine ⟨_, pss_cons (ps_set (i := 3) sc29.nd rfl (.inl rfl) (pe_lst pa_nil))
    (pss_cons (ps_for PassesOwn.never rfl (pi_range1 (by rfl) M.range (pa_cons (pe_op op_add pe_int (pe_d D hr (by rfl) (pa_cons (pv 0) (pa_cons (pv 1) pa_nil)))) pa_nil)) (pg_name (i := 4) sc29.nd rfl (.inl rfl))
      (pss_one (ps_expr (pe_bm PySem.F.plainAttrs_list PySem.F.slot_list_append PySem.F.type_list_append mt_append (pv 3) (pa_cons (pe_op op_add pe_int (pe_d D hr (by rfl) (pa_cons (pv 0) (pa_cons (pv 2) pa_nil)))) pa_nil)))))
    (pss_one (ps_ret (pv 3)))), ?_⟩
  refine ⟨Nat.zero_le _, fun r nr => ?_⟩
  have ne : r ≠ p := fun z => by
    obtain ⟨u, v, e, _⟩ := hp
    rw [z, e] at nr
    cases nr
  have s1 : Same H (upd H r (.lst [])) := same_new nr
  refine ⟨_, rfl, _, rfl, p, mm, rfl, hp.same s1, l1, by omega, fun d H1 d0 d1 hp1 k1 => ?_⟩
  refine ⟨1, d, rfl, rfl, 1 + d, rfl, by omega, by omega, ?_⟩
  refine for_range (lo := 0) (n := (1 + d).toNat) (fun i σ H' => ∃ (y : Option V) (cs : List Int), σ = [some (.ref p), some (.int mm), some (.int mo), some (.ref r), y] ∧ cs.length = i ∧ (∀ c ∈ cs, 1 ≤ c ∧ c ≤ mo) ∧ PotOk H' p ∧ Keep p H H' ∧ H' r = some (.lst (VI cs)))
    ⟨none, [], rfl, rfl, fun c hc => absurd hc (by simp), hp1, (Keep.of s1).trans k1, k1 _ _ ne upd_same⟩ (fun i σ' H' hi ⟨y, cs, e, el, ec, pk, kk, hr'⟩ => ?_) (fun σ' H' ⟨y, cs, e, el, ec, pk, kk, hr'⟩ => ?_)
  · subst e
    refine ⟨_, rfl, Or.inl ⟨rfl, _, SqL.of hr'⟩, _, rfl, _, rfl, p, mo, rfl, pk, l3, by omega, fun z H2 z0 z1 pk2 k2 => ?_⟩
    have hr2 := k2 _ _ ne hr'
    refine ⟨1, z, rfl, rfl, r, _, _, rfl, rfl, hr2, by rw [vi_len]; exact small (by omega), some (.int (0 + (i : Int))), cs ++ [1 + z], rfl, by rw [List.length_append, el]; rfl, fun c hc => ?_, ?_, fun b o hb ho => ?_, ?_⟩
    · rcases List.mem_append.mp hc with h | h
      · exact ec c h
      · rw [List.mem_singleton.mp h]; omega
    · obtain ⟨u, v, e, x⟩ := pk2
      exact ⟨u, v, by rw [upd_ne ne.symm]; exact e, x⟩
    · rw [upd_ne (ne_of_none ho nr)]
      exact k2 _ _ hb (kk _ _ hb ho)
    · rw [upd_same]
      unfold VI
      rw [List.map_append]; rfl
  · subst e
    exact ⟨_, rfl, q r H' cs (by omega) (by omega) ec pk kk nr hr'⟩
end
end K21

namespace K21
open PySem PySem.Spec PyProof.Rows L2 Fp
/-! ### lists of marks -/
theorem set_mid {α : Type} : ∀ (A : List α) (b x : α) (R : List α), (A ++ b :: R).set A.length x = A ++ x :: R
  | [], _, _, _ => rfl
  | a :: A, b, x, R => by
    show a :: ((A ++ b :: R).set A.length x) = a :: (A ++ x :: R)
    rw [set_mid A b x R]
/-- the marks while the number i + 1 is asked -/
noncomputable def mid (cs : List Int) (i m : Nat) (b : Bool) : List Bool := tb cs (i + 1) ++ b :: List.replicate (m - i - 1) false
theorem mid_len {cs : List Int} {i m : Nat} {b : Bool} (h : i < m) : (mid cs i m b).length = m + 1 := by
  unfold mid
  rw [List.length_append, tb_len, List.length_cons, List.length_replicate]
  omega
theorem mid_at {cs : List Int} {i m j : Nat} {b : Bool} (h : j ≤ i) : (mid cs i m b)[j]? = some (mb cs (j : Int)) := by
  unfold mid
  rw [List.getElem?_append_left (by rw [tb_len]; omega), tb_at (by omega)]
theorem mid_set {cs : List Int} {i m : Nat} {b x : Bool} : ((mid cs i m b).map V.bl).set (i + 1) (.bl x) = (mid cs i m x).map V.bl := by
  unfold mid
  have e := set_mid ((tb cs (i + 1)).map V.bl) (V.bl b) (V.bl x) ((List.replicate (m - i - 1) false).map V.bl)
  rw [List.length_map, tb_len] at e
  rw [List.map_append, List.map_append, List.map_cons, List.map_cons]
  exact e
theorem mid_start {cs : List Int} {i m : Nat} (h : i < m) : mid cs i m false = tb cs (i + 1) ++ List.replicate (m - i) false := by
  unfold mid
  rw [show m - i = (m - i - 1) + 1 by omega, List.replicate_succ]
  rw [show m - i - 1 + 1 - 1 = m - i - 1 by omega]
theorem mid_end {cs : List Int} {i m : Nat} : mid cs i m (mb cs ((i + 1 : Nat) : Int)) = tb cs (i + 1 + 1) ++ List.replicate (m - (i + 1)) false := by
  unfold mid
  rw [tb_succ cs (i + 1), List.append_assoc, show m - (i + 1) = m - i - 1 by omega]; rfl
section
variable {P : Program} {w : World} {K : PySem.W.Frag} {mg : Str → Option Value} {base : Heap} {k : Nat}
theorem sc26 : FnScope ["counts", "many", "found", "number", "count"] ["counts", "many"] (defScope sMarks) := ⟨rfl, rfl, rfl, by decide +kernel, rfl, by decide +kernel, by decide +kernel⟩
theorem d_marks (B : Bnd K mg "_law_marks" sMarks) (M : Mg mg) : Def P w K mg base (k + 1) "_law_marks" sMarks ["counts", "many"] (spTable K) := by
  refine def_of B sc26 (by rintro _ _ _ _ ⟨a, cs, n, rfl, _⟩; rfl) (fun _ _ _ _ _ _ us hl => match us, hl with | [_, _], _ => rfl) fun f cdv A outer s H vs Q E hr h => ?_
  obtain ⟨a, cs, m, rfl, hS, hp, hz, h0, h1, q⟩ := h
  refine ⟨_, pss_cons (ps_set (i := 2) sc26.nd rfl (.inl rfl) (pe_op op_cat (pe_lst (pa_cons pe_bl pa_nil)) (pe_op op_rep (pe_lst (pa_cons pe_bl pa_nil)) (pv 1))))
    (pss_cons (ps_for PassesOwn.never rfl (pi_range2 (by rfl) M.range (pa_cons pe_int (pa_cons (pe_op op_add (pv 1) pe_int) pa_nil))) (pg_name (i := 3) sc26.nd rfl (.inl rfl))
      (pss_one (ps_for PassesOwn.never rfl (pi_sq (pv 0)) (pg_name (i := 4) sc26.nd rfl (.inl rfl))
        (pss_one (ps_if (PW.pt (pw_and (pt_cmpR op_le (pv 4) (pv 3) (nomark _)) (pw_and1 (pt_val (pe_ix ix_list (pv 2) (pe_op op_sub (pv 3) (pv 4)) (fun _ _ => rfl)))))) (pss_one (ps_asg pe_bl (pg_sub (pv 2) (pv 3) set_list))) pss_nil)))))
    (pss_one (ps_ret (pv 2)))), ?_⟩
  obtain ⟨M0, rfl⟩ : ∃ n : Nat, m = n := ⟨m.toNat, by omega⟩
  refine ⟨(by show 1 ≤ sizeLine; decide), fun p1 np1 => ⟨(by show 1 ≤ sizeLine; decide), fun p2 np2 => ?_⟩⟩
  have s1 : Same H (upd H p1 (.lst [.bl true])) := same_new np1
  have s2 : Same (upd H p1 (.lst [.bl true])) (upd (upd H p1 (.lst [.bl true])) p2 (.lst [.bl false])) := same_new np2
  refine ⟨_, rfl, p2, M0, _, rfl, rfl, upd_same, by omega, by omega, by rw [List.length_singleton, Nat.one_mul]; exact Nat.le_of_lt (small (by omega)), fun p3 np3 => ?_⟩
  have s3 := same_new (o := .lst (List.replicate (M0 : Int).toNat [V.bl false]).flatten) np3
  refine ⟨p1, p3, _, _, rfl, rfl, s3 _ _ (s2 _ _ upd_same), upd_same, ?_, fun p np => ?_⟩
  · rw [show (List.replicate (M0 : Int).toNat [V.bl false]).flatten = List.replicate M0 (V.bl false) by simp, List.length_replicate, List.length_singleton]
    exact Nat.le_of_lt (small (by omega))
  have s4 := s1.trans (s2.trans (s3.trans (same_new (o := .lst ([V.bl true] ++ (List.replicate (M0 : Int).toNat [V.bl false]).flatten)) np)))
  have npH : H p = none := (s1.trans (s2.trans s3)).free np
  refine ⟨_, rfl, (M0 : Int), 1, rfl, rfl, 1, (M0 : Int) + 1, rfl, ⟨by omega, by omega, by omega, by omega⟩, ?_⟩
  refine for_range (lo := 1) (n := ((M0 : Int) + 1 - 1).toNat) (fun i σ H' => i ≤ M0 ∧ ∃ y z, σ = [some (.ref a), some (.int M0), some (.ref p), y, z] ∧ Same H H' ∧ H' p = some (.lst ((tb cs (i + 1) ++ List.replicate (M0 - i) false).map V.bl)))
    ⟨Nat.zero_le _, none, none, rfl, s4, ?_⟩ (fun i σ' H' hi ⟨_, y, z, e, sm, hp1⟩ => ?_) (fun σ' H' ⟨_, y, z, e, sm, hp1⟩ => ?_)
  · rw [upd_same, tb_one]
    show some (HO.lst ([V.bl true] ++ (List.replicate (M0 : Int).toNat [V.bl false]).flatten)) = _
    simp
  · subst e
    have hi' : i < M0 := by omega
    have en : (1 : Int) + i = ((i + 1 : Nat) : Int) := by omega
    rw [← mid_start hi'] at hp1
    -- the counts, one after another
    refine for_sq (a := a) (xs := VI cs) (fun j σ H2 => ∃ z, σ = [some (.ref a), some (.int M0), some (.ref p), some (.int (1 + (i : Int))), z] ∧ Same H H2 ∧ H2 p = some (.lst ((mid cs i M0 ((cs.take j).any fun c => decide (c ≤ 1 + (i : Int)) && mb cs (1 + (i : Int) - c))).map V.bl)))
      (fun R r => ⟨_, rfl, r⟩) hS sm ⟨z, rfl, sm, by rw [List.take_zero]; exact hp1⟩ (fun j σ2 H2 ⟨_, _, s5, _⟩ => s5) (fun j x σ2 H2 hx ⟨z2, e2, s5, hp2⟩ => ?_) (fun σ2 H2 ⟨z2, e2, s5, hp2⟩ => ?_)
    · obtain ⟨c, hc, rfl⟩ := vi_at hx
      subst e2
      have hc0 := hp c (List.mem_of_getElem? hc)
      have tk : ∀ g : Int → Bool, (cs.take (j + 1)).any g = ((cs.take j).any g || g c) := fun g => by rw [take_one hc, List.any_append]; simp
      have stay : ∀ b : Bool, b = false → (decide (c ≤ 1 + (i : Int)) && mb cs (1 + (i : Int) - c)) = b → H2 p = some (.lst ((mid cs i M0 ((cs.take (j + 1)).any fun c => decide (c ≤ 1 + (i : Int)) && mb cs (1 + (i : Int) - c))).map V.bl)) := fun b hb e => by
        rw [tk, e, hb, Bool.or_false]
        exact hp2
      refine ⟨_, rfl, _, rfl, c, 1 + (i : Int), rfl, rfl, _, rfl, ite2 (fun h => ?_) (fun h => ?_)⟩
      · have hle : c ≤ 1 + (i : Int) := of_decide_eq_true h
        refine ⟨_, rfl, _, rfl, _, rfl, 1 + (i : Int), c, rfl, rfl, p, _, 1 + (i : Int) - c, .bl (mb cs (1 + (i : Int) - c)), rfl, rfl, SqL.of hp2, at_of (j := (1 + (i : Int) - c).toNat) (by omega) ?_, mb cs (1 + (i : Int) - c), rfl, ?_⟩
        · rw [List.getElem?_map, mid_at (by omega), show (((1 + (i : Int) - c).toNat : Nat) : Int) = 1 + (i : Int) - c by omega]; rfl
        cases em : mb cs (1 + (i : Int) - c) with
        | true =>
          refine iteT ⟨_, rfl, _, rfl, p, _, 1 + (i : Int), i + 1, rfl, rfl, hp2, ?_, some (.int c), rfl, fun b o hb => ?_, ?_⟩
          · rw [List.length_map, mid_len hi']
            unfold ixN
            rw [if_pos (by omega), if_pos (by omega), show (1 + (i : Int)).toNat = i + 1 by omega]
          · rw [upd_ne (ne_of_none hb npH)]
            exact s5 _ _ hb
          · rw [upd_same, mid_set, tk, h, em, Bool.and_self, Bool.or_true]
        | false => exact iteF ⟨some (.int c), rfl, s5, stay _ rfl (by rw [em, Bool.and_false])⟩
      · exact iteF ⟨some (.int c), rfl, s5, stay _ rfl (by rw [Bool.eq_false_iff.mpr h, Bool.false_and])⟩
    · subst e2
      rw [vi_len, List.take_length, ← mb_next hp (show 0 < 1 + (i : Int) by omega), en, mid_end] at hp2
      exact ⟨hi', some (.int (1 + (i : Int))), z2, rfl, s5, hp2⟩
  · subst e
    rw [show ((M0 : Int) + 1 - 1).toNat = M0 by omega, Nat.sub_self, List.replicate_zero, List.append_nil] at hp1
    exact ⟨_, rfl, q p H' sm npH (by rw [Int.toNat_natCast]; exact hp1)⟩
end
end K21

namespace K21
open PySem PySem.Spec PyProof.Rows L2 Fp
theorem euclid {x y : Int} (hx : 0 ≤ x) (hy : 0 < y) : Nat.gcd y.natAbs (x - x / y * y).natAbs = Nat.gcd x.natAbs y.natAbs := by
  have e : x - x / y * y = x % y := by
    have := Int.emod_add_mul_ediv x y
    rw [Int.mul_comm (x / y) y]
    omega
  rw [e]
  obtain ⟨a, rfl⟩ : ∃ n : Nat, x = n := ⟨x.toNat, by omega⟩
  obtain ⟨b, rfl⟩ : ∃ n : Nat, y = n := ⟨y.toNat, by omega⟩
  rw [← Int.natCast_emod, Int.natAbs_natCast, Int.natAbs_natCast, Int.natAbs_natCast, Nat.gcd_comm b (a % b), ← Nat.gcd_rec, Nat.gcd_comm]
theorem gl_small {cs : List Int} (h : ∀ c ∈ cs, 1 ≤ c ∧ c ≤ 48) : gl cs ≤ 48 := by
  cases cs with
  | nil => decide
  | cons c r =>
    have h1 := (gl_dvd (c :: r) (gl (c :: r)).natAbs).mp (Nat.dvd_refl _) c List.mem_cons_self
    have h2 := h c List.mem_cons_self
    have h3 := Nat.le_of_dvd (by omega) h1
    have h4 := gl_nonneg (c :: r)
    omega
section
variable {P : Program} {w : World} {K : PySem.W.Frag} {mg : Str → Option Value} {base : Heap} {k : Nat}
def spDivisor : Sp := fun vs H Q _ => ∃ x y : Int, vs = [.int x, .int y] ∧ 0 ≤ x ∧ 0 ≤ y ∧ y ≤ 1000000 ∧ Ret H Q (.int ((Nat.gcd x.natAbs y.natAbs : Nat) : Int))
theorem sc27 : FnScope ["one", "other"] ["one", "other"] (defScope sDivisor) := ⟨rfl, rfl, rfl, by decide +kernel, rfl, by decide +kernel, by decide +kernel⟩
theorem d_divisor (B : Bnd K mg "_law_divisor" sDivisor) : Def P w K mg base (k + 1) "_law_divisor" sDivisor ["one", "other"] spDivisor := by
  refine def_of B sc27 (by rintro _ _ _ _ ⟨a, n, rfl, _⟩; rfl) (fun _ _ _ _ _ _ us hl => match us, hl with | [_, _], _ => rfl) fun f cdv A outer s H vs Q E hr h => ?_
  obtain ⟨x, y, rfl, hx, hy, hy2, q⟩ := h
  refine ⟨_, pss_cons (ps_while PassesOwn.never (pt_cmpR op_gt (pv 1) pe_int (nomark _)) (pss_one (ps_par (i := 0) (j := 1) rfl sc27.nd rfl rfl (by decide) rfl rfl (pa_cons (pv 1) (pa_cons (pe_op op_sub (pv 0) (pe_op op_mul (pe_op op_fdiv (pv 0) (pv 1)) (pv 1))) pa_nil)) (by rfl))))
    (pss_one (ps_ret (pv 0))), ?_⟩
  refine ⟨fun m σ H' => ∃ u v : Int, σ = [some (.int u), some (.int v)] ∧ m = v.toNat ∧ 0 ≤ u ∧ 0 ≤ v ∧ v ≤ 1000000 ∧ Nat.gcd u.natAbs v.natAbs = Nat.gcd x.natAbs y.natAbs ∧ H' = H, ⟨_, x, y, rfl, rfl, hx, hy, hy2, rfl, rfl⟩, ?_⟩
  rintro m σ H' ⟨u, v, rfl, rfl, hu, hv, hv2, hg, rfl⟩
  refine ⟨_, rfl, v, 0, rfl, rfl, _, rfl, ite2 (fun c => ?_) (fun c => ?_)⟩
  · have c' : 0 < v := of_decide_eq_true c
    have b0 : 0 ≤ u - u / v * v ∧ u - u / v * v < v := by
      have e := Int.emod_add_mul_ediv u v
      have e1 := Int.emod_nonneg u (show v ≠ 0 by omega)
      have e2 := Int.emod_lt_of_pos u c'
      rw [Int.mul_comm v] at e
      omega
    refine ⟨fun σ' H1 => ∃ u' v' : Int, σ' = [some (.int u'), some (.int v')] ∧ v'.toNat < v.toNat ∧ 0 ≤ u' ∧ 0 ≤ v' ∧ v' ≤ 1000000 ∧ Nat.gcd u'.natAbs v'.natAbs = Nat.gcd x.natAbs y.natAbs ∧ H1 = H', fun σ' H1 ⟨u', v', a1, a2, a3, a4, a5, a6, a7⟩ => ⟨_, a2, u', v', a1, rfl, a3, a4, a5, a6, a7⟩, ?_⟩
    refine ⟨_, rfl, _, rfl, _, rfl, _, rfl, u, v, rfl, rfl, ⟨c', by omega⟩, _, rfl, u / v, v, rfl, rfl, .inr ⟨by omega, by omega⟩, u, u / v * v, rfl, rfl, _, _, rfl, v, u - u / v * v, rfl, by omega, by omega, by omega, by omega, ?_, rfl⟩
    rw [euclid hu c', hg]
  · have c' : v = 0 := by
      have c2 : ¬ 0 < v := of_decide_eq_false (Bool.eq_false_iff.mpr c)
      omega
    subst c'
    refine ⟨_, rfl, ?_⟩
    rw [Int.natAbs_zero, Nat.gcd_zero_right] at hg
    have e : u = ((Nat.gcd x.natAbs y.natAbs : Nat) : Int) := by omega
    rw [e]
    exact q _ (Same.refl _)
theorem sc28 : FnScope ["counts", "found", "count"] ["counts"] (defScope sLCommon) := ⟨rfl, rfl, rfl, by decide +kernel, rfl, by decide +kernel, by decide +kernel⟩
theorem d_lcommon (B : Bnd K mg "_law_common" sLCommon) (D : Def P w K mg base k "_law_divisor" sDivisor ["one", "other"] spDivisor) : Def P w K mg base (k + 1) "_law_common" sLCommon ["counts"] (spCommon K) := by
  refine def_of B sc28 (by rintro _ _ _ _ ⟨a, xs, rfl, _⟩; rfl) (fun _ _ _ _ _ _ us hl => match us, hl with | [_], _ => rfl) fun f cdv A outer s H vs Q E hr h => ?_
  obtain ⟨a, cs, rfl, hS, T, q⟩ := h
  refine ⟨_, pss_cons (ps_set (i := 1) sc28.nd rfl (.inl rfl) pe_int)
    (pss_cons (ps_for PassesOwn.never rfl (pi_sq (pv 0)) (pg_name (i := 2) sc28.nd rfl (.inl rfl)) (pss_one (ps_set (i := 1) sc28.nd rfl (.inl rfl) (pe_d D hr (by rfl) (pa_cons (pv 2) (pa_cons (pv 1) pa_nil))))))
    (pss_one (ps_ret (pv 1)))), ?_⟩
  dsimp only [tSeq, tAsg, tC, gName]
  refine for_sq (a := a) (xs := VI cs) (fun i σ H' => ∃ y, σ = [some (.ref a), some (.int (gl (cs.take i))), y] ∧ Same H H') (fun R r => ⟨_, rfl, r⟩) hS (Same.refl _) ⟨none, rfl, Same.refl _⟩
    (fun i σ' H' ⟨y, e, s2⟩ => s2) (fun i x σ' H' hx ⟨y, e, s2⟩ => ?_) (fun σ' H' ⟨y, e, s2⟩ => ?_)
  · obtain ⟨c, hc, rfl⟩ := vi_at hx
    subst e
    have hc2 := T.each c (List.mem_of_getElem? hc)
    have g1 := gl_small (cs := cs.take i) fun z hz => T.each z (List.mem_of_mem_take hz)
    refine ⟨_, rfl, _, rfl, c, gl (cs.take i), rfl, by omega, gl_nonneg _, by omega, fun H3 s3 => ⟨some (.int c), ?_, s2.trans s3⟩⟩
    rw [gl_take hc]
    unfold gstep
    rw [Nat.gcd_comm]; rfl
  · subst e
    rw [vi_len, List.take_length]
    exact ⟨_, rfl, q _ s2⟩
def spLLeast (K : PySem.W.Frag) : Sp := fun vs H Q _ => ∃ (a : Addr) (cs : List Int), vs = [.ref a] ∧ SqL K H a (VI cs) ∧ Told cs ∧
  ∀ p H' R, IsLst cs R → Same H H' → H p = none → H' p = some (.lst (VI R)) → Q (.ref p) H'
theorem sc30 : FnScope ["counts", "found", "count"] ["counts"] (defScope sLLeast) := ⟨rfl, rfl, rfl, by decide +kernel, rfl, by decide +kernel, by decide +kernel⟩
theorem d_lleast (B : Bnd K mg "_law_least" sLLeast) (M : Mg mg) (DT : Def P w K mg base k "_law_marks" sMarks ["counts", "many"] (spTable K)) : Def P w K mg base (k + 1) "_law_least" sLLeast ["counts"] (spLLeast K) := by
  refine def_of B sc30 (by rintro _ _ _ _ ⟨a, cs, rfl, _⟩; rfl) (fun _ _ _ _ _ _ us hl => match us, hl with | [_], _ => rfl) fun f cdv A outer s H vs Q E hr h => ?_
  obtain ⟨a, cs, rfl, hS, T, q⟩ := h
  refine ⟨_, pss_cons (ps_set (i := 1) sc30.nd rfl (.inl rfl) (pe_lst pa_nil))
    (pss_cons (ps_for PassesOwn.never rfl (pi_list (pe_callB cr_sorted (by rfl) M.sorted (by decide +kernel) (pa_cons (pv 0) pa_nil))) (pg_name (i := 2) sc30.nd rfl (.inl rfl))
      (pss_one (ps_if (pt_not (pt_val (pe_ix ix_list (pe_d DT hr (by rfl) (pa_cons (pv 1) (pa_cons (pv 2) pa_nil))) (pv 2) (fun _ _ => rfl)))) (pss_one (ps_expr (pe_bm PySem.F.plainAttrs_list PySem.F.slot_list_append PySem.F.type_list_append mt_append (pv 1) (pa_cons (pv 2) pa_nil)))) pss_nil)))
    (pss_one (ps_ret (pv 1)))), ?_⟩
  have t2 := T.hi
  refine ⟨Nat.zero_le _, fun p np => ?_⟩
  have s2 : Same H (upd H p (.lst [])) := same_new np
  refine ⟨_, rfl, a, cs, rfl, s2.seq hS, by omega, fun ns r pm srt nr => ?_⟩
  have s4 := s2.trans (same_new (o := .lst (VI ns)) nr)
  have hm : ∀ c, c ∈ cs ↔ c ∈ ns := fun c => pm.mem_iff.symm
  have ln : ns.length = cs.length := pm.length_eq
  have ne : p ≠ r := ne_of_none upd_same nr
  refine ⟨r, rfl, ⟨_, SqL.of upd_same⟩, ?_⟩
  refine for_list (xs := VI ns) (fun i σ H' => ∃ y, σ = [some (.ref a), some (.ref p), y] ∧ Same H H' ∧ H' p = some (.lst (VI (lst (ns.take i)))) ∧ H' r = some (.lst (VI ns)))
    ⟨none, rfl, s4, by rw [upd_ne ne]; exact upd_same, upd_same⟩ (fun i σ' H' _ ⟨_, _, _, _, e⟩ => SqL.of e) (fun i x σ' H' hx ⟨y, e, s5, hp, hr2⟩ => ?_) (fun σ' H' ⟨y, e, s5, hp, hr2⟩ => ?_)
  · obtain ⟨c, hc, rfl⟩ := vi_at hx
    subst e
    have hcn : c ∈ cs := (hm c).mpr (List.mem_of_getElem? hc)
    have hc2 := T.each c hcn
    have hi : i < ns.length := (List.getElem?_eq_some_iff.mp hc).1
    have hl := lst_len_le ns i
    refine ⟨_, rfl, _, rfl, p, lst (ns.take i), c, rfl, sq_lst hp, fun z hz => ?_, by omega, by omega, by omega, fun t H6 s6 nt ht => ?_⟩
    · have := (T.each z ((hm z).mpr (lst_mem i z hz))).1
      omega
    refine ⟨_, rfl, t, _, c, .bl (mb (lst (ns.take i)) c), rfl, rfl, SqL.of ht, at_of (j := c.toNat) (by omega) ?_, mb (lst (ns.take i)) c, rfl, ?_⟩
    · rw [List.getElem?_map, tb_at (by omega), show ((c.toNat : Nat) : Int) = c by omega]; rfl
    · have e2 := lst_take hc
      unfold stepL at e2
      cases em : mb (lst (ns.take i)) c with
      | true =>
        rw [em, if_pos rfl] at e2
        refine iteF ⟨some (.int c), rfl, s5.trans s6, ?_, s6 _ _ hr2⟩
        rw [e2]
        exact s6 _ _ hp
      | false =>
        rw [em, if_neg Bool.false_ne_true] at e2
        refine iteT ⟨_, rfl, Or.inl ⟨rfl, _, SqL.of (s6 _ _ hp)⟩, _, rfl, p, _, _, rfl, rfl, s6 _ _ hp, ?_, some (.int c), rfl, fun b o hb => ?_, ?_, ?_⟩
        · rw [vi_len]
          exact small (by omega)
        · rw [upd_ne (ne_of_none hb np)]
          exact s6 _ _ (s5 _ _ hb)
        · rw [upd_same, e2]
          show some (HO.lst (VI (lst (ns.take i)) ++ [V.int c])) = some (HO.lst (VI (lst (ns.take i) ++ [c])))
          unfold VI
          rw [List.map_append]; rfl
        · rw [upd_ne ne.symm]
          exact s6 _ _ hr2
  · subst e
    rw [vi_len, List.take_length] at hp
    exact ⟨_, rfl, q p H' (lst ns) (lst_is srt hm) s5 np hp⟩
end
end K21

namespace K21
open PySem PySem.Spec PyProof.Rows L2 Fp
/-! ### lists of ints as data -/
abbrev DI (ns : List Int) : PyData := .list (ns.map PyData.int)
theorem dpAll_ints {K : PySem.W.Frag} {H : Hp} : ∀ ns : List Int, DpAll K H (VI ns) (ns.map PyData.int)
  | [] => .nil
  | n :: r => .cons (.int n) (dpAll_ints r)
theorem dp_ints {K : PySem.W.Frag} {H : Hp} {a : Addr} {ns : List Int} (h : SqL K H a (VI ns)) : Dp K H (.ref a) (DI ns) := .lst h (dpAll_ints ns)
theorem di_lay : ∀ ns : List Int, PyData.canLayAll0 (ns.map PyData.int) = true
  | [] => rfl
  | n :: r => by rw [List.map_cons, PyData.canLayAll0, di_lay r]; rfl
theorem di_depthAll : ∀ ns : List Int, PyData.depthAll (ns.map PyData.int) ≤ 1
  | [] => by simp [PyData.depthAll]
  | n :: r => by
    have := di_depthAll r
    rw [List.map_cons, PyData.depthAll]
    simp only [PyData.depth]
    omega
theorem di_depth (ns : List Int) : (DI ns).depth ≤ 8 := by
  have := di_depthAll ns
  simp only [PyData.depth]
  omega
theorem di_shaped (ns : List Int) : SeqAt.shaped (DI ns) = true := by
  unfold SeqAt.shaped
  have h1 : (DI ns).canLay0 = true := by rw [PyData.canLay0]; exact di_lay ns
  have h2 := di_depth ns
  rw [h1, decide_eq_true (by omega)]; rfl
theorem di_refl (ns : List Int) : PyData.eqv (DI ns) (DI ns) = true := SeqAt.eqv_refl _ (by rw [PyData.canLay0]; exact di_lay ns)
theorem di_nil : ∀ ns : List Int, PyData.eqv (DI ns) (DI []) = ns.isEmpty
  | [] => di_refl []
  | n :: r => by rw [PyData.eqv, List.map_cons, List.map_nil]; rfl
theorem int_short : ∀ n : Nat, n < 1000 → (PyData.shown (.int (n : Int))).length ≤ 8 := by decide +kernel
theorem int_log : ∀ n : Nat, n < 1000 → n.log2 < 1920 := fun n h => by
  have h1 : n < 2 ^ 10 := by omega
  by_cases h0 : n = 0
  · subst h0; decide
  · have := (Nat.log2_lt h0).mpr h1
    omega
abbrev Sm (ns : List Int) : Prop := ∀ n ∈ ns, 0 ≤ n ∧ n < 1000
theorem di_leaves : ∀ ns : List Int, Sm ns → PyData.leavesShortAll 8 (ns.map PyData.int) = true
  | [], _ => rfl
  | n :: r, h => by
    have h1 := h n List.mem_cons_self
    rw [List.map_cons, PyData.leavesShortAll, di_leaves r fun x hx => h x (List.mem_cons_of_mem _ hx), Bool.and_true, PyData.leavesShort]
    have h2 := int_short n.toNat (by omega)
    rw [show ((n.toNat : Nat) : Int) = n by omega] at h2
    exact decide_eq_true h2
theorem di_showAll : ∀ ns : List Int, Sm ns → PyData.showableAll (ns.map PyData.int) = true
  | [], _ => rfl
  | n :: r, h => by
    have h1 := h n List.mem_cons_self
    rw [List.map_cons, PyData.showableAll, di_showAll r fun x hx => h x (List.mem_cons_of_mem _ hx), Bool.and_true, PyData.showable]
    exact decide_eq_true (int_log n.natAbs (by omega))
theorem di_dictAll : ∀ ns : List Int, PyData.hasDictAll (ns.map PyData.int) = false
  | [] => rfl
  | n :: r => by rw [List.map_cons, PyData.hasDictAll, di_dictAll r]; rfl
theorem di_bulk : ∀ ns : List Int, PyData.bulkAll (ns.map PyData.int) = ns.length
  | [] => rfl
  | n :: r => by rw [List.map_cons, PyData.bulkAll, di_bulk r, PyData.bulk, List.length_cons]; omega
/-- what repr asks of a list of small ints -/
theorem di_repr {ns : List Int} (h : Sm ns) (hz : ns.length ≤ 1000) : (DI ns).showable = true ∧ (DI ns).hasDict = false ∧ (DI ns).depth ≤ 8 ∧ (DI ns).shown.length ≤ sizeLine := by
  refine ⟨by rw [PyData.showable]; exact di_showAll ns h, by rw [PyData.hasDict]; exact di_dictAll ns, di_depth ns, PyData.shown_fits_bulk (B := 8) (by omega) (by omega) (by rw [PyData.leavesShort]; exact di_leaves ns h) ?_⟩
  rw [PyData.bulk, di_bulk]
  omega
/-- a pair of bools -/
theorem db_repr (b c : Bool) : (PyData.list [.bool b, .bool c]).showable = true ∧ (PyData.list [.bool b, .bool c]).hasDict = false ∧ (PyData.list [.bool b, .bool c]).depth ≤ 8 ∧ (PyData.list [.bool b, .bool c]).shown.length ≤ sizeLine := by
  cases b <;> cases c <;> refine ⟨by decide +kernel, by decide +kernel, by decide +kernel, ?_⟩ <;> exact Nat.le_trans (show _ ≤ 100 by decide +kernel) (by decide)
/-! ### slices -/
theorem cut_last (L : List V) (x : V) : cutV (L ++ [x]) none (some (-1)) = L := by
  have e : HT.sIx (L ++ [x]).length (L ++ [x]).length (some (-1)) = L.length := by
    show (if (-1 : Int) < 0 then ((-1 : Int) + ((L ++ [x]).length : Int)).toNat else min (-1 : Int).toNat (L ++ [x]).length) = L.length
    rw [if_pos (by decide), List.length_append, List.length_singleton]
    omega
  unfold cutV
  rw [e, HT.sIx_none, List.drop_zero, Nat.sub_zero]
  simp
/-! ### comprehensions over a list -/
section
variable {K : PySem.W.Frag} {a : Addr} {xs : List V} {g : TG} {tt : TT} {te : TE} {vs : List Nat} {σ : L2.St} {H : Hp}
theorem lc_l {Dd : Addr} {Qd : Hp → Prop} (f : Nat → Option V) (hS : SqL K H a xs) (hD : H Dd = none) (hz : xs.length ≤ sizeLine)
    (hs : ∀ i x H1, xs[i]? = some x → Same H H1 → LcTurn f g tt te vs σ i x H1 H1)
    (hd : ∀ H1, Same H H1 → H1 Dd = some (.lst ((List.range xs.length).filterMap f)) → Qd H1) : ∃ W : Nat → Nat → Hp → Prop, (∃ m, W 0 m (upd H Dd (.lst []))) ∧ ∀ i m H, W i m H →
      ((Itl K a).stop i H ∧ Qd H) ∨ ((Itl K a).go i H ∧ ∃ Nx : Hp → Prop, (∀ H', Nx H' → ∃ m', m' < m ∧ W (i + 1) m' H') ∧ ∀ x H', (Itl K a).yld i H x H' → g x (wipe σ vs) H' fun σ2 H2 => wipe σ2 vs = wipe σ vs ∧ tt σ2 H2 fun b H3 =>
        if b = true then te σ2 H3 fun y H4 => ∃ acc, H4 Dd = some (.lst acc) ∧ acc.length < sizeLine ∧ Nx (upd H4 Dd (.lst (acc ++ [y]))) else Nx H3) :=
  lc_list (xs := xs) (LcInv f H Dd) (LcInv.start hD) (fun i H1 _ p => p.1.seq hS) (fun i x H1 hx p => p.turn hD (Nat.lt_of_lt_of_le (List.getElem?_eq_some_iff.mp hx).1 hz) (Same.refl _) (hs i x H1 hx p.1)) fun H1 p => hd H1 p.1 p.2
end
theorem ints_map (c0 : List Int) (h : Int → Int) : (List.range (VI c0).length).filterMap (fun i => (c0[i]?).bind fun c => some (V.int (h c))) = VI (c0.map h) := by
  rw [vi_len, fm_all]
  unfold VI
  rw [List.map_map]
  induction c0 with
  | nil => rfl
  | cons c r ih => rw [List.filterMap_cons, List.map_cons, ih]; rfl
theorem ints_filter (c0 : List Int) (p : Int → Bool) : (List.range (VI c0).length).filterMap (fun i => (c0[i]?).bind fun c => if p c = true then some (V.int c) else none) = VI (c0.filter p) := by
  rw [vi_len, fm_all]
  induction c0 with
  | nil => rfl
  | cons c r ih =>
    rw [List.filterMap_cons, List.filter_cons, ih]
    cases e : p c <;> simp
/-! ### facts of the search with one count more -/
theorem rch_nil {n : Int} (r : Rch (fun c => c ∈ ([] : List Int)) n) : n = 0 := by
  cases r with
  | zero => rfl
  | step h _ => simp at h
theorem told_of {cs R : List Int} (T : Told cs) (h : IsLst cs R) (hm : ∀ x ∈ R, x ∈ cs) (hl : R.length ≤ 8) : Told R := by
  refine ⟨?_, hl, fun c hc => T.each c (hm c hc)⟩
  cases R with
  | nil =>
    have t1 := T.lo
    obtain ⟨c, hc⟩ : ∃ c, c ∈ cs := ⟨cs[0], List.getElem_mem (by omega)⟩
    have z := rch_nil ((h.rch c).mpr (.one hc))
    have := (T.each c hc).1
    omega
  | cons c r => rw [List.length_cons]; omega
structure More (cs ms R : List Int) : Prop where
  told : Told ms
  gl : gl ms = gl cs
  mb : ∀ n, mb ms n = mb cs n
  isL : IsL ms R
theorem more_of {cs R ex : List Int} (T : Told cs) (hl : cs.length ≤ 5) (h : IsLst cs R) (hex : ex = [] ∨ ∃ b, ex = [b] ∧ 0 < b ∧ b ≤ 48 ∧ mb cs b = true) : More cs (cs.reverse ++ ex) R := by
  have t1 := T.lo
  rcases hex with rfl | ⟨b, rfl, h0, h1, hb⟩
  · rw [List.append_nil]
    have m : ∀ x, x ∈ cs.reverse ↔ x ∈ cs := fun x => List.mem_reverse
    exact ⟨⟨by rw [List.length_reverse]; omega, by rw [List.length_reverse]; omega, fun c hc => T.each c ((m c).mp hc)⟩, gl_congr m, fun n => mb_congr (rch_congr m n), h.isL.congr fun x => (m x).symm⟩
  · have m : ∀ x, x ∈ cs.reverse ++ [b] ↔ x ∈ cs ∨ x = b := fun x => by rw [List.mem_append, List.mem_reverse, List.mem_singleton]
    have hb' := mb_iff.mp hb
    refine ⟨⟨by rw [List.length_append, List.length_reverse]; omega, by rw [List.length_append, List.length_reverse, List.length_singleton]; omega, fun c hc => ?_⟩, gl_more hb' m, fun n => mb_congr (rch_more hb' m n), h.more T.pos hb' m⟩
    rcases (m c).mp hc with q | q
    · exact T.each c q
    · omega
end K21

namespace K21
open PySem PySem.Spec PyProof.Rows L2 Fp
abbrev sRight : Stmt := top 32
abbrev sLaw : Stmt := top 33
section
variable {P : Program} {w : World} {K : PySem.W.Frag} {mg : Str → Option Value} {base : Heap} {k : Nat}
def spRight : Sp := fun vs H Q _ => ∃ p : Addr, vs = [.ref p] ∧ PotOk H p ∧ ∀ H', Keep p H H' → Q (.bl true) H'
abbrev NR : List Str := ["pot", "factor", "counts", "many", "shown", "marks", "due", "some", "least", "beside", "at", "more", "count", "number"]
theorem sc31 : FnScope NR ["pot"] (defScope sRight) := ⟨rfl, rfl, rfl, by decide +kernel, rfl, by decide +kernel, by decide +kernel⟩
/-- the callees -/
structure Dfs (P : Program) (w : World) (K : PySem.W.Frag) (mg : Str → Option Value) (base : Heap) (k : Nat) : Prop where
  draw : Def P w K mg base k "_law_draw" sDraw ["pot", "many"] spDraw
  pick : Def P w K mg base k "_law_pick" sPick ["pot", "some"] spPick
  counts : Def P w K mg base k "_law_counts" sCounts ["pot", "most_many", "most"] spCounts
  marks : Def P w K mg base k "_law_marks" sMarks ["counts", "many"] (spTable K)
  lcommon : Def P w K mg base k "_law_common" sLCommon ["counts"] (spCommon K)
  lleast : Def P w K mg base k "_law_least" sLLeast ["counts"] (spLLeast K)
  common : Def P w K mg base k "common_count" sCommon ["counts"] (spCommon K)
  isMet : Def P w K mg base k "is_met" sIsMet ["counts", "many"] (spIsMet K)
  met : Def P w K mg base k "met" sMet ["counts", "many"] (spMet K)
  least : Def P w K mg base k "least_counts" sLeast ["counts"] (spLeast K)
theorem bk_met : BindK 0 2 true "met" sMet ["counts", "many"] ["many", "counts"] := fun _ _ _ _ _ _ us ws hu hw => match us, ws, hu, hw with | [], [_, _], _, _ => rfl
theorem bk_isMet : BindK 0 2 true "is_met" sIsMet ["counts", "many"] ["many", "counts"] := fun _ _ _ _ _ _ us ws hu hw => match us, ws, hu, hw with | [], [_, _], _, _ => rfl
theorem bk_least : BindK 0 1 false "least_counts" sLeast ["counts"] ["counts"] := fun _ _ _ _ _ _ us ws hu hw => match us, ws, hu, hw with | [], [_], _, _ => rfl
theorem d_right (B : Bnd K mg "_law_right" sRight) (M : Mg mg) (D : Dfs P w K mg base k) : DefG P w K mg base (k + 1) "_law_right" sRight ["pot"] spRight := by
  refine defG_of B sc31 (by rintro _ _ _ _ ⟨a, rfl, _⟩; rfl) (fun _ _ _ _ _ _ us hl => match us, hl with | [_], _ => rfl) fun f cdv A outer s H vs Q E hgd hr h => ?_
  obtain ⟨p, rfl, hp, q⟩ := h
  have hu := hr.units
  have hg2 : (A.deeper (envOfC "_law_right" (defScope sRight) s.heap.objs.size f cdv)).guards = some [] := hgd
  refine ⟨_,
    pss_cons (ps_set (i := 1) sc31.nd rfl (.inr rfl) (pe_d D.pick hr (by rfl) (pa_cons (pv 0) (pa_cons (pe_lst (pa_cons pe_int (pa_cons pe_int (pa_cons pe_int (pa_cons pe_int (pa_cons pe_int pa_nil)))))) pa_nil))))
    (pss_cons (ps_setLc (i := 2) (own := [("count", 12)]) (g := gName 12) (tt := tYes) rfl sc31.nd rfl rfl (sw_true rfl rfl rfl (by decide +kernel)) (pi_list (pe_d D.counts hr (by rfl) (pa_cons (pv 0) (pa_cons pe_int (pa_cons pe_int pa_nil)))))
      (blkOk_by (own := [("count", 12)]) (N := NR) (sc := defScope sRight) (by decide +kernel)) (fun _ _ _ _ _ => pg_name (i := 12) sc31.nd rfl (Or.inl rfl)) (fun _ _ _ _ _ => pts_nil) (fun _ _ _ _ _ => pe_op op_mul (pv 12) (pv 1)))
    (pss_cons (ps_par (i := 3) (j := 4) rfl sc31.nd rfl rfl (by decide) rfl rfl (pa_cons (pe_d D.draw hr (by rfl) (pa_cons (pv 0) (pa_cons pe_int pa_nil))) (pa_cons (pe_callB (cr_repr hu hg2) (by rfl) M.repr (by decide +kernel) (pa_cons (pv 2) pa_nil)) pa_nil)) (by rfl))
    (pss_cons (ps_set (i := 5) sc31.nd rfl (.inr rfl) (pe_d D.marks hr (by rfl) (pa_cons (pv 2) (pa_cons (pv 3) pa_nil))))
    (pss_cons (ps_setLc (i := 6) (own := [("number", 13)]) (g := gName 13) (tt := tB (tOp (rIxL K) (tVar 5) (tVar 13))) (te := tVar 13) rfl sc31.nd rfl rfl (sw_true rfl rfl rfl (by decide +kernel)) (pi_range1 (by rfl) M.range (pa_cons (pe_op op_add (pv 3) pe_int) pa_nil))
      (blkOk_by (own := [("number", 13)]) (N := NR) (sc := defScope sRight) (by decide +kernel)) (fun _ _ _ _ _ => pg_name (i := 13) sc31.nd rfl (Or.inl rfl)) (fun _ _ _ _ _ => pts_one (pt_val (pe_ix (r := rIxL K) ix_list (pv 5) (pv 13) (fun _ _ => rfl)))) (fun _ _ _ _ _ => pv 13))
    (pss_cons (ps_if (PW.pt (pw_or (pt_cmpR op_ne (pe_d D.common hr (by rfl) (pa_cons (pv 2) pa_nil)) (pe_d D.lcommon hr (by rfl) (pa_cons (pv 2) pa_nil)) (nomark _))
        (pw_or (pt_cmpR (op_neD hu) (pe_d D.met hr (by rfl) (pa_cons (pv 2) (pa_cons (pv 3) pa_nil))) (pv 6) (nomark _))
        (pw_or1 (pt_cmpR (op_neD hu) (pe_dk0 D.met hr (by rfl) 2 true ["many", "counts"] bk_met (pk_cons (pv 3) (pk_cons (pe_callTy call_tuple_of (by rfl) M.tuple (by decide +kernel) (pa_cons (pv 2) pa_nil)) pk_nil))) (pv 6) (nomark _)))))) pss_never pss_nil)
    (pss_cons (ps_if (pt_cmpR op_ne (pe_callB (cr_repr hu hg2) (by rfl) M.repr (by decide +kernel) (pa_cons (pe_lst (pa_cons (pe_d D.isMet hr (by rfl) (pa_cons (pv 2) (pa_cons (pv 3) pa_nil)))
          (pa_cons (pe_dk0 D.isMet hr (by rfl) 2 true ["many", "counts"] bk_isMet (pk_cons pe_int (pk_cons (pv 2) pk_nil))) pa_nil))) pa_nil))
        (pe_callB (cr_repr hu hg2) (by rfl) M.repr (by decide +kernel) (pa_cons (pe_lst (pa_cons (pe_ix ix_list (pv 5) (pv 3) (fun _ _ => rfl)) (pa_cons pe_bl pa_nil))) pa_nil)) (nomark _)) pss_never pss_nil)
    (pss_cons (ps_par (i := 7) (j := 8) rfl sc31.nd rfl rfl (by decide) rfl rfl (pa_cons (pe_d D.met hr (by rfl) (pa_cons (pv 2) (pa_cons pe_int pa_nil))) (pa_cons (pe_d D.least hr (by rfl) (pa_cons (pv 2) pa_nil)) pa_nil)) (by rfl))
    (pss_cons (ps_if (PW.pt (pw_or (pt_cmpR (op_neD hu) (pv 8) (pe_d D.lleast hr (by rfl) (pa_cons (pv 2) pa_nil)) (nomark _))
        (pw_or (pt_cmpR (op_neD hu) (pe_d D.met hr (by rfl) (pa_cons (pv 8) (pa_cons pe_int pa_nil))) (pv 7) (nomark _))
        (pw_or1 (pt_cmpR (op_neD hu) (pe_dk0 D.least hr (by rfl) 1 false ["counts"] bk_least (pk_cons (pe_callTy call_tuple_of (by rfl) M.tuple (by decide +kernel) (pa_cons (pv 8) pa_nil)) pk_nil)) (pv 8) (nomark _)))))) pss_never pss_nil)
    (pss_cons (ps_setLc (i := 9) (own := [("number", 13)]) (g := gName 13) (tt := tTest (tChain (rI0 fun i j => .bl (decide (i < j))) (rI0 fun i j => .bl (decide (i ≤ j))) (tC (.int 0)) (tVar 13) (tC (.int 48)))) (te := tVar 13) rfl sc31.nd rfl rfl (sw_true rfl rfl rfl (by decide +kernel)) (pi_list (pv 7))
      (blkOk_by (own := [("number", 13)]) (N := NR) (sc := defScope sRight) (by decide +kernel)) (fun _ _ _ _ _ => pg_name (i := 13) sc31.nd rfl (Or.inl rfl)) (fun _ _ _ _ _ => pts_one (pt_chain op_lt op_le pe_int (pv 13) pe_int)) (fun _ _ _ _ _ => pv 13))
    (pss_cons (ps_set (i := 10) sc31.nd rfl (.inl rfl) (pe_d D.draw hr (by rfl) (pa_cons (pv 0) (pa_cons pe_int pa_nil))))
    (pss_cons (ps_set (i := 11) sc31.nd rfl (.inl rfl) (pe_op op_cat (pe_revL (pv 2)) (pe_ifExp (PW.pt (pw_and (pt_cmpR (op_neD hu) (pv 9) (pe_lst pa_nil) (nomark _)) (pw_and1 (pt_cmpR op_lt (pe_callB call_len_seq (by rfl) M.len boot_len (pa_cons (pv 2) pa_nil)) pe_int (nomark _)))))
        (pe_lst (pa_cons (pe_ix ix_list (pv 9) (pe_op op_mod (pv 10) (pe_callB call_len_seq (by rfl) M.len boot_len (pa_cons (pv 9) pa_nil))) (fun _ _ => rfl)) pa_nil)) (pe_lst pa_nil))))
    (pss_cons (ps_if (PW.pt (pw_or (pt_cmpR (op_neD hu) (pe_d D.least hr (by rfl) (pa_cons (pv 11) pa_nil)) (pv 8) (nomark _))
        (pw_or (pt_cmpR (op_neD hu) (pe_d D.met hr (by rfl) (pa_cons (pv 11) (pa_cons pe_int pa_nil))) (pv 7) (nomark _))
        (pw_or1 (pt_cmpR op_ne (pe_d D.common hr (by rfl) (pa_cons (pv 11) pa_nil)) (pe_d D.common hr (by rfl) (pa_cons (pv 2) pa_nil)) (nomark _)))))) pss_never pss_nil)
    (pss_cons (ps_expr (pe_bm PySem.F.plainAttrs_list PySem.F.slot_list_append PySem.F.type_list_append mt_append (pv 7) (pa_cons pe_non pa_nil)))
    (pss_one (ps_ret (pe_and (pe_cmpR (op_eqD hu) (pe_d D.met hr (by rfl) (pa_cons (pv 2) (pa_cons pe_int pa_nil))) (pe_slice sl_list (pv 7) po_none (po_some (pe_un un_neg pe_int))) (nomark _))
        (pe_one (pe_cmpR op_eq (pe_callB (cr_repr hu hg2) (by rfl) M.repr (by decide +kernel) (pa_cons (pv 2) pa_nil)) (pv 4) (nomark _))))))))))))))))))), ?_⟩
  -- factor
  refine ⟨_, rfl, (by show 5 ≤ sizeLine; decide), fun q1 n1 => ?_⟩
  have nq1 : q1 ≠ p := fun z => by
    obtain ⟨u, v, e, _⟩ := hp
    rw [z, e] at n1
    cases n1
  refine ⟨p, q1, _, rfl, hp.same (same_new n1), upd_same, nq1, by decide, by decide, fun x H2 hx hp2 k2 => ?_⟩
  obtain ⟨F, rfl, hF1, hF3⟩ : ∃ F : Int, x = .int F ∧ 1 ≤ F ∧ F ≤ 3 := by
    simp only [List.mem_cons, List.not_mem_nil, or_false] at hx
    rcases hx with rfl | rfl | rfl | rfl | rfl
    · exact ⟨1, rfl, by omega, by omega⟩
    · exact ⟨1, rfl, by omega, by omega⟩
    · exact ⟨1, rfl, by omega, by omega⟩
    · exact ⟨2, rfl, by omega, by omega⟩
    · exact ⟨3, rfl, by omega, by omega⟩
  -- counts
  refine ⟨_, rfl, p, 5, 10, rfl, hp2, by omega, by omega, by omega, by omega, fun r H3 c0 l1 l2 ec hp3 k3 nr hr3 => ⟨r, rfl, ⟨_, SqL.of hr3⟩, fun C nC => ?_⟩⟩
  refine lc_l (xs := VI c0) (fun i => (c0[i]?).bind fun c => some (.int (c * F))) (SqL.of hr3) nC (by rw [vi_len]; exact Nat.le_of_lt (small (by omega))) (fun i x H4 hx s4 Y N y nn => ?_) (fun H4 s4 hC4 => ?_)
  · obtain ⟨c, hc, rfl⟩ := vi_at hx
    have hc2 := ec c (List.mem_of_getElem? hc)
    refine ⟨rfl, _, rfl, _, rfl, c, F, rfl, rfl, .inl ⟨by omega, by omega⟩, y _ _ (Same.refl _) ?_⟩
    dsimp only
    rw [hc]; rfl
  rw [ints_map c0 fun c => c * F] at hC4
  obtain ⟨cs, ecs⟩ : ∃ cs, cs = c0.map fun c => c * F := ⟨_, rfl⟩
  rw [← ecs] at hC4
  have T : Told cs := by
    rw [ecs]
    refine ⟨by rw [List.length_map]; exact l1, by rw [List.length_map]; omega, fun c hc => ?_⟩
    obtain ⟨d, hd, rfl⟩ := List.mem_map.mp hc
    have := ec d hd
    have h1 : d * 1 ≤ d * F := Int.mul_le_mul_of_nonneg_left hF1 (by omega)
    have h2 : d * F ≤ d * 3 := Int.mul_le_mul_of_nonneg_left hF3 (by omega)
    omega
  have l5 : cs.length ≤ 5 := by rw [ecs, List.length_map]; omega
  have Scs : Sm cs := fun n hn => by have := T.each n hn; omega
  have R := di_repr Scs (by omega)
  have hp4 := hp3.same s4
  clear ecs
  have nCp : C ≠ p := fun z => by
    obtain ⟨u, v, e, _⟩ := hp3
    rw [z, e] at nC
    cases nC
  -- many, shown
  refine ⟨_, rfl, p, 121, rfl, hp4, by omega, by omega, fun m H5 m0 m1 hp5 k5 => ?_⟩
  have hC5 := k5 _ _ nCp hC4
  refine ⟨_, rfl, C, DI cs, rfl, dp_ints (SqL.of hC5), R.1, R.2.1, R.2.2.1, R.2.2.2, _, _, rfl, ?_⟩
  -- marks
  refine ⟨_, rfl, _, rfl, C, cs, m, rfl, sq_lst hC5, T.pos, by omega, m0, by omega, fun mk H6 s6 nmk hmk => ?_⟩
  have hC6 := s6 _ _ hC5
  -- due
  refine ⟨_, rfl, m, 1, rfl, rfl, m + 1, rfl, by omega, by omega, fun du ndu => ?_⟩
  refine lc_rg (lo := 0) (n := (m + 1).toNat) (fun i => (if mb cs ((i : Nat) : Int) = true then some ((i : Nat) : Int) else none).map V.int) ndu (Nat.le_of_lt (small (by omega))) (fun i H7 hi s7 Y N y nn => ?_) (fun H7 s7 hdu => ?_)
  · dsimp only at y nn
    have hg : ((tb cs (m.toNat + 1)).map V.bl)[i]? = some (.bl (mb cs (i : Int))) := by
      rw [List.getElem?_map, tb_at (by omega)]; rfl
    refine ⟨rfl, _, rfl, _, rfl, mk, _, 0 + (i : Int), .bl (mb cs (i : Int)), rfl, rfl, SqL.of (s7 _ _ hmk), at_of (by omega) hg, mb cs (i : Int), rfl, ?_⟩
    cases e : mb cs (i : Int) with
    | true =>
      rw [if_pos e] at y
      exact iteT ⟨_, rfl, y _ _ (Same.refl _) (by rw [Int.zero_add]; rfl)⟩
    | false =>
      rw [if_neg (by rw [e]; exact Bool.false_ne_true)] at nn
      exact iteF (nn _ (Same.refl _) rfl)
  rw [fm_vi, show (m + 1).toNat = m.toNat + 1 by omega] at hdu
  have hdu' : H7 du = some (.lst (VI (metL cs m.toNat))) := hdu
  have hC7 := s7 _ _ hC6
  have hmk7 := s7 _ _ hmk
  have hp7 := (hp5.same s6).same s7
  have nf : ∀ {b : Bool}, b = true → (!b) = false := fun {b} h => by rw [h]; rfl
  -- the first question
  refine ⟨_, rfl, C, cs, rfl, sq_lst hC7, T, fun H8 s8 => ⟨_, rfl, C, cs, rfl, sq_lst (s8 _ _ hC7), T, fun H9 s9 => ⟨rfl, _, rfl, ?_⟩⟩⟩
  rw [decide_eq_true rfl]
  have s79 := s8.trans s9
  refine iteF ⟨_, rfl, _, rfl, C, cs, m, rfl, sq_lst (s79 _ _ hC7), T, m0, by omega, fun e1 H10 s10 _ he1 => ?_⟩
  have s710 := s79.trans s10
  refine ⟨_, rfl, DI (metL cs m.toNat), DI (metL cs m.toNat), dp_ints (SqL.of he1), dp_ints (SqL.of (s710 _ _ hdu')), di_shaped _, di_shaped _, _, rfl, ?_⟩
  rw [di_refl]
  refine iteF ⟨_, rfl, _, rfl, C, _, rfl, Or.inl ⟨SqL.of (s710 _ _ hC7), fun tp ntp => ?_⟩⟩
  have s711 := s710.trans (same_new (o := .tup (VI cs)) ntp)
  refine ⟨rfl, rfl, tp, cs, m, rfl, sq_tup upd_same, T, m0, by omega, fun e2 H12 s12 _ he2 => ?_⟩
  have s712 := s711.trans s12
  refine ⟨_, rfl, DI (metL cs m.toNat), DI (metL cs m.toNat), dp_ints (SqL.of he2), dp_ints (SqL.of (s712 _ _ hdu')), di_shaped _, di_shaped _, _, rfl, ?_⟩
  rw [di_refl]
  refine iteF ?_
  have hC12 := s712 _ _ hC7
  have hmk12 := s712 _ _ hmk7
  have hp12 := hp7.same s712
  -- the second question
  refine ⟨_, rfl, _, rfl, C, cs, m, rfl, sq_lst hC12, T, m0, by omega, fun H13 s13 => ?_⟩
  refine ⟨_, rfl, rfl, rfl, C, cs, 0, rfl, sq_lst (s13 _ _ hC12), T, by omega, by omega, fun H14 s14 => ?_⟩
  refine ⟨(by show 2 ≤ sizeLine; decide), fun b1 nb1 => ?_⟩
  have R2 := db_repr (mb cs m) (mb cs 0)
  refine ⟨b1, .list [.bool (mb cs m), .bool (mb cs 0)], rfl, .lst (SqL.of upd_same) (.cons (.bl _) (.cons (.bl _) .nil)), R2.1, R2.2.1, R2.2.2.1, R2.2.2.2, ?_⟩
  have s15 := (s13.trans s14).trans (same_new (o := .lst [.bl (mb cs m), .bl (mb cs 0)]) nb1)
  have hg : ((tb cs (m.toNat + 1)).map V.bl)[m.toNat]? = some (.bl (mb cs m)) := by
    rw [List.getElem?_map, tb_at (by omega), show ((m.toNat : Nat) : Int) = m by omega]; rfl
  refine ⟨_, rfl, _, rfl, mk, _, m, .bl (mb cs m), rfl, rfl, SqL.of (s15 _ _ hmk12), at_of (by omega) hg, (by show 2 ≤ sizeLine; decide), fun b2 nb2 => ?_⟩
  rw [mb_zero]
  have R3 := db_repr (mb cs m) true
  refine ⟨b2, .list [.bool (mb cs m), .bool true], rfl, .lst (SqL.of upd_same) (.cons (.bl _) (.cons (.bl _) .nil)), R3.1, R3.2.1, R3.2.2.1, R3.2.2.2, rfl, _, rfl, ?_⟩
  rw [decide_eq_true rfl]
  refine iteF ?_
  have s16 := s15.trans (same_new (o := .lst [.bl (mb cs m), .bl true]) nb2)
  rw [mb_zero] at s16
  generalize upd (upd H14 b1 (HO.lst [V.bl (mb cs m), V.bl true])) b2 (HO.lst [V.bl (mb cs m), V.bl true]) = H16 at s16 ⊢
  have hC16 := s16 _ _ hC12
  have k16 : Keep p H H16 := (((((Keep.of (same_new n1)).trans k2).trans k3).trans (Keep.of s4)).trans k5).trans (Keep.of (((s6.trans s7).trans s712).trans s16))
  have hp16 := hp12.same s16
  have ap : ∀ {H : Hp} {b : Addr}, PotOk H p → H b = none → b ≠ p := fun {H b} h n z => by
    obtain ⟨u, v, e, _⟩ := h
    rw [z, e] at n
    cases n
  -- some, least
  refine ⟨_, rfl, C, cs, 60, rfl, sq_lst hC16, T, by omega, by omega, fun so H17 s17 nso hso => ⟨_, rfl, C, cs, rfl, sq_lst (s17 _ _ hC16), T, fun le H18 R0 iR mR lR s18 nle hle => ⟨_, _, rfl, ?_⟩⟩⟩
  have hC18 := s18 _ _ (s17 _ _ hC16)
  have hso18 := s18 _ _ hso
  have nsop := ap hp16 nso
  have nlep := ap (hp16.same s17) nle
  have nCso : C ≠ so := ne_of_none hC16 nso
  have TR := told_of T iR mR lR
  have mR2 : ∀ n, mb R0 n = mb cs n := fun n => mb_congr (iR.rch n)
  -- the third question
  refine ⟨_, rfl, _, rfl, C, cs, rfl, SqL.of hC18, T, fun e3 H19 R' iR' s19 _ he3 => ⟨DI R0, DI R', dp_ints (SqL.of (s19 _ _ hle)), dp_ints (SqL.of he3), di_shaped _, di_shaped _, _, rfl, ?_⟩⟩
  obtain rfl := iR.isL.uniq iR'.isL
  rw [di_refl]
  refine iteF ⟨_, rfl, le, R0, 60, rfl, sq_lst (s19 _ _ hle), TR, by omega, by omega, fun e4 H20 s20 _ he4 => ⟨_, rfl, DI _, DI _, dp_ints (SqL.of he4), dp_ints (SqL.of (s20 _ _ (s19 _ _ hso18))), di_shaped _, di_shaped _, _, rfl, ?_⟩⟩
  rw [metL_congr mR2, di_refl]
  have s120 := s19.trans s20
  refine iteF ⟨_, rfl, le, _, rfl, Or.inl ⟨SqL.of (s120 _ _ hle), fun tp2 ntp2 => ⟨rfl, rfl, tp2, R0, rfl, sq_tup upd_same, TR, fun e5 H22 R5 i5 _ _ s22 _ he5 => ?_⟩⟩⟩
  have s122 := s120.trans ((same_new (o := .tup (VI R0)) ntp2).trans s22)
  refine ⟨_, rfl, DI R5, DI R0, dp_ints (SqL.of he5), dp_ints (SqL.of (s122 _ _ hle)), di_shaped _, di_shaped _, _, rfl, ?_⟩
  obtain rfl := iR.self.uniq i5.isL
  rw [di_refl]
  refine iteF ?_
  have hC22 := s122 _ _ hC18
  have hso22 := s122 _ _ hso18
  have hle22 := s122 _ _ hle
  have hp22 := ((hp16.same s17).same s18).same s122
  -- beside
  refine ⟨_, rfl, so, rfl, ⟨_, SqL.of hso22⟩, fun be nbe => ?_⟩
  have lm := metL_len cs (60 : Int).toNat
  refine lc_l (xs := VI (metL cs (60 : Int).toNat)) (fun i => ((metL cs (60 : Int).toNat)[i]?).bind fun c => if (decide (0 < c) && decide (c ≤ 48)) = true then some (.int c) else none) (SqL.of hso22) nbe (by rw [vi_len]; exact Nat.le_of_lt (small (by omega))) (fun i x H23 hx s23 Y N y nn => ?_) (fun H23 s23 hbe => ?_)
  · obtain ⟨c, hc, rfl⟩ := vi_at hx
    dsimp only at y nn
    rw [hc] at y nn
    refine ⟨rfl, _, rfl, 0, c, rfl, rfl, _, rfl, ite2 (fun h1 => ?_) (fun h1 => ?_)⟩
    · refine ⟨c, 48, rfl, rfl, _, rfl, ite2 (fun h2 => ?_) (fun h2 => ?_)⟩
      · exact ⟨_, rfl, y _ _ (Same.refl _) (by show (if (decide (0 < c) && decide (c ≤ 48)) = true then some (V.int c) else none) = _; rw [h1, h2]; rfl)⟩
      · exact nn _ (Same.refl _) (by show (if (decide (0 < c) && decide (c ≤ 48)) = true then some (V.int c) else none) = _; rw [h1, Bool.eq_false_iff.mpr h2]; rfl)
    · exact ⟨false, rfl, iteF (nn _ (Same.refl _) (by show (if (decide (0 < c) && decide (c ≤ 48)) = true then some (V.int c) else none) = _; rw [Bool.eq_false_iff.mpr h1]; rfl))⟩
  rw [ints_filter (metL cs (60 : Int).toNat) fun c => decide (0 < c) && decide (c ≤ 48)] at hbe
  obtain ⟨bes, ebes⟩ : ∃ bes, bes = (metL cs (60 : Int).toNat).filter fun c => decide (0 < c) && decide (c ≤ 48) := ⟨_, rfl⟩
  rw [← ebes] at hbe
  have hbes : ∀ b ∈ bes, 0 < b ∧ b ≤ 48 ∧ mb cs b = true := fun b hb => by
    rw [ebes] at hb
    obtain ⟨h1, h2⟩ := List.mem_filter.mp hb
    rw [Bool.and_eq_true, decide_eq_true_eq, decide_eq_true_eq] at h2
    exact ⟨h2.1, h2.2, (mem_metL h1).1⟩
  clear ebes
  have nbep := ap hp22 nbe
  -- at
  refine ⟨_, rfl, p, 60, rfl, hp22.same s23, by omega, by omega, fun at0 H24 a0 a1 hp24 k24 => ?_⟩
  have hC24 := k24 _ _ nCp (s23 _ _ hC22)
  have hso24 := k24 _ _ nsop (s23 _ _ hso22)
  have hle24 := k24 _ _ nlep (s23 _ _ hle22)
  have hbe24 := k24 _ _ nbep hbe
  -- more
  refine ⟨_, rfl, C, VI cs, rfl, SqL.of hC24, fun rv nrv => ?_⟩
  have s25a : Same H24 (upd H24 rv (.lst (VI cs).reverse)) := same_new nrv
  have erv : (VI cs).reverse = VI cs.reverse := by unfold VI; rw [List.map_reverse]
  refine ⟨_, rfl, (by show 0 ≤ sizeLine; decide), fun nl nnl => ⟨DI bes, DI [], dp_ints (SqL.of (same_new nnl _ _ (s25a _ _ hbe24))), dp_ints (SqL.of upd_same), di_shaped _, di_shaped _, _, rfl, ?_⟩⟩
  have s25 := s25a.trans (same_new (o := .lst []) nnl)
  have hrv : (upd (upd H24 rv (.lst (VI cs).reverse)) nl (.lst [])) rv = some (.lst (VI cs).reverse) := same_new nnl _ _ upd_same
  rw [di_nil]
  rcases bes with _ | ⟨b0, br⟩
  · refine iteF (iteF ⟨(by show 0 ≤ sizeLine; decide), fun ex nex => ?_⟩)
    have s25b := s25.trans (same_new (o := .lst []) nex)
    refine ⟨rv, ex, _, _, rfl, rfl, same_new nex _ _ hrv, upd_same, ?_, fun mo nmo => ?_⟩
    · rw [List.length_reverse, vi_len]
      exact Nat.le_of_lt (small (by show cs.length + 0 ≤ 1000; omega))
    have s26 := s25b.trans (same_new (o := .lst ((VI cs).reverse ++ [])) nmo)
    have MF := more_of (ex := []) T l5 iR (.inl rfl)
    have hmo : (upd (upd (upd (upd H24 rv (.lst (VI cs).reverse)) nl (.lst [])) ex (.lst [])) mo (.lst ((VI cs).reverse ++ []))) mo = some (.lst (VI (cs.reverse ++ []))) := by
      rw [upd_same, erv, List.append_nil, List.append_nil]
    generalize upd (upd (upd (upd H24 rv (.lst (VI cs).reverse)) nl (.lst [])) ex (.lst [])) mo (.lst ((VI cs).reverse ++ [])) = H26 at s26 hmo ⊢
    have hle26 := s26 _ _ hle24
    have hso26 := s26 _ _ hso24
    have hC26 := s26 _ _ hC24
    refine ⟨_, rfl, mo, _, rfl, sq_lst hmo, MF.told, fun e6 H27 R6 i6 _ _ s27 _ he6 => ⟨_, rfl, DI R6, DI R0, dp_ints (SqL.of he6), dp_ints (SqL.of (s27 _ _ hle26)), di_shaped _, di_shaped _, _, rfl, ?_⟩⟩
    obtain rfl := MF.isL.uniq i6.isL
    rw [di_refl]
    refine iteF ⟨_, rfl, mo, _, 60, rfl, sq_lst (s27 _ _ hmo), MF.told, by omega, by omega, fun e7 H28 s28 _ he7 => ⟨_, rfl, DI _, DI _, dp_ints (SqL.of he7), dp_ints (SqL.of (s28 _ _ (s27 _ _ hso26))), di_shaped _, di_shaped _, _, rfl, ?_⟩⟩
    rw [metL_congr MF.mb, di_refl]
    have s228 := s27.trans s28
    refine iteF ⟨_, rfl, mo, _, rfl, sq_lst (s228 _ _ hmo), MF.told, fun H29 s29 => ⟨_, rfl, C, cs, rfl, sq_lst (s29 _ _ (s228 _ _ hC26)), T, fun H30 s30 => ⟨rfl, _, rfl, ?_⟩⟩⟩
    rw [MF.gl, decide_eq_true rfl]
    refine iteF ?_
    have s230 := s228.trans (s29.trans s30)
    -- some.append(None)
    refine ⟨_, rfl, Or.inl ⟨rfl, _, SqL.of (s230 _ _ hso26)⟩, so, _, _, rfl, rfl, s230 _ _ hso26, ?_, ?_⟩
    · have := metL_len cs (60 : Int).toNat
      rw [vi_len]
      exact small (by omega)
    have hC31 : (upd H30 so (.lst (VI (metL cs (60 : Int).toNat) ++ [.non]))) C = some (.lst (VI cs)) := by
      rw [upd_ne nCso]
      exact s230 _ _ hC26
    refine ⟨_, rfl, C, cs, 60, rfl, sq_lst hC31, T, by omega, by omega, fun e8 H32 s32 _ he8 => ?_⟩
    refine ⟨_, rfl, 1, rfl, -1, rfl, so, _, rfl, SqL.of (s32 _ _ upd_same), fun sl nsl => ?_⟩
    rw [cut_last]
    refine ⟨DI _, DI _, dp_ints (SqL.of (same_new nsl _ _ he8)), dp_ints (SqL.of upd_same), di_shaped _, di_shaped _, _, rfl, ?_⟩
    rw [di_refl]
    refine iteT ⟨_, rfl, C, DI cs, rfl, dp_ints (SqL.of (same_new nsl _ _ (s32 _ _ hC31))), R.1, R.2.1, R.2.2.1, R.2.2.2, _, rfl, rfl, ?_⟩
    rw [decide_eq_true rfl]
    refine q _ fun b o nb hb => ?_
    have h16 := k16 b o nb hb
    refine same_new nsl _ _ (s32 _ _ ?_)
    rw [upd_ne (ne_of_none h16 nso)]
    exact s230 _ _ (s26 _ _ (k24 _ _ nb (s23 _ _ (s122 _ _ (s18 _ _ (s17 _ _ h16))))))
  · have hl2 : ((b0 :: br).length : Int) = br.length + 1 := by rw [List.length_cons]; omega
    have lv : ((VI (b0 :: br)).length : Int) = br.length + 1 := by rw [vi_len, hl2]
    refine iteT ⟨_, rfl, C, _, rfl, .inl (SqL.of (s25 _ _ hC24)), _, _, rfl, rfl, _, rfl, ifT (by rw [vi_len]; omega) ?_⟩
    have hj0 : 0 ≤ at0 % ((VI (b0 :: br)).length : Int) := Int.emod_nonneg _ (by omega)
    have hj1 : at0 % ((VI (b0 :: br)).length : Int) < ((VI (b0 :: br)).length : Int) := Int.emod_lt_of_pos _ (by omega)
    have hjl : (at0 % ((VI (b0 :: br)).length : Int)).toNat < (b0 :: br).length := by omega
    obtain ⟨b, hb⟩ : ∃ b, (b0 :: br)[(at0 % ((VI (b0 :: br)).length : Int)).toNat]? = some b := ⟨_, List.getElem?_eq_getElem hjl⟩
    have hb3 := hbes b (List.mem_of_getElem? hb)
    refine ⟨_, rfl, _, rfl, _, rfl, be, _, rfl, .inl (SqL.of (s25 _ _ hbe24)), at0, _, rfl, rfl, by omega, be, _, _, .int b, rfl, rfl, SqL.of (s25 _ _ hbe24), at_of (j := (at0 % ((VI (b0 :: br)).length : Int)).toNat) (by omega) (by rw [List.getElem?_map, hb]; rfl), (by show 1 ≤ sizeLine; decide), fun ex nex => ?_⟩
    have s25b := s25.trans (same_new (o := .lst [.int b]) nex)
    refine ⟨rv, ex, _, _, rfl, rfl, same_new nex _ _ hrv, upd_same, ?_, fun mo nmo => ?_⟩
    · rw [List.length_reverse, vi_len]
      exact Nat.le_of_lt (small (by show cs.length + 1 ≤ 1000; omega))
    have s26 := s25b.trans (same_new (o := .lst ((VI cs).reverse ++ [.int b])) nmo)
    have MF := more_of (ex := [b]) T l5 iR (.inr ⟨b, rfl, hb3⟩)
    have hmo : (upd (upd (upd (upd H24 rv (.lst (VI cs).reverse)) nl (.lst [])) ex (.lst [.int b])) mo (.lst ((VI cs).reverse ++ [.int b]))) mo = some (.lst (VI (cs.reverse ++ [b]))) := by
      rw [upd_same, erv]
      unfold VI
      rw [List.map_append]; rfl
    generalize upd (upd (upd (upd H24 rv (.lst (VI cs).reverse)) nl (.lst [])) ex (.lst [.int b])) mo (.lst ((VI cs).reverse ++ [.int b])) = H26 at s26 hmo ⊢
    have hle26 := s26 _ _ hle24
    have hso26 := s26 _ _ hso24
    have hC26 := s26 _ _ hC24
    refine ⟨_, rfl, mo, _, rfl, sq_lst hmo, MF.told, fun e6 H27 R6 i6 _ _ s27 _ he6 => ⟨_, rfl, DI R6, DI R0, dp_ints (SqL.of he6), dp_ints (SqL.of (s27 _ _ hle26)), di_shaped _, di_shaped _, _, rfl, ?_⟩⟩
    obtain rfl := MF.isL.uniq i6.isL
    rw [di_refl]
    refine iteF ⟨_, rfl, mo, _, 60, rfl, sq_lst (s27 _ _ hmo), MF.told, by omega, by omega, fun e7 H28 s28 _ he7 => ⟨_, rfl, DI _, DI _, dp_ints (SqL.of he7), dp_ints (SqL.of (s28 _ _ (s27 _ _ hso26))), di_shaped _, di_shaped _, _, rfl, ?_⟩⟩
    rw [metL_congr MF.mb, di_refl]
    have s228 := s27.trans s28
    refine iteF ⟨_, rfl, mo, _, rfl, sq_lst (s228 _ _ hmo), MF.told, fun H29 s29 => ⟨_, rfl, C, cs, rfl, sq_lst (s29 _ _ (s228 _ _ hC26)), T, fun H30 s30 => ⟨rfl, _, rfl, ?_⟩⟩⟩
    rw [MF.gl, decide_eq_true rfl]
    refine iteF ?_
    have s230 := s228.trans (s29.trans s30)
    -- some.append(None)
    refine ⟨_, rfl, Or.inl ⟨rfl, _, SqL.of (s230 _ _ hso26)⟩, so, _, _, rfl, rfl, s230 _ _ hso26, ?_, ?_⟩
    · have := metL_len cs (60 : Int).toNat
      rw [vi_len]
      exact small (by omega)
    have hC31 : (upd H30 so (.lst (VI (metL cs (60 : Int).toNat) ++ [.non]))) C = some (.lst (VI cs)) := by
      rw [upd_ne nCso]
      exact s230 _ _ hC26
    refine ⟨_, rfl, C, cs, 60, rfl, sq_lst hC31, T, by omega, by omega, fun e8 H32 s32 _ he8 => ?_⟩
    refine ⟨_, rfl, 1, rfl, -1, rfl, so, _, rfl, SqL.of (s32 _ _ upd_same), fun sl nsl => ?_⟩
    rw [cut_last]
    refine ⟨DI _, DI _, dp_ints (SqL.of (same_new nsl _ _ he8)), dp_ints (SqL.of upd_same), di_shaped _, di_shaped _, _, rfl, ?_⟩
    rw [di_refl]
    refine iteT ⟨_, rfl, C, DI cs, rfl, dp_ints (SqL.of (same_new nsl _ _ (s32 _ _ hC31))), R.1, R.2.1, R.2.2.1, R.2.2.2, _, rfl, rfl, ?_⟩
    rw [decide_eq_true rfl]
    refine q _ fun b o nb hb => ?_
    have h16 := k16 b o nb hb
    refine same_new nsl _ _ (s32 _ _ ?_)
    rw [upd_ne (ne_of_none h16 nso)]
    exact s230 _ _ (s26 _ _ (k24 _ _ nb (s23 _ _ (s122 _ _ (s18 _ _ (s17 _ _ h16))))))
end
end K21

namespace K21
open PySem PySem.Spec PyProof.Rows L2 Fp
section
variable {P : Program} {w : World} {K : PySem.W.Frag} {mg : Str → Option Value} {base : Heap} {k : Nat}
def spLaw (K : PySem.W.Frag) : Sp := fun vs H Q _ => ∃ (a : Addr) (ns : List Int), vs = [.ref a] ∧ SqL K H a (VI ns) ∧ ns.length ≤ 63 ∧ ∀ H', Q (.bl true) H'
theorem sc32 : FnScope ["script", "k"] ["script"] (defScope sLaw) := ⟨rfl, rfl, rfl, by decide +kernel, rfl, by decide +kernel, by decide +kernel⟩
theorem d_law (B : Bnd K mg "law" sLaw) (M : Mg mg) (hmin : mg "min" = none) (DP : Def P w K mg base k "_law_pot" sPot ["script", "k"] (spPot K)) (DR : DefG P w K mg base k "_law_right" sRight ["pot"] spRight) : DefG P w K mg base (k + 1) "law" sLaw ["script"] (spLaw K) := by
  refine defG_of B sc32 (by rintro _ _ _ _ ⟨a, ns, rfl, _⟩; rfl) (fun _ _ _ _ _ _ us hl => match us, hl with | [_], _ => rfl) fun f cdv A outer s H vs Q E hgd hr h => ?_
  obtain ⟨a, ns, rfl, hS, hl, q⟩ := h
  have hg2 : (A.deeper (envOfC "law" (defScope sLaw) s.heap.objs.size f cdv)).guards = some [] := hgd
  refine ⟨_, pss_one (ps_ret (pe_callB (cr_all rfl) (by rfl) M.all (by decide +kernel) (pa_cons (pe_lc (own := [("k", 1)]) (g := gName 1) (tt := tYes) rfl sc32.nd
      (pi_range1 (by rfl) M.range (pa_cons (pe_callB (call_max2 rfl) (by rfl) M.max (by decide +kernel) (pa_cons pe_int (pa_cons (pe_callB (call_min2 rfl) (by rfl) hmin (by decide +kernel) (pa_cons pe_int (pa_cons (pe_callB call_len_seq (by rfl) M.len boot_len (pa_cons (pv 0) pa_nil)) pa_nil))) pa_nil))) pa_nil))
      (blkOk_by (own := [("k", 1)]) (N := ["script", "k"]) (sc := defScope sLaw) (by decide +kernel)) (fun _ _ _ _ _ => pg_name (i := 1) sc32.nd rfl (Or.inl rfl)) (fun _ _ _ _ _ => pts_nil)
      (fun _ _ _ _ _ => pe_dG DR hg2 hr (by rfl) (pa_cons (pe_d DP hr (by rfl) (pa_cons (pv 0) (pa_cons (pv 1) pa_nil))) pa_nil))) pa_nil))), ?_⟩
  refine ⟨_, rfl, a, _, rfl, .inl hS, 2, _, rfl, 1, _, rfl, _, rfl, ?_, ?_, fun D nD => ?_⟩
  · split <;> split <;> omega
  · split <;> split <;> omega
  generalize hn : (if (if (((VI ns).length : Int)) < 2 then (((VI ns).length : Int)) else 2) > 1 then (if (((VI ns).length : Int)) < 2 then (((VI ns).length : Int)) else 2) else (1 : Int)) = n
  have hn2 : n ≤ 2 := by rw [← hn]; split <;> split <;> omega
  refine lc_rg (lo := 0) (n := n.toNat) (fun _ => some (.bl true)) nD (Nat.le_of_lt (small (by omega))) (fun i H1 hi s1 Y N y nn => ?_) (fun H1 s1 hD1 => ?_)
  · refine ⟨rfl, _, rfl, _, rfl, a, ns, 0 + (i : Int), rfl, s1.seq hS, by omega, by omega, fun p H2 s2 np hp => ⟨p, rfl, hp, fun H3 k3 => ?_⟩⟩
    exact y _ _ (fun b o hb => k3 _ _ (ne_of_none hb np) (s2 _ _ hb)) rfl
  · rw [all_true] at hD1
    refine ⟨D, List.replicate n.toNat true, rfl, SqL.of hD1, ?_⟩
    rw [all_rep]
    exact q _
end
/-! ### what the top has written -/
theorem bnd {K : PySem.W.Frag} {h : Heap} {mg : Str → Option Value} (X : K.In h) (G : h.Ns mainGlobals mg) {x : Str} {st : Stmt} {f : Addr} {oc kV dc pm cd ct : Value} {od an : Option Addr} {sl : Array (Option Value)} (a : PySem.W.nsIn K mainGlobals x = some (some (.ref f)))
    (l : K.lookup f = some ⟨oc, od, .func (PySem.W.fnOf x x (defArgs st) (defBody st) (defScope st) .none kV dc pm an cd ct), sl⟩) (c : PySem.W.codeIn K cd x = true) (k : PySem.W.keepIn K (.ref f) = true) : Bnd K mg x st :=
  ⟨f, _, PySem.W.mg_of X G a, fun_mk (st := st) l c k⟩
structure All (K : PySem.W.Frag) (mg : Str → Option Value) : Prop where
  g : Mg mg
  min : mg "min" = none
  b6 : Bnd K mg "is_integer" sInteger
  b7 : Bnd K mg "is_count" sCount
  b8 : Bnd K mg "is_list" sList
  b9 : Bnd K mg "check_many" sMany
  b14 : Bnd K mg "common_count" sCommon
  b15 : Bnd K mg "is_met" sIsMet
  b16 : Bnd K mg "met" sMet
  b17 : Bnd K mg "least_counts" sLeast
  b18 : Bnd K mg "is_counts" sIsCounts
  b19 : Bnd K mg "check_counts" sCheck
  b20 : Bnd K mg "met_table" sTable
  b21 : Bnd K mg "is_next_met" sNext
  b22 : Bnd K mg "least_of" sLeastOf
  b23 : Bnd K mg "_law_pot" sPot
  b24 : Bnd K mg "_law_draw" sDraw
  b25 : Bnd K mg "_law_pick" sPick
  b26 : Bnd K mg "_law_marks" sMarks
  b27 : Bnd K mg "_law_divisor" sDivisor
  b28 : Bnd K mg "_law_common" sLCommon
  b29 : Bnd K mg "_law_counts" sCounts
  b30 : Bnd K mg "_law_least" sLLeast
  b31 : Bnd K mg "_law_right" sRight
  b32 : Bnd K mg "law" sLaw
theorem all_law {P : Program} {w : World} {K : PySem.W.Frag} {mg : Str → Option Value} {base : Heap} (A : All K mg) : DefG P w K mg base 20 "law" sLaw ["script"] (spLaw K) := by
  have di : Def P w K mg base 1 _ _ _ _ := d_integer A.b6 A.g
  have dc := d_count A.b7 di
  have dl : Def P w K mg base 2 _ _ _ _ := (d_list (k := 0) A.b8 A.g).mono (by omega)
  have dm := d_many A.b9 dc
  have dic := d_isCounts A.b18 A.g dl dc
  have dch := d_check A.b19 dic
  have dn : Def P w K mg base 1 _ _ _ _ := d_next A.b21 A.g
  have dt := d_table A.b20 A.g dn
  have dch4 : Def P w K mg base 5 _ _ _ _ := dch.mono (by omega)
  have dt4 : Def P w K mg base 5 _ _ _ _ := dt.mono (by omega)
  have dm4 : Def P w K mg base 5 _ _ _ _ := dm.mono (by omega)
  have dd : Def P w K mg base 1 _ _ _ _ := d_draw A.b24 A.g
  have dmk : Def P w K mg base 1 _ _ _ _ := d_marks A.b26 A.g
  have ddv : Def P w K mg base 1 _ _ _ _ := d_divisor A.b27
  have D : Dfs P w K mg base 18 := ⟨dd.mono (by omega), (d_pick A.b25 A.g dd).mono (by omega), (d_counts A.b29 A.g dd).mono (by omega), dmk.mono (by omega), (d_lcommon A.b28 ddv).mono (by omega), (d_lleast A.b30 A.g dmk).mono (by omega),
    (d_common A.b14 A.g dch4).mono (by omega), (d_isMet A.b15 A.g dch4 dm4 dt4).mono (by omega), (d_met A.b16 A.g dch4 dm4 dt4).mono (by omega), (d_least A.b17 (dch4.mono (by omega)) (d_leastOf A.b22 A.g dt4)).mono (by omega)⟩
  exact d_law A.b32 A.g A.min ((d_pot (k := 0) A.b23 A.g).mono (by omega)) (d_right A.b31 A.g D)
end K21

namespace K21
open PySem PySem.Spec PyProof.Rows L2 Fp
theorem mg_int {K : PySem.W.Frag} {h : Heap} {mg : Str → Option Value} {x : Str} {z : Int} {t : Tok} (X : K.In h) (G : h.Ns mainGlobals mg) (a : PySem.W.nsIn K mainGlobals x = some (some (.int z t))) : ∃ t, mg x = some (.int z t) := ⟨t, PySem.W.mg_of X G a⟩
theorem fun_fd {K : PySem.W.Frag} {x : Str} {st : Stmt} {f : Addr} {fd fd' : FuncData} (a : Fun K x x st f fd) (b : Fun K x x st f fd') : fd = fd' := by
  obtain ⟨_, _, _, _, _, _, _, _, _, _, l1, _⟩ := a.ex
  obtain ⟨_, _, _, _, _, _, _, _, _, _, l2, _⟩ := b.ex
  rw [l1] at l2
  cases l2
  rfl
theorem fin {l : PySem.W.OpenLaw} {w : World} {K : PySem.W.Frag} {mg : Str → Option Value} {fa : Addr} (hfa : mg "law" = some (.ref fa)) (A : All K mg) :
    ∃ fd : FuncData, (∀ (s : Shared) (v : Value), BindsTo s fd ⟨[v], []⟩ [("script", v)]) ∧ ∀ base : Heap, K.In base → base.Ns mainGlobals mg → FnG l.prog w K mg base CX0 20 fa fd ["script"] (spLaw K) := by
  obtain ⟨f, fd, hm, F⟩ := A.b32.ex
  obtain rfl : f = fa := by
    rw [hfa] at hm
    cases hm
    rfl
  refine ⟨fd, fun s v => ?_, fun base _ _ => ?_⟩
  · obtain ⟨_, _, _, _, _, _, _, _, _, rfl, _⟩ := F.ex
    exact .of_eq rfl
  · obtain ⟨f', fd', hm', F', _, ok⟩ := (all_law (P := l.prog) (w := w) (base := base) A).ex
    obtain rfl : f = f' := by
      rw [hm] at hm'
      cases hm'
      rfl
    rw [fun_fd F F']
    exact ok
end K21
open PySem PySem.W PyProof.Rows
set_option maxRecDepth 100000 in
set_option maxHeartbeats 0 in
theorem PySem.Challenge.cw_fromplaces_k21_whole_met_and_least_count_holds : PySem.Challenge.rw_fromplaces_k21_whole_met_and_least_count.Holds := by
  w_on; o_law; k_head; (case hw => w_witness2)
  k_fill
  refine Fp.walk_ofG (l := PySem.Challenge.rw_fromplaces_k21_whole_met_and_least_count) (n := 63) (k := 20) (x := "script") (sp := K21.spLaw) rfl (by decide) rfl ⟨rfl, by decide, by decide⟩ (fun w h Y => PySem.W.kIn_of Y) ?F (fun K H a ns hl _ hS => ⟨a, ns, rfl, hS, hl, fun _ => rfl⟩)
  case F =>
    intro w mg fa h KX G hmg
    refine' K21.fin hmg ?_
    refine' ⟨⟨?_, ?_, ?_, ?_, ?_, ?_, ?_, ?_, ?_, ?_, ?_, ?_, ?_, ?_, ?_, ?_, ?_, ?_, ?_, ?_⟩, ?_, ?_, ?_, ?_, ?_, ?_, ?_, ?_, ?_, ?_, ?_, ?_, ?_, ?_, ?_, ?_, ?_, ?_, ?_, ?_, ?_, ?_, ?_, ?_⟩
    iterate 16 (refine' PySem.W.mg_none_of KX G ?a; (case a => k_is))
    (refine' PySem.W.mg_of KX G ?a; (case a => k_is))
    iterate 3 (refine' K21.mg_int KX G ?a; (case a => k_is))
    (refine' PySem.W.mg_none_of KX G ?a; (case a => k_is))
    all_goals (refine' K21.bnd KX G ?a ?l ?c ?k; (case a => k_is); (case l => k_is); (case c => k_is); (case k => k_is))
