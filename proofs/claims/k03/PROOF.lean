import PyProof.Rows.All
import Wide.All
import OpenK.AllK
import Wide.FinOn
import HandS.ForMost
import HandS.ForExc
import HandS.Wide
import HandS.Conv
import HandS.Remove
import HandS.IsInst
import HandS.Zip
import HandS.Walk
import KE.DataMinMax
import KE.SortData
import HandS.Defaults
import HandS.Style
import HandS.Small
import PySem.Challenge.RW_handpiles_k03_hands_met
set_option Elab.async false
set_option linter.all false
set_option maxRecDepth 100000
set_option maxHeartbeats 4000000
namespace My
open PySem PySem.Spec L2
open PyProof.Rows (envOfC)
section
variable {P : Program} {w : World} {K : PySem.W.Frag} {mg : Str → Option Value} {base : Heap}
/-- a def from whose body nothing is raised -/
theorem okN {x qual : Str} {st : Stmt} {f : Addr} {fd : FuncData} {N ps : List Str} {k : Nat} {sp : Sp} (F : Fun K x qual st f fd) (S : FnScope N ps (defScope st)) (len : ∀ vs H Q E, sp vs H Q E → vs.length = ps.length)
    (hbody : ∀ (cdv : Value) (A : Around) (outer : List Env) (s : Shared) (H : Hp) (vs : List V) (Q : VK) (E : XK), Room k (A.deeper (envOfC qual (defScope st) s.heap.objs.size f cdv)) → sp vs H Q E →
      ∃ t, PSs (cxOf (L2.CX P w) P w K mg base N qual (defScope st) f cdv A outer s H E).nox (defBody st) t ∧ t { nx := fun _ H' => Q .non H', rt := Q } (start N vs) H) : FnOk P w K mg base (L2.CX P w) (k + 1) f fd ps sp := by
  refine F.okX S len fun cdv A outer s H vs Q E hr h => ?_
  obtain ⟨t, a, b⟩ := hbody cdv A outer s H vs Q E hr h
  exact ⟨t, a.nox, b⟩
theorem okOr {CX : CXT} {k : Nat} {f : Addr} {fd : FuncData} {ps : List Str} {sp sp' : Sp} (F : FnOk P w K mg base CX k f fd ps sp) (G : FnOk P w K mg base CX k f fd ps sp') : FnOk P w K mg base CX k f fd ps (fun vs H Q E => sp vs H Q E ∨ sp' vs H Q E) :=
  ⟨fun vs H Q E q => q.elim (F.len vs H Q E) (G.len vs H Q E), fun A outer s H args us vs Q E hr he hb hv q => q.elim (F.run A outer s H args us vs Q E hr he hb hv) (G.run A outer s H args us vs Q E hr he hb hv)⟩
theorem tk0 {X : Cx} : Takes X (fun _ _ _ _ => False) := takes0
end
/-! ### what a loop, a comprehension, a while asks, closed -/
def ForB (J : It) (g : TG) (tb : TS) (D : Ends) (σ : St) (H : Hp) : Prop := tFor (fun _ H1 R => R J H1) g tb D σ H
theorem tFor_eq (wi : TI) (g : TG) (tb : TS) (D : Ends) (σ : St) (H : Hp) : tFor wi g tb D σ H = wi σ H fun J H1 => ForB J g tb D σ H1 := rfl
def LcA (J : It) (g : TG) (tt : TT) (te : TE) (vs : List Nat) (σ : St) (H : Hp) (Q : VK) : Prop := tLc (fun _ H1 R => R J H1) g tt te vs σ H Q
theorem tLc_eq (wi : TI) (g : TG) (tt : TT) (te : TE) (vs : List Nat) (σ : St) (H : Hp) (Q : VK) : tLc wi g tt te vs σ H Q = wi σ H fun J H1 => LcA J g tt te vs σ H1 Q := rfl
section
variable {J : It} {n : Nat} {G : Hp → Prop} {Y : Nat → Hp → V → Hp → Prop} {g : TG} {tb : TS} {D : Ends} {σ : St} {H : Hp}
theorem forB (w : Walk J n G Y) (Pv : Nat → St → Hp → Prop) (h0 : Pv 0 σ H)
    (hG : ∀ i σ H, i ≤ n → Pv i σ H → G H)
    (hs : ∀ i x σ H H', i < n → Pv i σ H → Y i H x H' →
      g x σ H' fun σ2 H2 => tb { D with nx := Pv (i + 1), ct := Pv (i + 1), bk := D.nx } σ2 H2)
    (hd : ∀ σ H, Pv n σ H → D.nx σ H) : ForB J g tb D σ H := for_it w Pv h0 hG hs hd
theorem lcB {tt : TT} {te : TE} {vs : List Nat} {H1 : Hp} {Q : VK} (w : Walk J n G Y)
    (h : ∀ D, H1 D = none → ∃ Pv : Nat → Hp → Prop, Pv 0 (upd H1 D (.lst [])) ∧ (∀ i H, i ≤ n → Pv i H → G H) ∧
      (∀ i x H H', i < n → Pv i H → Y i H x H' → g x (wipe σ vs) H' fun σ2 H2 => wipe σ2 vs = wipe σ vs ∧ tt σ2 H2 fun b H3 =>
        if b = true then te σ2 H3 (fun y H4 => ∃ acc, H4 D = some (.lst acc) ∧ acc.length < sizeLine ∧ Pv (i + 1) (upd H4 D (.lst (acc ++ [y]))))
        else Pv (i + 1) H3) ∧ ∀ H, Pv n H → Q (.ref D) H) : LcA J g tt te vs σ H1 Q := fun D hD => by
  obtain ⟨Pv, h0, hG, hs, hd⟩ := h D hD
  exact lc_it w Pv h0 hG hs hd
end

theorem seq_step {t u : TS} {D : Ends} {σ : St} {H : Hp} (h : ∀ Z : St → Hp → Prop, (∀ σ' H', u D σ' H' → Z σ' H') → t { D with nx := Z } σ H) : tSeq t u D σ H := h (u D) fun _ _ x => x
/-! ### rules of one kind -/
section
variable {X : Cx}
theorem call_intI : CallR X (.type "int") (fun xs H Q => ∃ i, xs = [.int i] ∧ Q (.int i) H) := fun pins s σ H vs us Q I r h => call_int1 pins s σ H vs us Q I r (.inl h)
theorem call_intB : CallR X (.type "int") (fun xs H Q => ∃ k, xs = [.bl k] ∧ Q (.int (if k then 1 else 0)) H) := fun pins s σ H vs us Q I r h => call_int1 pins s σ H vs us Q I r (.inr h)
theorem call_lenL : CallR X (.builtin "len") (fun xs H Q => ∃ p ys, xs = [.ref p] ∧ SqL X.K H p ys ∧ Q (.int ys.length) H) := fun pins s σ H vs us Q I r ⟨p, ys, e, h, q⟩ => call_len_seq pins s σ H vs us Q I r ⟨p, ys, e, .inl h, q⟩
theorem call_lenT : CallR X (.builtin "len") (fun xs H Q => ∃ p ys, xs = [.ref p] ∧ SqT X.K H p ys ∧ Q (.int ys.length) H) := fun pins s σ H vs us Q I r ⟨p, ys, e, h, q⟩ => call_len_seq pins s σ H vs us Q I r ⟨p, ys, e, .inr h, q⟩
theorem call_listL : CallR X (.type "list") (fun xs H Q => ∃ p ys, xs = [.ref p] ∧ SqL X.K H p ys ∧ ∀ l, H l = none → Q (.ref l) (upd H l (.lst ys))) := fun pins s σ H vs us Q I r ⟨p, ys, e, h, q⟩ => call_list_of pins s σ H vs us Q I r ⟨p, ys, e, .inl h, q⟩
theorem op_eqI : OpR X (compareOp .Eq) (rI0 fun i j => .bl (decide (i = j))) := fun pins s σ H x y u v Q I rx ry ⟨i, j, e1, e2, q⟩ => by
  subst e1 e2
  refine op_eq pins s σ H _ _ u v Q I rx ry ⟨rfl, ?_⟩
  simpa using q
theorem op_neI : OpR X (compareOp .NotEq) (rI0 fun i j => .bl (!decide (i = j))) := fun pins s σ H x y u v Q I rx ry ⟨i, j, e1, e2, q⟩ => by
  subst e1 e2
  refine op_ne pins s σ H _ _ u v Q I rx ry ⟨rfl, ?_⟩
  simpa using q
/-- a list's truth -/
theorem pt_truL {a : Expr} {ta : TE} (ha : PE X a ta) (he : ∀ whole, isTrue a X.env whole = (do let v ← whole; standAt a.pos; holding [v] (truthy v)) := by intro _; rfl) : PT X a (fun σ H Q => ta σ H fun x H' => ∃ p xs, x = .ref p ∧ SqL X.K H' p xs ∧ Q (!xs.isEmpty) H') :=
  ⟨fun pins s σ H Q I h => PyProof.Rows.isTrue_plain (thn (ha.run pins s σ H _ I h) fun v s1 ⟨x, H1, I1, r1, p, xs, e, hs, q1⟩ => tru_ok pins s1 σ H1 x v Q I1 r1 ⟨_, by subst e; exact .inl ⟨xs, hs, rfl⟩, q1⟩) (he _)⟩
end
/-! ### the context's parts -/
section
variable {CX : CXT} {P : Program} {w : World} {K : PySem.W.Frag} {mg : Str → Option Value} {base : Heap} {N : List Str} {qual : Str} {scope : Scope} {f : Addr} {cd : Value} {A : Around} {outer : List Env} {s : Shared} {H : Hp} {E : XK}
theorem cxK : (cxOf CX P w K mg base N qual scope f cd A outer s H E).K = K := rfl
end
/-! ### heaps -/
section
variable {H H' : Hp} {a p : Addr} {o x : HO}
theorem upd_keep (h : H a = some o) (hn : H p = none) : upd H p x a = some o := by rw [upd_ne (ne_of_none h hn)]; exact h
theorem upd_other (h : H a = some o) (hn : a ≠ p) : upd H p x a = some o := by rw [upd_ne hn]; exact h
theorem _root_.L2.Same.get (S : Same H H') (h : H a = some o) : H' a = some o := S _ _ h
theorem same_upd (hn : H p = none) : Same H (upd H p x) := fun b u e => upd_keep e hn
/-- all but what stands at ms is as it was -/
def Keep (ms : List Addr) (H H' : Hp) : Prop := ∀ b o, H b = some o → b ∉ ms → H' b = some o
theorem Keep.get {ms : List Addr} (S : Keep ms H H') (h : H a = some o) (n : a ∉ ms) : H' a = some o := S _ _ h n
theorem _root_.L2.Same.keep {ms : List Addr} (S : Same H H') : Keep ms H H' := fun b o h _ => S b o h
theorem ni1 {b c : Addr} (h : b ≠ c) : b ∉ [c] := by simpa using h
theorem ni2 {b c d : Addr} (h : b ≠ c) (h2 : b ≠ d) : b ∉ [c, d] := by simp [h, h2]
theorem ni3 {b c d e : Addr} (h : b ≠ c) (h2 : b ≠ d) (h3 : b ≠ e) : b ∉ [c, d, e] := by simp [h, h2, h3]
end
theorem line_small {n : Nat} (h : n ≤ 1000) : n ≤ sizeLine := Nat.le_of_lt (small1000 h)
end My

namespace My
open PySem PySem.Spec L2 PySem.W
/-! ### min of a list of tuples of ints -/
abbrev tupD (k : List Int) : PyData := .tuple (k.map .int)
theorem alikeInts : ∀ k k' : List Int, alikeAll (k.map PyData.int) (k'.map PyData.int) = true
  | [], _ => by simp [alikeAll]
  | _ :: _, [] => by simp [alikeAll]
  | a :: r, b :: t => by
    rw [List.map_cons, List.map_cons, alikeAll, alikeInts r t]
    rfl
theorem depthInts : ∀ k : List Int, PyData.depthAll (k.map PyData.int) = 0
  | [] => rfl
  | a :: r => by
    rw [List.map_cons]
    show max 0 (PyData.depthAll (r.map PyData.int)) = 0
    rw [depthInts r]
    rfl
theorem depthTups : ∀ kz : List (List Int), PyData.depthAll (kz.map tupD) ≤ 1
  | [] => by show 0 ≤ 1; omega
  | k :: r => by
    show max (PyData.depthAll (k.map PyData.int) + 1) (PyData.depthAll (r.map tupD)) ≤ 1
    rw [depthInts k]
    have := depthTups r
    omega
theorem lt_tupD (k k' : List Int) : dataLt (tupD k) (tupD k') = decide (k < k') := (dataLt_tuple _ _).trans (dataLt_ints k k')
theorem alikeTups (kz : List (List Int)) : AlikeAll (kz.map tupD) := by
  refine ⟨fun x hx y hy => ?_, fun x hx => ?_⟩
  · obtain ⟨k, _, rfl⟩ := List.mem_map.mp hx
    obtain ⟨k', _, rfl⟩ := List.mem_map.mp hy
    exact alikeInts k k'
  · obtain ⟨k, _, rfl⟩ := List.mem_map.mp hx
    intro e
    cases e
theorem listInt_asymm {a b : List Int} (h : a < b) : ¬ b < a := fun h' => List.lt_irrefl a (List.lt_trans h h')
/-- the first of the least -/
theorem minD_tups : ∀ (kz : List (List Int)) (k : List Int), ∃ m, minD (tupD k) (kz.map tupD) = tupD m ∧ m ∈ k :: kz ∧ ∀ j ∈ k :: kz, ¬ j < m
  | [], k => ⟨k, rfl, by simp, by simp [List.lt_irrefl]⟩
  | x :: r, k => by
    have e : minD (tupD k) ((x :: r).map tupD) = minD (if dataLt (tupD x) (tupD k) then tupD x else tupD k) (r.map tupD) := rfl
    rw [e, lt_tupD]
    by_cases h : x < k
    · rw [if_pos (decide_eq_true h)]
      obtain ⟨m, e1, e2, e3⟩ := minD_tups r x
      refine ⟨m, e1, List.mem_cons_of_mem _ e2, fun j hj => ?_⟩
      rcases List.mem_cons.mp hj with rfl | hj
      · intro hk
        exact e3 x (by simp) (List.lt_trans h hk)
      · exact e3 j hj
    · rw [if_neg (by simpa using h)]
      obtain ⟨m, e1, e2, e3⟩ := minD_tups r k
      refine ⟨m, e1, ?_, fun j hj => ?_⟩
      · rcases List.mem_cons.mp e2 with q | q
        · rw [q]; simp
        · exact List.mem_cons_of_mem _ (List.mem_cons_of_mem _ q)
      · rcases List.mem_cons.mp hj with rfl | hj
        · exact e3 j (by simp)
        · rcases List.mem_cons.mp hj with rfl | hj
          · intro hx
            exact e3 k (by simp) (List.lt_of_le_of_lt (List.not_lt.mp h) hx)
          · exact e3 j (List.mem_cons_of_mem _ hj)
theorem tupD_inj {k k' : List Int} (h : tupD k = tupD k') : k = k' := by
  have e : k.map PyData.int = k'.map PyData.int := by
    injection h
  have inj : ∀ a b : List Int, a.map PyData.int = b.map PyData.int → a = b := by
    intro a
    induction a with
    | nil => intro b hb; cases b with
      | nil => rfl
      | cons y t => cases hb
    | cons x r ih => intro b hb; cases b with
      | nil => cases hb
      | cons y t =>
        rw [List.map_cons, List.map_cons] at hb
        injection hb with h1 h2
        injection h1 with h1
        rw [h1, ih t h2]
  exact inj _ _ e
/-- what min asks of a list of tuples of ints: Q of the item with a least one -/
def rMinT (K : PySem.W.Frag) : List V → Hp → VK → Prop := fun vs H Q => ∃ (a : Addr) (xs : List V) (kz : List (List Int)), vs = [V.ref a] ∧ SqL K H a xs ∧ DpAll K H xs (kz.map tupD) ∧ kz ≠ [] ∧
  ∀ (p : Addr) k, k ∈ kz → (∀ j ∈ kz, ¬ j < k) → SqT K H p (k.map V.int) → Q (.ref p) H
theorem dpInts_inv {K : PySem.W.Frag} {H : Hp} : ∀ {ns : List Int} {xs : List V}, DpAll K H xs (ns.map PyData.int) → xs = ns.map V.int
  | [], _, .nil => rfl
  | n :: r, _, .cons (.int _) h => by rw [dpInts_inv h]; rfl
theorem dpTup_inv {K : PySem.W.Frag} {H : Hp} {k : List Int} {x : V} (h : Dp K H x (tupD k)) : ∃ p, x = .ref p ∧ SqT K H p (k.map V.int) := by
  cases h with
  | tup h1 h2 => exact ⟨_, rfl, by rw [← dpInts_inv h2]; exact h1⟩
theorem dpAll_get {K : PySem.W.Frag} {H : Hp} : ∀ {xs : List V} {ds : List PyData} {i : Nat} {x : V} {d : PyData}, DpAll K H xs ds → xs[i]? = some x → ds[i]? = some d → Dp K H x d
  | _, _, 0, _, _, .cons a _, h1, h2 => by cases h1; cases h2; exact a
  | _, _, i + 1, _, _, .cons _ r, h1, h2 => dpAll_get (i := i) r (by simpa using h1) (by simpa using h2)
  | _, _, _, _, _, .nil, h1, _ => by simp at h1
section
variable {prog : Program} {w : World} {A : Around} {E : Value → Shared → Prop} {s : Shared}
theorem min_data {l : Addr} {vs : Array Value} {x : PyData} {xs : List PyData} {as : List Addr} {Q : Value → Shared → Prop} (hh : A.handled = none) (hl : s.heap.IsList l vs) (rd : ReadsAll s.heap vs.toList (x :: xs) as) (al : AlikeAll (x :: xs)) (hu : A.units + 1 + PyData.depthAll (x :: xs) < cLine)
    (h : ∀ (i : Nat) v h' tk, vs[i]? = some v → (x :: xs)[i]? = some (minD x xs) → (∀ b o, s.heap.get? b = some o → h'.get? b = some o) → Q v { s with heap := h', toks := tk }) :
    wpAny (model prog w) A (call (.builtin "min") [.ref l]) Q E s := by
  have hn : vs.size = xs.length + 1 := readsAll_len rd
  refine call_min_walkH (iter_listW (A := A.in1) hh hl fun s₂ e W st hfp hw hk => ?_)
  refine ⟨_, _, _, _, _, _, _, s.heap, _, rfl, W, st, hfp, by omega, hw, hk, cmpIn_lt (A := A.in1) rd al (by show A.units + 1 + _ < _; exact hu), fun v s' hP m => ?_⟩
  obtain ⟨h', tk, rfl, hk'⟩ := moved_old e rfl m
  have b := argBest_fold dataLt PyData.none x xs xs.length (Nat.le_refl _)
  have e1 : vs.size - 1 = xs.length := by omega
  rw [List.take_length] at b
  rw [e1] at hP
  refine h _ v h' tk hP ?_ hk'
  have lt : argBest (fun i j => dataLt ((x :: xs).getD i PyData.none) ((x :: xs).getD j PyData.none)) xs.length < (x :: xs).length := by
    rw [List.length_cons]
    exact Nat.lt_succ_of_le b.1
  have := b.2
  rw [List.getD_eq_getElem?_getD, List.getElem?_eq_getElem lt] at this
  rw [List.getElem?_eq_getElem lt]
  exact congrArg some this
end
theorem hu8 {k : Nat} {A : Around} (hr : Room k A) : A.units + 8 < cLine := by
  have := hr.units
  omega
theorem cr_minT {X : Cx} (hc : X.calm = true) (hu : X.A.units + 8 < cLine) : CallR X (.builtin "min") (rMinT X.K) := by
  intro pins s σ H vs us Q I r h
  obtain ⟨a, xs, kz, rfl, hs, hd, hne, q⟩ := h
  obtain ⟨its, rv, hl, hz⟩ := I.list hs
  rw [Vals.ref1 r]
  obtain ⟨as, rd⟩ := Dp.readsAll I _ _ _ hd rv
  cases kz with
  | nil => exact absurd rfl hne
  | cons k kz =>
    have dp := depthTups (k :: kz)
    refine min_data (x := tupD k) (xs := kz.map tupD) (I.ok.hd hc) hl.isList rd (alikeTups (k :: kz)) (by
      show X.A.units + 1 + PyData.depthAll ((k :: kz).map tupD) < cLine
      omega) fun i v h' tk hv hm hk => ?_
    obtain ⟨m, e1, e2, e3⟩ := minD_tups kz k
    have hi : its[i]? = some v := by simpa using hv
    cases hx : xs[i]? with
    | none => rw [Vals.none_of rv hx] at hi; cases hi
    | some x =>
      obtain ⟨u, h1, h2⟩ := Vals.get rv hx
      rw [hi] at h1
      cases h1
      rw [e1] at hm
      have dx := dpAll_get hd hx (show ((k :: kz).map tupD)[i]? = some (tupD m) from hm)
      obtain ⟨p, rfl, hp⟩ := dpTup_inv dx
      exact ⟨.ref p, H, I.kept hk, h2, q p m e2 e3 hp⟩
end My

namespace My
open PySem PySem.Spec L2
section
variable {K : PySem.W.Frag} {H H' H1 : Hp} {a p : Addr} {xs : List V} {o : HO}
theorem _root_.L2.SqL.keep1 (h : SqL K H a xs) (hn : H p = none) : SqL K (upd H p o) a xs := (same_upd hn).seq h
theorem at_map {α : Type} {ms : List α} {f : α → V} {i : Nat} {x : V} (h : (ms.map f)[i]? = some x) : ∃ m, ms[i]? = some m ∧ x = f m := by
  rw [List.getElem?_map] at h
  cases e : ms[i]? with
  | none => rw [e] at h; cases h
  | some m => rw [e] at h; exact ⟨m, rfl, (Option.some.inj h).symm⟩
theorem take_map_next {α : Type} {ms : List α} {f : α → V} {i : Nat} {m : α} (h : ms[i]? = some m) : (ms.take (i + 1)).map f = (ms.take i).map f ++ [f m] := by
  rw [List.take_add_one, h]
  simp
theorem take_filter_next {α : Type} {ms : List α} {q : α → Bool} {f : α → V} {i : Nat} {m : α} (h : ms[i]? = some m) : ((ms.take (i + 1)).filter q).map f = ((ms.take i).filter q).map f ++ (if q m = true then [f m] else []) := by
  rw [List.take_add_one, h]
  cases hq : q m <;> simp [hq]
variable {g : TG} {tt : TT} {te : TE} {vs : List Nat} {σ : L2.St} {Q : VK}
/-- a comprehension that only reads: every item by f -/
theorem lcMap {α : Type} {ms : List α} (v f : α → V) (hS : SqL K H1 a (ms.map v)) (hn : ms.length ≤ 1000)
    (step : ∀ m, m ∈ ms → ∀ (H' : Hp) (C : V → Hp → Prop), Same H1 H' → C (f m) H' → g (v m) (wipe σ vs) H' fun σ2 H2 => wipe σ2 vs = wipe σ vs ∧ te σ2 H2 C)
    (hq : ∀ D, H1 D = none → Q (.ref D) (upd H1 D (.lst (ms.map f)))) : LcA (Itl K a) g tYes te vs σ H1 Q := by
  refine lcB (walk_list (xs := ms.map v)) fun D hD => ⟨fun i H => i ≤ ms.length ∧ H = upd H1 D (.lst ((ms.take i).map f)), ⟨Nat.zero_le _, rfl⟩, (fun i H _ h => by rw [h.2]; exact (same_upd hD).seq hS), ?_, ?_⟩
  · rintro i x H H' hi ⟨h1, rfl⟩ ⟨rfl, hx⟩
    obtain ⟨m, hm, rfl⟩ := at_map hx
    have hmem : m ∈ ms := List.mem_of_getElem? hm
    have hlt := (List.getElem?_eq_some_iff.mp hm).1
    have st := step m hmem (upd H1 D (.lst ((ms.take i).map f))) (fun y H4 => ∃ acc, H4 D = some (.lst acc) ∧ acc.length < sizeLine ∧ (i + 1 ≤ ms.length ∧ upd H4 D (.lst (acc ++ [y])) = upd H1 D (.lst ((ms.take (i + 1)).map f)))) (same_upd hD) ?_
    · simpa only [tYes, if_true] using st
    · refine ⟨_, upd_same, ?_, hlt, ?_⟩
      · rw [List.length_map, List.length_take]
        exact Nat.lt_of_le_of_lt (Nat.min_le_left _ _) (small1000 (by omega))
      · rw [upd_upd, take_map_next hm]
  · rintro H ⟨_, rfl⟩
    rw [List.length_map, List.take_length]
    exact hq D hD
/-- .. with a test -/
theorem lcFilter {α : Type} {ms : List α} (v f : α → V) (q : α → Bool) (hS : SqL K H1 a (ms.map v)) (hn : ms.length ≤ 1000)
    (step : ∀ m, m ∈ ms → ∀ (H' : Hp) (C : V → Hp → Prop) (C' : Hp → Prop), Same H1 H' → (q m = true → C (f m) H') → (q m = false → C' H') → g (v m) (wipe σ vs) H' fun σ2 H2 => wipe σ2 vs = wipe σ vs ∧ tt σ2 H2 fun b H3 => if b = true then te σ2 H3 C else C' H3)
    (hq : ∀ D, H1 D = none → Q (.ref D) (upd H1 D (.lst ((ms.filter q).map f)))) : LcA (Itl K a) g tt te vs σ H1 Q := by
  refine lcB (walk_list (xs := ms.map v)) fun D hD => ⟨fun i H => i ≤ ms.length ∧ H = upd H1 D (.lst (((ms.take i).filter q).map f)), ⟨Nat.zero_le _, rfl⟩, (fun i H _ h => by rw [h.2]; exact (same_upd hD).seq hS), ?_, ?_⟩
  · rintro i x H H' hi ⟨h1, rfl⟩ ⟨rfl, hx⟩
    obtain ⟨m, hm, rfl⟩ := at_map hx
    have hmem : m ∈ ms := List.mem_of_getElem? hm
    have hlt := (List.getElem?_eq_some_iff.mp hm).1
    refine step m hmem (upd H1 D (.lst (((ms.take i).filter q).map f))) _ _ (same_upd hD) (fun hq => ?_) (fun hq => ?_)
    · refine ⟨_, upd_same, ?_, hlt, ?_⟩
      · rw [List.length_map]
        refine Nat.lt_of_le_of_lt (List.length_filter_le _ _) ?_
        rw [List.length_take]
        exact Nat.lt_of_le_of_lt (Nat.min_le_left _ _) (small1000 (by omega))
      · rw [upd_upd, take_filter_next hm, if_pos hq]
    · refine ⟨hlt, ?_⟩
      rw [take_filter_next hm, if_neg (by rw [hq]; decide), List.append_nil]
  · rintro H ⟨_, rfl⟩
    rw [List.length_map, List.take_length]
    exact hq D hD
/-- a comprehension over a range whose steps may change the heap: I says what holds behind i of them -/
theorem lcRange {n : Nat} {lo : Int} (I : Nat → List V → Hp → Prop) (hn : n ≤ 1000) (h0 : I 0 [] H1)
    (step : ∀ D i acc H', H1 D = none → i < n → acc.length = i → I i acc H' → H' D = some (.lst acc) → ∀ (C : V → Hp → Prop), (∀ y H4, H4 D = some (.lst acc) → I (i + 1) (acc ++ [y]) H4 → C y H4) → g (.int (lo + i)) (wipe σ vs) H' fun σ2 H2 => wipe σ2 vs = wipe σ vs ∧ te σ2 H2 C)
    (stable : ∀ D i acc H' u, H1 D = none → I i acc H' → I i acc (upd H' D u)) (hq : ∀ D acc H', H1 D = none → acc.length = n → I n acc H' → H' D = some (.lst acc) → Q (.ref D) H') : LcA (Itr lo n) g tYes te vs σ H1 Q := by
  refine lcB (walk_range (lo := lo) (n := n)) fun D hD => ⟨fun i H => ∃ acc, acc.length = i ∧ I i acc H ∧ H D = some (.lst acc), ⟨[], rfl, stable D _ _ _ _ hD h0, upd_same⟩, (fun _ _ _ _ => trivial), ?_, ?_⟩
  · rintro i x H H' hi ⟨acc, hl, hI, hD'⟩ ⟨rfl, rfl⟩
    have st := step D i acc _ hD hi hl hI hD' (fun y H4 => ∃ acc, H4 D = some (.lst acc) ∧ acc.length < sizeLine ∧ ∃ acc', acc'.length = i + 1 ∧ I (i + 1) acc' (upd H4 D (.lst (acc ++ [y]))) ∧ (upd H4 D (.lst (acc ++ [y]))) D = some (.lst acc')) ?_
    · simpa only [tYes, if_true] using st
    · intro y H4 hd hI4
      exact ⟨acc, hd, small1000 (by omega), acc ++ [y], by simp [hl], stable D _ _ _ _ hD hI4, upd_same⟩
  · rintro H ⟨acc, hl, hI, hd⟩
    exact hq D acc H hD hl hI hd
/-! ### slices -/
theorem cutV_ints (ns : List Int) (i j : Nat) : ∃ ms : List Int, cutV (ns.map V.int) (some (i : Int)) (some (j : Int)) = ms.map V.int ∧ ms.length ≤ j - i ∧ ms = (ns.drop (min i ns.length)).take (min j ns.length - min i ns.length) := by
  refine ⟨(ns.drop (min i ns.length)).take (min j ns.length - min i ns.length), ?_, ?_, rfl⟩
  · unfold cutV
    rw [HT.sIx_nat, HT.sIx_nat, List.length_map, List.map_take, List.map_drop]
  · rw [List.length_take]
    omega
end
/-! ### a list that is read while one tray changes -/
def Rd (K : PySem.W.Frag) (a : Addr) (xs : List V) (s : Addr) (H : Hp) : Prop := ∀ H', Keep [s] H H' → SqL K H' a xs
section
variable {K : PySem.W.Frag} {H H' H1 : Hp} {a s : Addr} {xs : List V}
theorem Keep.refl {ms : List Addr} : Keep ms H H := fun _ _ e _ => e
theorem Keep.trans {ms : List Addr} (k : Keep ms H H') (k' : Keep ms H' H1) : Keep ms H H1 := fun b o e n => k' b o (k b o e n) n
theorem Rd.now (h : Rd K a xs s H) : SqL K H a xs := h H Keep.refl
theorem Rd.next (h : Rd K a xs s H) (k : Keep [s] H H') : Rd K a xs s H' := fun H2 k2 => h H2 (k.trans k2)
theorem Rd.of (h : SqL K H a xs) (hs : H s = none) (S : Same H H') : Rd K a xs s H' := fun H2 k => by
  rcases h with (h | ⟨o, h⟩) | h
  · exact .inl (.inl (k _ _ (S _ _ h) (by simpa using ne_of_none h hs)))
  · exact .inl (.inr ⟨o, k _ _ (S _ _ h) (by simpa using ne_of_none h hs)⟩)
  · exact .inr h
theorem keep_upd {o : HO} : Keep [a] H (upd H a o) := fun b u e n => upd_other e (by simpa using n)
end
section
variable {H H' : Hp} {p D : Addr} {ms : List Addr} {u : HO}
theorem Keep.updFresh (k : Keep ms H H') (h : H D = none) : Keep ms H (upd H' D u) := fun b o e n => upd_other (k b o e n) (ne_of_none e h)
theorem Keep.free (k : Keep ms H H') (h : H' p = none) (hm : ∀ b ∈ ms, H' b ≠ none) : H p = none := by
  cases e : H p with
  | none => rfl
  | some o =>
    by_cases hp : p ∈ ms
    · exact absurd h (hm p hp)
    · rw [k p o e hp] at h
      cases h
end
theorem sameF {H H' H1 : Hp} {s : Addr} (hs : H s = none) (S : Same H H') (k : Keep [s] H' H1) : Same H H1 := fun b o e => k b o (S b o e) (by simpa using ne_of_none e hs)
/-- draws of a law: a list of three ints, the last one counts -/
def Src (H : Hp) (a : Addr) (n : Nat) : Prop := ∃ (x f c : Int), H a = some (.lst [.int x, .int f, .int c]) ∧ 0 ≤ c ∧ c ≤ (n : Int)
theorem Src.same {H H' : Hp} {a : Addr} {n : Nat} (h : Src H a n) (S : Same H H') : Src H' a n := by
  obtain ⟨x, f, c, e, h⟩ := h
  exact ⟨x, f, c, S _ _ e, h⟩
theorem Src.keep {H H' : Hp} {a b : Addr} {n : Nat} (h : Src H a n) (S : Keep [b] H H') (hn : a ≠ b) : Src H' a n := by
  obtain ⟨x, f, c, e, h⟩ := h
  exact ⟨x, f, c, S _ _ e (by simpa using hn), h⟩
theorem Src.mono {H : Hp} {a : Addr} {n m : Nat} (h : Src H a n) (l : n ≤ m) : Src H a m := by
  obtain ⟨x, f, c, e, h1, h2⟩ := h
  exact ⟨x, f, c, e, h1, by omega⟩
theorem Src.free {H H' : Hp} {s p : Addr} {n : Nat} (hs : Src H' s n) (k : Keep [s] H H') (h : H' p = none) : H p = none := k.free h fun b hb => by
  obtain ⟨x, f, c, e, _⟩ := hs
  rw [List.mem_singleton.mp hb, e]
  exact nofun
theorem Src.upd {H : Hp} {s D : Addr} {n : Nat} {u : HO} (hs : Src H s n) (h : s ≠ D) : Src (upd H D u) s n := by
  obtain ⟨x, f, c, e, q⟩ := hs
  exact ⟨x, f, c, upd_other e h, q⟩
theorem Src.ne {H : Hp} {a b : Addr} {n : Nat} (h : Src H a n) (hb : H b = none) : a ≠ b := by
  obtain ⟨x, f, c, e, _⟩ := h
  exact ne_of_none e hb
end My

namespace My
open PySem PySem.Spec L2
open PyProof.Rows (envOfC)
theorem ixN_ok {n k : Nat} (h : k < n) : ixN n (k : Int) = some k := by
  unfold ixN
  rw [if_pos (by omega), if_pos (by omega), Int.toNat_natCast]
theorem ixN4 {n : Nat} (z : Int) (k : Nat) (e : z = (k : Int)) (h : k < 4) : ixN (n + 4) z = some k := by rw [e]; exact ixN_ok (by omega)
/-! ### the rules with the written part named -/
section
variable {X : Cx} {K : PySem.W.Frag} {e o value : Expr} {es : List Expr} {f : Str} {pos pos' tpos apos cpos : Pos} {ta tv te to : TE} {t : TA}
theorem pe_fldK (he : PE X e ta) (hb : attributeBase e f X.env (eval e X.env) = eval e X.env := by rfl) (hK : X.K = K := by rfl) :
    PE X (.Attribute e f pos) (tFld K ta f) := by subst hK; exact pe_fld he hb
theorem ps_fldK (ha : PE X o ta) (hv : PE X value tv) (hK : X.K = K := by rfl)
    (hs : swapsWith value (some (.Attribute o f pos')) pos.line X.env = pure false := by rfl) :
    PS X (.Assign [.Attribute o f pos'] value pos) (sFld K ta tv f) := by subst hK; exact ps_fld ha hv hs
theorem ps_fldaugK {op : Operator} {rd : V → V → Hp → VK → Prop} (ha : PE X o ta) (hv : PE X value tv) (hop : InOp X op rd) (hK : X.K = K := by rfl) :
    PS X (.AugAssign (.Attribute o f tpos) op value pos) (sFldAug K ta tv rd f) := by subst hK; exact ps_fldaug ha hv hop
theorem ix_listK (hK : X.K = K := by rfl) : IxR X (rIxL K) := by subst hK; exact ix_list
theorem ix_tupK (hK : X.K = K := by rfl) : IxR X (rIxT K) := by subst hK; exact ix_tup
theorem sl_listK (hK : X.K = K := by rfl) : SlR X (rSlL K) := by subst hK; exact sl_list
theorem call_lenLK (hK : X.K = K := by rfl) : CallR X (.builtin "len") (fun xs H Q => ∃ p ys, xs = [.ref p] ∧ SqL K H p ys ∧ Q (.int ys.length) H) := by subst hK; exact call_lenL
theorem call_lenTK (hK : X.K = K := by rfl) : CallR X (.builtin "len") (fun xs H Q => ∃ p ys, xs = [.ref p] ∧ SqT K H p ys ∧ Q (.int ys.length) H) := by subst hK; exact call_lenT
theorem call_listLK (hK : X.K = K := by rfl) : CallR X (.type "list") (fun xs H Q => ∃ p ys, xs = [.ref p] ∧ SqL K H p ys ∧ ∀ l, H l = none → Q (.ref l) (upd H l (.lst ys))) := by subst hK; exact call_listL
theorem cr_minTK (hc : X.calm = true) (hu : X.A.units + 8 < cLine) (hK : X.K = K := by rfl) : CallR X (.builtin "min") (rMinT K) := by subst hK; exact cr_minT hc hu
theorem cr_allK (hc : X.calm = true) (hK : X.K = K := by rfl) : CallR X (.builtin "all") (rAll K) := by subst hK; exact cr_all hc
theorem cr_anyK (hc : X.calm = true) (hK : X.K = K := by rfl) : CallR X (.builtin "any") (rAny K) := by subst hK; exact cr_any hc
theorem cr_sumK (hc : X.calm = true) (hK : X.K = K := by rfl) : CallR X (.builtin "sum") (rSum K) := by subst hK; exact cr_sum hc
theorem cr_maxK (hc : X.calm = true) (hK : X.K = K := by rfl) : CallR X (.builtin "max") (rMax K) := by subst hK; exact cr_max hc
theorem cr_minK1 (hc : X.calm = true) (hK : X.K = K := by rfl) : CallR X (.builtin "min") (rMin K) := by subst hK; exact cr_min hc
theorem call_isiK1 (hK : X.K = K := by rfl) : CallR X (.builtin "isinstance") (rIsi K) := by subst hK; exact call_isi
theorem call_isiTK (hK : X.K = K := by rfl) : CallR X (.builtin "isinstance") (rIsiT K) := by subst hK; exact call_isiT
theorem op_ltTK (hu : X.A.units < cLine) (hK : X.K = K := by rfl) : OpR X (compareOp .Lt) (rLtT K) := by subst hK; exact op_ltT hu
theorem op_inK (hK : X.K = K := by rfl) : OpR X (compareOp .In) (rIn K false) := by subst hK; exact op_in_seq
theorem op_notInK (hK : X.K = K := by rfl) : OpR X (compareOp .NotIn) (rIn K true) := by subst hK; exact op_notIn_seq
theorem op_eqDK (hu : X.A.units + 64 < cLine) (hK : X.K = K := by rfl) : OpR X (compareOp .Eq) (rEqD K) := by subst hK; exact op_eqD hu
theorem op_neDK (hu : X.A.units + 64 < cLine) (hK : X.K = K := by rfl) : OpR X (compareOp .NotEq) (rNeD K) := by subst hK; exact op_neD hu
theorem pe_bm0K {T name id : String} {r : V → List V → Hp → VK → Prop} (pa : PlainAttrs T) (slot : Slot T name id) (hty : typeOf (.builtin id) = pure (.type "method_descriptor")) (hm : MtR X id r) (ho : PE X o to) (hK : X.K = K := by rfl)
    (hb : attributeBase o name X.env (eval o X.env) = eval o X.env := by rfl) (hl : (apos.endLine == cpos.line) = true := by rfl) :
    PE X (.Call (.Attribute o name apos) [] [] cpos) (tBM0 K T r to) := by subst hK; exact pe_bm0 pa slot hty hm ho hb hl
theorem pe_bmK {T name id : String} {r : V → List V → Hp → VK → Prop} (pa : PlainAttrs T) (slot : Slot T name id) (hty : typeOf (.builtin id) = pure (.type "method_descriptor")) (hm : MtR X id r) (ho : PE X o to) (ha : PA X (e :: es) t) (hK : X.K = K := by rfl)
    (h1 : attributeBase o name X.env (eval o X.env) = eval o X.env := by rfl)
    (h2 : ((backTo cpos (starEach (e :: es) X.env)).all (fun x => !x.1) && (backToKw cpos (keywordEach [] X.env)).all (fun x => x.1.isSome) &&
      decide ((e :: es).length + ([] : List Keyword).length + (if ([] : List Keyword).isEmpty then 0 else 1) < 30)) = true := by rfl)
    (h3 : (apos.endLine == cpos.line) = true := by rfl) (h4 : starEach (e :: es) X.env = (false, eval e X.env) :: starEach es X.env := by rfl)
    (h5 : (backTo cpos (starEach es X.env)).any (·.1) = false := by rfl) :
    PE X (.Call (.Attribute o name apos) (e :: es) [] cpos) (tBM K T r to t) := by subst hK; exact pe_bm pa slot hty hm ho ha h1 h2 h3 h4 h5
theorem pe_remXK {W : WX} (hc : X.calm = true) (tk : Takes X W) (ho : PE X o to) (he : PE X e te) (hK : X.K = K := by rfl)
    (h1 : attributeBase o "remove" X.env (eval o X.env) = eval o X.env := by rfl)
    (h2 : ((backTo cpos (starEach [e] X.env)).all (fun x => !x.1) && (backToKw cpos (keywordEach [] X.env)).all (fun x => x.1.isSome) &&
      decide (([e] : List Expr).length + ([] : List Keyword).length + (if ([] : List Keyword).isEmpty then 0 else 1) < 30)) = true := by rfl)
    (h3 : (apos.endLine == cpos.line) = true := by rfl) (h4 : starEach [e] X.env = (false, eval e X.env) :: starEach [] X.env := by rfl) (h5 : (backTo cpos (starEach [] X.env)).any (·.1) = false := by rfl) :
    PE X (.Call (.Attribute o "remove" apos) [e] [] cpos) (tRemX K W to te) := by subst hK; exact pe_remX hc tk ho he h1 h2 h3 h4 h5
theorem pi_listK {tg l : Expr} {tl : TE} (hl : PE X l tl) (hK : X.K = K := by rfl) : PI X tg l (iList K tl) := by subst hK; exact pi_list hl
theorem pi_tupK {tg l : Expr} {tl : TE} (hl : PE X l tl) (hK : X.K = K := by rfl) : PI X tg l (iTup K tl) := by subst hK; exact pi_tup hl
theorem pi_enumK {p pp : Pos} {elts : List Expr} {kk : Nat} (hg : Gl X "enumerate") (hm : X.mg "enumerate" = none) (ha : PA X [e] t) (hK : X.K = K := by rfl)
    (hs : starEach [e] X.env = [(false, eval e X.env)] := by rfl) : PI X (.Tuple elts kk tpos) (.Call (.Name "enumerate" p) [e] [] pp) (iEnum K t) := by subst hK; exact pi_enum hg hm ha hs
theorem pi_zipK {e2 : Expr} {p pp : Pos} {elts : List Expr} {kk : Nat} (hg : Gl X "zip") (hm : X.mg "zip" = none) (ha : PA X [e, e2] t) (hK : X.K = K := by rfl)
    (hs : starEach [e, e2] X.env = (false, eval e X.env) :: starEach [e2] X.env := by rfl) (h2 : (backTo pp (starEach [e2] X.env)).any (·.1) = false := by rfl) :
    PI X (.Tuple elts kk tpos) (.Call (.Name "zip" p) [e, e2] [] pp) (iZip K t) := by subst hK; exact pi_zip hg hm ha hs h2
theorem pt_truLK {a : Expr} (ha : PE X a ta) (hK : X.K = K := by rfl) (he : ∀ whole, isTrue a X.env whole = (do let v ← whole; standAt a.pos; holding [v] (truthy v)) := by intro _; rfl) :
    PT X a (fun σ H Q => ta σ H fun x H' => ∃ p xs, x = .ref p ∧ SqL K H' p xs ∧ Q (!xs.isEmpty) H') := by subst hK; exact pt_truL ha he
theorem pg_tupK {k n : Nat} {t : TGs} (hc : X.calm = true) (h : PGs X es t) (hK : X.K = K := by rfl)
    (hn : (assignEach es X.env).length = n := by rfl) (hst : (assignEach es X.env).findIdx? (·.1) = none := by rfl) :
    PG X (.Tuple es k pos) (gTup K n t) := by subst hK; exact pg_tup hc h hn hst
/-- f(k = v, ..) alone -/
theorem pe_callN0 {CX : CXT} {k : Nat} {fa : Addr} {fd : FuncData} {ps ks : List Str} {sp : Sp} {E : XK} {x : Str} {p : Pos} {kws : List Keyword} {tk : TA} {g : List Value → List Value → List Value} {gV : List V → List V → List V}
    (F : FnOk X.prog X.w X.K X.mg X.base CX k fa fd ps sp) (hr : Room k X.A) (hg : Gl X x) (hm : X.mg x = some (.ref fa)) (hk : PySem.W.keepIn X.K (.ref fa) = true) (hb : KBn X.K fd ps 0 ks g gV) (hx : Passes CX X E)
    (hkw : PK X kws tk) (hall : (backToKw pos (keywordEach kws X.env)).all (·.1.isSome) = true := by rfl)
    (hks : (backToKw pos (keywordEach kws X.env)).filterMap (·.1) = ks := by rfl) (hdb : (x == ("__debug__" : Str)) = false := by decide)
    (hpl : ((backTo pos (starEach [] X.env)).any (·.1) || (backToKw pos (keywordEach kws X.env)).any (·.1.isNone)) = false := by rfl) :
    PE X (.Call (.Name x p) [] kws pos) (tCallN 0 ks.length sp gV E tNil tk) := by
  refine ⟨fun pins s σ H Q I h => ?_⟩
  refine wpAny_Call_Name_kw (ld_glob I hg hm ?_ hdb)
  refine PySem.W.callWith_KW0 (h₀ := X.base) I.ok.mod.kin hk hall ?_ hpl
  refine thn (hkw.run pos pins s σ H _ I h) fun ws s2 ⟨zs, H2, I2, rz, l1, l2, q2⟩ => ⟨I2.kIn, ?_⟩
  rw [hks]
  exact run_fnN F hr hb hx I2 .nil rz l1 l2 q2
theorem _root_.L2.Vals.getD {zs : List V} {ws : List Value} (r : Vals zs ws) (i : Nat) : RelV (zs.getD i .non) (ws.getD i .none) := by
  rw [List.getD_eq_getElem?_getD, List.getD_eq_getElem?_getD]
  cases e : zs[i]? with
  | none => rw [Vals.none_of r e]; rfl
  | some x =>
    obtain ⟨u, h1, h2⟩ := Vals.get r e
    rw [h1]
    exact h2
end
end My

namespace My
open PySem PySem.Spec L2
/-! ### data made of new objects alone -/
/-- H5 has what H' has and H had not -/
def NewIn (H H' H5 : Hp) : Prop := ∀ b o, H' b = some o → H b = none → H5 b = some o
def New (K : PySem.W.Frag) (H H' : Hp) (r : V) (d : PyData) : Prop := ∀ H5, NewIn H H' H5 → Dp K H5 r d
section
variable {K : PySem.W.Frag} {H H' H'' H1 : Hp} {r : V} {d : PyData} {t : Addr}
theorem New.now (h : New K H H' r d) : Dp K H' r d := h H' fun _ _ e _ => e
theorem New.grow (h : New K H H' r d) (S : Same H' H'') : New K H H'' r d := fun H5 k => h H5 fun b o e n => k b o (S b o e) n
theorem New.back (h : New K H' H'' r d) (S : Same H H') : New K H H'' r d := fun H5 k => h H5 fun b o e n => k b o e (by
  cases q : H b with
  | none => rfl
  | some u => rw [S b u q] at n; cases n)
theorem New.int {i : Int} : New K H H' (.int i) (.int i) := fun _ _ => .int i
theorem New.bl {i : Bool} : New K H H' (.bl i) (.bool i) := fun _ _ => .bl i
theorem New.tup {xs : List V} {ds : List PyData} (ht : H t = none) (h : ∀ H5, DpAll K H5 xs ds) : New K H (upd H t (.tup xs)) (.ref t) (.tuple ds) := fun H5 k => .tup (SqT.of (k t _ upd_same ht)) (h H5)
theorem dpInts : ∀ (ns : List Int) (H : Hp), DpAll K H (ns.map V.int) (ns.map PyData.int)
  | [], _ => .nil
  | n :: r, H => .cons (.int n) (dpInts r H)
theorem New.tup2 {i j : Int} (ht : H t = none) : New K H (upd H t (.tup [.int i, .int j])) (.ref t) (tupD [i, j]) := .tup ht fun H5 => dpInts [i, j] H5
theorem New.tup3 {i j k : Int} (ht : H t = none) : New K H (upd H t (.tup [.int i, .int j, .int k])) (.ref t) (tupD [i, j, k]) := .tup ht fun H5 => dpInts [i, j, k] H5
theorem DpAll.snoc {v : V} {d : PyData} (h : Dp K H v d) : ∀ {vs : List V} {ds : List PyData}, DpAll K H vs ds → DpAll K H (vs ++ [v]) (ds ++ [d])
  | _, _, .nil => .cons h .nil
  | _, _, .cons a r => .cons a (DpAll.snoc h r)
theorem DpAll.len : ∀ {vs : List V} {ds : List PyData}, DpAll K H vs ds → vs.length = ds.length
  | _, _, .nil => rfl
  | _, _, .cons _ r => congrArg (· + 1) (DpAll.len r)
/-- all items are made of objects that are new since H, but for the one at D -/
def NewAll (K : PySem.W.Frag) (H H' : Hp) (D : Addr) (vs : List V) (ds : List PyData) : Prop := ∀ H5, (∀ b o, H' b = some o → H b = none → b ≠ D → H5 b = some o) → DpAll K H5 vs ds
theorem NewAll.now {D : Addr} {vs : List V} {ds : List PyData} (h : NewAll K H H' D vs ds) : DpAll K H' vs ds := h H' fun _ _ e _ _ => e
theorem NewAll.list {D : Addr} {vs : List V} {ds : List PyData} (h : NewAll K H H' D vs ds) (hD : H D = none) (e : H' D = some (.lst vs)) : New K H H' (.ref D) (.list ds) := fun H5 k => .lst (SqL.of (k D _ e hD)) (h H5 fun b o e n _ => k b o e n)
theorem NewAll.next {H4 : Hp} {D : Addr} {vs acc : List V} {ds : List PyData} {y : V} {d : PyData} (h : NewAll K H1 H D vs ds) (S1 : Same H1 H) (S : Same H H4) (hD : H D = some (.lst acc)) (n : New K H H4 y d) (u : HO) : NewAll K H1 (upd H4 D u) D (vs ++ [y]) (ds ++ [d]) := fun H5 k => by
  refine DpAll.snoc (n H5 fun b o e nn => ?_) (h H5 fun b o e nn hb => k b o (upd_other (S b o e) hb) nn hb)
  have hb : b ≠ D := by
    rintro rfl
    rw [hD] at nn
    cases nn
  refine k b o (upd_other e hb) ?_ hb
  cases q : H1 b with
  | none => rfl
  | some x => rw [S1 b x q] at nn; cases nn
variable {g : TG} {tt : TT} {te : TE} {vs : List Nat} {σ : L2.St} {Q : VK} {a : Addr}
/-- a comprehension over what a walk gives, each item's value made of new objects -/
theorem lcW {J : It} {n : Nat} {G : Hp → Prop} {Y : Nat → Hp → V → Hp → Prop} (f : Nat → PyData) (w : Walk J n G Y) (hn : n ≤ 1000) (hG : ∀ H', Same H1 H' → G H')
    (step : ∀ i x H' H2', i < n → Same H1 H' → Y i H' x H2' → ∀ (C : V → Hp → Prop), (∀ y H4, Same H' H4 → New K H' H4 y (f i) → C y H4) → g x (wipe σ vs) H2' fun σ2 H2 => wipe σ2 vs = wipe σ vs ∧ te σ2 H2 C)
    (hq : ∀ D acc H', H1 D = none → Same H1 H' → H' D = some (.lst acc) → NewAll K H1 H' D acc ((List.range n).map f) → Q (.ref D) H') : LcA J g tYes te vs σ H1 Q := by
  refine lcB w fun D hD => ⟨fun i H => ∃ acc, i ≤ n ∧ acc.length = i ∧ Same H1 H ∧ H D = some (.lst acc) ∧ NewAll K H1 H D acc ((List.range i).map f), ⟨[], Nat.zero_le _, rfl, same_upd hD, upd_same, fun H5 _ => .nil⟩, (fun i H _ ⟨acc, _, _, S, _⟩ => hG H S), ?_, ?_⟩
  · rintro i x H H2' hi ⟨acc, h0, h1, S, hd, ha⟩ hy
    have st := step i x H H2' hi S hy (fun y H4 => ∃ acc, H4 D = some (.lst acc) ∧ acc.length < sizeLine ∧ ∃ acc', i + 1 ≤ n ∧ acc'.length = i + 1 ∧ Same H1 (upd H4 D (.lst (acc ++ [y]))) ∧ (upd H4 D (.lst (acc ++ [y]))) D = some (.lst acc') ∧ NewAll K H1 (upd H4 D (.lst (acc ++ [y]))) D acc' ((List.range (i + 1)).map f)) ?_
    · simpa only [tYes, if_true] using st
    · intro y H4 S4 hy4
      refine ⟨acc, S4 _ _ hd, small1000 (by omega), acc ++ [y], hi, by simp [h1], fun b o e => upd_other (S4 _ _ (S _ _ e)) (ne_of_none e hD), upd_same, ?_⟩
      rw [List.range_succ, List.map_append]
      exact ha.next S S4 hd hy4 _
  · rintro H ⟨acc, h0, h1, S, hd, ha⟩
    exact hq D acc H hD S hd ha
/-- .. over a list -/
theorem lcNew {α : Type} {ms : List α} (v : α → V) (f : α → PyData) (hS : SqL K H1 a (ms.map v)) (hn : ms.length ≤ 1000)
    (step : ∀ m, m ∈ ms → ∀ H', Same H1 H' → ∀ (C : V → Hp → Prop), (∀ y H4, Same H' H4 → New K H' H4 y (f m) → C y H4) → g (v m) (wipe σ vs) H' fun σ2 H2 => wipe σ2 vs = wipe σ vs ∧ te σ2 H2 C)
    (hq : ∀ D acc H', H1 D = none → Same H1 H' → H' D = some (.lst acc) → NewAll K H1 H' D acc (ms.map f) → Q (.ref D) H') : LcA (Itl K a) g tYes te vs σ H1 Q := by
  have e : (List.range ms.length).map (fun i => match ms[i]? with | some m => f m | none => .none) = ms.map f := by
    refine List.ext_getElem (by simp) fun i h1 h2 => ?_
    rw [List.length_map, List.length_range] at h1
    rw [List.getElem_map, List.getElem_range, List.getElem_map, List.getElem?_eq_getElem h1]
  refine lcW (K := K) (H1 := H1) (n := (ms.map v).length) (fun i => match ms[i]? with | some m => f m | none => .none) (walk_list (xs := ms.map v)) (by rw [List.length_map]; exact hn) (fun H' S => S.seq hS) ?_ ?_
  · rintro i x H' H2' hi S ⟨rfl, hx⟩ C hC
    obtain ⟨m, hm, rfl⟩ := at_map hx
    refine step m (List.mem_of_getElem? hm) _ S C fun y H4 S4 n => hC y H4 S4 ?_
    rw [hm]
    exact n
  · intro D acc H' hD S hd ha
    rw [List.length_map, e] at ha
    exact hq D acc H' hD S hd ha
end
end My

namespace My
open PySem PySem.Spec L2
def tyD : PyData → String
  | .none => "NoneType"
  | .bool _ => "bool"
  | .int _ => "int"
  | .str _ => "str"
  | .list _ => "list"
  | .tuple _ => "tuple"
  | .dict _ => "dict"
section
variable {K : PySem.W.Frag} {H : Hp} {a : Addr} {xs : List V} {X : Cx}
theorem tyX_list (h : SqL K H a xs) : TyX K H (.ref a) (.type "list") := by
  rcases h with (h | ⟨o, h⟩) | ⟨o, its, n, h1, h2, h3⟩
  · exact .base (.lst h)
  · exact .base (.frz h)
  · exact .kList h1 h2
theorem tyX_tuple (h : SqT K H a xs) : TyX K H (.ref a) (.type "tuple") := by
  rcases h with (h | ⟨o, h⟩) | ⟨o, its, n, h1, h2, h3⟩
  · exact .base (.tup h)
  · exact .fTuple h
  · exact .kTuple h1 h2
theorem tyX_of {x : V} {d : PyData} (h : Dp K H x d) : TyX K H x (.type (tyD d)) := by
  cases h with
  | non => exact .base .non
  | bl b => exact .base (.bl b)
  | int i => exact .base (.int i)
  | str x => exact .base (.str x)
  | lst h _ => exact tyX_list h
  | tup h _ => exact tyX_tuple h
/-- isinstance of data -/
def rIsD (K : PySem.W.Frag) : List V → Hp → VK → Prop := fun xs H Q => ∃ x n d b, xs = [x, .ty n] ∧ Dp K H x d ∧ kitB (tyD d) n = some b ∧ Q (.bl b) H
theorem call_isD (hK : X.K = K := by rfl) : CallR X (.builtin "isinstance") (rIsD K) := fun pins s σ H vs us Q I r ⟨x, n, d, b, e, h, k, q⟩ => by
  subst hK
  exact call_isi pins s σ H vs us Q I r ⟨x, _, _, _, b, e, .ty n, tyX_of h, kit_ty k, q⟩
theorem isd {x : V} {n : String} {d : PyData} {b : Bool} {Q : VK} (h : Dp K H x d) (k : kitB (tyD d) n = some b) (q : Q (.bl b) H) : rIsD K [x, .ty n] H Q := ⟨x, n, d, b, rfl, h, k, q⟩
/-- isinstance against (list, tuple) -/
def rIsD2 (K : PySem.W.Frag) : List V → Hp → VK → Prop := fun xs H Q => ∃ x t n m d b c, xs = [x, .ref t] ∧ H t = some (.tup [.ty n, .ty m]) ∧ Dp K H x d ∧ kitB (tyD d) n = some b ∧ kitB (tyD d) m = some c ∧ Q (.bl (b || c)) H
theorem call_isD2 (hK : X.K = K := by rfl) : CallR X (.builtin "isinstance") (rIsD2 K) := fun pins s σ H vs us Q I r ⟨x, t, n, m, d, b, c, e, ht, h, k, k2, q⟩ => by
  subst hK
  refine call_isiT pins s σ H vs us Q I r ⟨x, t, _, _, _, b || c, e, ht, .cons (.ty n) (.cons (.ty m) .nil), tyX_of h, ?_, q⟩
  refine kitAny_cons (kit_ty k) (fun hb => kitAny_cons (kit_ty k2) (fun hc => ?_) fun hc => ?_) fun hb => ?_
  · rw [hb, hc]; exact kitAny_nil
  · rw [hc, Bool.or_true]
  · rw [hb, Bool.true_or]
theorem call_lenSK (hK : X.K = K := by rfl) : CallR X (.builtin "len") (fun xs H Q => ∃ p ys, xs = [.ref p] ∧ (SqL K H p ys ∨ SqT K H p ys) ∧ Q (.int ys.length) H) := by subst hK; exact call_len_seq
theorem pi_zipAK {e e2 : Expr} {t : TA} {p pp tpos : Pos} {elts : List Expr} {kk : Nat} (hg : Gl X "zip") (hm : X.mg "zip" = none) (ha : PA X [e, e2] t) (hK : X.K = K := by rfl)
    (hs : starEach [e, e2] X.env = (false, eval e X.env) :: starEach [e2] X.env := by rfl) (h2 : (backTo pp (starEach [e2] X.env)).any (·.1) = false := by rfl) :
    PI X (.Tuple elts kk tpos) (.Call (.Name "zip" p) [e, e2] [] pp) (RZ.iZipA K t) := by subst hK; exact RZ.pi_zipA hg hm ha hs h2
theorem walk_zipT {b : Addr} {ys : List V} {n : Nat} (hn : n = min xs.length ys.length) : Walk (RZ.ItzT K a b) n (fun H => SqT K H a xs ∧ SqT K H b ys) (YPair (fun i => xs[i]?) (fun i => ys[i]?)) where
  goes := fun i H hi h => ⟨xs, ys, xs[i]'(by omega), ys[i]'(by omega), h.1, h.2, by simp, by simp⟩
  stops := fun H h => ⟨xs, ys, h.1, h.2, by omega⟩
  yields := fun i H x H' hi h ⟨T, x1, y1, e1, e2, e3, f1, f2⟩ => ⟨T, x1, y1, e1, e2, e3, f1 _ h.1, f2 _ h.2⟩
/-! ### the same data -/
mutual
def okD : PyData → Prop
  | .list xs => xs.length ≤ 1000 ∧ okDs xs
  | .tuple xs => xs.length ≤ 1000 ∧ okDs xs
  | .dict _ => False
  | _ => True
def okDs : List PyData → Prop
  | [] => True
  | x :: xs => okD x ∧ okDs xs
end
theorem okDs_get : ∀ {ds : List PyData} {i : Nat} {d : PyData}, okDs ds → ds[i]? = some d → okD d
  | [], _, _, _, h => by simp at h
  | x :: r, 0, d, ⟨h1, _⟩, h => by cases h; exact h1
  | x :: r, i + 1, d, ⟨_, h2⟩, h => okDs_get (ds := r) (i := i) h2 (by simpa using h)
theorem depth_get : ∀ {ds : List PyData} {i : Nat} {d : PyData}, ds[i]? = some d → d.depth ≤ PyData.depthAll ds
  | [], _, _, h => by simp at h
  | x :: r, 0, d, h => by cases h; exact Nat.le_max_left _ _
  | x :: r, i + 1, d, h => Nat.le_trans (depth_get (ds := r) (i := i) (by simpa using h)) (Nat.le_max_right _ _)
mutual
theorem Dp.same {H H' : Hp} (S : Same H H') : ∀ {v : V} {d : PyData}, Dp K H v d → Dp K H' v d
  | _, _, .non => .non
  | _, _, .bl b => .bl b
  | _, _, .int i => .int i
  | _, _, .str x => .str x
  | _, _, .lst h r => .lst (S.seq h) (DpAll.same S r)
  | _, _, .tup h r => .tup (by
      rcases h with (h | ⟨o, h⟩) | h
      · exact .inl (.inl (S _ _ h))
      · exact .inl (.inr ⟨o, S _ _ h⟩)
      · exact .inr h) (DpAll.same S r)
theorem DpAll.same {H H' : Hp} (S : Same H H') : ∀ {vs : List V} {ds : List PyData}, DpAll K H vs ds → DpAll K H' vs ds
  | _, _, .nil => .nil
  | _, _, .cons h r => .cons (Dp.same S h) (DpAll.same S r)
end
theorem sqT_same {H H' : Hp} (S : Same H H') (h : SqT K H a xs) : SqT K H' a xs := by
  rcases h with (h | ⟨o, h⟩) | h
  · exact .inl (.inl (S _ _ h))
  · exact .inl (.inr ⟨o, S _ _ h⟩)
  · exact .inr h
theorem trues_inv {H : Hp} : ∀ {n : Nat} {acc : List V}, DpAll K H acc ((List.range n).map fun _ => PyData.bool true) → acc = (List.replicate n true).map V.bl := by
  have go : ∀ (ds : List PyData) (acc : List V), (∀ d ∈ ds, d = .bool true) → DpAll K H acc ds → acc = (List.replicate ds.length true).map V.bl := by
    intro ds
    induction ds with
    | nil => intro acc _ h; cases h; rfl
    | cons d r ih =>
      intro acc hd h
      cases h with
      | cons a t =>
        rw [hd d (by simp)] at a
        cases a
        rw [ih _ (fun d' h' => hd d' (by simp [h'])) t]
        rfl
  intro n acc h
  have := go _ _ (by simp) h
  simpa using this
/-- a list of True alone -/
theorem all_true (n : Nat) : (List.replicate n true).all id = true := by simp
end
end My

namespace My
open PySem PySem.Spec L2
def fl (a b c d e f : V) : List (Str × V) := [("row", a), ("drawn", b), ("held", c), ("way", d), ("last", e), ("pile", f)]
theorem kk (s t : String) (h : (Str.ofString s == Str.ofString t) = false) : ¬ Str.ofString s = Str.ofString t := by
  intro e
  rw [e] at h
  simp at h
section
variable {a b c d e f x : V}
theorem fl_row : (fl a b c d e f).lookup ("row" : Str) = some a := rfl
theorem fl_drawn : (fl a b c d e f).lookup ("drawn" : Str) = some b := by rfl
theorem fl_held : (fl a b c d e f).lookup ("held" : Str) = some c := by rfl
theorem fl_way : (fl a b c d e f).lookup ("way" : Str) = some d := by rfl
theorem fl_last : (fl a b c d e f).lookup ("last" : Str) = some e := by rfl
theorem fl_pile : (fl a b c d e f).lookup ("pile" : Str) = some f := by rfl
theorem fl_no_fits : (fl a b c d e f).lookup ("fits" : Str) = none := by rfl
theorem pu_pile : putF "pile" x (fl a b c d e f) = fl a b c d e x := by
  simp only [fl, putF]
  rfl
end
end My

namespace My
open PySem PySem.Spec L2
/-! ### laying, as plain functions -/
def cd (row : List Int) (i : Nat) : Int := row.getD i 0
structure LSt where
  held : List Nat
  way : List (Nat × Nat)
  last : Option Int
  pile : Nat
  drawn : Nat
def fitB (row : List Int) (last : Option Int) (i : Nat) : Bool := match last with
  | none => true
  | some l => decide (l ≤ cd row i)
def layS (row : List Int) (s : LSt) (i p : Nat) : LSt where
  held := s.held.erase i ++ (if s.drawn < row.length then [s.drawn] else [])
  way := s.way ++ [(i, p)]
  last := some (cd row i)
  pile := p
  drawn := if s.drawn < row.length then s.drawn + 1 else s.drawn
theorem layS_held {row : List Int} {s : LSt} {i p : Nat} (h : s.drawn < row.length) : (layS row s i p).held = s.held.erase i ++ [s.drawn] := by
  show s.held.erase i ++ (if s.drawn < row.length then [s.drawn] else []) = _
  rw [if_pos h]
theorem layS_held0 {row : List Int} {s : LSt} {i p : Nat} (h : ¬ s.drawn < row.length) : (layS row s i p).held = s.held.erase i := by
  show s.held.erase i ++ (if s.drawn < row.length then [s.drawn] else []) = _
  rw [if_neg h, List.append_nil]
theorem layS_drawn {row : List Int} {s : LSt} {i p : Nat} (h : s.drawn < row.length) : (layS row s i p).drawn = s.drawn + 1 := if_pos h
theorem layS_drawn0 {row : List Int} {s : LSt} {i p : Nat} (h : ¬ s.drawn < row.length) : (layS row s i p).drawn = s.drawn := if_neg h
/-- i's card is less, or the same and i is not greater -/
def kle (row : List Int) (i j : Nat) : Prop := cd row i < cd row j ∨ (cd row i = cd row j ∧ i ≤ j)
instance (row : List Int) (i j : Nat) : Decidable (kle row i j) := inferInstanceAs (Decidable (_ ∨ _))
theorem kle_refl (row : List Int) (i : Nat) : kle row i i := .inr ⟨rfl, Nat.le_refl _⟩
theorem kle_trans {row : List Int} {i j k : Nat} (a : kle row i j) (b : kle row j k) : kle row i k := by
  unfold kle at *; omega
theorem kle_total (row : List Int) (i j : Nat) : kle row i j ∨ kle row j i := by
  unfold kle; omega
theorem kle_anti {row : List Int} {i j : Nat} (a : kle row i j) (b : kle row j i) : i = j := by
  unfold kle at *; omega
def least (row : List Int) : List Nat → Nat
  | [] => 0
  | [i] => i
  | i :: j :: r => let m := least row (j :: r); if kle row i m then i else m
theorem least_spec (row : List Int) : ∀ is : List Nat, is ≠ [] → least row is ∈ is ∧ ∀ j ∈ is, kle row (least row is) j
  | [], h => absurd rfl h
  | [i], _ => ⟨by simp [least], by intro j hj; rw [List.mem_singleton.mp hj]; exact kle_refl _ _⟩
  | i :: k :: r, _ => by
    obtain ⟨h1, h2⟩ := least_spec row (k :: r) (by simp)
    show (if kle row i (least row (k :: r)) then i else least row (k :: r)) ∈ _ ∧ ∀ j ∈ _, kle row (if kle row i (least row (k :: r)) then i else least row (k :: r)) j
    split
    · rename_i h
      refine ⟨by simp, fun j hj => ?_⟩
      rcases List.mem_cons.mp hj with rfl | hj
      · exact kle_refl _ _
      · exact kle_trans h (h2 j hj)
    · rename_i h
      refine ⟨List.mem_cons_of_mem _ h1, fun j hj => ?_⟩
      rcases List.mem_cons.mp hj with rfl | hj
      · exact (kle_total row j _).resolve_left h
      · exact h2 j hj
theorem least_unique {row : List Int} {is : List Nat} {m : Nat} (hm : m ∈ is) (h : ∀ j ∈ is, kle row m j) : least row is = m := by
  have hne : is ≠ [] := by intro e; rw [e] at hm; cases hm
  obtain ⟨h1, h2⟩ := least_spec row is hne
  exact kle_anti (h2 m hm) (h _ h1)
theorem least_mem {row : List Int} {is : List Nat} (h : is ≠ []) : least row is ∈ is := (least_spec row is h).1
def fitting (row : List Int) (s : LSt) : List Nat := s.held.filter (fitB row s.last)
def stepS (row : List Int) (s : LSt) : LSt :=
  if fitting row s = [] then layS row s (least row s.held) (s.pile + 1) else layS row s (least row (fitting row s)) s.pile
def initS (row : List Int) (h : Nat) : LSt := ⟨List.range (min h row.length), [], none, 0, min h row.length⟩
def goN (row : List Int) : Nat → LSt → LSt
  | 0, s => s
  | k + 1, s => if s.held = [] then s else goN row k (stepS row s)
def restS (row : List Int) (s : LSt) : Nat := s.held.length + (row.length - s.drawn)
def goAll (row : List Int) (s : LSt) : LSt := goN row (restS row s) s
def plainS (row : List Int) (h : Nat) : LSt := goAll row (initS row h)
def plainW (row : List Int) (h : Nat) : List (Nat × Nat) := (plainS row h).way
/-- what holds of each beginning -/
structure WF (row : List Int) (s : LSt) : Prop where
  nd : s.held.Nodup
  lt : ∀ i ∈ s.held, i < s.drawn
  dr : s.drawn ≤ row.length
  len : s.way.length + s.held.length = s.drawn
  ne : s.held = [] → s.drawn = row.length
theorem wf_init (row : List Int) {h : Nat} (hh : 1 ≤ h) : WF row (initS row h) where
  nd := List.nodup_range
  lt := fun i hi => List.mem_range.mp hi
  dr := Nat.min_le_right _ _
  len := by simp [initS]
  ne := by
    intro e
    have := congrArg List.length e
    simp [initS] at this
    show min h row.length = row.length
    rcases this with e | e
    · omega
    · rw [e]; simp
theorem wf_lay {row : List Int} {s : LSt} (W : WF row s) {i p : Nat} (hi : i ∈ s.held) : WF row (layS row s i p) := by
  have hl := List.length_erase_of_mem hi
  have hpos : 0 < s.held.length := List.length_pos_of_mem hi
  have h4 := W.len
  have h3 := W.dr
  by_cases hd : s.drawn < row.length
  · refine ⟨?_, ?_, ?_, ?_, ?_⟩
    · show (s.held.erase i ++ (if s.drawn < row.length then [s.drawn] else [])).Nodup
      rw [if_pos hd]
      refine List.nodup_append.mpr ⟨W.nd.erase i, by simp, ?_⟩
      intro a ha b hb
      rw [List.mem_singleton.mp hb]
      have := W.lt a (List.mem_of_mem_erase ha)
      omega
    · intro j hj
      have hj : j ∈ s.held.erase i ++ (if s.drawn < row.length then [s.drawn] else []) := hj
      show j < (if s.drawn < row.length then s.drawn + 1 else s.drawn)
      rw [if_pos hd] at hj ⊢
      rcases List.mem_append.mp hj with h | h
      · have := W.lt j (List.mem_of_mem_erase h)
        omega
      · rw [List.mem_singleton.mp h]; omega
    · show (if s.drawn < row.length then s.drawn + 1 else s.drawn) ≤ row.length
      rw [if_pos hd]; omega
    · show (s.way ++ [(i, p)]).length + (s.held.erase i ++ (if s.drawn < row.length then [s.drawn] else [])).length = (if s.drawn < row.length then s.drawn + 1 else s.drawn)
      rw [if_pos hd, if_pos hd, List.length_append, List.length_append, hl]
      simp only [List.length_cons, List.length_nil]
      omega
    · intro e
      have e : s.held.erase i ++ (if s.drawn < row.length then [s.drawn] else []) = [] := e
      rw [if_pos hd] at e
      simp at e
  · refine ⟨?_, ?_, ?_, ?_, ?_⟩
    · show (s.held.erase i ++ (if s.drawn < row.length then [s.drawn] else [])).Nodup
      rw [if_neg hd, List.append_nil]
      exact W.nd.erase i
    · intro j hj
      have hj : j ∈ s.held.erase i ++ (if s.drawn < row.length then [s.drawn] else []) := hj
      show j < (if s.drawn < row.length then s.drawn + 1 else s.drawn)
      rw [if_neg hd, List.append_nil] at hj
      rw [if_neg hd]
      exact W.lt j (List.mem_of_mem_erase hj)
    · show (if s.drawn < row.length then s.drawn + 1 else s.drawn) ≤ row.length
      rw [if_neg hd]; exact h3
    · show (s.way ++ [(i, p)]).length + (s.held.erase i ++ (if s.drawn < row.length then [s.drawn] else [])).length = (if s.drawn < row.length then s.drawn + 1 else s.drawn)
      rw [if_neg hd, if_neg hd, List.append_nil, List.length_append, hl]
      simp only [List.length_cons, List.length_nil]
      omega
    · intro _
      show (if s.drawn < row.length then s.drawn + 1 else s.drawn) = row.length
      rw [if_neg hd]; omega
theorem fitting_sub {row : List Int} {s : LSt} {i : Nat} (h : i ∈ fitting row s) : i ∈ s.held := (List.mem_filter.mp h).1
/-- the plain step lays a card of the hand -/
theorem step_is {row : List Int} {s : LSt} (h : s.held ≠ []) : ∃ i p, i ∈ s.held ∧ stepS row s = layS row s i p := by
  unfold stepS
  split
  · exact ⟨_, _, least_mem h, rfl⟩
  · rename_i hf
    exact ⟨_, _, fitting_sub (least_mem hf), rfl⟩
theorem wf_step {row : List Int} {s : LSt} (W : WF row s) (h : s.held ≠ []) : WF row (stepS row s) := by
  obtain ⟨i, p, hi, e⟩ := step_is (row := row) h
  rw [e]
  exact wf_lay W hi
theorem rest_lay {row : List Int} {s : LSt} {i p : Nat} (hi : i ∈ s.held) : restS row (layS row s i p) + 1 = restS row s := by
  have hl := List.length_erase_of_mem hi
  have hpos : 0 < s.held.length := List.length_pos_of_mem hi
  show (s.held.erase i ++ (if s.drawn < row.length then [s.drawn] else [])).length + (row.length - (if s.drawn < row.length then s.drawn + 1 else s.drawn)) + 1 = s.held.length + (row.length - s.drawn)
  by_cases hd : s.drawn < row.length
  · rw [if_pos hd, if_pos hd, List.length_append, hl]
    simp only [List.length_cons, List.length_nil]
    omega
  · rw [if_neg hd, if_neg hd, List.append_nil, hl]
    omega
theorem rest_step {row : List Int} {s : LSt} (h : s.held ≠ []) : restS row (stepS row s) + 1 = restS row s := by
  obtain ⟨i, p, hi, e⟩ := step_is (row := row) h
  rw [e]
  exact rest_lay hi
theorem goAll_done {row : List Int} {s : LSt} (h : s.held = []) : goAll row s = s := by
  unfold goAll
  cases restS row s with
  | zero => rfl
  | succ k => show (if s.held = [] then s else _) = s; rw [if_pos h]
theorem goAll_step {row : List Int} {s : LSt} (h : s.held ≠ []) : goAll row s = goAll row (stepS row s) := by
  unfold goAll
  rw [← rest_step h]
  show (if s.held = [] then s else goN row _ (stepS row s)) = _
  rw [if_neg h]
theorem rest_zero {row : List Int} {s : LSt} (W : WF row s) : restS row s = 0 ↔ s.held = [] := by
  have h3 := W.dr
  constructor
  · intro e
    have : s.held.length = 0 := by unfold restS at e; omega
    exact List.length_eq_zero_iff.mp this
  · intro e
    unfold restS
    rw [W.ne e, e]
    simp
end My

namespace My
open PySem PySem.Spec L2
abbrev nV (i : Nat) : V := .int (i : Int)
def lastV : Option Int → V
  | none => .non
  | some l => .int l
def prV (e : Nat × Nat) : List V := [nV e.1, nV e.2]
def Tups (H : Hp) (ts : List Addr) (w : List (Nat × Nat)) : Prop := Paired (fun t e => H t = some (.tup (prV e))) ts w
theorem Tups.mono {H H' : Hp} {ts : List Addr} {w : List (Nat × Nat)} (h : Tups H ts w) (k : ∀ t xs, H t = some (.tup xs) → H' t = some (.tup xs)) : Tups H' ts w := Paired.mapP h fun _ _ e => k _ _ e
theorem Tups.snoc {H : Hp} {t : Addr} {e : Nat × Nat} (ht : H t = some (.tup (prV e))) : ∀ {ts : List Addr} {w : List (Nat × Nat)}, Tups H ts w → Tups H (ts ++ [t]) (w ++ [e])
  | _, _, .nil => .cons ht .nil
  | _, _, .cons r q => .cons r (Tups.snoc ht q)
theorem Paired.at {α β : Type} {R : α → β → Prop} : ∀ {xs : List α} {ys : List β} {i : Nat} {x : α} {y : β}, Paired R xs ys → xs[i]? = some x → ys[i]? = some y → R x y
  | _, _, 0, _, _, .cons a _, h1, h2 => by cases h1; cases h2; exact a
  | _, _, i + 1, _, _, .cons _ r, h1, h2 => Paired.at (i := i) r (by simpa using h1) (by simpa using h2)
  | _, _, _, _, _, .nil, h1, _ => by simp at h1
theorem Tups.at {H : Hp} {ts : List Addr} {w : List (Nat × Nat)} {i : Nat} {t : Addr} {e : Nat × Nat} (h : Tups H ts w) (h1 : ts[i]? = some t) (h2 : w[i]? = some e) : H t = some (.tup (prV e)) :=
  Paired.at (R := fun t e => H t = some (.tup (prV e))) h h1 h2
def WayAt (H : Hp) (wb : Addr) (w : List (Nat × Nat)) : Prop := ∃ ts, H wb = some (.lst (ts.map V.ref)) ∧ Tups H ts w
theorem WayAt.same {H H' : Hp} {wb : Addr} {w : List (Nat × Nat)} (h : WayAt H wb w) (S : Same H H') : WayAt H' wb w := by
  obtain ⟨ts, e, t⟩ := h
  exact ⟨ts, S _ _ e, t.mono fun _ _ q => S _ _ q⟩
/-- a Laying stands at p, its row at a, its hand at hb, its way at wb -/
structure LayAt (C : Addr) (H : Hp) (p a hb wb : Addr) (row : List Int) (s : LSt) : Prop where
  ob : ∃ dx, H p = some (.ins C dx (fl (.ref a) (nV s.drawn) (.ref hb) (.ref wb) (lastV s.last) (nV s.pile)))
  rw : H a = some (.lst (row.map V.int))
  hd : H hb = some (.lst (s.held.map nV))
  wy : WayAt H wb s.way
  ah : a ≠ hb
  aw : a ≠ wb
  hw : hb ≠ wb
  le : row.length ≤ 1000
section
variable {C : Addr} {H H' : Hp} {p a hb wb : Addr} {row : List Int} {s : LSt}
theorem LayAt.same (L : LayAt C H p a hb wb row s) (S : Same H H') : LayAt C H' p a hb wb row s := by
  obtain ⟨⟨dx, e⟩, h1, h2, h3, h4, h5, h6, h7⟩ := L
  exact ⟨⟨dx, S _ _ e⟩, S _ _ h1, S _ _ h2, h3.same S, h4, h5, h6, h7⟩
theorem keep_write {H : Hp} {ms : List Addr} {b : Addr} {o : HO} (h : b ∈ ms) : Keep ms H (upd H b o) := fun c u e n => upd_other e (by rintro rfl; exact n h)
theorem Tups.wr {H : Hp} {ts : List Addr} {w : List (Nat × Nat)} {b : Addr} {o u : HO} (h : Tups H ts w) (hb : H b = some u) (hu : ∀ xs, u ≠ .tup xs) : Tups (upd H b o) ts w := h.mono fun t xs e => upd_other e (by rintro rfl; rw [e] at hb; exact hu xs (Option.some.inj hb).symm)
theorem Tups.new {H : Hp} {ts : List Addr} {w : List (Nat × Nat)} {b : Addr} {o : HO} (h : Tups H ts w) (hb : H b = none) : Tups (upd H b o) ts w := h.mono fun t xs e => upd_keep e hb
theorem getI_row {row : List Int} {i : Nat} (h : i < row.length) : atI (row.map V.int) (i : Int) = some (.int (cd row i)) := by
  refine atI_nat ?_
  rw [List.getElem?_map, List.getElem?_eq_getElem h]
  show some (V.int row[i]) = _
  unfold cd
  rw [List.getD_eq_getElem?_getD, List.getElem?_eq_getElem h]
  rfl
theorem nV_map (l : List Nat) : l.map nV = (l.map fun i : Nat => (i : Int)).map V.int := by
  rw [List.map_map]
  rfl
theorem erase_cast : ∀ (l : List Nat) (i : Nat), (l.map fun i : Nat => (i : Int)).erase (i : Int) = (l.erase i).map fun i : Nat => (i : Int)
  | [], _ => rfl
  | a :: r, i => by
    by_cases h : a = i
    · subst h
      rw [List.map_cons, List.erase_cons_head, List.erase_cons_head]
    · have h' : ¬ ((a : Int) == (i : Int)) = true := by
        simp only [beq_iff_eq]
        omega
      have h2 : ¬ (a == i) = true := by simpa using h
      rw [List.map_cons, List.erase_cons_tail h', List.erase_cons_tail h2, List.map_cons, erase_cast r i]
theorem least_of {row : List Int} {is : List Nat} {k : List Int} (hk : k ∈ is.map fun i : Nat => [cd row i, (i : Int)]) (h : ∀ j ∈ is.map (fun i : Nat => [cd row i, (i : Int)]), ¬ j < k) : k = [cd row (least row is), ((least row is : Nat) : Int)] := by
  obtain ⟨m, hm, rfl⟩ := List.mem_map.mp hk
  have : least row is = m := least_unique hm fun j hj => by
    have := h _ (List.mem_map.mpr ⟨j, hj, rfl⟩)
    rw [List.cons_lt_cons_iff, List.cons_lt_cons_iff] at this
    unfold kle
    by_cases h1 : cd row j < cd row m
    · exact absurd (Or.inl h1) this
    · by_cases h2 : cd row j = cd row m
      · right
        refine ⟨h2.symm, ?_⟩
        by_cases h3 : (j : Int) < (m : Int)
        · exact absurd (Or.inr ⟨h2, Or.inl h3⟩) this
        · omega
      · left; omega
  rw [this]
theorem range_nV (n : Nat) : rgV 0 (n : Int) = (List.range n).map nV := by
  unfold rgV
  rw [show ((n : Int) - 0).toNat = n by omega]
  refine List.map_congr_left fun i _ => ?_
  show V.int (0 + (i : Int)) = V.int (i : Int)
  rw [Int.zero_add]
theorem min_cast (h : Int) (n : Nat) (hh : 1 ≤ h) : (if (n : Int) < h then (n : Int) else h) = ((min h.toNat n : Nat) : Int) := by
  split <;> omega
end
end My

namespace My
open PySem PySem.Spec L2
/-! ### the plain way, step by step -/
def stN (row : List Int) (h : Nat) : Nat → LSt
  | 0 => initS row h
  | t + 1 => stepS row (stN row h t)
theorem stN_facts (row : List Int) {h : Nat} (hh : 1 ≤ h) : ∀ t, t ≤ row.length → WF row (stN row h t) ∧ restS row (stN row h t) + t = row.length ∧ goAll row (stN row h t) = plainS row h
  | 0, _ => ⟨wf_init row hh, by show (List.range (min h row.length)).length + (row.length - min h row.length) + 0 = row.length; rw [List.length_range]; omega, rfl⟩
  | t + 1, ht => by
    obtain ⟨W, r, g⟩ := stN_facts row hh t (by omega)
    have hne : (stN row h t).held ≠ [] := fun e => by
      have := (rest_zero W).mpr e
      omega
    refine ⟨wf_step W hne, ?_, ?_⟩
    · have := rest_step (row := row) hne
      show restS row (stepS row (stN row h t)) + (t + 1) = row.length
      omega
    · rw [← g, goAll_step hne]; rfl
theorem stN_ne {row : List Int} {h t : Nat} (hh : 1 ≤ h) (ht : t < row.length) : (stN row h t).held ≠ [] := fun e => by
  obtain ⟨W, r, g⟩ := stN_facts row hh t (by omega)
  have := (rest_zero W).mpr e
  omega
theorem stN_end {row : List Int} {h : Nat} (hh : 1 ≤ h) : stN row h row.length = plainS row h := by
  obtain ⟨W, r, g⟩ := stN_facts row hh row.length (Nat.le_refl _)
  rw [← g, goAll_done ((rest_zero W).mp (by omega))]
theorem step_drawn {row : List Int} {s : LSt} (h : s.held ≠ []) : (stepS row s).drawn = if s.drawn < row.length then s.drawn + 1 else s.drawn := by
  obtain ⟨i, p, _, e⟩ := step_is (row := row) h
  rw [e]
  rfl
theorem stN_drawn {row : List Int} {h : Nat} (hh : 1 ≤ h) : ∀ t, t ≤ row.length → (stN row h t).drawn = min (h + t) row.length
  | 0, _ => rfl
  | t + 1, ht => by
    have ih := stN_drawn (row := row) hh t (by omega)
    show (stepS row (stN row h t)).drawn = _
    rw [step_drawn (stN_ne hh (by omega)), ih]
    split <;> omega
theorem stN_way {row : List Int} {h : Nat} (hh : 1 ≤ h) : ∀ t, t ≤ row.length → (stN row h t).way.length = t
  | 0, _ => rfl
  | t + 1, ht => by
    have ih := stN_way (row := row) hh t (by omega)
    obtain ⟨i, p, _, e⟩ := step_is (row := row) (stN_ne hh (show t < row.length by omega))
    show (stepS row (stN row h t)).way.length = _
    rw [e]
    show ((stN row h t).way ++ [(i, p)]).length = _
    rw [List.length_append, ih]
    rfl
/-- which card comes next, and on which pile -/
def pick (row : List Int) (s : LSt) : Nat × Nat := if fitting row s = [] then (least row s.held, s.pile + 1) else (least row (fitting row s), s.pile)
theorem step_pick (row : List Int) (s : LSt) : stepS row s = layS row s (pick row s).1 (pick row s).2 := by
  unfold stepS pick
  split <;> rfl
theorem pick_mem {row : List Int} {s : LSt} (h : s.held ≠ []) : (pick row s).1 ∈ s.held := by
  unfold pick
  split
  · exact least_mem h
  · rename_i hf
    exact fitting_sub (least_mem hf)
theorem lt3 (a b c a' b' c' : Int) : ([a, b, c] : List Int) < [a', b', c'] ↔ a < a' ∨ (a = a' ∧ (b < b' ∨ (b = b' ∧ c < c'))) := by
  rw [List.cons_lt_cons_iff, List.cons_lt_cons_iff, List.cons_lt_cons_iff]
  simp
/-- a card's key: 1 more where it does not fit -/
def key3 (row : List Int) (s : LSt) (i : Nat) : List Int := [(s.pile : Int) + (if fitB row s.last i = true then 0 else 1), cd row i, (i : Int)]
theorem pick_key {row : List Int} {s : LSt} {k : List Int} (hk : k ∈ s.held.map (key3 row s)) (h : ∀ j ∈ s.held.map (key3 row s), ¬ j < k) : k = [((pick row s).2 : Int), cd row (pick row s).1, ((pick row s).1 : Int)] := by
  obtain ⟨m, hm, rfl⟩ := List.mem_map.mp hk
  have hm' : ∀ j ∈ s.held, ¬ key3 row s j < key3 row s m := fun j hj => h _ (List.mem_map.mpr ⟨j, hj, rfl⟩)
  unfold pick
  split
  · rename_i hf
    have nofit : ∀ j ∈ s.held, ¬ fitB row s.last j = true := fun j hj e => by
      have : j ∈ fitting row s := List.mem_filter.mpr ⟨hj, e⟩
      rw [hf] at this
      cases this
    have : least row s.held = m := least_unique hm fun j hj => by
      have := hm' j hj
      unfold key3 at this
      rw [if_neg (nofit j hj), if_neg (nofit m hm), lt3] at this
      unfold kle
      omega
    show key3 row s m = [((s.pile + 1 : Nat) : Int), cd row (least row s.held), ((least row s.held : Nat) : Int)]
    rw [this]
    unfold key3
    rw [if_neg (nofit m hm)]
    rfl
  · rename_i hf
    obtain ⟨x, hx⟩ := List.exists_mem_of_ne_nil _ hf
    have hx2 := List.mem_filter.mp hx
    have fm : fitB row s.last m = true := by
      by_cases e : fitB row s.last m = true
      · exact e
      · have := hm' x hx2.1
        unfold key3 at this
        rw [if_pos hx2.2, if_neg e, lt3] at this
        omega
    have : least row (fitting row s) = m := least_unique (List.mem_filter.mpr ⟨hm, fm⟩) fun j hj => by
      have hj2 := List.mem_filter.mp hj
      have := hm' j hj2.1
      unfold key3 at this
      rw [if_pos hj2.2, if_pos fm, lt3] at this
      unfold kle
      omega
    show key3 row s m = [((s.pile : Nat) : Int), cd row (least row (fitting row s)), ((least row (fitting row s) : Nat) : Int)]
    rw [this]
    unfold key3
    rw [if_pos fm, Int.add_zero]
end My

namespace My
open PySem PySem.Spec L2
abbrev wayD (w : List (Nat × Nat)) : PyData := .list (w.map fun e => tupD [(e.1 : Int), (e.2 : Int)])
abbrev intsD (ns : List Int) : PyData := .list (ns.map PyData.int)
theorem plainW_length (row : List Int) {h : Nat} (hh : 1 ≤ h) : (plainW row h).length = row.length := by
  unfold plainW
  rw [← stN_end hh]
  exact stN_way hh row.length (Nat.le_refl _)
section
variable {K : PySem.W.Frag} {H : Hp} {a b : Addr} {Q : VK}
theorem dpTups : ∀ {ts : List Addr} {w : List (Nat × Nat)}, Tups H ts w → DpAll K H (ts.map V.ref) (w.map fun e => tupD [(e.1 : Int), (e.2 : Int)])
  | _, _, .nil => .nil
  | _, _, .cons (b := e) h r => .cons (.tup (SqT.of h) (dpInts [(e.1 : Int), (e.2 : Int)] H)) (dpTups r)
theorem dpWay {w : List (Nat × Nat)} (h : WayAt H a w) : Dp K H (.ref a) (wayD w) := by
  obtain ⟨ts, e, t⟩ := h
  exact .lst (SqL.of e) (dpTups t)
theorem dpIntL {ns : List Int} (h : SqL K H a (ns.map V.int)) : Dp K H (.ref a) (intsD ns) := .lst h (dpInts ns H)
theorem okDs_ints : ∀ ns : List Int, okDs (ns.map PyData.int)
  | [] => trivial
  | _ :: r => ⟨trivial, okDs_ints r⟩
theorem okDs_way : ∀ w : List (Nat × Nat), okDs (w.map fun e => tupD [(e.1 : Int), (e.2 : Int)])
  | [] => trivial
  | _ :: r => ⟨⟨by simp, okDs_ints _⟩, okDs_way r⟩
theorem okD_way {w : List (Nat × Nat)} (h : w.length ≤ 1000) : okD (wayD w) := ⟨by simpa using h, okDs_way w⟩
theorem okD_ints {ns : List Int} (h : ns.length ≤ 1000) : okD (intsD ns) := ⟨by simpa using h, okDs_ints ns⟩
theorem depth_way (w : List (Nat × Nat)) : (wayD w).depth ≤ 2 := by
  have := depthTups (w.map fun e : Nat × Nat => [(e.1 : Int), (e.2 : Int)])
  rw [List.map_map] at this
  show PyData.depthAll (w.map fun e => tupD [(e.1 : Int), (e.2 : Int)]) + 1 ≤ 2
  have e : (tupD ∘ fun e : Nat × Nat => [(e.1 : Int), (e.2 : Int)]) = fun e : Nat × Nat => tupD [(e.1 : Int), (e.2 : Int)] := rfl
  rw [e] at this
  omega
theorem depth_ints (ns : List Int) : (intsD ns).depth ≤ 1 := by
  show PyData.depthAll (ns.map PyData.int) + 1 ≤ 1
  rw [depthInts]
  omega
theorem canInts : ∀ ns : List Int, PyData.canLayAll0 (ns.map PyData.int) = true
  | [] => rfl
  | _ :: r => by
    rw [List.map_cons, PyData.canLayAll0, canInts r]
    rfl
theorem canTups : ∀ kz : List (List Int), PyData.canLayAll0 (kz.map tupD) = true
  | [] => rfl
  | k :: r => by
    rw [List.map_cons, PyData.canLayAll0, canTups r]
    show ((PyData.canLayAll0 (k.map PyData.int)) && true) = true
    rw [canInts k]
    rfl
theorem shaped_ints (ns : List Int) : SeqAt.shaped (intsD ns) = true := by
  unfold SeqAt.shaped
  rw [show (intsD ns).canLay0 = PyData.canLayAll0 (ns.map PyData.int) from rfl, canInts, decide_eq_true (Nat.le_trans (depth_ints ns) (by decide))]
  rfl
theorem way_tups (w : List (Nat × Nat)) : (w.map fun e => tupD [(e.1 : Int), (e.2 : Int)]) = (w.map fun e : Nat × Nat => [(e.1 : Int), (e.2 : Int)]).map tupD := by
  rw [List.map_map]
  rfl
theorem shaped_way (w : List (Nat × Nat)) : SeqAt.shaped (wayD w) = true := by
  unfold SeqAt.shaped
  rw [show (wayD w).canLay0 = PyData.canLayAll0 (w.map fun e => tupD [(e.1 : Int), (e.2 : Int)]) from rfl, way_tups, canTups, decide_eq_true (Nat.le_trans (depth_way w) (by decide))]
  rfl
theorem eqv_self {d : PyData} (h : SeqAt.shaped d = true) : PyData.eqv d d = true := SeqAt.eqv_refl d (SeqAt.canLay_of_shaped h)
theorem eqD_same {x y : V} {d : PyData} (hx : Dp K H x d) (hy : Dp K H y d) (h : SeqAt.shaped d = true) (q : Q (.bl true) H) : rEqD K x y H Q := ⟨d, d, hx, hy, h, h, by rw [eqv_self h]; exact q⟩
theorem neD_same {x y : V} {d : PyData} (hx : Dp K H x d) (hy : Dp K H y d) (h : SeqAt.shaped d = true) (q : Q (.bl false) H) : rNeD K x y H Q := ⟨d, d, hx, hy, h, h, by rw [eqv_self h]; exact q⟩
end
end My

namespace My
open PySem PySem.Spec L2
/-! ### the piles of a way -/
/-- the piles follow one another without a gap: n of them so far -/
inductive Sted : List (Nat × Nat) → Nat → Prop
  | nil : Sted [] 0
  | snoc {w : List (Nat × Nat)} {n i p : Nat} : Sted w n → (p = n ∨ p + 1 = n) → Sted (w ++ [(i, p)]) (p + 1)
theorem Sted.at {w : List (Nat × Nat)} {n : Nat} (h : Sted w n) : ∀ t (ht : t < w.length), ∃ m, Sted (w.take t) m ∧ ((w[t]).2 = m ∨ (w[t]).2 + 1 = m) := by
  induction h with
  | nil => intro t ht; exact absurd ht (by simp)
  | snoc h0 hp ih =>
    rename_i w n i p
    intro t ht
    rw [List.length_append] at ht
    simp only [List.length_cons, List.length_nil] at ht
    by_cases hl : t < w.length
    · obtain ⟨m, h1, h2⟩ := ih t hl
      refine ⟨m, ?_, ?_⟩
      · rw [List.take_append_of_le_length (by omega)]
        exact h1
      · rw [List.getElem_append_left hl]
        exact h2
    · have e : t = w.length := by omega
      subst e
      refine ⟨n, ?_, ?_⟩
      · rw [List.take_left]
        exact h0
      · rw [List.getElem_append_right (Nat.le_refl _)]
        simpa using hp
theorem Sted.take_next {w : List (Nat × Nat)} {t : Nat} (ht : t < w.length) : w.take (t + 1) = w.take t ++ [w[t]] := by
  rw [List.take_add_one, List.getElem?_eq_getElem ht]
  rfl
theorem Sted.le {w : List (Nat × Nat)} {n : Nat} (h : Sted w n) : n ≤ w.length := by
  induction h with
  | nil => exact Nat.le_refl _
  | snoc h0 hp ih => rw [List.length_append]; simp only [List.length_cons, List.length_nil]; omega
def stepF (f : List Nat) (b p : Nat) : List Nat := (if p = f.length then f ++ [b] else f).set p (b + 1)
def frontsB (w : List (Nat × Nat)) : List Nat × Nat := w.foldl (fun fb e => (stepF fb.1 fb.2 e.2, fb.2 + 1)) ([], 0)
def frontsL (w : List (Nat × Nat)) : List Nat := (frontsB w).1
def stepH (row : List Int) (hs : List (List Int)) (e : Nat × Nat) : List (List Int) :=
  let hs' := if e.2 = hs.length then hs ++ [[]] else hs
  hs'.set e.2 (hs'.getD e.2 [] ++ [cd row e.1])
def heapsL (row : List Int) (w : List (Nat × Nat)) : List (List Int) := w.foldl (stepH row) []
theorem frontsB_snd (w : List (Nat × Nat)) : (frontsB w).2 = w.length := by
  have go : ∀ (w : List (Nat × Nat)) (f : List Nat) (b : Nat), (w.foldl (fun fb e => (stepF fb.1 fb.2 e.2, fb.2 + 1)) (f, b)).2 = b + w.length := by
    intro w
    induction w with
    | nil => intro f b; rfl
    | cons e r ih => intro f b; rw [List.foldl_cons, ih, List.length_cons]; omega
  unfold frontsB
  rw [go]
  omega
theorem frontsL_snoc (w : List (Nat × Nat)) (e : Nat × Nat) : frontsL (w ++ [e]) = stepF (frontsL w) w.length e.2 := by
  unfold frontsL
  rw [← frontsB_snd w]
  unfold frontsB
  rw [List.foldl_append]
  rfl
theorem heapsL_snoc (row : List Int) (w : List (Nat × Nat)) (e : Nat × Nat) : heapsL row (w ++ [e]) = stepH row (heapsL row w) e := by
  unfold heapsL
  rw [List.foldl_append]
  rfl
theorem stepF_new (f : List Nat) (b : Nat) : stepF f b f.length = f ++ [b + 1] := by
  unfold stepF
  rw [if_pos rfl, List.set_append_right _ _ (Nat.le_refl _)]
  simp
theorem stepF_old (f : List Nat) (b p : Nat) (h : p ≠ f.length) : stepF f b p = f.set p (b + 1) := by
  unfold stepF
  rw [if_neg h]
theorem stepH_new (row : List Int) (hs : List (List Int)) (i : Nat) : stepH row hs (i, hs.length) = hs ++ [[cd row i]] := by
  unfold stepH
  simp only [if_true]
  rw [List.set_append_right _ _ (Nat.le_refl _)]
  simp
theorem stepH_old (row : List Int) (hs : List (List Int)) (i p : Nat) (h : p ≠ hs.length) : stepH row hs (i, p) = hs.set p (hs.getD p [] ++ [cd row i]) := by
  unfold stepH
  simp only [if_neg h]
theorem frontsL_len {w : List (Nat × Nat)} {n : Nat} (h : Sted w n) : (frontsL w).length = n := by
  induction h with
  | nil => rfl
  | snoc h0 hp ih =>
    rename_i w n i p
    rw [frontsL_snoc]
    rcases hp with rfl | rfl
    · have := stepF_new (frontsL w) w.length
      rw [ih] at this
      rw [this, List.length_append, ih]
      rfl
    · rw [stepF_old _ _ _ (by rw [ih]; omega), List.length_set, ih]
theorem heapsL_len (row : List Int) {w : List (Nat × Nat)} {n : Nat} (h : Sted w n) : (heapsL row w).length = n := by
  induction h with
  | nil => rfl
  | snoc h0 hp ih =>
    rename_i w n i p
    rw [heapsL_snoc]
    rcases hp with rfl | rfl
    · have := stepH_new row (heapsL row w) i
      rw [ih] at this
      rw [this, List.length_append, ih]
      rfl
    · rw [stepH_old _ _ _ _ (by rw [ih]; omega), List.length_set, ih]
/-- the running sums -/
def sumsF (t : Nat) : List (List Int) → List Nat
  | [] => []
  | h :: r => (t + h.length) :: sumsF (t + h.length) r
theorem sumsF_append : ∀ (hs : List (List Int)) (t : Nat) (h : List Int), sumsF t (hs ++ [h]) = sumsF t hs ++ [t + (hs.map List.length).sum + h.length]
  | [], t, h => by simp [sumsF]
  | a :: r, t, h => by
    rw [List.cons_append, sumsF, sumsF_append r, sumsF, List.map_cons, List.sum_cons]
    rw [show t + a.length + (r.map List.length).sum = t + (a.length + (r.map List.length).sum) by omega]
    rfl
theorem sumsF_len : ∀ (hs : List (List Int)) (t : Nat), (sumsF t hs).length = hs.length
  | [], _ => rfl
  | a :: r, t => by rw [sumsF, List.length_cons, sumsF_len r, List.length_cons]
theorem fronts_sums (row : List Int) {w : List (Nat × Nat)} {n : Nat} (h : Sted w n) : frontsL w = sumsF 0 (heapsL row w) ∧ ((heapsL row w).map List.length).sum = w.length := by
  induction h with
  | nil => exact ⟨rfl, rfl⟩
  | snoc h0 hp ih =>
    rename_i w n i p
    obtain ⟨e1, e2⟩ := ih
    have hl := heapsL_len row h0
    have fl := frontsL_len h0
    rw [frontsL_snoc, heapsL_snoc]
    rcases hp with rfl | rfl
    · have a1 := stepF_new (frontsL w) w.length
      rw [fl] at a1
      have a2 := stepH_new row (heapsL row w) i
      rw [hl] at a2
      rw [a1, a2, sumsF_append, e1, e2]
      refine ⟨?_, ?_⟩
      · simp
      · rw [List.map_append, List.sum_append, e2]
        simp
    · have hne : p ≠ (heapsL row w).length := by omega
      rw [stepF_old _ _ _ (by omega), stepH_old _ _ _ _ hne, e1]
      generalize heapsL row w = hs at *
      obtain ⟨hs0, x, rfl⟩ : ∃ hs0 x, hs = hs0 ++ [x] := by
        have : hs ≠ [] := by intro e; rw [e] at hl; simp at hl
        exact ⟨hs.dropLast, hs.getLast this, (List.dropLast_concat_getLast this).symm⟩
      rw [List.length_append] at hl
      simp only [List.length_cons, List.length_nil] at hl
      have hp0 : p = hs0.length := by omega
      subst hp0
      rw [List.set_append_right _ _ (Nat.le_refl _), sumsF_append]
      have lf := sumsF_len hs0 0
      rw [show hs0.length = (sumsF 0 hs0).length from lf.symm, List.set_append_right _ _ (Nat.le_refl _)]
      rw [List.map_append, List.sum_append] at e2
      simp only [List.map_cons, List.map_nil, List.sum_cons, List.sum_nil, Nat.sub_self, List.set_cons_zero] at e2 ⊢
      rw [lf]
      have eg : (hs0 ++ [x]).getD hs0.length [] = x := by
        rw [List.getD_eq_getElem?_getD, List.getElem?_append_right (Nat.le_refl _)]
        simp
      rw [eg, sumsF_append]
      refine ⟨?_, ?_⟩
      · rw [List.length_append]
        simp only [List.length_cons, List.length_nil]
        congr 2
        omega
      · simp only [List.map_append, List.sum_append, List.length_append, List.map_cons, List.map_nil, List.sum_cons, List.sum_nil, List.length_cons, List.length_nil]
        omega
/-- the plain way's piles have no gap -/
theorem stN_sted {row : List Int} {h : Nat} (hh : 1 ≤ h) : ∀ t, t ≤ row.length → ∃ n, Sted (stN row h t).way n ∧ (t = 0 → n = 0 ∧ (stN row h t).pile = 0 ∧ (stN row h t).last = none) ∧ (t ≠ 0 → n = (stN row h t).pile + 1)
  | 0, _ => ⟨0, .nil, fun _ => ⟨rfl, rfl, rfl⟩, fun h => absurd rfl h⟩
  | t + 1, ht => by
    obtain ⟨n, h1, h2, h3⟩ := stN_sted (row := row) hh t (by omega)
    have hne := stN_ne (row := row) hh (show t < row.length by omega)
    refine ⟨(stN row h (t + 1)).pile + 1, ?_, fun h => absurd h (by omega), fun _ => rfl⟩
    have e : stN row h (t + 1) = layS row (stN row h t) (pick row (stN row h t)).1 (pick row (stN row h t)).2 := step_pick _ _
    rw [e]
    show Sted ((stN row h t).way ++ [((pick row (stN row h t)).1, (pick row (stN row h t)).2)]) ((pick row (stN row h t)).2 + 1)
    refine .snoc h1 ?_
    by_cases h0 : t = 0
    · obtain ⟨a, b, c⟩ := h2 h0
      left
      unfold pick
      have : fitting row (stN row h t) = (stN row h t).held := by
        unfold fitting
        rw [c]
        exact List.filter_eq_self.mpr fun _ _ => rfl
      rw [if_neg (by rw [this]; exact hne), b, a]
    · have := h3 h0
      unfold pick
      split
      · left; show (stN row h t).pile + 1 = n; omega
      · right; show (stN row h t).pile + 1 = n; omega
theorem stN_lt {row : List Int} {h : Nat} (hh : 1 ≤ h) : ∀ t, t ≤ row.length → ∀ e ∈ (stN row h t).way, e.1 < row.length
  | 0, _ => fun e he => by cases he
  | t + 1, ht => by
    have ih := stN_lt (row := row) hh t (by omega)
    obtain ⟨W, _, _⟩ := stN_facts row hh t (by omega)
    have hne := stN_ne (row := row) hh (show t < row.length by omega)
    have e0 : stN row h (t + 1) = layS row (stN row h t) (pick row (stN row h t)).1 (pick row (stN row h t)).2 := step_pick _ _
    intro e he
    rw [e0] at he
    rcases List.mem_append.mp (show e ∈ (stN row h t).way ++ [((pick row (stN row h t)).1, (pick row (stN row h t)).2)] from he) with m | m
    · exact ih e m
    · rw [List.mem_singleton.mp m]
      exact Nat.lt_of_lt_of_le (W.lt _ (pick_mem hne)) W.dr
theorem plainW_lt {row : List Int} {h : Nat} (hh : 1 ≤ h) : ∀ e ∈ plainW row h, e.1 < row.length := by
  unfold plainW
  rw [← stN_end hh]
  exact stN_lt hh row.length (Nat.le_refl _)
theorem plainW_sted (row : List Int) {h : Nat} (hh : 1 ≤ h) : ∃ n, Sted (plainW row h) n := by
  obtain ⟨n, h1, _⟩ := stN_sted (row := row) hh row.length (Nat.le_refl _)
  refine ⟨n, ?_⟩
  unfold plainW
  rw [← stN_end hh]
  exact h1
end My

namespace My
open PySem PySem.Spec L2
/-- at D a list of lists of ints, each of its own -/
structure LL (H : Hp) (D : Addr) (is : List Addr) (hs : List (List Int)) : Prop where
  hd : H D = some (.lst (is.map V.ref))
  nd : is.Nodup
  nD : D ∉ is
  it : Paired (fun i (p : List Int) => H i = some (.lst (p.map V.int))) is hs
section
variable {H H' : Hp} {D q : Addr} {is : List Addr} {hs : List (List Int)} {K : PySem.W.Frag}
theorem paired_app {α β : Type} {R : α → β → Prop} {x : α} {y : β} (h : R x y) : ∀ {xs : List α} {ys : List β}, Paired R xs ys → Paired R (xs ++ [x]) (ys ++ [y])
  | _, _, .nil => .cons h .nil
  | _, _, .cons a r => .cons a (paired_app h r)
theorem paired_mono {α β : Type} {R R' : α → β → Prop} : ∀ {xs : List α} {ys : List β}, Paired R xs ys → (∀ x y, x ∈ xs → R x y → R' x y) → Paired R' xs ys
  | _, _, .nil, _ => .nil
  | _, _, .cons a r, h => .cons (h _ _ (by simp) a) (paired_mono r fun x y hx => h x y (by simp [hx]))
theorem paired_set {α β : Type} {R R' : α → β → Prop} : ∀ {xs : List α} {ys : List β} {k : Nat} {x : α} {y' : β}, Paired R xs ys → xs.Nodup → xs[k]? = some x → R' x y' → (∀ a b, a ∈ xs → a ≠ x → R a b → R' a b) → Paired R' xs (ys.set k y')
  | _, _, k, x, y', .nil, _, h, _, _ => by simp at h
  | _, _, 0, x, y', .cons a r, hn, h, hx, hk => by
    cases h
    have hn := List.nodup_cons.mp hn
    exact .cons hx (paired_mono r fun a b ha hr => hk a b (by simp [ha]) (by rintro rfl; exact hn.1 ha) hr)
  | _, _, k + 1, x, y', .cons (a := a0) a r, hn, h, hx, hk => by
    rw [List.getElem?_cons_succ] at h
    have hn := List.nodup_cons.mp hn
    exact .cons (hk _ _ (by simp) (by rintro rfl; exact hn.1 (List.mem_of_getElem? h)) a) (paired_set (k := k) r hn.2 h hx fun a b ha => hk a b (by simp [ha]))
theorem LL.len (h : LL H D is hs) : is.length = hs.length := Paired.length h.it
theorem LL.get (h : LL H D is hs) {k : Nat} {i : Addr} {p : List Int} (h1 : is[k]? = some i) (h2 : hs[k]? = some p) : H i = some (.lst (p.map V.int)) :=
  Paired.at (R := fun i (p : List Int) => H i = some (.lst (p.map V.int))) h.it h1 h2
theorem LL.same (h : LL H D is hs) (S : Same H H') : LL H' D is hs := ⟨S _ _ h.hd, h.nd, h.nD, paired_mono h.it fun _ _ _ e => S _ _ e⟩
theorem LL.live (h : LL H D is hs) {i : Addr} (hi : i ∈ is) : ∃ p : List Int, H i = some (.lst (p.map V.int)) := by
  obtain ⟨k, hk, rfl⟩ := List.getElem_of_mem hi
  have hl := h.len
  exact ⟨_, h.get (List.getElem?_eq_getElem hk) (List.getElem?_eq_getElem (by omega))⟩
theorem LL.frame (h : LL H D is hs) (k : ∀ b o, H b = some o → (b = D ∨ b ∈ is) → H' b = some o) : LL H' D is hs := ⟨k _ _ h.hd (.inl rfl), h.nd, h.nD, paired_mono h.it fun _ _ m e => k _ _ e (.inr m)⟩
/-- an empty one more -/
theorem LL.push (h : LL H D is hs) (hq : H q = none) : LL (upd (upd H q (.lst [])) D (.lst (is.map V.ref ++ [V.ref q]))) D (is ++ [q]) (hs ++ [[]]) := by
  have nqi : q ∉ is := fun m => by
    obtain ⟨p, e⟩ := h.live m
    rw [e] at hq
    cases hq
  have nqD : q ≠ D := by
    rintro rfl
    rw [h.hd] at hq
    cases hq
  refine ⟨by rw [upd_same, List.map_append]; rfl, List.nodup_append.mpr ⟨h.nd, by simp, fun a ha b hb => by rw [List.mem_singleton.mp hb]; rintro rfl; exact nqi ha⟩, fun m => ?_, ?_⟩
  · rcases List.mem_append.mp m with m | m
    · exact h.nD m
    · exact nqD (List.mem_singleton.mp m).symm
  · refine paired_app (by rw [upd_ne nqD, upd_same]; rfl) (paired_mono h.it fun i p hi e => ?_)
    exact upd_other (upd_keep e hq) (by rintro rfl; exact h.nD hi)
/-- one more card on the k-th -/
theorem LL.app (h : LL H D is hs) {k : Nat} {i : Addr} {p : List Int} {c : Int} (h1 : is[k]? = some i) (h2 : hs[k]? = some p) : LL (upd H i (.lst (p.map V.int ++ [V.int c]))) D is (hs.set k (p ++ [c])) := by
  have hi : i ∈ is := List.mem_of_getElem? h1
  refine ⟨upd_other h.hd (by rintro rfl; exact h.nD hi), h.nd, h.nD, paired_set h.it h.nd h1 (by rw [upd_same, List.map_append]; rfl) fun a b _ ne e => upd_other e ne⟩
theorem LL.dp (h : LL H D is hs) : Dp K H (.ref D) (.list (hs.map intsD)) := by
  refine .lst (SqL.of h.hd) ?_
  have go : ∀ {is : List Addr} {hs : List (List Int)}, Paired (fun i (p : List Int) => H i = some (.lst (p.map V.int))) is hs → DpAll K H (is.map V.ref) (hs.map intsD) := by
    intro is hs h
    induction h with
    | nil => exact .nil
    | cons a _ ih => exact .cons (.lst (SqL.of a) (dpInts _ H)) ih
  exact go h.it
end
theorem paired_take {α β : Type} {R : α → β → Prop} : ∀ {xs : List α} {ys : List β} (k : Nat), Paired R xs ys → Paired R (xs.take k) (ys.take k)
  | _, _, 0, _ => .nil
  | _, _, _ + 1, .nil => .nil
  | _, _, k + 1, .cons a r => .cons a (paired_take k r)
theorem paired_drop {α β : Type} {R : α → β → Prop} : ∀ {xs : List α} {ys : List β} (k : Nat), Paired R xs ys → Paired R (xs.drop k) (ys.drop k)
  | _, _, 0, h => h
  | _, _, _ + 1, .nil => .nil
  | _, _, k + 1, .cons a r => paired_drop k r
theorem paired_cat {α β : Type} {R : α → β → Prop} : ∀ {xs xs' : List α} {ys ys' : List β}, Paired R xs ys → Paired R xs' ys' → Paired R (xs ++ xs') (ys ++ ys')
  | _, _, _, _, .nil, h => h
  | _, _, _, _, .cons a r, h => .cons a (paired_cat r h)
/-- all but the k-th -/
abbrev cutK {α : Type} (xs : List α) (k : Nat) : List α := xs.take k ++ xs.drop (k + 1)
theorem cutK_sub {α : Type} {xs : List α} {k : Nat} {x : α} (h : x ∈ cutK xs k) : x ∈ xs := by
  rcases List.mem_append.mp h with h | h
  · exact List.mem_of_mem_take h
  · exact List.mem_of_mem_drop h
theorem cutK_ne {α : Type} {xs : List α} (hn : xs.Nodup) {k : Nat} {x y : α} (hx : xs[k]? = some x) (h : y ∈ cutK xs k) : y ≠ x := by
  obtain ⟨hk, rfl⟩ := List.getElem?_eq_some_iff.mp hx
  rintro rfl
  rcases List.mem_append.mp h with h | h
  · obtain ⟨j, hj, e⟩ := List.getElem_of_mem h
    rw [List.length_take] at hj
    rw [List.getElem_take] at e
    have := (List.getElem_inj hn).mp e
    omega
  · obtain ⟨j, hj, e⟩ := List.getElem_of_mem h
    rw [List.getElem_drop] at e
    have := (List.getElem_inj hn).mp e
    omega
theorem LL.dpCut {K : PySem.W.Frag} {H H' : Hp} {D : Addr} {is : List Addr} {hs : List (List Int)} (h : LL H D is hs) (k : Nat) (keep : ∀ i ∈ cutK is k, ∀ o, H i = some o → H' i = some o) : DpAll K H' ((cutK is k).map V.ref) ((cutK hs k).map intsD) := by
  have p : Paired (fun i (p : List Int) => H i = some (.lst (p.map V.int))) (cutK is k) (cutK hs k) := paired_cat (paired_take k h.it) (paired_drop (k + 1) h.it)
  have go : ∀ {is : List Addr} {hs : List (List Int)}, Paired (fun i (p : List Int) => H i = some (.lst (p.map V.int))) is hs → (∀ i ∈ is, ∀ o, H i = some o → H' i = some o) → DpAll K H' (is.map V.ref) (hs.map intsD) := by
    intro is hs h
    induction h with
    | nil => intro _; exact .nil
    | cons a _ ih => intro k; exact .cons (.lst (SqL.of (k _ (by simp) _ a)) (dpInts _ H')) (ih fun i hi => k i (by simp [hi]))
  exact go p keep
theorem cutV_to (xs : List V) {k : Nat} (h : k ≤ xs.length) : cutV xs none (some (k : Int)) = xs.take k := by
  unfold cutV
  rw [HT.sIx_none, HT.sIx_nat, Nat.min_eq_left h]
  simp
theorem cutV_from (xs : List V) {k : Nat} (h : k ≤ xs.length) : cutV xs (some (k : Int)) none = xs.drop k := by
  unfold cutV
  rw [HT.sIx_none, HT.sIx_nat, Nat.min_eq_left h, List.take_of_length_le (by rw [List.length_drop]; omega)]
/-- xs[:k] + xs[k + 1:] -/
theorem cutCat {K : PySem.W.Frag} {H : Hp} {a : Addr} {xs : List V} {k : Nat} {QQ : VK} (h : H a = some (.lst xs)) (hk : k < xs.length) (hl : xs.length ≤ 1000)
    (q : ∀ r H', H r = none → Same H H' → H' r = some (.lst (cutK xs k)) → QQ (.ref r) H') :
    ∃ x, SqL K H a x ∧ ∀ p, H p = none → ∃ x1, SqL K (upd H p (.lst (cutV x none (some (k : Int))))) a x1 ∧ ∀ p1, upd H p (.lst (cutV x none (some (k : Int)))) p1 = none →
      rCat (.ref p) (.ref p1) (upd (upd H p (.lst (cutV x none (some (k : Int))))) p1 (.lst (cutV x1 (some ((k : Int) + 1)) none))) QQ := by
  refine ⟨xs, SqL.of h, fun p hp => ⟨xs, SqL.of (upd_keep h hp), fun p1 hp1 => ?_⟩⟩
  rw [cutV_to xs (Nat.le_of_lt hk), show ((k : Int) + 1) = ((k + 1 : Nat) : Int) by omega, cutV_from xs (by omega)] at *
  have S1 := same_upd (x := .lst (xs.take k)) hp
  have S2 := S1.trans (same_upd (x := .lst (xs.drop (k + 1))) hp1)
  refine ⟨p, p1, xs.take k, xs.drop (k + 1), rfl, rfl, upd_keep upd_same hp1, upd_same, ?_, fun r hr => q r _ (S2.free hr) (S2.trans (same_upd hr)) upd_same⟩
  rw [List.length_take, List.length_drop]
  exact Nat.le_trans (by omega) (line_small hl)
abbrev llD (hs : List (List Int)) : PyData := .list (hs.map intsD)
theorem okD_ll {hs : List (List Int)} (h : hs.length ≤ 1000) (hh : ∀ p ∈ hs, p.length ≤ 1000) : okD (llD hs) := by
  refine ⟨by simpa using h, ?_⟩
  have go : ∀ hs : List (List Int), (∀ p ∈ hs, p.length ≤ 1000) → okDs (hs.map intsD) := by
    intro hs
    induction hs with
    | nil => intro _; trivial
    | cons a r ih => intro h; exact ⟨okD_ints (h a (by simp)), ih fun p hp => h p (by simp [hp])⟩
  exact go hs hh
theorem depth_ll (hs : List (List Int)) : (llD hs).depth ≤ 2 := by
  show PyData.depthAll (hs.map intsD) + 1 ≤ 2
  have go : ∀ hs : List (List Int), PyData.depthAll (hs.map intsD) ≤ 1 := by
    intro hs
    induction hs with
    | nil => exact Nat.zero_le _
    | cons a r ih =>
      rw [List.map_cons]
      exact Nat.max_le.mpr ⟨depth_ints a, ih⟩
  have := go hs
  omega
theorem le_sum {l : List Nat} {n : Nat} (h : n ∈ l) : n ≤ l.sum := by
  induction l with
  | nil => cases h
  | cons a r ih =>
    rw [List.sum_cons]
    rcases List.mem_cons.mp h with rfl | h
    · omega
    · have := ih h
      omega
theorem canLL : ∀ hs : List (List Int), PyData.canLayAll0 (hs.map intsD) = true
  | [] => rfl
  | k :: r => by
    rw [List.map_cons, PyData.canLayAll0, canLL r]
    show ((PyData.canLayAll0 (k.map PyData.int)) && true) = true
    rw [canInts k]
    rfl
theorem shaped_ll (hs : List (List Int)) : SeqAt.shaped (llD hs) = true := by
  unfold SeqAt.shaped
  rw [show (llD hs).canLay0 = PyData.canLayAll0 (hs.map intsD) from rfl, canLL, decide_eq_true (Nat.le_trans (depth_ll hs) (by decide))]
  rfl
theorem shaped_nil : SeqAt.shaped (.list []) = true := by decide
theorem eqv_nil (ds : List PyData) : PyData.eqv (.list ds) (.list []) = ds.isEmpty := by
  cases ds with
  | nil => decide
  | cons a r =>
    show PyData.eqv (.list (a :: r)) (.list []) = false
    simp [PyData.eqv, PyData.eqvAll]
theorem ne_nil {K : PySem.W.Frag} {H : Hp} {x y : V} {ds : List PyData} {Q : VK} (hx : Dp K H x (.list ds)) (hs : SeqAt.shaped (.list ds) = true) (hy : Dp K H y (.list [])) (q : Q (.bl (!ds.isEmpty)) H) : rNeD K x y H Q :=
  ⟨_, _, hx, hy, hs, shaped_nil, by rw [eqv_nil]; exact q⟩
/-- the piles of a way have no more cards than it -/
theorem heaps_bound (row : List Int) {w : List (Nat × Nat)} {n : Nat} (h : Sted w n) : ∀ p ∈ heapsL row w, p.length ≤ w.length := fun p hp => by
  have := (fronts_sums row h).2
  have m : p.length ∈ (heapsL row w).map List.length := List.mem_map.mpr ⟨p, hp, rfl⟩
  have := le_sum m
  omega
end My

namespace My
open PySem PySem.Spec L2
/-! ### told entries -/
def ci (i : Nat) : Int := (i : Int)
def cst (e : Nat × Nat) : Int × Int := ((e.1 : Int), (e.2 : Int))
def isHeld (s : LSt) (k : Int) : Bool := decide (k ∈ s.held.map ci)
/-- may the entry come next -/
def allowB (row : List Int) (s : LSt) (e : Int × Int) : Bool :=
  if isHeld s e.1 = true then (if e.2 = (s.pile : Int) then fitB row s.last e.1.toNat else s.last.isSome && decide (e.2 = (s.pile : Int) + 1)) else false
def follow (row : List Int) : LSt → List (Int × Int) → LSt
  | s, [] => s
  | s, e :: r => if allowB row s e = true then follow row (layS row s e.1.toNat e.2.toNat) r else s
/-- the beginnings -/
inductive Reach (row : List Int) (h : Nat) : LSt → Prop
  | init : Reach row h (initS row h)
  | lay {s : LSt} {i p : Nat} : Reach row h s → allowB row s (cst (i, p)) = true → Reach row h (layS row s i p)
theorem held_cast {s : LSt} {k : Int} (h : isHeld s k = true) : k.toNat ∈ s.held ∧ (k.toNat : Int) = k := by
  obtain ⟨i, hi, rfl⟩ := List.mem_map.mp (of_decide_eq_true h)
  exact ⟨by show (i : Int).toNat ∈ s.held; rw [Int.toNat_natCast]; exact hi, by show ((i : Int).toNat : Int) = (i : Int); rw [Int.toNat_natCast]⟩
theorem allow_facts {row : List Int} {s : LSt} {e : Int × Int} (h : allowB row s e = true) : e.1.toNat ∈ s.held ∧ (e.1.toNat : Int) = e.1 ∧ (e.2.toNat : Int) = e.2 ∧ (s.last = none → e.2.toNat = s.pile) ∧ (e.2.toNat = s.pile ∨ e.2.toNat = s.pile + 1) := by
  unfold allowB at h
  by_cases h1 : isHeld s e.1 = true
  · rw [if_pos h1] at h
    obtain ⟨a, b⟩ := held_cast h1
    by_cases h2 : e.2 = (s.pile : Int)
    · refine ⟨a, b, by omega, fun _ => by omega, .inl (by omega)⟩
    · rw [if_neg h2, Bool.and_eq_true, decide_eq_true_eq] at h
      refine ⟨a, b, by omega, fun hn => ?_, .inr (by omega)⟩
      rw [hn] at h
      exact absurd h.1 (by decide)
  · rw [if_neg h1] at h
    cases h
theorem allow_nat {row : List Int} {s : LSt} {i p : Nat} (h : allowB row s (cst (i, p)) = true) : i ∈ s.held ∧ (s.last = none → p = s.pile) ∧ (p = s.pile ∨ p = s.pile + 1) := by
  obtain ⟨a, b, c, d, f⟩ := allow_facts h
  have e1 : (cst (i, p)).1.toNat = i := Int.toNat_natCast _
  have e2 : (cst (i, p)).2.toNat = p := Int.toNat_natCast _
  rw [e1] at a
  rw [e2] at d f
  exact ⟨a, d, f⟩
theorem allow_of {row : List Int} {s : LSt} {i p : Nat} (hi : i ∈ s.held) (h0 : s.last = none → p = s.pile) (h1 : s.last ≠ none → (p = s.pile ∧ fitB row s.last i = true) ∨ p = s.pile + 1) : allowB row s (cst (i, p)) = true := by
  have hh : isHeld s (cst (i, p)).1 = true := decide_eq_true (List.mem_map.mpr ⟨i, hi, rfl⟩)
  unfold allowB
  rw [if_pos hh]
  have e1 : (cst (i, p)).1.toNat = i := Int.toNat_natCast _
  rw [e1]
  by_cases hn : s.last = none
  · rw [h0 hn, if_pos (show (cst (i, s.pile)).2 = (s.pile : Int) from rfl), hn]
    rfl
  · rcases h1 hn with ⟨a, b⟩ | a
    · rw [if_pos (by show (p : Int) = _; omega)]
      exact b
    · rw [if_neg (by show ¬ (p : Int) = _; omega)]
      have : s.last.isSome = true := by cases hl : s.last with | none => exact absurd hl hn | some l => rfl
      rw [this, Bool.true_and, decide_eq_true_eq]
      show (p : Int) = _
      omega
structure ReachF (row : List Int) (h : Nat) (s : LSt) : Prop where
  wf : WF row s
  dr : s.drawn = min (h + s.way.length) row.length
  l0 : s.way = [] → s.last = none ∧ s.pile = 0
  l1 : ∀ w e, s.way = w ++ [e] → s.last = some (cd row e.1) ∧ s.pile = e.2
  st : ∃ n, Sted s.way n ∧ (s.last = none → n = 0) ∧ (s.last ≠ none → n = s.pile + 1)
  lt : ∀ e ∈ s.way, e.1 < row.length
theorem Reach.pile0 {row : List Int} {h : Nat} {s : LSt} (R : Reach row h s) : s.last = none → s.pile = 0 := by
  cases R with
  | init => intro _; rfl
  | lay _ _ => intro e; exact nomatch e
theorem Reach.facts {row : List Int} {h : Nat} (hh : 1 ≤ h) {s : LSt} (R : Reach row h s) : ReachF row h s := by
  induction R with
  | init => exact ⟨wf_init row hh, rfl, fun _ => ⟨rfl, rfl⟩, fun w e he => by simp [initS] at he, ⟨0, .nil, fun _ => rfl, fun h => absurd rfl h⟩, fun e he => by cases he⟩
  | lay R0 hal ih =>
    rename_i s i p
    obtain ⟨hi, h0', h1⟩ := allow_nat hal
    have hp0 := R0.pile0
    obtain ⟨W, d, l0, l1, ⟨n, st, n0, n1⟩, lt⟩ := ih
    refine ⟨wf_lay W hi, ?_, fun e => ?_, fun w e he => ?_, ⟨p + 1, .snoc st ?_, (fun e => nomatch e), fun _ => rfl⟩, fun e he => ?_⟩
    · show (if s.drawn < row.length then s.drawn + 1 else s.drawn) = min (h + (s.way ++ [(i, p)]).length) row.length
      rw [List.length_append]
      simp only [List.length_cons, List.length_nil]
      split <;> omega
    · have e : s.way ++ [(i, p)] = [] := e
      simp at e
    · have he : s.way ++ [(i, p)] = w ++ [e] := he
      have := (List.append_inj' he rfl).2
      cases this
      exact ⟨rfl, rfl⟩
    · by_cases hl : s.last = none
      · left; rw [n0 hl, h0' hl, hp0 hl]
      · have := n1 hl
        rcases h1 with e | e
        · right; omega
        · left; omega
    · rcases List.mem_append.mp (show e ∈ s.way ++ [(i, p)] from he) with m | m
      · exact lt e m
      · rw [List.mem_singleton.mp m]
        exact Nat.lt_of_lt_of_le (W.lt _ hi) W.dr
theorem Reach.next {row : List Int} {h : Nat} (hh : 1 ≤ h) {s : LSt} (R : Reach row h s) {e : Int × Int} (ha : allowB row s e = true) : Reach row h (layS row s e.1.toNat e.2.toNat) := by
  obtain ⟨a, b, c, d, f⟩ := allow_facts ha
  have ee : cst (e.1.toNat, e.2.toNat) = e := by
    show ((e.1.toNat : Int), (e.2.toNat : Int)) = e
    rw [b, c]
  exact .lay R (by rw [ee]; exact ha)
theorem follow_way {row : List Int} {h : Nat} {s : LSt} (R : Reach row h s) : ∀ rest, follow row (initS row h) (s.way.map cst ++ rest) = follow row s rest := by
  induction R with
  | init => intro rest; rfl
  | lay R0 hal ih =>
    rename_i s i p
    intro rest
    show follow row (initS row h) ((s.way ++ [(i, p)]).map cst ++ rest) = _
    rw [List.map_append, List.append_assoc, ih]
    show (if allowB row s (cst (i, p)) = true then follow row (layS row s (cst (i, p)).1.toNat (cst (i, p)).2.toNat) rest else s) = _
    rw [if_pos hal]
    have e1 : (cst (i, p)).1.toNat = i := Int.toNat_natCast _
    have e2 : (cst (i, p)).2.toNat = p := Int.toNat_natCast _
    rw [e1, e2]
theorem follow_reach {row : List Int} {h : Nat} (hh : 1 ≤ h) : ∀ {es : List (Int × Int)} {s : LSt}, Reach row h s → Reach row h (follow row s es)
  | [], _, R => R
  | e :: r, s, R => by
    show Reach row h (if allowB row s e = true then follow row (layS row s e.1.toNat e.2.toNat) r else s)
    split
    · rename_i ha
      exact follow_reach hh (R.next hh ha)
    · exact R
theorem inV_held (s : LSt) (k : Int) : inV (.int k) (s.held.map nV) = isHeld s k := by
  unfold inV isHeld
  rw [List.any_map, Bool.eq_iff_iff, List.any_eq_true, decide_eq_true_eq, List.mem_map]
  constructor
  · rintro ⟨i, hi, e⟩
    refine ⟨i, hi, ?_⟩
    have : ((i : Int) == k) = true := e
    simpa [ci] using this
  · rintro ⟨i, hi, rfl⟩
    refine ⟨i, hi, ?_⟩
    show ((i : Int) == (i : Int)) = true
    simp
theorem flat_held (l : List Nat) : (l.map nV).all flatV = true := by
  rw [List.all_map, List.all_eq_true]
  intro i _
  rfl
theorem if_step {c : TT} {t u : TS} {D : Ends} {σ : L2.St} {H : Hp} (h : ∀ T U : L2.St → Hp → Prop, (∀ σ' H', t D σ' H' → T σ' H') → (∀ σ' H', u D σ' H' → U σ' H') → c σ H fun b H1 => if b = true then T σ H1 else U σ H1) : tIfS c t u D σ H :=
  h (t D) (u D) (fun _ _ x => x) fun _ _ x => x
/-- the number of entries ahead of the first fault or lack -/
def faultO (row : List Int) (h : Nat) (es : List (Int × Int)) : Option Nat :=
  if (follow row (initS row h) es).way.length < es.length ∨ (follow row (initS row h) es).held ≠ [] then some (follow row (initS row h) es).way.length else none
def optV : Option Nat → V
  | none => .non
  | some k => nV k
def optD : Option Nat → PyData
  | none => .none
  | some k => .int (k : Int)
theorem dpOpt {K : PySem.W.Frag} {H : Hp} (o : Option Nat) : Dp K H (optV o) (optD o) := by
  cases o with
  | none => exact .non
  | some k => exact .int _
/-- a comprehension whose test never holds -/
theorem lcNone {n : Nat} {lo : Int} {g : TG} {tt : TT} {te : TE} {vs : List Nat} {σ : L2.St} {H1 : Hp} {Q : VK}
    (step : ∀ i H', i < n → Same H1 H' → ∀ (C : V → Hp → Prop) (C' : Hp → Prop), (∀ H4, Same H' H4 → C' H4) → g (.int (lo + i)) (wipe σ vs) H' fun σ2 H2 => wipe σ2 vs = wipe σ vs ∧ tt σ2 H2 fun b H3 => if b = true then te σ2 H3 C else C' H3)
    (hq : ∀ D H', H1 D = none → Same H1 H' → H' D = some (.lst []) → Q (.ref D) H') : LcA (Itr lo n) g tt te vs σ H1 Q := by
  refine lcB (walk_range (lo := lo) (n := n)) fun D hD => ⟨fun i H => Same H1 H ∧ H D = some (.lst []), ⟨same_upd hD, upd_same⟩, (fun _ _ _ _ => trivial), ?_, ?_⟩
  · rintro i x H H' hi ⟨S, e⟩ ⟨rfl, rfl⟩
    exact step i _ hi S _ _ fun H4 S4 => ⟨S.trans S4, S4 _ _ e⟩
  · rintro H ⟨S, e⟩
    exact hq D H hD S e
mutual
def okS : PyData → Prop
  | .list xs => xs.length ≤ 1000 ∧ okSs xs
  | .tuple xs => xs.length ≤ 1000 ∧ okSs xs
  | .dict _ => False
  | .str _ => False
  | _ => True
def okSs : List PyData → Prop
  | [] => True
  | x :: xs => okS x ∧ okSs xs
end
theorem okSs_get : ∀ {ds : List PyData} {i : Nat} {d : PyData}, okSs ds → ds[i]? = some d → okS d
  | [], _, _, _, h => by simp at h
  | x :: r, 0, d, ⟨h1, _⟩, h => by cases h; exact h1
  | x :: r, i + 1, d, ⟨_, h2⟩, h => okSs_get (ds := r) (i := i) h2 (by simpa using h)
theorem okSs_ints : ∀ ns : List Int, okSs (ns.map PyData.int)
  | [] => trivial
  | _ :: r => ⟨trivial, okSs_ints r⟩
theorem okS_ints {ns : List Int} (h : ns.length ≤ 1000) : okS (.list (ns.map PyData.int)) := ⟨by simpa using h, okSs_ints ns⟩
theorem dpAll_len_get {K : PySem.W.Frag} {H : Hp} : ∀ {xs : List V} {ds : List PyData} {i : Nat} {d : PyData}, DpAll K H xs ds → ds[i]? = some d → ∃ x, xs[i]? = some x ∧ Dp K H x d
  | _, _, 0, _, .cons a _, h => by cases h; exact ⟨_, rfl, a⟩
  | _, _, i + 1, _, .cons _ r, h => by
    obtain ⟨x, e, p⟩ := dpAll_len_get (i := i) r (by simpa using h)
    exact ⟨x, by simpa using e, p⟩
  | _, _, _, _, .nil, h => by simp at h
/-! ### the purse of a law: four ints and the script's cells -/
def Purse (H : Hp) (a : Addr) (n : Nat) : Prop := ∃ (x0 x1 x2 x3 : Int) (cs : List Int), H a = some (.lst (.int x0 :: .int x1 :: .int x2 :: .int x3 :: cs.map V.int)) ∧ 0 ≤ x0 ∧ 0 ≤ x1 ∧ x1 < 2 ^ 62 ∧ 0 ≤ x2 ∧ x2 ≤ (n : Int) ∧ 0 ≤ x3 ∧ (∀ c ∈ cs, 0 ≤ c) ∧ cs.length ≤ 1000
theorem Purse.same {H H' : Hp} {a : Addr} {n : Nat} (h : Purse H a n) (S : Same H H') : Purse H' a n := by
  obtain ⟨x0, x1, x2, x3, cs, e, q⟩ := h
  exact ⟨x0, x1, x2, x3, cs, S _ _ e, q⟩
theorem Purse.mono {H : Hp} {a : Addr} {n m : Nat} (h : Purse H a n) (l : n ≤ m) : Purse H a m := by
  obtain ⟨x0, x1, x2, x3, cs, e, h0, h1, h2, h3, h4, q⟩ := h
  exact ⟨x0, x1, x2, x3, cs, e, h0, h1, h2, h3, by omega, q⟩
theorem Purse.ne {H : Hp} {a b : Addr} {n : Nat} (h : Purse H a n) (hb : H b = none) : a ≠ b := by
  obtain ⟨x0, x1, x2, x3, cs, e, _⟩ := h
  exact ne_of_none e hb
theorem Purse.lst {H : Hp} {a : Addr} {n : Nat} (h : Purse H a n) : ∃ xs, H a = some (.lst xs) := by
  obtain ⟨x0, x1, x2, x3, cs, e, _⟩ := h
  exact ⟨_, e⟩
theorem Purse.upd {H : Hp} {s D : Addr} {n : Nat} {u : HO} (hs : Purse H s n) (h : s ≠ D) : Purse (L2.upd H D u) s n := by
  obtain ⟨x0, x1, x2, x3, cs, e, q⟩ := hs
  exact ⟨x0, x1, x2, x3, cs, upd_other e h, q⟩
theorem Purse.free {H H' : Hp} {s p : Addr} {n : Nat} (hs : Purse H' s n) (k : Keep [s] H H') (h : H' p = none) : H p = none := k.free h fun b hb => by
  obtain ⟨xs, e⟩ := hs.lst
  rw [List.mem_singleton.mp hb, e]
  exact nofun
/-! ### entries at a list -/
def prI (e : Int × Int) : List V := [.int e.1, .int e.2]
def EntT (H : Hp) (ts : List Addr) (es : List (Int × Int)) : Prop := Paired (fun t e => H t = some (.tup (prI e))) ts es
def EntAt (H : Hp) (b : Addr) (es : List (Int × Int)) : Prop := ∃ ts, H b = some (.lst (ts.map V.ref)) ∧ EntT H ts es
theorem EntT.mono {H H' : Hp} {ts : List Addr} {es : List (Int × Int)} (h : EntT H ts es) (k : ∀ t xs, H t = some (.tup xs) → H' t = some (.tup xs)) : EntT H' ts es := Paired.mapP h fun _ _ e => k _ _ e
theorem EntT.at {H : Hp} {ts : List Addr} {es : List (Int × Int)} {i : Nat} {t : Addr} {e : Int × Int} (h : EntT H ts es) (h1 : ts[i]? = some t) (h2 : es[i]? = some e) : H t = some (.tup (prI e)) :=
  Paired.at (R := fun t e => H t = some (.tup (prI e))) h h1 h2
theorem EntT.snoc {H : Hp} {t : Addr} {e : Int × Int} (ht : H t = some (.tup (prI e))) {ts : List Addr} {es : List (Int × Int)} (h : EntT H ts es) : EntT H (ts ++ [t]) (es ++ [e]) := paired_app (R := fun t e => H t = some (.tup (prI e))) ht h
theorem EntAt.same {H H' : Hp} {b : Addr} {es : List (Int × Int)} (h : EntAt H b es) (S : Same H H') : EntAt H' b es := by
  obtain ⟨ts, e, t⟩ := h
  exact ⟨ts, S _ _ e, t.mono fun _ _ q => S _ _ q⟩
theorem EntAt.keep {H H' : Hp} {b s : Addr} {es : List (Int × Int)} {xs : List V} (h : EntAt H b es) (S : Keep [s] H H') (hs : H s = some (.lst xs)) (n : b ≠ s) : EntAt H' b es := by
  obtain ⟨ts, e, t⟩ := h
  exact ⟨ts, S.get e (ni1 n), t.mono fun _ _ q => S.get q (ni1 (by rintro rfl; rw [hs] at q; cases q))⟩
abbrev entD (es : List (Int × Int)) : PyData := .list (es.map fun e => tupD [e.1, e.2])
theorem ent_tups (es : List (Int × Int)) : (es.map fun e => tupD [e.1, e.2]) = (es.map fun e : Int × Int => [e.1, e.2]).map tupD := by
  rw [List.map_map]
  rfl
theorem depth_ent (es : List (Int × Int)) : (entD es).depth ≤ 2 := by
  have := depthTups (es.map fun e : Int × Int => [e.1, e.2])
  rw [← ent_tups] at this
  show PyData.depthAll (es.map fun e => tupD [e.1, e.2]) + 1 ≤ 2
  omega
theorem shaped_ent (es : List (Int × Int)) : SeqAt.shaped (entD es) = true := by
  unfold SeqAt.shaped
  rw [show (entD es).canLay0 = PyData.canLayAll0 (es.map fun e => tupD [e.1, e.2]) from rfl, ent_tups, canTups, decide_eq_true (Nat.le_trans (depth_ent es) (by decide))]
  rfl
theorem okD_ent {es : List (Int × Int)} (h : es.length ≤ 1000) : okD (entD es) := by
  refine ⟨by simpa using h, ?_⟩
  have go : ∀ es : List (Int × Int), okDs (es.map fun e => tupD [e.1, e.2]) := by
    intro es
    induction es with
    | nil => trivial
    | cons a r ih => exact ⟨⟨by simp, okDs_ints _⟩, ih⟩
  exact go es
theorem dpEntT {K : PySem.W.Frag} {H : Hp} : ∀ {ts : List Addr} {es : List (Int × Int)}, EntT H ts es → DpAll K H (ts.map V.ref) (es.map fun e => tupD [e.1, e.2])
  | _, _, .nil => .nil
  | _, _, .cons (b := e) h r => .cons (.tup (SqT.of h) (dpInts [e.1, e.2] H)) (dpEntT r)
theorem dpEnt {K : PySem.W.Frag} {H : Hp} {b : Addr} {es : List (Int × Int)} (h : EntAt H b es) : Dp K H (.ref b) (entD es) := by
  obtain ⟨ts, e, t⟩ := h
  exact .lst (SqL.of e) (dpEntT t)
theorem paired_snoc_inv {α β : Type} {R : α → β → Prop} : ∀ {xs : List α} {ys : List β} {y : β}, Paired R xs (ys ++ [y]) → ∃ xs' x, xs = xs' ++ [x] ∧ Paired R xs' ys ∧ R x y
  | _, [], y, .cons a .nil => ⟨[], _, rfl, .nil, a⟩
  | _, z :: ys, y, .cons (a := x0) a r => by
    obtain ⟨xs', x, rfl, h1, h2⟩ := paired_snoc_inv (ys := ys) r
    exact ⟨x0 :: xs', x, rfl, .cons a h1, h2⟩
theorem lexLt_lt : ∀ ns ms : List Int, HT.lexLt ns ms = decide (ns < ms)
  | [], [] => by rw [HT.lexLt_nil_nil, decide_eq_false (List.lt_irrefl _)]
  | [], y :: ys => by rw [HT.lexLt_nil_cons, decide_eq_true (List.nil_lt_cons y ys)]
  | x :: xs, [] => by rw [HT.lexLt_cons_nil, decide_eq_false (List.not_lt_nil _)]
  | x :: xs, y :: ys => by
    rw [HT.lexLt_cons, lexLt_lt xs ys]
    by_cases h : x = y
    · rw [if_pos h, Bool.eq_iff_iff, decide_eq_true_eq, decide_eq_true_eq, List.cons_lt_cons_iff]
      constructor
      · exact fun q => .inr ⟨h, q⟩
      · rintro (q | ⟨_, q⟩)
        · omega
        · exact q
    · rw [if_neg h, Bool.eq_iff_iff, decide_eq_true_eq, decide_eq_true_eq, List.cons_lt_cons_iff]
      constructor
      · exact fun q => .inl q
      · rintro (q | ⟨q, _⟩)
        · exact q
        · exact absurd q h
theorem entT_way {H : Hp} : ∀ {ts : List Addr} {w : List (Nat × Nat)}, Tups H ts w → EntT H ts (w.map cst)
  | _, _, .nil => .nil
  | _, _, .cons a r => .cons a (entT_way r)
theorem WayAt.ent {H : Hp} {b : Addr} {w : List (Nat × Nat)} (h : WayAt H b w) : EntAt H b (w.map cst) := by
  obtain ⟨ts, e, t⟩ := h
  exact ⟨ts, e, entT_way t⟩
end My

namespace My
open PySem PySem.Spec L2
/-! ### the cards in the hand by what was laid -/
/-- those among the first d that were not laid -/
def leftOf (d : Nat) (w : List (Nat × Nat)) : List Nat := (List.range d).filter fun i => decide (i ∉ w.map Prod.fst)
structure HeldOk (s : LSt) : Prop where
  eq : s.held = leftOf s.drawn s.way
  lt : ∀ e ∈ s.way, e.1 < s.drawn
theorem heldOk_init (row : List Int) (h : Nat) : HeldOk (initS row h) := by
  refine ⟨?_, fun e he => by cases he⟩
  show List.range (min h row.length) = (List.range (min h row.length)).filter _
  rw [List.filter_eq_self.mpr]
  intro i _
  exact decide_eq_true (by show i ∉ ([] : List Nat); simp)
theorem leftOf_lay {d : Nat} {w : List (Nat × Nat)} {i p : Nat} (hw : ∀ e ∈ w, e.1 < d) (hi : i < d) : (leftOf d w).erase i = leftOf d (w ++ [(i, p)]) ∧ leftOf (d + 1) (w ++ [(i, p)]) = leftOf d (w ++ [(i, p)]) ++ [d] := by
  constructor
  · unfold leftOf
    rw [(List.Nodup.sublist List.filter_sublist List.nodup_range).erase_eq_filter, List.filter_filter]
    apply List.filter_congr
    intro k _
    rw [List.map_append]
    simp only [List.mem_append, List.map_cons, List.map_nil, List.mem_singleton, not_or]
    by_cases a : k ∈ w.map Prod.fst <;> by_cases b : k = i <;> simp [a, b]
  · unfold leftOf
    rw [List.range_succ, List.filter_append]
    congr 1
    rw [List.filter_cons, if_pos]
    · rfl
    · refine decide_eq_true fun m => ?_
      obtain ⟨e, he, e1⟩ := List.mem_map.mp m
      rcases List.mem_append.mp he with x | x
      · have := hw e x
        omega
      · rw [List.mem_singleton.mp x] at e1
        have e1 : i = d := e1
        omega
theorem heldOk_lay {row : List Int} {s : LSt} {i p : Nat} (hi : i ∈ s.held) (hl : i < s.drawn) (O : HeldOk s) : HeldOk (layS row s i p) := by
  obtain ⟨e, l⟩ := O
  obtain ⟨a, b⟩ := leftOf_lay (p := p) l hl
  by_cases hd : s.drawn < row.length
  · refine ⟨?_, fun x hx => ?_⟩
    · rw [layS_held hd, layS_drawn hd, e, a]
      exact b.symm
    · rw [layS_drawn hd]
      rcases List.mem_append.mp (show x ∈ s.way ++ [(i, p)] from hx) with m | m
      · have := l x m
        omega
      · rw [List.mem_singleton.mp m]
        show i < _
        omega
  · refine ⟨?_, fun x hx => ?_⟩
    · rw [layS_held0 hd, layS_drawn0 hd, e, a]
      rfl
    · rw [layS_drawn0 hd]
      rcases List.mem_append.mp (show x ∈ s.way ++ [(i, p)] from hx) with m | m
      · exact l x m
      · rw [List.mem_singleton.mp m]
        exact hl
theorem heldOk_step {row : List Int} {s : LSt} (W : WF row s) (hn : s.held ≠ []) (O : HeldOk s) : HeldOk (stepS row s) := by
  rw [step_pick]
  have m := pick_mem (row := row) hn
  exact heldOk_lay m (W.lt _ m) O
theorem stN_heldOk {row : List Int} {h : Nat} (hh : 1 ≤ h) : ∀ t, t ≤ row.length → HeldOk (stN row h t)
  | 0, _ => heldOk_init row h
  | t + 1, ht => heldOk_step (stN_facts row hh t (by omega)).1 (stN_ne hh (by omega)) (stN_heldOk hh t (by omega))
theorem stN_prefix {row : List Int} {h : Nat} (hh : 1 ≤ h) : ∀ d t, t + d ≤ row.length → (stN row h (t + d)).way.take t = (stN row h t).way
  | 0, t, ht => by rw [Nat.add_zero, List.take_of_length_le (by rw [stN_way hh t (by omega)]; exact Nat.le_refl _)]
  | d + 1, t, ht => by
    have e : (stN row h (t + (d + 1))).way = (stN row h (t + d)).way ++ [pick row (stN row h (t + d))] := by
      show (stepS row (stN row h (t + d))).way = _
      rw [step_pick]
      rfl
    rw [e, List.take_append_of_le_length (by rw [stN_way hh _ (by omega)]; omega)]
    exact stN_prefix hh d t (by omega)
/-- the hand before the t-th laying -/
theorem stN_held {row : List Int} {h t : Nat} (hh : 1 ≤ h) (ht : t ≤ row.length) : (stN row h t).held = leftOf (min (h + t) row.length) ((plainW row h).take t) := by
  have := (stN_heldOk hh t ht).eq
  rw [stN_drawn hh t ht] at this
  rw [this]
  congr 1
  have e := stN_prefix (row := row) hh (row.length - t) t (by omega)
  rw [show t + (row.length - t) = row.length by omega, stN_end hh] at e
  exact e.symm
/-- the hands that are met, in their order -/
def metsW (row : List Int) (h : Nat) : List (List Nat) := (List.range row.length).map fun t => leftOf (min (h + t) row.length) ((plainW row h).take t)
def metsT (row : List Int) (h n : Nat) : List (List Nat) := (List.range n).map fun t => leftOf (min (h + t) row.length) ((plainW row h).take t)
theorem metsT_succ (row : List Int) (h n : Nat) : metsT row h (n + 1) = metsT row h n ++ [leftOf (min (h + n) row.length) ((plainW row h).take n)] := by
  unfold metsT
  rw [List.range_succ, List.map_append]
  rfl
/-- one list more -/
theorem LL.pushS {H : Hp} {D q : Addr} {is : List Addr} {hs : List (List Int)} {p : List Int} (h : LL H D is hs) (hq : H q = none) : LL (upd (upd H q (.lst (p.map V.int))) D (.lst (is.map V.ref ++ [V.ref q]))) D (is ++ [q]) (hs ++ [p]) := by
  have nqi : q ∉ is := fun m => by
    obtain ⟨p, e⟩ := h.live m
    rw [e] at hq
    cases hq
  have nqD : q ≠ D := by
    rintro rfl
    rw [h.hd] at hq
    cases hq
  refine ⟨by rw [upd_same, List.map_append]; rfl, List.nodup_append.mpr ⟨h.nd, by simp, fun a ha b hb => by rw [List.mem_singleton.mp hb]; rintro rfl; exact nqi ha⟩, fun m => ?_, ?_⟩
  · rcases List.mem_append.mp m with m | m
    · exact h.nD m
    · exact nqD (List.mem_singleton.mp m).symm
  · refine paired_app (by rw [upd_ne nqD, upd_same]) (paired_mono h.it fun i p hi e => ?_)
    exact upd_other (upd_keep e hq) (by rintro rfl; exact h.nD hi)
/-- a list beside is written -/
theorem LayAt.off {C : Addr} {H : Hp} {p a hb wb D : Addr} {row : List Int} {s : LSt} {zs : List V} {u : HO} (L : LayAt C H p a hb wb row s) (hD : H D = some (.lst zs)) (n1 : D ≠ a) (n2 : D ≠ hb) (n3 : D ≠ wb) : LayAt C (upd H D u) p a hb wb row s := by
  obtain ⟨⟨dx, e⟩, h1, h2, ⟨ts, w1, w2⟩, h4, h5, h6, h7⟩ := L
  refine ⟨⟨dx, upd_other e ?_⟩, upd_other h1 n1.symm, upd_other h2 n2.symm, ⟨ts, upd_other w1 n3.symm, w2.wr hD (fun _ => nofun)⟩, h4, h5, h6, h7⟩
  rintro rfl
  rw [hD] at e
  cases e
end My
namespace My
open PySem PySem.Spec L2
open PyProof.Rows (envOfC)
def top (i : Nat) : Stmt := PySem.Challenge.pw_handpiles_k03_hands_met.main.body.getD i (.Pass ⟨0, 0, 0, 0⟩)
abbrev s__law_cell_at : Stmt := (top 10)
abbrev s__law_source : Stmt := (top 11)
abbrev s__law_draw : Stmt := (top 12)
abbrev s__law_cards : Stmt := (top 13)
abbrev s__law_room : Stmt := (top 14)
abbrev s__law_lay : Stmt := (top 16)
abbrev s__law_held : Stmt := (top 17)
abbrev s_check_hand : Stmt := (top 5)
abbrev s_Laying___init__ : Stmt := (inClass (top 6) 0)
abbrev s_Laying_lay : Stmt := (inClass (top 6) 3)
abbrev s_Laying_fits : Stmt := (inClass (top 6) 1)
abbrev s_Laying_least : Stmt := (inClass (top 6) 5)
abbrev s_Laying_lay_plainly : Stmt := (inClass (top 6) 4)
abbrev s_hands_met : Stmt := (top 8)
abbrev s__law_same : Stmt := (top 15)
abbrev s_law : Stmt := (top 18)
structure Ad where
  f__law_cell_at : Addr
  d__law_cell_at : FuncData
  f__law_source : Addr
  d__law_source : FuncData
  f__law_draw : Addr
  d__law_draw : FuncData
  f__law_cards : Addr
  d__law_cards : FuncData
  f__law_room : Addr
  d__law_room : FuncData
  f__law_lay : Addr
  d__law_lay : FuncData
  f__law_held : Addr
  d__law_held : FuncData
  f_check_hand : Addr
  d_check_hand : FuncData
  f_Laying___init__ : Addr
  d_Laying___init__ : FuncData
  f_Laying_lay : Addr
  d_Laying_lay : FuncData
  f_Laying_fits : Addr
  d_Laying_fits : FuncData
  f_Laying_least : Addr
  d_Laying_least : FuncData
  f_Laying_lay_plainly : Addr
  d_Laying_lay_plainly : FuncData
  f_hands_met : Addr
  d_hands_met : FuncData
  f__law_same : Addr
  d__law_same : FuncData
  f_law : Addr
  d_law : FuncData
  c_Laying : Addr
structure Txt (K : PySem.W.Frag) (mg : Str → Option Value) (A : Ad) : Prop where
  F__law_cell_at : Fun K "_law_cell_at" "_law_cell_at" s__law_cell_at A.f__law_cell_at A.d__law_cell_at
  b__law_cell_at : Binds K A.d__law_cell_at ["script", "place"] []
  m__law_cell_at : mg "_law_cell_at" = some (.ref A.f__law_cell_at)
  F__law_source : Fun K "_law_source" "_law_source" s__law_source A.f__law_source A.d__law_source
  b__law_source : Binds K A.d__law_source ["script", "place"] []
  m__law_source : mg "_law_source" = some (.ref A.f__law_source)
  F__law_draw : Fun K "_law_draw" "_law_draw" s__law_draw A.f__law_draw A.d__law_draw
  b__law_draw : Binds K A.d__law_draw ["source", "many"] []
  m__law_draw : mg "_law_draw" = some (.ref A.f__law_draw)
  F__law_cards : Fun K "_law_cards" "_law_cards" s__law_cards A.f__law_cards A.d__law_cards
  b__law_cards : Binds K A.d__law_cards ["script", "source", "limit"] []
  m__law_cards : mg "_law_cards" = some (.ref A.f__law_cards)
  F__law_room : Fun K "_law_room" "_law_room" s__law_room A.f__law_room A.d__law_room
  b__law_room : Binds K A.d__law_room ["source", "many"] []
  m__law_room : mg "_law_room" = some (.ref A.f__law_room)
  F__law_lay : Fun K "_law_lay" "_law_lay" s__law_lay A.f__law_lay A.d__law_lay
  b__law_lay : Binds K A.d__law_lay ["cards", "room"] []
  m__law_lay : mg "_law_lay" = some (.ref A.f__law_lay)
  F__law_held : Fun K "_law_held" "_law_held" s__law_held A.f__law_held A.d__law_held
  b__law_held : Binds K A.d__law_held ["cards", "room"] []
  m__law_held : mg "_law_held" = some (.ref A.f__law_held)
  F_check_hand : Fun K "check_hand" "check_hand" s_check_hand A.f_check_hand A.d_check_hand
  b_check_hand : Binds K A.d_check_hand ["hand"] []
  m_check_hand : mg "check_hand" = some (.ref A.f_check_hand)
  F_Laying___init__ : Fun K "__init__" "Laying.__init__" s_Laying___init__ A.f_Laying___init__ A.d_Laying___init__
  b_Laying___init__ : Binds K A.d_Laying___init__ ["self", "row", "hand"] []
  F_Laying_lay : Fun K "lay" "Laying.lay" s_Laying_lay A.f_Laying_lay A.d_Laying_lay
  b_Laying_lay : Binds K A.d_Laying_lay ["self", "index", "pile"] []
  F_Laying_fits : Fun K "fits" "Laying.fits" s_Laying_fits A.f_Laying_fits A.d_Laying_fits
  b_Laying_fits : Binds K A.d_Laying_fits ["self", "index"] []
  F_Laying_least : Fun K "least" "Laying.least" s_Laying_least A.f_Laying_least A.d_Laying_least
  b_Laying_least : Binds K A.d_Laying_least ["self", "indexes"] []
  F_Laying_lay_plainly : Fun K "lay_plainly" "Laying.lay_plainly" s_Laying_lay_plainly A.f_Laying_lay_plainly A.d_Laying_lay_plainly
  b_Laying_lay_plainly : Binds K A.d_Laying_lay_plainly ["self"] []
  F_hands_met : Fun K "hands_met" "hands_met" s_hands_met A.f_hands_met A.d_hands_met
  b_hands_met : Binds K A.d_hands_met ["row", "hand"] []
  m_hands_met : mg "hands_met" = some (.ref A.f_hands_met)
  F__law_same : Fun K "_law_same" "_law_same" s__law_same A.f__law_same A.d__law_same
  b__law_same : Binds K A.d__law_same ["found", "due"] []
  m__law_same : mg "_law_same" = some (.ref A.f__law_same)
  F_law : Fun K "law" "law" s_law A.f_law A.d_law
  b_law : Binds K A.d_law ["script"] []
  m_law : mg "law" = some (.ref A.f_law)
  cl_Laying : Cls K A.c_Laying
  m_Laying : mg "Laying" = some (.ref A.c_Laying)
  mk_Laying : Mk K A.c_Laying A.f_Laying___init__
  me_Laying_fits : Meth K A.c_Laying "fits" A.f_Laying_fits
  me_Laying_lay : Meth K A.c_Laying "lay" A.f_Laying_lay
  me_Laying_lay_plainly : Meth K A.c_Laying "lay_plainly" A.f_Laying_lay_plainly
  me_Laying_least : Meth K A.c_Laying "least" A.f_Laying_least
  na_Laying_row : NoAttr K A.c_Laying "row"
  na_Laying_drawn : NoAttr K A.c_Laying "drawn"
  na_Laying_held : NoAttr K A.c_Laying "held"
  na_Laying_way : NoAttr K A.c_Laying "way"
  na_Laying_last : NoAttr K A.c_Laying "last"
  na_Laying_pile : NoAttr K A.c_Laying "pile"
  b_len : mg "len" = none
  b_int : mg "int" = none
  b_range : mg "range" = none
  b_list : mg "list" = none
  b_min : mg "min" = none
  b_enumerate : mg "enumerate" = none
  b_isinstance : mg "isinstance" = none
  b_tuple : mg "tuple" = none
  b_all : mg "all" = none
  b_bool : mg "bool" = none
  b_str : mg "str" = none
  b_zip : mg "zip" = none
  kb_hands_met_hand_row : KBn K A.d_hands_met ["row", "hand"] 0 ["hand", "row"] (fun vs zs => [zs.getD 1 .none, zs.getD 0 .none]) (fun vs zs => [zs.getD 1 .non, zs.getD 0 .non])
theorem sc__law_cell_at : FnScope ["script", "place"] ["script", "place"] (defScope s__law_cell_at) := ⟨rfl, rfl, rfl, by decide +kernel, rfl, by decide +kernel, by decide +kernel⟩
theorem sc__law_source : FnScope ["script", "place", "cell"] ["script", "place"] (defScope s__law_source) := ⟨rfl, rfl, rfl, by decide +kernel, rfl, by decide +kernel, by decide +kernel⟩
theorem sc__law_draw : FnScope ["source", "many", "left", "step", "mixed"] ["source", "many"] (defScope s__law_draw) := ⟨rfl, rfl, rfl, by decide +kernel, rfl, by decide +kernel, by decide +kernel⟩
theorem sc__law_cards : FnScope ["script", "source", "limit", "span", "many", "cell", "place"] ["script", "source", "limit"] (defScope s__law_cards) := ⟨rfl, rfl, rfl, by decide +kernel, rfl, by decide +kernel, by decide +kernel⟩
theorem sc__law_room : FnScope ["source", "many", "choice"] ["source", "many"] (defScope s__law_room) := ⟨rfl, rfl, rfl, by decide +kernel, rfl, by decide +kernel, by decide +kernel⟩
theorem sc__law_lay : FnScope ["cards", "room", "held", "entries", "pile", "last", "turn", "keys", "best", "index"] ["cards", "room"] (defScope s__law_lay) := ⟨rfl, rfl, rfl, by decide +kernel, rfl, by decide +kernel, by decide +kernel⟩
theorem sc__law_held : FnScope ["cards", "room", "gone", "found", "turn", "index", "pile", "place"] ["cards", "room"] (defScope s__law_held) := ⟨rfl, rfl, rfl, by decide +kernel, rfl, by decide +kernel, by decide +kernel⟩
theorem sc_check_hand : FnScope ["hand"] ["hand"] (defScope s_check_hand) := ⟨rfl, rfl, rfl, by decide +kernel, rfl, by decide +kernel, by decide +kernel⟩
theorem sc_Laying___init__ : FnScope ["self", "row", "hand"] ["self", "row", "hand"] (defScope s_Laying___init__) := ⟨rfl, rfl, rfl, by decide +kernel, rfl, by decide +kernel, by decide +kernel⟩
theorem sc_Laying_lay : FnScope ["self", "index", "pile"] ["self", "index", "pile"] (defScope s_Laying_lay) := ⟨rfl, rfl, rfl, by decide +kernel, rfl, by decide +kernel, by decide +kernel⟩
theorem sc_Laying_fits : FnScope ["self", "index"] ["self", "index"] (defScope s_Laying_fits) := ⟨rfl, rfl, rfl, by decide +kernel, rfl, by decide +kernel, by decide +kernel⟩
theorem sc_Laying_least : FnScope ["self", "indexes", "index"] ["self", "indexes"] (defScope s_Laying_least) := ⟨rfl, rfl, rfl, by decide +kernel, rfl, by decide +kernel, by decide +kernel⟩
theorem sc_Laying_lay_plainly : FnScope ["self", "fitting", "index"] ["self"] (defScope s_Laying_lay_plainly) := ⟨rfl, rfl, rfl, by decide +kernel, rfl, by decide +kernel, by decide +kernel⟩
theorem sc_hands_met : FnScope ["row", "hand", "laying", "met"] ["row", "hand"] (defScope s_hands_met) := ⟨rfl, rfl, rfl, by decide +kernel, rfl, by decide +kernel, by decide +kernel⟩
theorem sc__law_same : FnScope ["found", "due", "one", "other"] ["found", "due"] (defScope s__law_same) := ⟨rfl, rfl, rfl, by decide +kernel, rfl, by decide +kernel, by decide +kernel⟩
theorem sc_law : FnScope ["script", "source", "cards", "room", "due", "given", "told", "at", "inner"] ["script"] (defScope s_law) := ⟨rfl, rfl, rfl, by decide +kernel, rfl, by decide +kernel, by decide +kernel⟩
local macro_rules | `(tactic| walk_at "vc") => `(tactic| simp only [ cst, prI, prV, tSeq, tIfS, tTest, tOp, tUn, tVar, tCB, tCons, tNil, L2.start, rI0, rI, rU, rEq, tRet, tRetN, tBreak, tCont, tC, tNext, tAsg, gName, tDrop, tFld, sFld, sFldAug, rAdd, rSub, tLst, tTup, tCall, tCallN, tMeth, tMake, tB, tAnd, tOr, tNot, tAndV, tOrV, tNotV, tIf, tAug, ipI, gSub, gTup, gCons, gNil, rSetL, rIxL, rIxT, tBM, tBM0, rAppend, tSl, tNoPart, tPart, rSlL, tFor_eq, tLc_eq, iList, iRng1, iRng2, iEnum, iZip, RZ.iZipA, iTup, tYes, wipe, nV, tLstRg, tRg1, tRg2, tRemX, cxK, List.map_cons, List.map_nil, List.length_cons, List.length_nil, List.replicate_succ, List.replicate_zero, List.nil_append, List.cons_append, List.append_nil, List.getD_cons_zero, List.getD_cons_succ, List.getElem?_cons_zero, List.getElem?_cons_succ, List.set_cons_zero, List.set_cons_succ, Option.some.injEq, exists_eq_left', exists_eq_left, V.int.injEq, V.bl.injEq, V.ref.injEq, V.str.injEq, List.cons.injEq, and_true, true_and, and_assoc, Nat.reduceAdd, Nat.reduceSub, Nat.zero_add, Int.zero_add, if_true, if_false, ite_true, ite_false, Bool.false_eq_true, reduceIte, Bool.not_true, Bool.not_false, exists_and_left, decide_eq_true_eq, exists_eq, Nat.add_one_sub_one, forall_const, imp_false])
local macro_rules | `(tactic| walk_at "hp") => `(tactic| first | with_reducible assumption | exact upd_same | (refine upd_keep ?_ (by with_reducible assumption); walk_at "hp") | (refine upd_other ?_ (by first | with_reducible assumption | exact Ne.symm (by with_reducible assumption)); walk_at "hp") | (refine L2.Same.get (by with_reducible assumption) ?_; walk_at "hp"))
local macro_rules | `(tactic| walk_at "sq") => `(tactic| first | with_reducible assumption | exact SqL.of (by walk_at "hp") | exact SqT.of (by walk_at "hp") | (refine Same.seq (by with_reducible assumption) ?_; walk_at "sq"))
local macro_rules | `(tactic| walk_at "go1") => `(tactic| first | (refine ⟨_, _, by walk_at "hp", by rfl, ?_⟩) | (refine ⟨_, _, _, by walk_at "hp", by walk_at "cl", by walk_at "na", _, by rfl, ?_⟩) | (refine ⟨_, _, _, by walk_at "hp", by walk_at "cl", by walk_at "na", Nat.le_of_ble_eq_true rfl, ?_⟩) | (refine ⟨_, by walk_at "sq", ?_⟩) | (refine ⟨.inl ⟨rfl, _, by walk_at "sq"⟩, ?_⟩) | (refine ⟨_, getI_row (by with_reducible assumption), ?_⟩) | (refine ⟨_, rfl, ?_⟩) | (refine ⟨_, at_of (j := 0) rfl rfl, ?_⟩) | (refine ⟨_, at_of (j := 1) rfl rfl, ?_⟩) | (refine ⟨_, at_of (j := 2) rfl rfl, ?_⟩) | (refine ⟨_, at_of (j := 3) rfl rfl, ?_⟩) | (refine ⟨_, ixN4 _ 0 rfl (by decide), ?_⟩) | (refine ⟨_, ixN4 _ 1 rfl (by decide), ?_⟩) | (refine ⟨_, ixN4 _ 2 rfl (by decide), ?_⟩) | (refine ⟨_, ixN4 _ 3 rfl (by decide), ?_⟩))
local macro_rules | `(tactic| walk_at "go") => `(tactic| repeat (walk_at "go1"))
local macro_rules | `(tactic| walk_at "cl") => `(tactic| first | exact Txt.cl_Laying (by assumption))
local macro_rules | `(tactic| walk_at "na") => `(tactic| first | exact Txt.na_Laying_row (by assumption) | exact Txt.na_Laying_drawn (by assumption) | exact Txt.na_Laying_held (by assumption) | exact Txt.na_Laying_way (by assumption) | exact Txt.na_Laying_last (by assumption) | exact Txt.na_Laying_pile (by assumption))
section
variable {P : Program} {w : World} {K : PySem.W.Frag} {mg : Str → Option Value} {base : Heap} {A : Ad}
def sp_cell (K : PySem.W.Frag) : Sp := fun vs H Q _ => ∃ (a : Addr) (ns : List Int) (i : Int), vs = [.ref a, .int i] ∧ SqL K H a (ns.map V.int) ∧ 0 ≤ i ∧ ∀ r, Q (.int r) H
theorem ok__law_cell_at (T : Txt K mg A) : FnOk P w K mg base (L2.CX P w) 1 A.f__law_cell_at A.d__law_cell_at ["script", "place"] (sp_cell K) := by
  refine okN T.F__law_cell_at sc__law_cell_at (fun vs H Q E h => ?_) (fun cdv A' outer s H vs Q E hr h => ?_)
  · obtain ⟨a, ns, i, rfl, _⟩ := h; rfl
  · obtain ⟨a, ns, i, rfl, hS, hi, q⟩ := h
    refine ⟨_, (pss_cons (ps_if (pt_cmpR op_lt (pv 1) (pe_callB (call_lenLK (K := K)) (by rfl) T.b_len (by decide +kernel) (pa_cons (pv 0) pa_nil)) (nomark _)) (pss_one (ps_ret (pe_ix (ix_listK (K := K)) (pv 0) (pv 1) (fun _ _ => rfl)))) pss_nil) (pss_one (ps_ret pe_int))), ?_⟩
    walk_at "vc"
    refine ⟨_, hS, ?_⟩
    split
    · rename_i hlt
      rw [List.length_map] at hlt
      refine ⟨_, hS, _, at_of (j := i.toNat) (by omega) (by rw [List.getElem?_map, List.getElem?_eq_getElem (by omega)]; rfl), q _⟩
    · exact q _
def sp_source (K : PySem.W.Frag) : Sp := fun vs H Q _ => ∃ (a : Addr) (ns : List Int) (i : Int), vs = [.ref a, .int i] ∧ SqL K H a (ns.map V.int) ∧ 0 ≤ i ∧ i ≤ 100 ∧ ∀ p H', H p = none → Src H' p 1700 → Same H H' → Q (.ref p) H'
theorem ok__law_source (T : Txt K mg A) : FnOk P w K mg base (L2.CX P w) 2 A.f__law_source A.d__law_source ["script", "place"] (sp_source K) := by
  refine okN T.F__law_source sc__law_source (fun vs H Q E h => ?_) (fun cdv A' outer s H vs Q E hr h => ?_)
  · obtain ⟨a, ns, i, rfl, _⟩ := h; rfl
  · obtain ⟨a, ns, i, rfl, hS, hi, h100, q⟩ := h
    refine ⟨_, (pss_cons (ps_set (i := 2) sc__law_source.nd rfl (Or.inl rfl) (pe_call (ok__law_cell_at T) (hr.mono (by decide)) (by rfl) T.m__law_cell_at T.F__law_cell_at.kp T.b__law_cell_at .nil passL (pa_cons (pv 0) (pa_cons (pv 1) pa_nil)))) (pss_cons (ps_if (pt_cmpR op_ge (pv 2) (pe_op op_pow pe_int pe_int) (nomark _)) (pss_one (ps_ret (pe_lst (pa_cons (pe_op op_sub (pv 2) (pe_op op_pow pe_int pe_int)) (pa_cons pe_int (pa_cons pe_int pa_nil)))))) pss_nil) (pss_one (ps_ret (pe_lst (pa_cons (pv 2) (pa_cons pe_int (pa_cons (pe_op op_mul pe_int (pv 1)) pa_nil)))))))), ?_⟩
    refine seq_step fun Z hZ => ?_
    walk_at "vc"
    refine ⟨_, _, _, rfl, hS, hi, fun x => hZ _ _ ?_⟩
    walk_at "vc"
    refine ⟨⟨by decide, by decide, by decide⟩, ?_⟩
    split
    · refine ⟨⟨by decide, by decide, by decide⟩, by decide, fun p hp => q _ _ hp ⟨_, _, _, upd_same, by omega, by omega⟩ (same_upd hp)⟩
    · refine ⟨.inl (by decide), by decide, fun p hp => q _ _ hp ⟨_, _, _, upd_same, by omega, by omega⟩ (same_upd hp)⟩
def sp_draw : Sp := fun vs H Q _ => ∃ (a : Addr) (n : Nat) (m : Int), vs = [.ref a, .int m] ∧ Src H a n ∧ n ≤ 100000 ∧ 0 < m ∧ m < 2 ^ 200 ∧ ∀ r H', 0 ≤ r → r < m → Src H' a (n + 1) → Keep [a] H H' → Q (.int r) H'
theorem ok__law_draw (T : Txt K mg A) : FnOk P w K mg base (L2.CX P w) 1 A.f__law_draw A.d__law_draw ["source", "many"] sp_draw := by
  refine okN T.F__law_draw sc__law_draw (fun vs H Q E h => ?_) (fun cdv A' outer s H vs Q E hr h => ?_)
  · obtain ⟨a, n, m, rfl, _⟩ := h; rfl
  · obtain ⟨a, n, m, rfl, ⟨x, f, c, hS, c0, cn⟩, hn, m0, m1, q⟩ := h
    refine ⟨_, (pss_cons (ps_set (i := 2) sc__law_draw.nd rfl (Or.inl rfl) (pe_ix (ix_listK (K := K)) (pv 0) pe_int (fun _ _ => rfl))) (pss_cons (ps_if (pt_cmpR op_eqI (pe_ix (ix_listK (K := K)) (pv 0) pe_int (fun _ _ => rfl)) pe_int (nomark _)) (pss_cons (ps_asg (pe_op op_fdivW (pv 2) (pv 1)) (pg_sub (pv 0) pe_int set_list)) (pss_one (ps_ret (pe_op op_mod (pe_callTy call_intI (by rfl) T.b_int (by decide +kernel) (pa_cons (pv 2) pa_nil)) (pv 1))))) pss_nil) (pss_cons (ps_set (i := 3) sc__law_draw.nd rfl (Or.inl rfl) (pe_op op_add (pe_ix (ix_listK (K := K)) (pv 0) pe_int (fun _ _ => rfl)) pe_int)) (pss_cons (ps_asg (pv 3) (pg_sub (pv 0) pe_int set_list)) (pss_cons (ps_set (i := 4) sc__law_draw.nd rfl (Or.inl rfl) (pe_op op_mulW (pe_op op_add (pe_op op_mod (pe_callTy call_intI (by rfl) T.b_int (by decide +kernel) (pa_cons (pv 2) pa_nil)) (pe_op op_add (pe_op op_pow pe_int pe_int) pe_int)) (pe_op op_mul pe_int (pv 3))) (pe_op op_add (pe_op op_mul pe_int (pv 3)) pe_int))) (pss_cons (ps_set (i := 4) sc__law_draw.nd rfl (Or.inl rfl) (pe_op op_mod (pe_callTy call_intI (by rfl) T.b_int (by decide +kernel) (pa_cons (pe_op op_mulW (pv 4) (pv 4)) pa_nil)) (pe_op op_add (pe_op op_pow pe_int pe_int) pe_int))) (pss_cons (ps_set (i := 4) sc__law_draw.nd rfl (Or.inl rfl) (pe_op op_mod (pe_callTy call_intI (by rfl) T.b_int (by decide +kernel) (pa_cons (pe_op op_mulW (pe_op op_add (pv 4) (pv 3)) (pe_op op_add (pe_op op_fdiv (pv 4) pe_int) pe_int)) pa_nil)) (pe_op op_add (pe_op op_pow pe_int pe_int) pe_int))) (pss_one (ps_ret (pe_op op_mod (pe_callTy call_intI (by rfl) T.b_int (by decide +kernel) (pa_cons (pe_op op_fdiv (pv 4) pe_int) pa_nil)) (pv 1))))))))))), ?_⟩
    refine seq_step fun Z hZ => ?_; walk_at "vc"; walk_at "go"
    refine hZ _ _ ?_; clear hZ Z
    refine seq_step fun Z hZ => ?_; walk_at "vc"; walk_at "go"
    split
    · refine ⟨wide_div m0 (b := 201) (by omega) (by decide) (by decide), _, hS, _, rfl, m0, ?_⟩
      exact q _ _ (Int.emod_nonneg _ (by omega)) (Int.emod_lt_of_pos _ m0) ⟨_, _, _, upd_same, c0, by omega⟩ keep_upd
    · refine hZ _ _ ?_
      clear hZ Z
      refine seq_step fun Z hZ => ?_; walk_at "vc"; walk_at "go"
      refine hZ _ _ ?_
      clear hZ Z
      refine seq_step fun Z hZ => ?_; walk_at "vc"; walk_at "go"
      refine hZ _ _ ?_
      clear hZ Z
      generalize hst : c + 1 = st
      refine seq_step fun Z hZ => ?_; walk_at "vc"
      have c18 : CPow 10 18 := ⟨by decide, by decide, by decide⟩
      have c39 : CPow 10 39 := ⟨by decide, by decide, by decide⟩
      refine ⟨c18, by decide, .inl (by decide), .inl (by decide), ?_⟩
      have e18 : (10 : Int) ^ Int.toNat 18 + 9 = 1000000000000000009 := by decide
      have e39 : (10 : Int) ^ Int.toNat 39 + 7 = 1000000000000000000000000000000000000007 := by decide
      have f39 : (10 : Int) ^ Int.toNat 39 + 23 = 1000000000000000000000000000000000000023 := by decide
      rw [e18]
      have b1 := Int.emod_nonneg x (show (1000000000000000009 : Int) ≠ 0 by decide)
      have b2 := Int.emod_lt_of_pos x (show (0 : Int) < 1000000000000000009 by decide)
      have k1 : (x % 1000000000000000009 + 5003 * st).natAbs < 2 ^ 64 := by omega
      have k2 : (611953 * st + 15485863).natAbs < 2 ^ 64 := by omega
      refine ⟨wide_mul k1 k2 (by decide) (by decide) (by decide), hZ _ _ ?_⟩
      clear hZ Z
      have k3 := wide_lt k1 k2
      generalize (x % 1000000000000000009 + 5003 * st) * (611953 * st + 15485863) = y at k3
      refine seq_step fun Z hZ => ?_; walk_at "vc"
      refine ⟨wide_mul k3 k3 (by decide) (by decide) (by decide), c39, by decide, hZ _ _ ?_⟩
      clear hZ Z
      rw [e39]
      have b3 := Int.emod_nonneg (y * y) (show (1000000000000000000000000000000000000007 : Int) ≠ 0 by decide)
      have b4 := Int.emod_lt_of_pos (y * y) (show (0 : Int) < 1000000000000000000000000000000000000007 by decide)
      generalize y * y % 1000000000000000000000000000000000000007 = z at b3 b4
      refine seq_step fun Z hZ => ?_; walk_at "vc"
      have k4 : (z + st).natAbs < 2 ^ 140 := by omega
      have k5 : (z / 7 + 32452843).natAbs < 2 ^ 140 := by omega
      refine ⟨⟨by decide, by decide⟩, wide_mul k4 k5 (by decide) (by decide) (by decide), c39, by decide, hZ _ _ ?_⟩
      clear hZ Z
      generalize (z + st) * (z / 7 + 32452843) % (10 ^ Int.toNat 39 + 23) = u
      walk_at "vc"
      refine ⟨⟨by decide, by decide⟩, m0, ?_⟩
      exact q _ _ (Int.emod_nonneg _ (by omega)) (Int.emod_lt_of_pos _ m0) ⟨_, _, _, upd_same, by omega, by omega⟩ keep_upd
theorem pick5 {r : Int} (h0 : 0 ≤ r) (h5 : r < 5) : ∃ v : Int, atI [V.int 3, V.int 9, V.int 61, V.int (10 ^ Int.toNat 12), V.int (2 * 10 ^ Int.toNat 30 - 1)] r = some (.int v) ∧ 0 < v ∧ v < 2 ^ 110 := by
  have : r = 0 ∨ r = 1 ∨ r = 2 ∨ r = 3 ∨ r = 4 := by omega
  rcases this with rfl | rfl | rfl | rfl | rfl
  · exact ⟨3, rfl, by decide, by decide⟩
  · exact ⟨9, rfl, by decide, by decide⟩
  · exact ⟨61, rfl, by decide, by decide⟩
  · exact ⟨10 ^ Int.toNat 12, rfl, by decide, by decide⟩
  · exact ⟨2 * 10 ^ Int.toNat 30 - 1, rfl, by decide, by decide⟩
def sp_cards (K : PySem.W.Frag) : Sp := fun vs H Q _ => ∃ (a : Addr) (ns : List Int) (s : Addr) (n : Nat) (lim : Int), vs = [.ref a, .ref s, .int lim] ∧ Rd K a (ns.map V.int) s H ∧ Src H s n ∧ n ≤ 50000 ∧ 0 ≤ lim ∧ lim ≤ 60 ∧
  ∀ (p : Addr) (xs : List Int) (H' : Hp), H p = none → H' p = some (.lst (xs.map V.int)) → (xs.length : Int) ≤ lim → Src H' s (n + 100) → Keep [s] H H' → Q (.ref p) H'
theorem ok__law_cards (T : Txt K mg A) : FnOk P w K mg base (L2.CX P w) 2 A.f__law_cards A.d__law_cards ["script", "source", "limit"] (sp_cards K) := by
  refine okN T.F__law_cards sc__law_cards (fun vs H Q E h => ?_) (fun cdv A' outer s H vs Q E hr h => ?_)
  · obtain ⟨a, ns, s, n, lim, rfl, _⟩ := h; rfl
  · obtain ⟨a, ns, s, n, lim, rfl, hR, hS, hn, l0, l60, q⟩ := h
    refine ⟨_, (pss_cons (ps_set (i := 3) sc__law_cards.nd rfl (Or.inr rfl) (pe_ix (ix_listK (K := K)) (pe_lst (pa_cons pe_int (pa_cons pe_int (pa_cons pe_int (pa_cons (pe_op op_pow pe_int pe_int) (pa_cons (pe_op op_sub (pe_op op_mul pe_int (pe_op op_pow pe_int pe_int)) pe_int) pa_nil)))))) (pe_call (ok__law_draw T) (hr.mono (by decide)) (by rfl) T.m__law_draw T.F__law_draw.kp T.b__law_draw .nil passL (pa_cons (pv 1) (pa_cons pe_int pa_nil))) (fun _ _ => rfl))) (pss_cons (ps_if (pw_and (pt_cmpR op_eqI (pe_call (ok__law_draw T) (hr.mono (by decide)) (by rfl) T.m__law_draw T.F__law_draw.kp T.b__law_draw .nil passL (pa_cons (pv 1) (pa_cons pe_int pa_nil))) pe_int (nomark _)) (pw_and1 (pt_cmpR op_gt (pe_callB (call_lenLK (K := K)) (by rfl) T.b_len (by decide +kernel) (pa_cons (pv 0) pa_nil)) pe_int (nomark _)))).pt (pss_one (ps_ret (pe_lc (own := [("cell", 5)]) rfl sc__law_cards.nd (pi_listK (K := K) (pe_slice (sl_listK (K := K)) (pv 0) (po_some pe_int) (po_some (pe_op op_add pe_int (pv 2))))) (blkOk_by (own := [("cell", 5)]) (N := ["script", "source", "limit", "span", "many", "cell", "place"]) (sc := defScope s__law_cards) (by decide +kernel)) (fun _ _ _ _ _ => by exact (pg_name (i := 5) sc__law_cards.nd rfl (Or.inl rfl))) (fun _ _ _ _ _ => by exact pts_nil) (fun _ _ _ _ _ => by exact (pe_op op_sub (pe_op op_mod (pe_callTy call_intI (by rfl) T.b_int (by decide +kernel) (pa_cons (pv 5) pa_nil)) (pv 3)) (pe_op op_fdiv (pv 3) pe_int)))))) pss_nil) (pss_cons (ps_set (i := 4) sc__law_cards.nd rfl (Or.inl rfl) (pe_call (ok__law_draw T) (hr.mono (by decide)) (by rfl) T.m__law_draw T.F__law_draw.kp T.b__law_draw .nil passL (pa_cons (pv 1) (pa_cons (pe_op op_add (pv 2) pe_int) pa_nil)))) (pss_one (ps_ret (pe_lc (own := [("place", 6)]) rfl sc__law_cards.nd (pi_range1 (by rfl) T.b_range (pa_cons (pv 4) pa_nil)) (blkOk_by (own := [("place", 6)]) (N := ["script", "source", "limit", "span", "many", "cell", "place"]) (sc := defScope s__law_cards) (by decide +kernel)) (fun _ _ _ _ _ => by exact (pg_name (i := 6) sc__law_cards.nd rfl (Or.inl rfl))) (fun _ _ _ _ _ => by exact pts_nil) (fun _ _ _ _ _ => by exact (pe_op op_sub (pe_call (ok__law_draw T) (hr.mono (by decide)) (by rfl) T.m__law_draw T.F__law_draw.kp T.b__law_draw .nil passL (pa_cons (pv 1) (pa_cons (pv 3) pa_nil))) (pe_op op_fdiv (pv 3) pe_int))))))))), ?_⟩
    refine seq_step fun Z hZ => ?_; walk_at "vc"
    refine ⟨⟨by decide, by decide, by decide⟩, ⟨by decide, by decide, by decide⟩, .inl (by decide), by decide, fun p hp => ?_⟩
    have S1 := same_upd (x := .lst [V.int 3, V.int 9, V.int 61, V.int (10 ^ Int.toNat 12), V.int (2 * 10 ^ Int.toNat 30 - 1)]) hp
    have hsp := hS.ne hp
    refine ⟨_, _, _, rfl, hS.same S1, by omega, by decide, by decide, fun r H1 r0 r5 hS1 k1 => ?_⟩
    obtain ⟨span, e, sp0, sp1⟩ := pick5 r0 r5
    walk_at "vc"
    refine ⟨_, SqL.of (k1.get upd_same (ni1 hsp.symm)), _, e, hZ _ _ ?_⟩
    clear hZ Z
    have hR1 := (hR.next S1.keep).next k1
    have K1 := (S1.keep (ms := [s])).trans k1
    refine seq_step fun Z hZ => ?_; walk_at "vc"
    refine ⟨_, _, _, rfl, hS1, by omega, by decide, by decide, fun r H2 r0 r3 hS2 k2 => ?_⟩
    walk_at "vc"
    have hR2 := hR1.next k2
    have K2 := K1.trans k2
    have hz : Z [some (V.ref a), some (V.ref s), some (V.int lim), some (V.int span), none, none, none] H2 := by
      refine hZ _ _ ?_
      clear hZ Z
      refine seq_step fun Z hZ => ?_; walk_at "vc"
      refine ⟨_, _, _, rfl, hS2, by omega, by omega, by omega, fun many H3 m0 m1 hS3 k3 => hZ _ _ ?_⟩
      clear hZ Z
      have K3 := K2.trans k3
      walk_at "vc"
      refine ⟨by omega, by omega, ?_⟩
      refine lcRange (fun i acc H' => Src H' s (n + 3 + i) ∧ Keep [s] H3 H' ∧ ∃ xs : List Int, acc = xs.map V.int) (by omega) ⟨hS3, Keep.refl, [], rfl⟩ (fun D i acc H' hD hi hl ⟨i1, i2, xs, i3⟩ hd C hC => ?_) (fun D i acc H' u hD ⟨i1, i2, i3⟩ => ⟨i1.upd (hS3.ne hD), i2.updFresh hD, i3⟩) (fun D acc H' hD hl ⟨i1, i2, xs, i3⟩ hd => ?_)
      · walk_at "vc"
        refine ⟨_, _, _, rfl, i1, by omega, sp0, by omega, fun r H5 r0 r1 hS5 k5 => ?_⟩
        walk_at "vc"
        refine ⟨⟨by decide, by decide⟩, hC _ _ (k5.get hd (ni1 (hS3.ne hD).symm)) ⟨hS5.mono (by omega), i2.trans k5, xs ++ [r - span / 2], by rw [i3]; simp⟩⟩
      · subst i3
        exact q D xs H' (hS3.free K3 hD) hd (by rw [List.length_map] at hl; omega) (i1.mono (by omega)) (K3.trans i2)
    split
    · refine ⟨_, hR2.now, ?_⟩
      split
      · refine ⟨_, hR2.now, fun p2 hp2 => ⟨⟨_, SqL.of upd_same⟩, ?_⟩⟩
        obtain ⟨ms, e1, e2, _⟩ := cutV_ints ns 2 (2 + lim.toNat)
        have e1' : cutV (ns.map V.int) (some 2) (some (2 + lim)) = ms.map V.int := by
          rw [show (2 + lim) = ((2 + lim.toNat : Nat) : Int) by omega]
          exact e1
        rw [e1']
        have S2 := same_upd (x := .lst (ms.map V.int)) hp2
        refine lcMap (ms := ms) (v := V.int) (f := fun m => V.int (m % span - span / 2)) (SqL.of upd_same) (by omega) (fun m _ H' C S hC => ?_) (fun D hD => ?_)
        · walk_at "vc"
          exact ⟨sp0, ⟨by decide, by decide⟩, hC⟩
        · exact q D (ms.map fun m => m % span - span / 2) _ (hS2.free K2 (S2.free hD)) (by rw [upd_same, List.map_map]; rfl) (by rw [List.length_map]; omega) (((hS2.same S2).same (same_upd hD)).mono (by omega)) (K2.trans (S2.trans (same_upd hD)).keep)
      · exact hz
    · exact hz
def sp_room : Sp := fun vs H Q _ => ∃ (s : Addr) (n : Nat) (m : Int), vs = [.ref s, .int m] ∧ Src H s n ∧ n ≤ 50000 ∧ 0 ≤ m ∧ m ≤ 1000 ∧ ∀ (r : Int) (H' : Hp), 1 ≤ r → r < 2 ^ 110 → Src H' s (n + 2) → Keep [s] H H' → Q (.int r) H'
theorem ok__law_room (T : Txt K mg A) : FnOk P w K mg base (L2.CX P w) 2 A.f__law_room A.d__law_room ["source", "many"] sp_room := by
  refine okN T.F__law_room sc__law_room (fun vs H Q E h => ?_) (fun cdv A' outer s H vs Q E hr h => ?_)
  · obtain ⟨s, n, m, rfl, _⟩ := h; rfl
  · obtain ⟨s, n, m, rfl, hS, hn, m0, m1, q⟩ := h
    refine ⟨_, (pss_cons (ps_set (i := 2) sc__law_room.nd rfl (Or.inl rfl) (pe_call (ok__law_draw T) (hr.mono (by decide)) (by rfl) T.m__law_draw T.F__law_draw.kp T.b__law_draw .nil passL (pa_cons (pv 0) (pa_cons pe_int pa_nil)))) (pss_cons (ps_if (pt_cmpR op_eqI (pv 2) pe_int (nomark _)) (pss_one (ps_ret (pe_op op_add pe_int (pe_call (ok__law_draw T) (hr.mono (by decide)) (by rfl) T.m__law_draw T.F__law_draw.kp T.b__law_draw .nil passL (pa_cons (pv 0) (pa_cons (pe_op op_sub (pe_op op_pow pe_int pe_int) pe_int) pa_nil)))))) pss_nil) (pss_cons (ps_if (pt_cmpR op_lt (pv 2) pe_int (nomark _)) (pss_one (ps_ret (pe_op op_add pe_int (pe_call (ok__law_draw T) (hr.mono (by decide)) (by rfl) T.m__law_draw T.F__law_draw.kp T.b__law_draw .nil passL (pa_cons (pv 0) (pa_cons pe_int pa_nil)))))) pss_nil) (pss_one (ps_ret (pe_op op_add pe_int (pe_call (ok__law_draw T) (hr.mono (by decide)) (by rfl) T.m__law_draw T.F__law_draw.kp T.b__law_draw .nil passL (pa_cons (pv 0) (pa_cons (pe_op op_add (pv 1) pe_int) pa_nil))))))))), ?_⟩
    refine seq_step fun Z hZ => ?_; walk_at "vc"
    refine ⟨_, _, _, rfl, hS, by omega, by decide, by decide, fun c H1 c0 c1 hS1 k1 => hZ _ _ ?_⟩
    clear hZ Z
    walk_at "vc"
    split
    · refine ⟨⟨by decide, by decide, by decide⟩, ?_⟩
      refine ⟨_, _, _, rfl, hS1, by omega, by decide, by decide, fun r H2 r0 r1 hS2 k2 => ?_⟩
      walk_at "vc"
      have : (10 : Int) ^ Int.toNat 30 - 1 < 2 ^ 109 := by decide
      exact q _ _ (by omega) (by omega) hS2 (k1.trans k2)
    · split
      · refine ⟨_, _, _, rfl, hS1, by omega, by decide, by decide, fun r H2 r0 r1 hS2 k2 => ?_⟩
        walk_at "vc"
        exact q _ _ (by omega) (by omega) hS2 (k1.trans k2)
      · refine ⟨_, _, _, rfl, hS1, by omega, by omega, by omega, fun r H2 r0 r1 hS2 k2 => ?_⟩
        walk_at "vc"
        exact q _ _ (by omega) (by omega) hS2 (k1.trans k2)
def sp_check : Sp := fun vs H Q _ => ∃ (h : Int), vs = [.int h] ∧ 1 ≤ h ∧ Q .non H
theorem ok_check_hand (T : Txt K mg A) : FnOk P w K mg base (L2.CX P w) 1 A.f_check_hand A.d_check_hand ["hand"] sp_check := by
  refine okN T.F_check_hand sc_check_hand (fun vs H Q E h => ?_) (fun cdv A' outer s H vs Q E hr h => ?_)
  · obtain ⟨h, rfl, _⟩ := h; rfl
  · obtain ⟨h, rfl, h1, q⟩ := h
    refine ⟨_, (pss_one (ps_if (pt_cmpR op_lt (pv 0) pe_int (nomark _)) (pss_one ps_never) pss_nil)), ?_⟩
    walk_at "vc"
    rw [if_neg (by omega)]
    exact q
def sp_init (C : Addr) : Sp := fun vs H Q _ => ∃ (p dx a : Addr) (row : List Int) (h : Int), vs = [.ref p, .ref a, .int h] ∧ H p = some (.ins C dx []) ∧ H a = some (.lst (row.map V.int)) ∧ row.length ≤ 1000 ∧ 1 ≤ h ∧
  ∀ (hb wb : Addr) (H' : Hp), H hb = none → H wb = none → LayAt C H' p a hb wb row (initS row h.toNat) → Keep [p] H H' → Q .non H'
theorem ok_Laying___init__ (T : Txt K mg A) : FnOk P w K mg base (L2.CX P w) 2 A.f_Laying___init__ A.d_Laying___init__ ["self", "row", "hand"] (sp_init A.c_Laying) := by
  refine okN T.F_Laying___init__ sc_Laying___init__ (fun vs H Q E h => ?_) (fun cdv A' outer s H vs Q E hr h => ?_)
  · obtain ⟨p, dx, a, row, h, rfl, _⟩ := h; rfl
  · obtain ⟨p, dx, a, row, h, rfl, hp, ha, hl, h1, q⟩ := h
    refine ⟨_, (pss_cons (ps_expr (pe_call (ok_check_hand T) (hr.mono (by decide)) (by rfl) T.m_check_hand T.F_check_hand.kp T.b_check_hand .nil passL (pa_cons (pv 2) pa_nil))) (pss_cons (ps_fldK (K := K) (pv 0) (pv 1)) (pss_cons (ps_fldK (K := K) (pv 0) (pe_callB (call_min2 rfl) (by rfl) T.b_min (by decide +kernel) (pa_cons (pv 2) (pa_cons (pe_callB (call_lenLK (K := K)) (by rfl) T.b_len (by decide +kernel) (pa_cons (pv 1) pa_nil)) pa_nil)))) (pss_cons (ps_fldK (K := K) (pv 0) (pe_listRg rfl rfl T.b_list (prg_1 rfl T.b_range (pe_fldK (K := K) (pv 0))))) (pss_cons (ps_fldK (K := K) (pv 0) (pe_lst pa_nil)) (pss_cons (ps_fldK (K := K) (pv 0) pe_non) (pss_one (ps_fldK (K := K) (pv 0) pe_int)))))))), ?_⟩
    have hap : a ≠ p := ne_of ha hp nofun
    refine seq_step fun Z hZ => ?_; walk_at "vc"
    refine ⟨h, rfl, h1, hZ _ _ ?_⟩; clear hZ Z
    refine seq_step fun Z hZ => ?_; walk_at "vc"; walk_at "go"; refine hZ _ _ ?_; clear hZ Z
    refine seq_step fun Z hZ => ?_; walk_at "vc"; walk_at "go"; refine hZ _ _ ?_; clear hZ Z
    rw [upd_upd, List.length_map, min_cast h row.length h1]
    refine seq_step fun Z hZ => ?_; walk_at "vc"; walk_at "go"
    refine ⟨RgOk.of_le (by omega) (by omega) (by omega) (by omega), fun hb nhb => ?_⟩
    have na : a ≠ hb := by
      intro e
      subst e
      rw [upd_other ha hap] at nhb
      cases nhb
    have np : p ≠ hb := by
      intro e
      subst e
      rw [upd_same] at nhb
      cases nhb
    rw [upd_ne np.symm] at nhb
    walk_at "go"; refine hZ _ _ ?_; clear hZ Z
    refine seq_step fun Z hZ => ?_; walk_at "vc"
    refine ⟨Nat.zero_le _, fun wb nwb => ?_⟩
    have nw : wb ≠ p := by
      intro e
      subst e
      rw [upd_same] at nwb
      cases nwb
    rw [upd_ne nw] at nwb
    have nwh : wb ≠ hb := by
      intro e
      subst e
      rw [upd_same] at nwb
      cases nwb
    rw [upd_ne nwh, upd_ne nw] at nwb
    have haw := ne_of_none ha nwb
    walk_at "go"; refine hZ _ _ ?_; clear hZ Z
    refine seq_step fun Z hZ => ?_; walk_at "vc"; walk_at "go"; refine hZ _ _ ?_; clear hZ Z
    walk_at "vc"; walk_at "go"
    refine q hb wb _ nhb nwb ⟨⟨dx, upd_same⟩, ?_, ?_, ⟨[], ?_, .nil⟩, na, haw, nwh.symm, hl⟩ ?_
    · rw [upd_ne hap, upd_ne hap, upd_ne hap, upd_ne haw, upd_ne hap, upd_ne na, upd_ne hap]
      exact ha
    · rw [upd_ne np.symm, upd_ne np.symm, upd_ne np.symm, upd_ne nwh.symm, upd_ne np.symm, upd_same, range_nV]
      rfl
    · rw [upd_ne nw, upd_ne nw, upd_ne nw, upd_same]
      rfl
    · intro b o e n
      have n : b ≠ p := by simpa using n
      have n1 := ne_of_none e nhb
      have n2 := ne_of_none e nwb
      rw [upd_ne n, upd_ne n, upd_ne n, upd_ne n2, upd_ne n, upd_ne n1, upd_ne n]
      exact e
def sp_fits (C : Addr) : Sp := fun vs H Q _ => ∃ (p a hb wb : Addr) (row : List Int) (s : LSt) (i : Nat), vs = [.ref p, nV i] ∧ LayAt C H p a hb wb row s ∧ i < row.length ∧ Q (.bl (fitB row s.last i)) H
theorem ok_Laying_fits (T : Txt K mg A) : FnOk P w K mg base (L2.CX P w) 1 A.f_Laying_fits A.d_Laying_fits ["self", "index"] (sp_fits A.c_Laying) := by
  refine okN T.F_Laying_fits sc_Laying_fits (fun vs H Q E h => ?_) (fun cdv A' outer s H vs Q E hr h => ?_)
  · obtain ⟨p, a, hb, wb, row, s, i, rfl, _⟩ := h; rfl
  · obtain ⟨p, a, hb, wb, row, s, i, rfl, L, hi, q⟩ := h
    obtain ⟨dx, ho⟩ := L.ob
    have ha := L.rw
    refine ⟨_, (pss_one (ps_ret (pe_or (pe_cmpR op_isN (pe_fldK (K := K) (pv 0)) pe_non (nomark _)) (pe_one (pe_cmpR op_ge (pe_ix (ix_listK (K := K)) (pe_fldK (K := K) (pv 0)) (pv 1) (fun _ _ => rfl)) (pe_fldK (K := K) (pv 0)) (nomark _)))))), ?_⟩
    walk_at "vc"; walk_at "go"
    unfold fitB at q
    cases e : s.last with
    | none => rw [e] at q; exact q
    | some l =>
      rw [e] at q ho
      rw [if_neg nofun]
      walk_at "go"
      exact q
def sp_lay (C : Addr) : Sp := fun vs H Q _ => ∃ (p a hb wb : Addr) (row : List Int) (s : LSt) (i pl : Nat), vs = [.ref p, nV i, nV pl] ∧ LayAt C H p a hb wb row s ∧ WF row s ∧ i ∈ s.held ∧
  ∀ H', LayAt C H' p a hb wb row (layS row s i pl) → Keep [p, hb, wb] H H' → Q .non H'
theorem ok_Laying_lay (T : Txt K mg A) : FnOk P w K mg base (L2.CX P w) 1 A.f_Laying_lay A.d_Laying_lay ["self", "index", "pile"] (sp_lay A.c_Laying) := by
  refine okN T.F_Laying_lay sc_Laying_lay (fun vs H Q E h => ?_) (fun cdv A' outer s H vs Q E hr h => ?_)
  · obtain ⟨p, a, hb, wb, row, s, i, pl, rfl, _⟩ := h; rfl
  · obtain ⟨p, a, hb, wb, row, s, i, pl, rfl, L, W, hi, q⟩ := h
    obtain ⟨⟨dx, ho⟩, ha, hh, ⟨ts, hw, ht⟩, nah, naw, nhw, le⟩ := L
    have hil : i < row.length := Nat.lt_of_lt_of_le (W.lt i hi) W.dr
    have nph : p ≠ hb := ne_of ho hh nofun
    have npw : p ≠ wb := ne_of ho hw nofun
    have nap : a ≠ p := ne_of ha ho nofun
    refine ⟨_, (pss_cons (ps_expr (pe_remXK (K := K) rfl tk0 (pe_fldK (K := K) (pv 0)) (pv 1))) (pss_cons (ps_expr (pe_bmK (K := K) PySem.F.plainAttrs_list PySem.F.slot_list_append PySem.F.type_list_append mt_append (pe_fldK (K := K) (pv 0)) (pa_cons (pe_tup (pa_cons (pv 1) (pa_cons (pv 2) pa_nil))) pa_nil))) (pss_cons (ps_fldK (K := K) (pv 0) (pe_ix (ix_listK (K := K)) (pe_fldK (K := K) (pv 0)) (pv 1) (fun _ _ => rfl))) (pss_cons (ps_fldK (K := K) (pv 0) (pv 2)) (pss_one (ps_if (pt_cmpR op_lt (pe_fldK (K := K) (pv 0)) (pe_callB (call_lenLK (K := K)) (by rfl) T.b_len (by decide +kernel) (pa_cons (pe_fldK (K := K) (pv 0)) pa_nil)) (nomark _)) (pss_cons (ps_expr (pe_bmK (K := K) PySem.F.plainAttrs_list PySem.F.slot_list_append PySem.F.type_list_append mt_append (pe_fldK (K := K) (pv 0)) (pa_cons (pe_fldK (K := K) (pv 0)) pa_nil))) (pss_one (ps_fldaugK (K := K) (pv 0) pe_int in_add))) pss_nil)))))), ?_⟩
    refine seq_step fun Z hZ => ?_; walk_at "vc"; walk_at "go"
    have hh' : H hb = some (.lst ((s.held.map fun i : Nat => (i : Int)).map V.int)) := by rw [hh, nV_map]
    refine ⟨_, hh', fun _ => hZ _ _ ?_, not_not_intro (List.mem_map.mpr ⟨i, hi, rfl⟩)⟩; clear hZ Z
    rw [erase_cast, ← nV_map]
    have k1 : Keep [p, hb, wb] H (upd H hb (.lst ((s.held.erase i).map nV))) := keep_write (by simp)
    have ho1 := upd_other (x := .lst ((s.held.erase i).map nV)) ho nph
    have ha1 := upd_other (x := .lst ((s.held.erase i).map nV)) ha nah
    have hw1 := upd_other (x := .lst ((s.held.erase i).map nV)) hw nhw.symm
    have hh1 : upd H hb (.lst ((s.held.erase i).map nV)) hb = _ := upd_same
    have ht1 : Tups (upd H hb (.lst ((s.held.erase i).map nV))) ts s.way := Tups.wr ht hh nofun
    generalize upd H hb (.lst ((s.held.erase i).map nV)) = H1 at *
    have hlen : ts.length = s.way.length := Paired.length ht
    have wl := W.len; have wd := W.dr
    refine seq_step fun Z hZ => ?_; walk_at "vc"; walk_at "go"
    refine ⟨by decide, fun t nt => ?_⟩
    have ht2 := Tups.snoc (upd_same (H := H1) (a := t)) (Tups.new (o := .tup (prV (i, pl))) ht1 nt)
    have ho2 := upd_keep (x := .tup (prV (i, pl))) ho1 nt
    have ha2 := upd_keep (x := .tup (prV (i, pl))) ha1 nt
    have hw2 := upd_keep (x := .tup (prV (i, pl))) hw1 nt
    have hh2 := upd_keep (x := .tup (prV (i, pl))) hh1 nt
    have k2 := k1.trans ((same_upd (x := .tup (prV (i, pl))) nt).keep (ms := [p, hb, wb]))
    show ∃ l, V.ref wb = V.ref l ∧ ∃ x, upd H1 t (.tup (prV (i, pl))) l = some (.lst x) ∧ x.length < sizeLine ∧ Z _ (upd (upd H1 t (.tup (prV (i, pl)))) l _)
    generalize upd H1 t (.tup (prV (i, pl))) = H2 at *
    refine ⟨_, rfl, _, hw2, by rw [List.length_map]; exact small1000 (by omega), hZ _ _ ?_⟩; clear hZ Z
    have ew : ts.map V.ref ++ [V.ref t] = (ts ++ [t]).map V.ref := by simp
    rw [ew]
    have ht3 := Tups.wr ht2 (b := wb) (o := .lst ((ts ++ [t]).map V.ref)) hw2 nofun
    have ho3 := upd_other (x := .lst ((ts ++ [t]).map V.ref)) ho2 npw
    have ha3 := upd_other (x := .lst ((ts ++ [t]).map V.ref)) ha2 naw
    have hh3 := upd_other (x := .lst ((ts ++ [t]).map V.ref)) hh2 nhw
    have hw3 : upd H2 wb (.lst ((ts ++ [t]).map V.ref)) wb = _ := upd_same
    have k3 := k2.trans (keep_write (H := H2) (ms := [p, hb, wb]) (b := wb) (o := .lst ((ts ++ [t]).map V.ref)) (by simp))
    generalize upd H2 wb (.lst ((ts ++ [t]).map V.ref)) = H3 at *
    clear ho1 ha1 hw1 hh1 ht1 ho2 ha2 hw2 hh2 ht2 k1 k2 ew
    refine seq_step fun Z hZ => ?_; walk_at "vc"; walk_at "go"; refine hZ _ _ ?_; clear hZ Z
    refine seq_step fun Z hZ => ?_; walk_at "vc"; walk_at "go"; refine hZ _ _ ?_; clear hZ Z
    rw [upd_upd]
    have e4 : putF "pile" (V.int pl) (putF "last" (V.int (cd row i)) (fl (.ref a) (nV s.drawn) (.ref hb) (.ref wb) (lastV s.last) (nV s.pile))) = fl (.ref a) (nV s.drawn) (.ref hb) (.ref wb) (V.int (cd row i)) (nV pl) := by rfl
    rw [e4]
    have ha4 := upd_other (x := .ins A.c_Laying dx (fl (.ref a) (nV s.drawn) (.ref hb) (.ref wb) (V.int (cd row i)) (nV pl))) ha3 nap
    have hh4 := upd_other (x := .ins A.c_Laying dx (fl (.ref a) (nV s.drawn) (.ref hb) (.ref wb) (V.int (cd row i)) (nV pl))) hh3 nph.symm
    have hw4 := upd_other (x := .ins A.c_Laying dx (fl (.ref a) (nV s.drawn) (.ref hb) (.ref wb) (V.int (cd row i)) (nV pl))) hw3 npw.symm
    have ht4 := Tups.wr ht3 (b := p) (o := .ins A.c_Laying dx (fl (.ref a) (nV s.drawn) (.ref hb) (.ref wb) (V.int (cd row i)) (nV pl))) ho3 nofun
    have ho4 : upd H3 p (.ins A.c_Laying dx (fl (.ref a) (nV s.drawn) (.ref hb) (.ref wb) (V.int (cd row i)) (nV pl))) p = _ := upd_same
    have k4 := k3.trans (keep_write (H := H3) (ms := [p, hb, wb]) (b := p) (o := .ins A.c_Laying dx (fl (.ref a) (nV s.drawn) (.ref hb) (.ref wb) (V.int (cd row i)) (nV pl))) (by simp))
    generalize upd H3 p (.ins A.c_Laying dx (fl (.ref a) (nV s.drawn) (.ref hb) (.ref wb) (V.int (cd row i)) (nV pl))) = H4 at *
    clear ho3 ha3 hw3 hh3 ht3 k3
    walk_at "vc"; walk_at "go"
    rw [List.length_map]
    by_cases hd : s.drawn < row.length
    · rw [if_pos (by omega)]
      walk_at "go"
      have hl := List.length_erase_of_mem hi
      refine ⟨by rw [List.length_map]; exact small1000 (by omega), ?_⟩
      have ho5 := upd_other (x := .lst (List.map nV (s.held.erase i) ++ [nV s.drawn])) ho4 nph
      have ha5 := upd_other (x := .lst (List.map nV (s.held.erase i) ++ [nV s.drawn])) ha4 nah
      have hw5 := upd_other (x := .lst (List.map nV (s.held.erase i) ++ [nV s.drawn])) hw4 nhw.symm
      have hh5 : upd H4 hb (.lst (List.map nV (s.held.erase i) ++ [nV s.drawn])) hb = _ := upd_same
      have ht5 := Tups.wr ht4 (b := hb) (o := .lst (List.map nV (s.held.erase i) ++ [nV s.drawn])) hh4 nofun
      have k5 := k4.trans (keep_write (H := H4) (ms := [p, hb, wb]) (b := hb) (o := .lst (List.map nV (s.held.erase i) ++ [nV s.drawn])) (by simp))
      generalize upd H4 hb (.lst (List.map nV (s.held.erase i) ++ [nV s.drawn])) = H5 at *
      walk_at "go"
      refine ⟨_, _, ho5, Nat.le_of_ble_eq_true rfl, ?_⟩
      have e5 : putF "drawn" (V.int ((s.drawn : Int) + 1)) (fl (.ref a) (nV s.drawn) (.ref hb) (.ref wb) (V.int (cd row i)) (nV pl)) = fl (.ref a) (nV (s.drawn + 1)) (.ref hb) (.ref wb) (V.int (cd row i)) (nV pl) := by rfl
      rw [e5]
      refine q _ ⟨⟨dx, ?_⟩, upd_other ha5 nap, ?_, ⟨_, upd_other hw5 npw.symm, Tups.wr ht5 ho5 nofun⟩, nah, naw, nhw, le⟩ (k5.trans (keep_write (by simp)))
      · rw [layS_drawn hd]
        exact upd_same
      · rw [layS_held hd, upd_ne nph.symm, hh5, List.map_append]
        rfl
    · rw [if_neg (by omega)]
      refine q H4 ⟨⟨dx, ?_⟩, ha4, ?_, ⟨_, hw4, ht4⟩, nah, naw, nhw, le⟩ k4
      · rw [layS_drawn0 hd]
        exact ho4
      · rw [layS_held0 hd]
        exact hh4
def sp_least (C : Addr) : Sp := fun vs H Q _ => ∃ (p a hb wb l : Addr) (row : List Int) (s : LSt) (is : List Nat), vs = [.ref p, .ref l] ∧ LayAt C H p a hb wb row s ∧ H l = some (.lst (is.map nV)) ∧ is ≠ [] ∧ (∀ i ∈ is, i < row.length) ∧ is.length ≤ 1000 ∧
  ∀ H', Same H H' → Q (nV (least row is)) H'
theorem ok_Laying_least (T : Txt K mg A) : FnOk P w K mg base (L2.CX P w) 1 A.f_Laying_least A.d_Laying_least ["self", "indexes"] (sp_least A.c_Laying) := by
  refine okN T.F_Laying_least sc_Laying_least (fun vs H Q E h => ?_) (fun cdv A' outer s H vs Q E hr h => ?_)
  · obtain ⟨p, a, hb, wb, l, row, s, is, rfl, _⟩ := h; rfl
  · obtain ⟨p, a, hb, wb, l, row, s, is, rfl, L, hl, hne, hlt, hlen, q⟩ := h
    obtain ⟨dx, ho⟩ := L.ob
    have ha := L.rw
    refine ⟨_, (pss_one (ps_ret (pe_ix (ix_tupK (K := K)) (pe_callB (cr_minTK (K := K) rfl (hu8 hr)) (by rfl) T.b_min (by decide +kernel) (pa_cons (pe_lc (own := [("index", 2)]) rfl sc_Laying_least.nd (pi_listK (K := K) (pv 1)) (blkOk_by (own := [("index", 2)]) (N := ["self", "indexes", "index"]) (sc := defScope s_Laying_least) (by decide +kernel)) (fun _ _ _ _ _ => by exact (pg_name (i := 2) sc_Laying_least.nd rfl (Or.inl rfl))) (fun _ _ _ _ _ => by exact pts_nil) (fun _ _ _ _ _ => by exact (pe_tup (pa_cons (pe_ix (ix_listK (K := K)) (pe_fldK (K := K) (pv 0)) (pv 2) (fun _ _ => rfl)) (pa_cons (pv 2) pa_nil))))) pa_nil)) pe_int (fun _ _ => rfl)))), ?_⟩
    walk_at "vc"
    refine ⟨⟨_, SqL.of hl⟩, lcNew (ms := is) nV (fun i => tupD [cd row i, (i : Int)]) (SqL.of hl) hlen (fun m hm H' S C hC => ?_) (fun D acc H' hD S hd ha => ?_)⟩
    · have ho' := S _ _ ho
      have ha' := S _ _ ha
      have hml := hlt m hm
      walk_at "vc"; walk_at "go"
      exact ⟨by decide, fun t ht => hC _ _ (same_upd ht) (.tup2 ht)⟩
    · refine ⟨D, acc, is.map (fun i : Nat => [cd row i, (i : Int)]), rfl, SqL.of hd, ?_, by simpa using hne, fun p k hk hm hp => ?_⟩
      · rw [List.map_map]
        exact ha.now
      · rw [least_of hk hm] at hp
        refine ⟨p, rfl, _, hp, _, rfl, q H' S⟩
def sp_step (C : Addr) : Sp := fun vs H Q _ => ∃ (p a hb wb : Addr) (row : List Int) (s : LSt), vs = [.ref p] ∧ LayAt C H p a hb wb row s ∧ WF row s ∧ s.held ≠ [] ∧ ∀ H', LayAt C H' p a hb wb row (stepS row s) → Keep [p, hb, wb] H H' → Q .non H'
theorem ok_Laying_lay_plainly (T : Txt K mg A) : FnOk P w K mg base (L2.CX P w) 2 A.f_Laying_lay_plainly A.d_Laying_lay_plainly ["self"] (sp_step A.c_Laying) := by
  refine okN T.F_Laying_lay_plainly sc_Laying_lay_plainly (fun vs H Q E h => ?_) (fun cdv A' outer s H vs Q E hr h => ?_)
  · obtain ⟨p, a, hb, wb, row, s, rfl, _⟩ := h; rfl
  · obtain ⟨p, a, hb, wb, row, s, rfl, L, W, hne, q⟩ := h
    obtain ⟨dx, ho⟩ := L.ob
    refine ⟨_, (pss_cons (ps_setLc (i := 1) (own := [("index", 2)]) rfl sc_Laying_lay_plainly.nd rfl rfl (sw_true rfl rfl rfl (by decide +kernel)) (pi_listK (K := K) (pe_fldK (K := K) (pv 0))) (blkOk_by (own := [("index", 2)]) (N := ["self", "fitting", "index"]) (sc := defScope s_Laying_lay_plainly) (by decide +kernel)) (fun _ _ _ _ _ => by exact (pg_name (i := 2) sc_Laying_lay_plainly.nd rfl (Or.inl rfl))) (fun _ _ _ _ _ => by exact (pts_one (pt_val (pe_meth (pv 0) T.cl_Laying T.me_Laying_fits (ok_Laying_fits T) (hr.mono (by decide)) T.b_Laying_fits .nil passL (pa_cons (pv 2) pa_nil))))) (fun _ _ _ _ _ => by exact (pv 2))) (pss_one (ps_if (pt_truLK (K := K) (pv 1)) (pss_one (ps_expr (pe_meth (pv 0) T.cl_Laying T.me_Laying_lay (ok_Laying_lay T) (hr.mono (by decide)) T.b_Laying_lay .nil passL (pa_cons (pe_meth (pv 0) T.cl_Laying T.me_Laying_least (ok_Laying_least T) (hr.mono (by decide)) T.b_Laying_least .nil passL (pa_cons (pv 1) pa_nil)) (pa_cons (pe_fldK (K := K) (pv 0)) pa_nil))))) (pss_one (ps_expr (pe_meth (pv 0) T.cl_Laying T.me_Laying_lay (ok_Laying_lay T) (hr.mono (by decide)) T.b_Laying_lay .nil passL (pa_cons (pe_meth (pv 0) T.cl_Laying T.me_Laying_least (ok_Laying_least T) (hr.mono (by decide)) T.b_Laying_least .nil passL (pa_cons (pe_fldK (K := K) (pv 0)) pa_nil)) (pa_cons (pe_op op_add (pe_fldK (K := K) (pv 0)) pe_int) pa_nil)))))))), ?_⟩
    refine seq_step fun Z hZ => ?_; walk_at "vc"; walk_at "go"
    have hhd := L.hd
    have wl := W.len; have wd := W.dr; have wle := L.le
    have ltn : ∀ i ∈ s.held, i < row.length := fun i hi => Nat.lt_of_lt_of_le (W.lt i hi) W.dr
    refine ⟨⟨_, SqL.of hhd⟩, lcFilter (ms := s.held) nV nV (fitB row s.last) (SqL.of hhd) (by omega) (fun m hm H' C C' S h1 h2 => ?_) (fun D hD => hZ _ _ ?_)⟩
    · have ho' := S _ _ ho
      walk_at "vc"; walk_at "go"
      refine ⟨p, a, hb, wb, row, s, m, rfl, L.same S, ltn m hm, ?_⟩
      walk_at "vc"
      cases e : fitB row s.last m with
      | true => rw [if_pos rfl]; exact h1 e
      | false => rw [if_neg Bool.false_ne_true]; exact h2 e
    clear hZ Z
    have efi : s.held.filter (fitB row s.last) = fitting row s := rfl
    rw [efi]
    have S1 := same_upd (x := .lst ((fitting row s).map nV)) hD
    have hD1 : upd H D (.lst ((fitting row s).map nV)) D = _ := upd_same
    have L1 := L.same S1
    have ho1 := S1 _ _ ho
    generalize upd H D (.lst ((fitting row s).map nV)) = H1 at *
    have flen : (fitting row s).length ≤ s.held.length := List.length_filter_le _ _
    walk_at "vc"
    refine ⟨_, SqL.of hD1, ?_⟩
    by_cases hf : fitting row s = []
    · rw [if_neg (by rw [hf]; decide)]
      have hh1 := L1.hd
      walk_at "go"
      refine ⟨p, a, hb, wb, hb, row, s, s.held, rfl, L1, hh1, hne, ltn, by omega, fun H2 S2 => ?_⟩
      have ho2 := S2 _ _ ho1
      walk_at "go"
      refine ⟨p, a, hb, wb, row, s, least row s.held, s.pile + 1, rfl, L1.same S2, W, least_mem hne, fun H3 L3 k3 => q H3 ?_ (((S1.trans S2).keep).trans k3)⟩
      unfold stepS
      rw [if_pos hf]
      exact L3
    · rw [if_pos (by cases hq : fitting row s with | nil => exact absurd hq hf | cons => rfl)]
      walk_at "go"
      refine ⟨p, a, hb, wb, D, row, s, fitting row s, rfl, L1, hD1, hf, fun i hi => ltn i (fitting_sub hi), by omega, fun H2 S2 => ?_⟩
      have ho2 := S2 _ _ ho1
      walk_at "go"
      refine ⟨p, a, hb, wb, row, s, least row (fitting row s), s.pile, rfl, L1.same S2, W, fitting_sub (least_mem hf), fun H3 L3 k3 => q H3 ?_ (((S1.trans S2).keep).trans k3)⟩
      unfold stepS
      rw [if_neg hf]
      exact L3
def sp_same (K : PySem.W.Frag) (k : Nat) : Sp := fun vs H Q _ => ∃ (v u : V) (d : PyData), vs = [v, u] ∧ Dp K H v d ∧ Dp K H u d ∧ d.depth ≤ k ∧ okD d ∧ ∀ H', Same H H' → Q (.bl true) H'
theorem ok_same_0 (T : Txt K mg A) : FnOk P w K mg base (L2.CX P w) 1 A.f__law_same A.d__law_same ["found", "due"] (sp_same K 0) := by
  refine okN T.F__law_same sc__law_same (fun vs H Q E h => ?_) (fun cdv A' outer s H vs Q E hr h => ?_)
  · obtain ⟨v, u, d, rfl, _⟩ := h; rfl
  · obtain ⟨v, u, d, rfl, hv, hu, hk, hd, q⟩ := h
    refine ⟨_, (pss_cons (ps_if (pt_val (pe_callB (call_isD2 (K := K)) (by rfl) T.b_isinstance (by decide +kernel) (pa_cons (pv 1) (pa_cons (pe_tup (pa_cons (pe_bltn (v := .ty "list") (by rfl) T.b_list (by decide +kernel) rfl) (pa_cons (pe_bltn (v := .ty "tuple") (by rfl) T.b_tuple (by decide +kernel) rfl) pa_nil))) pa_nil)))) (pss_cons (ps_if (pw_and (pt_val (pe_callB (call_isD (K := K)) (by rfl) T.b_isinstance (by decide +kernel) (pa_cons (pv 1) (pa_cons (pe_bltn (v := .ty "list") (by rfl) T.b_list (by decide +kernel) rfl) pa_nil)))) (pw_and1 (pt_not (pt_val (pe_callB (call_isD (K := K)) (by rfl) T.b_isinstance (by decide +kernel) (pa_cons (pv 0) (pa_cons (pe_bltn (v := .ty "list") (by rfl) T.b_list (by decide +kernel) rfl) pa_nil))))))).pt (pss_one (ps_ret pe_bl)) pss_nil) (pss_cons (ps_if (pw_and (pt_val (pe_callB (call_isD (K := K)) (by rfl) T.b_isinstance (by decide +kernel) (pa_cons (pv 1) (pa_cons (pe_bltn (v := .ty "tuple") (by rfl) T.b_tuple (by decide +kernel) rfl) pa_nil)))) (pw_and1 (pt_not (pt_val (pe_callB (call_isD (K := K)) (by rfl) T.b_isinstance (by decide +kernel) (pa_cons (pv 0) (pa_cons (pe_bltn (v := .ty "tuple") (by rfl) T.b_tuple (by decide +kernel) rfl) pa_nil))))))).pt (pss_one (ps_ret pe_bl)) pss_nil) (pss_cons (ps_if (pt_cmpR op_neI (pe_callB (call_lenSK (K := K)) (by rfl) T.b_len (by decide +kernel) (pa_cons (pv 0) pa_nil)) (pe_callB (call_lenSK (K := K)) (by rfl) T.b_len (by decide +kernel) (pa_cons (pv 1) pa_nil)) (nomark _)) (pss_one (ps_ret pe_bl)) pss_nil) pss_never))) pss_nil) (pss_cons (ps_if (pt_cmpR op_isN (pv 1) pe_non (nomark _)) (pss_one (ps_ret (pe_cmpR op_isN (pv 0) pe_non (nomark _)))) pss_nil) (pss_cons (ps_if (pw_or (pt_val (pe_callB (call_isD (K := K)) (by rfl) T.b_isinstance (by decide +kernel) (pa_cons (pv 1) (pa_cons (pe_bltn (v := .ty "bool") (by rfl) T.b_bool (by decide +kernel) rfl) pa_nil)))) (pw_or1 (pt_val (pe_callB (call_isD (K := K)) (by rfl) T.b_isinstance (by decide +kernel) (pa_cons (pv 0) (pa_cons (pe_bltn (v := .ty "bool") (by rfl) T.b_bool (by decide +kernel) rfl) pa_nil)))))).pt (pss_one (ps_ret (pe_and (pe_callB (call_isD (K := K)) (by rfl) T.b_isinstance (by decide +kernel) (pa_cons (pv 1) (pa_cons (pe_bltn (v := .ty "bool") (by rfl) T.b_bool (by decide +kernel) rfl) pa_nil))) (pe_and (pe_callB (call_isD (K := K)) (by rfl) T.b_isinstance (by decide +kernel) (pa_cons (pv 0) (pa_cons (pe_bltn (v := .ty "bool") (by rfl) T.b_bool (by decide +kernel) rfl) pa_nil))) (pe_one (pe_cmpR op_eq (pv 0) (pv 1) (nomark _))))))) pss_nil) (pss_cons (ps_if (pt_val (pe_callB (call_isD (K := K)) (by rfl) T.b_isinstance (by decide +kernel) (pa_cons (pv 1) (pa_cons (pe_bltn (v := .ty "int") (by rfl) T.b_int (by decide +kernel) rfl) pa_nil)))) (pss_one (ps_ret (pe_and (pe_callB (call_isD (K := K)) (by rfl) T.b_isinstance (by decide +kernel) (pa_cons (pv 0) (pa_cons (pe_bltn (v := .ty "int") (by rfl) T.b_int (by decide +kernel) rfl) pa_nil))) (pe_one (pe_cmpR op_eq (pv 0) (pv 1) (nomark _)))))) pss_nil) (pss_one (ps_ret (pe_and (pe_callB (call_isD (K := K)) (by rfl) T.b_isinstance (by decide +kernel) (pa_cons (pv 0) (pa_cons (pe_bltn (v := .ty "str") (by rfl) T.b_str (by decide +kernel) rfl) pa_nil))) (pe_one (pe_cmpR op_eq (pv 0) (pv 1) (nomark _)))))))))), ?_⟩
    refine seq_step fun Z hZ => ?_; walk_at "vc"
    refine ⟨by decide, fun t ht => ?_⟩
    have S1 := same_upd (x := .tup [.ty "list", .ty "tuple"]) ht
    cases hv with
    | non =>
      cases hu
      refine ⟨_, _, _, _, _, false, false, rfl, upd_same, .non, by rfl, by rfl, false, rfl, ?_⟩
      walk_at "vc"
      refine hZ _ _ ?_; clear hZ Z
      walk_at "vc"
      exact q _ S1
    | bl b =>
      cases hu
      refine ⟨_, _, _, _, _, false, false, rfl, upd_same, .bl b, by rfl, by rfl, false, rfl, ?_⟩
      walk_at "vc"
      refine hZ _ _ ?_; clear hZ Z
      refine seq_step fun Z hZ => ?_; walk_at "vc"; rw [if_neg nofun]; refine hZ _ _ ?_; clear hZ Z
      refine seq_step fun Z hZ => ?_; walk_at "vc"
      repeat (refine isd (.bl b) (by rfl) ?_; walk_at "vc")
      exact ⟨rfl, q _ S1⟩
    | int i =>
      cases hu
      refine ⟨_, _, _, _, _, false, false, rfl, upd_same, .int i, by rfl, by rfl, false, rfl, ?_⟩
      walk_at "vc"
      refine hZ _ _ ?_; clear hZ Z
      refine seq_step fun Z hZ => ?_; walk_at "vc"; rw [if_neg nofun]; refine hZ _ _ ?_; clear hZ Z
      refine seq_step fun Z hZ => ?_; walk_at "vc"
      repeat ((first | refine isd (b := true) (.int i) (by rfl) ?_ | refine isd (b := false) (.int i) (by rfl) ?_); walk_at "vc")
      refine hZ _ _ ?_; clear hZ Z
      walk_at "vc"
      repeat ((first | refine isd (b := true) (.int i) (by rfl) ?_ | refine isd (b := false) (.int i) (by rfl) ?_); walk_at "vc")
      exact ⟨rfl, q _ S1⟩
    | str x =>
      cases hu
      refine ⟨_, _, _, _, _, false, false, rfl, upd_same, .str x, by rfl, by rfl, false, rfl, ?_⟩
      walk_at "vc"
      refine hZ _ _ ?_; clear hZ Z
      refine seq_step fun Z hZ => ?_; walk_at "vc"; rw [if_neg nofun]; refine hZ _ _ ?_; clear hZ Z
      refine seq_step fun Z hZ => ?_; walk_at "vc"
      repeat ((first | refine isd (b := true) (.str x) (by rfl) ?_ | refine isd (b := false) (.str x) (by rfl) ?_); walk_at "vc")
      refine hZ _ _ ?_; clear hZ Z
      walk_at "vc"
      repeat ((first | refine isd (b := true) (.str x) (by rfl) ?_ | refine isd (b := false) (.str x) (by rfl) ?_); walk_at "vc")
      exact ⟨rfl, q _ S1⟩
    | lst _ _ => exact absurd hk (by show ¬ _ + 1 ≤ 0; omega)
    | tup _ _ => exact absurd hk (by show ¬ _ + 1 ≤ 0; omega)
theorem same_zip {J : It} {G : Hp → Prop} {xs ys : List V} {ds : List PyData} {k : Nat} {H1 : Hp} {Q : VK} {σ : L2.St} (h4 : σ.length = 4) (w : Walk J ds.length G (YPair (fun i => xs[i]?) (fun i => ys[i]?))) (hG : ∀ H', Same H1 H' → G H') (hx : DpAll K H1 xs ds) (hy : DpAll K H1 ys ds)
    (hk : PyData.depthAll ds ≤ k) (hl : ds.length ≤ 1000) (ho : okDs ds) (hq : ∀ H', Same H1 H' → Q (.bl true) H') :
    LcA J (gTup K 2 (gCons (gName 2) (gCons (gName 3) gNil))) tYes (tCall (sp_same K k) [] E0 (tCons (tVar 2) (tCons (tVar 3) tNil))) [2, 3] σ H1 (fun x H2 => rAll K [x] H2 Q) := by
  obtain ⟨a, b, c, d, rfl⟩ : ∃ a b c d, σ = [a, b, c, d] := by
    match σ, h4 with
    | [a, b, c, d], _ => exact ⟨a, b, c, d, rfl⟩
  refine lcW (K := K) (fun _ => .bool true) w hl hG (fun i x H' H2' hi S hyd C hC => ?_) (fun D acc H' hD S hd ha => ?_)
  · obtain ⟨t, u, v, rfl, ht, rfl, e1, e2⟩ := hyd
    have S2 := same_upd (x := .tup [u, v]) ht
    walk_at "vc"
    refine ⟨_, SqT.of upd_same, rfl, _, _, rfl, _, _, rfl, ?_⟩
    obtain ⟨d, hd⟩ : ∃ d, ds[i]? = some d := ⟨_, List.getElem?_eq_getElem hi⟩
    walk_at "vc"
    refine ⟨u, v, d, rfl, Dp.same (S.trans S2) (dpAll_get hx e1 hd), Dp.same (S.trans S2) (dpAll_get hy e2 hd), Nat.le_trans (depth_get hd) hk, okDs_get ho hd, fun H4 S4 => hC _ _ (S2.trans S4) .bl⟩
  · refine ⟨D, List.replicate ds.length true, rfl, SqL.of ?_, ?_⟩
    · rw [hd, trues_inv ha.now]
    · rw [all_true]
      exact hq H' S
theorem ok_same_k (T : Txt K mg A) : ∀ k : Nat, FnOk P w K mg base (L2.CX P w) (k + 1) A.f__law_same A.d__law_same ["found", "due"] (sp_same K k) := by
  intro k
  induction k with
  | zero => exact ok_same_0 T
  | succ k ih =>
    have G : FnOk P w K mg base (L2.CX P w) (k + 2) A.f__law_same A.d__law_same ["found", "due"] (fun vs H Q _ => ∃ (v u : V) (d : PyData), vs = [v, u] ∧ Dp K H v d ∧ Dp K H u d ∧ d.depth ≤ k + 1 ∧ okD d ∧ ((∃ xs, d = .list xs) ∨ ∃ xs, d = .tuple xs) ∧ ∀ H', Same H H' → Q (.bl true) H') := by
      refine okN T.F__law_same sc__law_same (fun vs H Q E h => ?_) (fun cdv A' outer s H vs Q E hr h => ?_)
      · obtain ⟨v, u, d, rfl, _⟩ := h; rfl
      · obtain ⟨v, u, d, rfl, hv, hu, hk, hd, hc, q⟩ := h
        refine ⟨_, (pss_cons (ps_if (pt_val (pe_callB (call_isD2 (K := K)) (by rfl) T.b_isinstance (by decide +kernel) (pa_cons (pv 1) (pa_cons (pe_tup (pa_cons (pe_bltn (v := .ty "list") (by rfl) T.b_list (by decide +kernel) rfl) (pa_cons (pe_bltn (v := .ty "tuple") (by rfl) T.b_tuple (by decide +kernel) rfl) pa_nil))) pa_nil)))) (pss_cons (ps_if (pw_and (pt_val (pe_callB (call_isD (K := K)) (by rfl) T.b_isinstance (by decide +kernel) (pa_cons (pv 1) (pa_cons (pe_bltn (v := .ty "list") (by rfl) T.b_list (by decide +kernel) rfl) pa_nil)))) (pw_and1 (pt_not (pt_val (pe_callB (call_isD (K := K)) (by rfl) T.b_isinstance (by decide +kernel) (pa_cons (pv 0) (pa_cons (pe_bltn (v := .ty "list") (by rfl) T.b_list (by decide +kernel) rfl) pa_nil))))))).pt (pss_one (ps_ret pe_bl)) pss_nil) (pss_cons (ps_if (pw_and (pt_val (pe_callB (call_isD (K := K)) (by rfl) T.b_isinstance (by decide +kernel) (pa_cons (pv 1) (pa_cons (pe_bltn (v := .ty "tuple") (by rfl) T.b_tuple (by decide +kernel) rfl) pa_nil)))) (pw_and1 (pt_not (pt_val (pe_callB (call_isD (K := K)) (by rfl) T.b_isinstance (by decide +kernel) (pa_cons (pv 0) (pa_cons (pe_bltn (v := .ty "tuple") (by rfl) T.b_tuple (by decide +kernel) rfl) pa_nil))))))).pt (pss_one (ps_ret pe_bl)) pss_nil) (pss_cons (ps_if (pt_cmpR op_neI (pe_callB (call_lenSK (K := K)) (by rfl) T.b_len (by decide +kernel) (pa_cons (pv 0) pa_nil)) (pe_callB (call_lenSK (K := K)) (by rfl) T.b_len (by decide +kernel) (pa_cons (pv 1) pa_nil)) (nomark _)) (pss_one (ps_ret pe_bl)) pss_nil) (pss_one (ps_ret (pe_callB (cr_allK (K := K) rfl) (by rfl) T.b_all (by decide +kernel) (pa_cons (pe_lc (own := [("one", 2), ("other", 3)]) rfl sc__law_same.nd (pi_zipAK (K := K) (by rfl) T.b_zip (pa_cons (pv 0) (pa_cons (pv 1) pa_nil))) (blkOk_by (own := [("one", 2), ("other", 3)]) (N := ["found", "due", "one", "other"]) (sc := defScope s__law_same) (by decide +kernel)) (fun _ _ _ _ _ => by exact (pg_tupK (K := K) (n := 2) rfl (pgs_cons (pg_name (i := 2) sc__law_same.nd rfl (Or.inl rfl)) (pgs_cons (pg_name (i := 3) sc__law_same.nd rfl (Or.inl rfl)) pgs_nil)))) (fun _ _ _ _ _ => by exact pts_nil) (fun _ _ _ _ _ => by exact (pe_call ih hr (by rfl) T.m__law_same T.F__law_same.kp T.b__law_same .nil passL (pa_cons (pv 2) (pa_cons (pv 3) pa_nil))))) pa_nil))))))) pss_nil) (pss_cons (ps_if (pt_cmpR op_isN (pv 1) pe_non (nomark _)) (pss_one (ps_ret (pe_cmpR op_isN (pv 0) pe_non (nomark _)))) pss_nil) (pss_cons (ps_if (pw_or (pt_val (pe_callB (call_isD (K := K)) (by rfl) T.b_isinstance (by decide +kernel) (pa_cons (pv 1) (pa_cons (pe_bltn (v := .ty "bool") (by rfl) T.b_bool (by decide +kernel) rfl) pa_nil)))) (pw_or1 (pt_val (pe_callB (call_isD (K := K)) (by rfl) T.b_isinstance (by decide +kernel) (pa_cons (pv 0) (pa_cons (pe_bltn (v := .ty "bool") (by rfl) T.b_bool (by decide +kernel) rfl) pa_nil)))))).pt (pss_one (ps_ret (pe_and (pe_callB (call_isD (K := K)) (by rfl) T.b_isinstance (by decide +kernel) (pa_cons (pv 1) (pa_cons (pe_bltn (v := .ty "bool") (by rfl) T.b_bool (by decide +kernel) rfl) pa_nil))) (pe_and (pe_callB (call_isD (K := K)) (by rfl) T.b_isinstance (by decide +kernel) (pa_cons (pv 0) (pa_cons (pe_bltn (v := .ty "bool") (by rfl) T.b_bool (by decide +kernel) rfl) pa_nil))) (pe_one (pe_cmpR op_eq (pv 0) (pv 1) (nomark _))))))) pss_nil) (pss_cons (ps_if (pt_val (pe_callB (call_isD (K := K)) (by rfl) T.b_isinstance (by decide +kernel) (pa_cons (pv 1) (pa_cons (pe_bltn (v := .ty "int") (by rfl) T.b_int (by decide +kernel) rfl) pa_nil)))) (pss_one (ps_ret (pe_and (pe_callB (call_isD (K := K)) (by rfl) T.b_isinstance (by decide +kernel) (pa_cons (pv 0) (pa_cons (pe_bltn (v := .ty "int") (by rfl) T.b_int (by decide +kernel) rfl) pa_nil))) (pe_one (pe_cmpR op_eq (pv 0) (pv 1) (nomark _)))))) pss_nil) (pss_one (ps_ret (pe_and (pe_callB (call_isD (K := K)) (by rfl) T.b_isinstance (by decide +kernel) (pa_cons (pv 0) (pa_cons (pe_bltn (v := .ty "str") (by rfl) T.b_str (by decide +kernel) rfl) pa_nil))) (pe_one (pe_cmpR op_eq (pv 0) (pv 1) (nomark _)))))))))), ?_⟩
        refine seq_step fun Z hZ => ?_; walk_at "vc"
        refine ⟨by decide, fun t ht => ?_⟩
        have S1 := same_upd (x := .tup [.ty "list", .ty "tuple"]) ht
        rcases hc with ⟨ds, rfl⟩ | ⟨ds, rfl⟩
        · cases hv with
          | lst h1 h2 =>
          cases hu with
          | lst h3 h4 =>
            have dv := fun H' (S : Same H H') => Dp.lst (S.seq h1) (DpAll.same S h2)
            have du := fun H' (S : Same H H') => Dp.lst (S.seq h3) (DpAll.same S h4)
            have l1 := DpAll.len h2
            have l2 := DpAll.len h4
            obtain ⟨hd1, hd2⟩ := hd
            refine ⟨_, _, _, _, _, true, false, rfl, upd_same, du _ S1, by rfl, by rfl, true, rfl, ?_⟩
            walk_at "vc"
            refine isd (b := true) (du _ S1) (by rfl) ?_; walk_at "vc"
            refine isd (b := true) (dv _ S1) (by rfl) ?_; walk_at "vc"
            refine isd (b := false) (du _ S1) (by rfl) ?_; walk_at "vc"
            refine ⟨_, .inl (S1.seq h1), _, .inl (S1.seq h3), ?_⟩
            rw [if_neg (by rw [l1, l2]; simp)]
            refine ⟨_, _, .inl ⟨S1.seq h1, S1.seq h3, ?_⟩⟩
            refine same_zip (ds := ds) rfl (walk_zip (n := ds.length) (by rw [l1, l2]; omega)) (fun H' S => ⟨S.seq (S1.seq h1), S.seq (S1.seq h3)⟩) (DpAll.same S1 h2) (DpAll.same S1 h4) (Nat.le_of_succ_le_succ hk) hd1 hd2 fun H' S => q H' (S1.trans S)
        · cases hv with
          | tup h1 h2 =>
          cases hu with
          | tup h3 h4 =>
            have dv := fun H' (S : Same H H') => Dp.tup (sqT_same S h1) (DpAll.same S h2)
            have du := fun H' (S : Same H H') => Dp.tup (sqT_same S h3) (DpAll.same S h4)
            have l1 := DpAll.len h2
            have l2 := DpAll.len h4
            obtain ⟨hd1, hd2⟩ := hd
            refine ⟨_, _, _, _, _, false, true, rfl, upd_same, du _ S1, by rfl, by rfl, true, rfl, ?_⟩
            walk_at "vc"
            refine isd (b := false) (du _ S1) (by rfl) ?_; walk_at "vc"
            refine isd (b := true) (du _ S1) (by rfl) ?_; walk_at "vc"
            refine isd (b := true) (dv _ S1) (by rfl) ?_; walk_at "vc"
            refine ⟨_, .inr (sqT_same S1 h1), _, .inr (sqT_same S1 h3), ?_⟩
            rw [if_neg (by rw [l1, l2]; simp)]
            refine ⟨_, _, .inr ⟨sqT_same S1 h1, sqT_same S1 h3, ?_⟩⟩
            refine same_zip (ds := ds) rfl (walk_zipT (n := ds.length) (by rw [l1, l2]; omega)) (fun H' S => ⟨sqT_same S (sqT_same S1 h1), sqT_same S (sqT_same S1 h3)⟩) (DpAll.same S1 h2) (DpAll.same S1 h4) (Nat.le_of_succ_le_succ hk) hd1 hd2 fun H' S => q H' (S1.trans S)
    refine (okOr (ih.mono (Nat.le_succ _)) G).imp fun vs H Q E h => ?_
    obtain ⟨v, u, d, rfl, hv, hu, hk, hd, q⟩ := h
    by_cases h0 : d.depth ≤ k
    · exact .inl ⟨v, u, d, rfl, hv, hu, h0, hd, q⟩
    · refine .inr ⟨v, u, d, rfl, hv, hu, hk, hd, ?_, q⟩
      cases d with
      | list xs => exact .inl ⟨xs, rfl⟩
      | tuple xs => exact .inr ⟨xs, rfl⟩
      | dict _ => exact hd.elim
      | _ => exact absurd (Nat.zero_le k) h0
def sp_lay2 : Sp := fun vs H Q _ => ∃ (a : Addr) (row : List Int) (h : Int), vs = [.ref a, .int h] ∧ H a = some (.lst (row.map V.int)) ∧ row.length ≤ 1000 ∧ 1 ≤ h ∧ ∀ wb H', H wb = none → WayAt H' wb (plainW row h.toNat) → Same H H' → Q (.ref wb) H'
/-- the law's own last card: 0 ahead of any -/
def lastI : Option Int → Int
  | none => 0
  | some l => l
theorem ok__law_lay (T : Txt K mg A) : FnOk P w K mg base (L2.CX P w) 1 A.f__law_lay A.d__law_lay ["cards", "room"] sp_lay2 := by
  refine okN T.F__law_lay sc__law_lay (fun vs H Q E h => ?_) (fun cdv A' outer s H vs Q E hr h => ?_)
  · obtain ⟨a, row, h, rfl, _⟩ := h; rfl
  · obtain ⟨a, row, h, rfl, ha, hl, h1, q⟩ := h
    have hh1 : 1 ≤ h.toNat := by omega
    refine ⟨_, (pss_cons (ps_set (i := 2) sc__law_lay.nd rfl (Or.inl rfl) (pe_listRg rfl rfl T.b_list (prg_1 rfl T.b_range (pe_callB (call_min2 rfl) (by rfl) T.b_min (by decide +kernel) (pa_cons (pv 1) (pa_cons (pe_callB (call_lenLK (K := K)) (by rfl) T.b_len (by decide +kernel) (pa_cons (pv 0) pa_nil)) pa_nil)))))) (pss_cons (ps_set (i := 3) sc__law_lay.nd rfl (Or.inl rfl) (pe_lst pa_nil)) (pss_cons (ps_set (i := 4) sc__law_lay.nd rfl (Or.inr rfl) pe_int) (pss_cons (ps_set (i := 5) sc__law_lay.nd rfl (Or.inr rfl) pe_int) (pss_cons (ps_for PassesOwn.never rfl (pi_range1 (by rfl) T.b_range (pa_cons (pe_callB (call_lenLK (K := K)) (by rfl) T.b_len (by decide +kernel) (pa_cons (pv 0) pa_nil)) pa_nil)) (pg_name (i := 6) sc__law_lay.nd rfl (Or.inr rfl)) (pss_cons (ps_setLc (i := 7) (own := [("index", 9)]) rfl sc__law_lay.nd rfl rfl (sw_true rfl rfl rfl (by decide +kernel)) (pi_listK (K := K) (pv 2)) (blkOk_by (own := [("index", 9)]) (N := ["cards", "room", "held", "entries", "pile", "last", "turn", "keys", "best", "index"]) (sc := defScope s__law_lay) (by decide +kernel)) (fun _ _ _ _ _ => by exact (pg_name (i := 9) sc__law_lay.nd rfl (Or.inl rfl))) (fun _ _ _ _ _ => by exact pts_nil) (fun _ _ _ _ _ => by exact (pe_tup (pa_cons (pe_op op_add (pv 4) (pe_callTy call_intB (by rfl) T.b_int (by decide +kernel) (pa_cons (pe_and (pe_cmpR op_gt (pv 6) pe_int (nomark _)) (pe_one (pe_cmpR op_lt (pe_ix (ix_listK (K := K)) (pv 0) (pv 9) (fun _ _ => rfl)) (pv 5) (nomark _)))) pa_nil))) (pa_cons (pe_ix (ix_listK (K := K)) (pv 0) (pv 9) (fun _ _ => rfl)) (pa_cons (pv 9) pa_nil)))))) (pss_cons (ps_asg (pe_callB (cr_minTK (K := K) rfl (hu8 hr)) (by rfl) T.b_min (by decide +kernel) (pa_cons (pv 7) pa_nil)) (pg_tupK (K := K) (n := 3) rfl (pgs_cons (pg_name (i := 4) sc__law_lay.nd rfl (Or.inr rfl)) (pgs_cons (pg_name (i := 5) sc__law_lay.nd rfl (Or.inr rfl)) (pgs_cons (pg_name (i := 8) sc__law_lay.nd rfl (Or.inr rfl)) pgs_nil))))) (pss_cons (ps_expr (pe_bmK (K := K) PySem.F.plainAttrs_list PySem.F.slot_list_append PySem.F.type_list_append mt_append (pv 3) (pa_cons (pe_tup (pa_cons (pv 8) (pa_cons (pv 4) pa_nil))) pa_nil))) (pss_cons (ps_setLc (i := 2) (own := [("index", 9)]) rfl sc__law_lay.nd rfl rfl (sw_true rfl rfl rfl (by decide +kernel)) (pi_listK (K := K) (pv 2)) (blkOk_by (own := [("index", 9)]) (N := ["cards", "room", "held", "entries", "pile", "last", "turn", "keys", "best", "index"]) (sc := defScope s__law_lay) (by decide +kernel)) (fun _ _ _ _ _ => by exact (pg_name (i := 9) sc__law_lay.nd rfl (Or.inl rfl))) (fun _ _ _ _ _ => by exact (pts_one (pt_cmpR op_neI (pv 9) (pv 8) (nomark _)))) (fun _ _ _ _ _ => by exact (pv 9))) (pss_one (ps_if (pt_cmpR op_lt (pe_op op_add (pv 1) (pv 6)) (pe_callB (call_lenLK (K := K)) (by rfl) T.b_len (by decide +kernel) (pa_cons (pv 0) pa_nil)) (nomark _)) (pss_one (ps_expr (pe_bmK (K := K) PySem.F.plainAttrs_list PySem.F.slot_list_append PySem.F.type_list_append mt_append (pv 2) (pa_cons (pe_op op_add (pv 1) (pv 6)) pa_nil)))) pss_nil))))))) (pss_one (ps_ret (pv 3)))))))), ?_⟩
    refine seq_step fun Z hZ => ?_; walk_at "vc"; walk_at "go"
    rw [List.length_map, min_cast h row.length h1]
    refine ⟨RgOk.of_le (by omega) (by omega) (by omega) (by omega), fun hb nhb => hZ _ _ ?_⟩; clear hZ Z
    rw [range_nV]
    refine seq_step fun Z hZ => ?_; walk_at "vc"
    refine ⟨Nat.zero_le _, fun wb nwb => hZ _ _ ?_⟩; clear hZ Z
    refine seq_step fun Z hZ => ?_; walk_at "vc"; refine hZ _ _ ?_; clear hZ Z
    refine seq_step fun Z hZ => ?_; walk_at "vc"; refine hZ _ _ ?_; clear hZ Z
    have S0 := same_upd (x := .lst ((List.range (min h.toNat row.length)).map nV)) nhb
    have nwb0 := S0.free nwb
    have nhw : hb ≠ wb := ne_of_none upd_same nwb
    have S1 := S0.trans (same_upd (x := .lst []) nwb)
    have hh0 : upd (upd H hb (.lst ((List.range (min h.toNat row.length)).map nV))) wb (.lst []) hb = some (.lst ((stN row h.toNat 0).held.map nV)) := upd_other upd_same nhw
    have hw0 : upd (upd H hb (.lst ((List.range (min h.toNat row.length)).map nV))) wb (.lst []) wb = some (.lst []) := upd_same
    generalize upd (upd H hb (.lst ((List.range (min h.toNat row.length)).map nV))) wb (.lst []) = H1 at *
    clear S0 nwb
    refine seq_step fun Z hZ => ?_; walk_at "vc"; walk_at "go"
    refine ⟨by rw [List.length_map]; omega, by rw [List.length_map]; omega, ?_⟩
    rw [List.length_map, show ((row.length : Nat) : Int).toNat = row.length by omega]
    refine forB (walk_range (lo := 0) (n := row.length)) (fun t σ H' => ∃ hb v6 v7 v8, σ = [some (.ref a), some (.int h), some (.ref hb), some (.ref wb), some (nV (stN row h.toNat t).pile), some (.int (lastI (stN row h.toNat t).last)), v6, v7, v8, none] ∧ Same H H' ∧
      H hb = none ∧ hb ≠ wb ∧ H' hb = some (.lst ((stN row h.toNat t).held.map nV)) ∧ WayAt H' wb (stN row h.toNat t).way)
      ⟨hb, none, none, none, rfl, S1, nhb, nhw, hh0, ⟨[], hw0, .nil⟩⟩ (fun _ _ _ _ _ => trivial) ?_ ?_
    · rintro t x σ H2 H2' ht ⟨hb, v6, v7, v8, rfl, S, nhb, nhw, hh, ts, hw, htu⟩ ⟨rfl, rfl⟩
      obtain ⟨W, rs, _⟩ := stN_facts row hh1 t (by omega)
      have hne := stN_ne (row := row) hh1 ht
      have hdr := stN_drawn (row := row) hh1 t (by omega)
      have hwl := stN_way (row := row) hh1 t (by omega)
      have hdr1 := step_drawn (row := row) hne
      have hpm := pick_mem (row := row) hne
      have hpk := step_pick row (stN row h.toNat t)
      have hlast0 : t = 0 → (stN row h.toNat t).last = none := by rintro rfl; rfl
      have hlast1 : t ≠ 0 → (stN row h.toNat t).last = some (lastI (stN row h.toNat t).last) := by
        intro h0
        obtain ⟨t', rfl⟩ : ∃ t', t = t' + 1 := ⟨t - 1, by omega⟩
        show (stepS row (stN row h.toNat t')).last = some (lastI (stepS row (stN row h.toNat t')).last)
        rw [step_pick]
        rfl
      have hnext : stN row h.toNat (t + 1) = stepS row (stN row h.toNat t) := rfl
      generalize stN row h.toNat t = s' at *
      have wl := W.len; have wd := W.dr
      have ltn : ∀ i ∈ s'.held, i < row.length := fun i hi => Nat.lt_of_lt_of_le (W.lt i hi) W.dr
      have ha2 := S _ _ ha
      simp only [gName, List.set_cons_succ, List.set_cons_zero, Int.zero_add]
      refine seq_step fun Z hZ => ?_; walk_at "vc"; walk_at "go"
      refine ⟨⟨_, SqL.of hh⟩, lcNew (ms := s'.held) nV (fun i => tupD (key3 row s' i)) (SqL.of hh) (by omega) (fun m hm H3 S3 C hC => ?_) (fun D acc H3 hD S3 hd hacc => hZ _ _ ?_)⟩
      · have ha3 := S3 _ _ ha2
        have hml := ltn m hm
        walk_at "vc"
        split
        · rename_i h0
          have hl1 := hlast1 (by omega)
          walk_at "go"
          refine ⟨by decide, fun t3 ht3 => ?_⟩
          have e3 : key3 row s' m = [(s'.pile : Int) + (if cd row m < lastI s'.last then 1 else 0), cd row m, (m : Int)] := by
            unfold key3
            generalize lastI s'.last = ll at *
            rw [hl1]
            show [(s'.pile : Int) + (if decide (ll ≤ cd row m) = true then 0 else 1), cd row m, (m : Int)] = _
            by_cases hc : cd row m < ll
            · rw [if_pos hc, if_neg (by simp; omega)]
            · rw [if_neg hc, if_pos (by simp; omega)]
          refine hC _ _ (same_upd ht3) ?_
          rw [e3]
          exact .tup3 ht3
        · rename_i h0
          have hl0 := hlast0 (by omega)
          walk_at "go"
          refine ⟨by decide, fun t3 ht3 => ?_⟩
          have e3 : key3 row s' m = [(s'.pile : Int) + 0, cd row m, (m : Int)] := by
            unfold key3
            rw [hl0]
            rfl
          refine hC _ _ (same_upd ht3) ?_
          rw [e3]
          exact .tup3 ht3
      · clear hZ Z
        refine seq_step fun Z hZ => ?_; walk_at "vc"; walk_at "go"
        refine ⟨D, acc, s'.held.map (key3 row s'), rfl, SqL.of hd, by rw [List.map_map]; exact hacc.now, by simpa using hne, fun p3 k hk hm hp => ?_⟩
        rw [pick_key hk hm] at hp
        refine ⟨p3, rfl, _, hp, rfl, _, _, rfl, _, _, rfl, _, _, rfl, rfl, hZ _ _ ?_⟩; clear hZ Z
        have hh3 := S3 _ _ hh
        have hw3 := S3 _ _ hw
        have ht3 := Tups.mono htu fun _ _ q => S3 _ _ q
        have ha3 := S3 _ _ ha2
        have SS := S.trans S3
        generalize pick row s' = pk at *
        refine seq_step fun Z hZ => ?_; walk_at "vc"; walk_at "go"
        refine ⟨by decide, fun t4 nt4 => ?_⟩
        have hlt : ts.length = s'.way.length := Paired.length htu
        have hw4 := upd_keep (x := .tup (prV pk)) hw3 nt4
        have hh4 := upd_keep (x := .tup (prV pk)) hh3 nt4
        have ht4 := Tups.snoc (upd_same (H := H3) (a := t4)) (Tups.new (o := .tup (prV pk)) ht3 nt4)
        refine ⟨_, hw4, by rw [List.length_map]; exact small1000 (by omega), hZ _ _ ?_⟩; clear hZ Z
        have ew : ts.map V.ref ++ [V.ref t4] = (ts ++ [t4]).map V.ref := by simp
        have S4 := SS.trans (same_upd (x := .tup (prV pk)) nt4)
        show tSeq _ _ _ _ (upd (upd H3 t4 (.tup (prV pk))) wb (.lst (ts.map V.ref ++ [V.ref t4])))
        rw [ew]
        generalize upd H3 t4 (.tup (prV pk)) = H4 at *
        have S5 : Same H (upd H4 wb (.lst ((ts ++ [t4]).map V.ref))) := fun b o e => upd_other (S4 _ _ e) (ne_of_none e nwb0)
        have hw5 : upd H4 wb (.lst ((ts ++ [t4]).map V.ref)) wb = _ := upd_same
        have hh5 := upd_other (x := .lst ((ts ++ [t4]).map V.ref)) hh4 nhw
        have ht5 := Tups.wr ht4 (b := wb) (o := .lst ((ts ++ [t4]).map V.ref)) hw4 nofun
        generalize upd H4 wb (.lst ((ts ++ [t4]).map V.ref)) = H5 at *
        refine seq_step fun Z hZ => ?_; walk_at "vc"; walk_at "go"
        refine ⟨⟨_, SqL.of hh5⟩, lcFilter (ms := s'.held) nV nV (fun i => i != pk.1) (SqL.of hh5) (by omega) (fun m hm H' C C' S' q1 q2 => ?_) (fun D2 hD2 => hZ _ _ ?_)⟩
        · walk_at "vc"
          by_cases hc : m = pk.1
          · rw [if_neg (by rw [hc]; simp)]
            exact q2 (by simp [hc])
          · rw [if_pos (by simp; omega)]
            exact q1 (by simp [hc])
        clear hZ Z
        have ef : s'.held.filter (fun i => i != pk.1) = s'.held.erase pk.1 := (List.Nodup.erase_eq_filter W.nd pk.1).symm
        rw [ef]
        have nD2 := S5.free hD2
        have hw6 := upd_keep (x := .lst ((s'.held.erase pk.1).map nV)) hw5 hD2
        have S6 := S5.trans (same_upd (x := .lst ((s'.held.erase pk.1).map nV)) hD2)
        have ht6 := Tups.new (o := .lst ((s'.held.erase pk.1).map nV)) ht5 hD2
        have hh6 : upd H5 D2 (.lst ((s'.held.erase pk.1).map nV)) D2 = _ := upd_same
        have nDw : D2 ≠ wb := by
          rintro rfl
          rw [hw5] at hD2
          cases hD2
        generalize upd H5 D2 (.lst ((s'.held.erase pk.1).map nV)) = H6 at *
        have ha6 := S6 _ _ ha
        have hel := List.length_erase_of_mem hpm
        walk_at "vc"; walk_at "go"
        rw [List.length_map]
        rw [hnext, hpk]
        by_cases hd' : h + t < row.length
        · rw [if_pos hd']
          have hds : s'.drawn < row.length := by omega
          walk_at "go"
          refine ⟨by rw [List.length_map]; exact small1000 (by omega), ?_⟩
          have ed : h + (t : Int) = (s'.drawn : Int) := by omega
          rw [ed]
          refine ⟨rfl, rfl, fun b o e => upd_other (S6 _ _ e) (ne_of_none e nD2), nD2, nDw, ?_, ts ++ [t4], upd_other hw6 nDw.symm, Tups.wr ht6 hh6 nofun⟩
          rw [upd_same, layS_held hds, List.map_append]
          rfl
        · rw [if_neg hd']
          have hds : ¬ s'.drawn < row.length := by omega
          refine ⟨rfl, rfl, S6, nD2, nDw, ?_, ts ++ [t4], hw6, ht6⟩
          rw [layS_held0 hds]
          exact hh6
    · rintro σ H2 ⟨hb, v6, v7, v8, rfl, S, nhb, nhw, hh, hw⟩
      refine hZ _ _ ?_
      walk_at "vc"
      have e := stN_end (row := row) hh1
      refine q wb H2 nwb0 ?_ S
      rw [e] at hw
      exact hw
def rDNotIn : R2 := fun x y H Q => ∃ (a : Addr) (o : Option V), y = .ref a ∧ DGet H a x o ∧ Q (.bl (!o.isSome)) H
theorem op_dnotIn {X : Cx} (hu : X.A.units + 1 < cLine) : OpR X (compareOp .NotIn) rDNotIn := by
  intro pins s σ H x y v u Q I rx ry h
  obtain ⟨a, o, rfl, g, q⟩ := h
  cases ry
  exact d_notIn hu I g rx fun s3 I3 => ⟨.bl _, H, I3, rfl, q⟩
/-- .. over a range, with a test -/
theorem lcFilterR {n : Nat} {g : TG} {tt : TT} {te : TE} {vs : List Nat} {σ : L2.St} {H1 : Hp} {Q : VK} (f : Nat → V) (q : Nat → Bool) (hn : n ≤ 1000)
    (step : ∀ m, m < n → ∀ (H' : Hp) (C : V → Hp → Prop) (C' : Hp → Prop), Same H1 H' → (q m = true → C (f m) H') → (q m = false → C' H') → g (.int (0 + (m : Int))) (wipe σ vs) H' fun σ2 H2 => wipe σ2 vs = wipe σ vs ∧ tt σ2 H2 fun b H3 => if b = true then te σ2 H3 C else C' H3)
    (hq : ∀ D, H1 D = none → Q (.ref D) (upd H1 D (.lst (((List.range n).filter q).map f)))) : LcA (Itr 0 n) g tt te vs σ H1 Q := by
  refine lcB (walk_range (lo := 0) (n := n)) fun D hD => ⟨fun i H => i ≤ n ∧ H = upd H1 D (.lst (((List.range i).filter q).map f)), ⟨Nat.zero_le _, rfl⟩, (fun _ _ _ _ => trivial), ?_, ?_⟩
  · rintro i x H H' hi ⟨h1, rfl⟩ ⟨rfl, rfl⟩
    have enx : (List.range (i + 1)).filter q = (List.range i).filter q ++ (if q i = true then [i] else []) := by
      rw [List.range_succ, List.filter_append]
      congr 1
      rw [List.filter_cons, List.filter_nil]
    refine step i hi (upd H1 D (.lst (((List.range i).filter q).map f))) _ _ (same_upd hD) (fun hq => ?_) (fun hq => ?_)
    · refine ⟨_, upd_same, ?_, hi, ?_⟩
      · rw [List.length_map]
        refine Nat.lt_of_le_of_lt (List.length_filter_le _ _) ?_
        rw [List.length_range]
        exact small1000 (by omega)
      · rw [upd_upd, enx, if_pos hq, List.map_append]
        rfl
    · refine ⟨hi, ?_⟩
      rw [enx, if_neg (by rw [hq]; decide), List.append_nil]
  · rintro H ⟨_, rfl⟩
    exact hq D hD
theorem putK_le (kvs : List (Key × V)) (k : Key) (v : V) : (putK kvs k v).length ≤ kvs.length + 1 := by
  unfold putK
  split
  · rw [List.length_map]
    omega
  · rw [List.length_append]
    exact Nat.le_refl _
def metI (C : Addr) (H0 : Hp) (a x hb wb D : Addr) (row : List Int) (h : Int) (m : Nat) (σ : L2.St) (H' : Hp) : Prop := ∃ t is, m + t = row.length ∧ σ = [some (.ref a), some (.int h), some (.ref x), some (.ref D)] ∧ LayAt C H' x a hb wb row (stN row h.toNat t) ∧ LL H' D is ((metsT row h.toNat t).map (·.map ci)) ∧ (∀ i ∈ is, i ≠ x ∧ i ≠ hb ∧ i ≠ wb ∧ H0 i = none) ∧ Same H0 H'
def sp_met : Sp := fun vs H Q _ => ∃ (a : Addr) (row : List Int) (h : Int), vs = [.ref a, .int h] ∧ H a = some (.lst (row.map V.int)) ∧ row.length ≤ 1000 ∧ 1 ≤ h ∧ ∀ D is H', H D = none → (∀ i ∈ is, H i = none) → LL H' D is ((metsW row h.toNat).map (·.map ci)) → Same H H' → Q (.ref D) H'
theorem ok_hands_met (T : Txt K mg A) : FnOk P w K mg base (L2.CX P w) 4 A.f_hands_met A.d_hands_met ["row", "hand"] sp_met := by
  refine okN T.F_hands_met sc_hands_met (fun vs H Q E h => ?_) (fun cdv A' outer s H vs Q E hr h => ?_)
  · obtain ⟨a, row, h, rfl, _⟩ := h; rfl
  · obtain ⟨a, row, h, rfl, ha, hl, h1, q⟩ := h
    have h1' : 1 ≤ h.toNat := by omega
    refine ⟨_, (pss_cons (ps_set (i := 2) sc_hands_met.nd rfl (Or.inl rfl) (pe_make T.mk_Laying (ok_Laying___init__ T) (hr.mono (by decide)) (by rfl) T.m_Laying T.b_Laying___init__ .nil passL (pa_cons (pv 0) (pa_cons (pv 1) pa_nil)))) (pss_cons (ps_set (i := 3) sc_hands_met.nd rfl (Or.inl rfl) (pe_lst pa_nil)) (pss_cons (ps_while PassesOwn.never (pt_truLK (K := K) (pe_fldK (K := K) (pv 2))) (pss_cons (ps_expr (pe_bmK (K := K) PySem.F.plainAttrs_list PySem.F.slot_list_append PySem.F.type_list_append mt_append (pv 3) (pa_cons (pe_callTy (call_listLK (K := K)) (by rfl) T.b_list (by decide +kernel) (pa_cons (pe_fldK (K := K) (pv 2)) pa_nil)) pa_nil))) (pss_one (ps_expr (pe_meth0 (pv 2) T.cl_Laying T.me_Laying_lay_plainly (ok_Laying_lay_plainly T) (hr.mono (by decide)) T.b_Laying_lay_plainly .nil passL))))) (pss_one (ps_ret (pv 3)))))), ?_⟩
    refine seq_step fun Z hZ => ?_; walk_at "vc"
    intro x dx nx ndx nex
    have S0 : Same H (upd (upd H dx (.own x)) x (.ins A.c_Laying dx [])) := fun b o e => upd_keep (upd_keep e ndx) (by rw [upd_ne nex.symm]; exact nx)
    refine ⟨x, dx, a, row, h, rfl, upd_same, S0 _ _ ha, hl, h1, fun hb wb H1 nhb nwb L1 k1 => ⟨rfl, hZ _ _ ?_⟩⟩
    clear hZ Z
    have S1 : Same H H1 := fun b o e => k1 b o (S0 b o e) (ni1 (ne_of_none e nx))
    have mhb := S0.free nhb
    have mwb := S0.free nwb
    refine seq_step fun Z hZ => ?_; walk_at "vc"
    refine ⟨Nat.zero_le _, fun D nD => hZ _ _ ?_⟩; clear hZ Z
    obtain ⟨dx1, ho1⟩ := L1.ob
    have nDx : D ≠ x := (ne_of_none ho1 nD).symm
    have nDa : D ≠ a := (ne_of_none L1.rw nD).symm
    have nDh : D ≠ hb := (ne_of_none L1.hd nD).symm
    have nDw : D ≠ wb := (ne_of_none L1.wy.choose_spec.1 nD).symm
    have nDH : H D = none := S1.free nD
    have S2 := same_upd (x := .lst []) nD
    have hD2 : upd H1 D (.lst []) D = some (.lst (([] : List Addr).map V.ref)) := upd_same
    have L2 := L1.same S2
    generalize upd H1 D (.lst []) = H2 at *
    refine seq_step fun Z hZ => ?_
    refine ⟨metI A.c_Laying H a x hb wb D row h, ⟨row.length, 0, [], by omega, rfl, L2, ⟨hD2, List.nodup_nil, by simp, .nil⟩, by simp, S1.trans S2⟩, ?_⟩
    rintro m σ H3 ⟨t, is, hmt, rfl, L3, hLL, his, S3⟩
    obtain ⟨dx3, ho3⟩ := L3.ob
    have hh3 : H3 hb = some (.lst (((stN row h.toNat t).held.map ci).map V.int)) := by
      rw [L3.hd, nV_map]
      rfl
    have hst := stN_facts row h1' t (by omega)
    have W3 := hst.1
    walk_at "vc"; walk_at "go"
    by_cases hn : t = row.length
    · have h0 : (stN row h.toNat t).held = [] := (rest_zero W3).mp (by have := hst.2.1; omega)
      rw [h0]
      refine (if_neg (by decide)).mpr ?_
      refine hZ _ _ ?_
      walk_at "vc"
      subst hn
      exact q D is H3 nDH (fun i hi => (his i hi).2.2.2) hLL S3
    · have ht : t < row.length := by omega
      have hne := stN_ne (row := row) h1' ht
      have : (!(((stN row h.toNat t).held.map ci).map V.int).isEmpty) = true := by cases hq : (stN row h.toNat t).held with | nil => exact absurd hq hne | cons => rfl
      rw [if_pos this]
      refine ⟨fun σ' H' => ∃ m', m' < m ∧ metI A.c_Laying H a x hb wb D row h m' σ' H', fun _ _ h => h, ?_⟩
      clear hZ Z
      have hml : ((metsT row h.toNat t).map (·.map ci)).length = t := by
        rw [List.length_map]
        unfold metsT
        rw [List.length_map, List.length_range]
      have hil := hLL.len
      refine ⟨.inl ⟨rfl, _, SqL.of hLL.hd⟩, ?_⟩
      walk_at "go"
      intro q1 nq
      refine ⟨_, upd_keep hLL.hd nq, by rw [List.length_map]; exact small1000 (by omega), ?_⟩
      have L4 := (L3.same (same_upd (x := .lst (((stN row h.toNat t).held.map ci).map V.int)) nq)).off (u := .lst (is.map V.ref ++ [V.ref q1])) (upd_keep hLL.hd nq) nDa nDh nDw
      have hP := hLL.pushS (p := (stN row h.toNat t).held.map ci) nq
      have S4 : Same H (upd (upd H3 q1 (.lst (((stN row h.toNat t).held.map ci).map V.int))) D (.lst (is.map V.ref ++ [V.ref q1]))) := fun b o e => upd_other (upd_keep (S3 _ _ e) nq) (ne_of_none e nDH)
      have q1x : q1 ≠ x := (ne_of_none ho3 nq).symm
      have q1h : q1 ≠ hb := (ne_of_none hh3 nq).symm
      have q1w : q1 ≠ wb := (ne_of_none L3.wy.choose_spec.1 nq).symm
      have q1H : H q1 = none := S3.free nq
      generalize upd (upd H3 q1 (.lst (((stN row h.toNat t).held.map ci).map V.int))) D (.lst (is.map V.ref ++ [V.ref q1])) = H4 at *
      obtain ⟨dx4, ho4⟩ := L4.ob
      walk_at "go"
      have his' : ∀ i ∈ is ++ [q1], i ≠ x ∧ i ≠ hb ∧ i ≠ wb ∧ H i = none := by
        intro i hi
        rcases List.mem_append.mp hi with m | m
        · exact his i m
        · rw [List.mem_singleton.mp m]
          exact ⟨q1x, q1h, q1w, q1H⟩
      refine ⟨x, a, hb, wb, row, stN row h.toNat t, rfl, L4, W3, hne, fun H5 L5 k5 => ⟨row.length - (t + 1), by omega, t + 1, is ++ [q1], by omega, rfl, L5, ?_, his', fun b o e => k5 b o (S4 b o e) (ni3 (ne_of_none e nx) (ne_of_none e mhb) (ne_of_none e mwb))⟩⟩
      rw [metsT_succ, List.map_append, ← stN_held h1' (by omega)]
      refine hP.frame fun b o e hb' => ?_
      rcases hb' with rfl | m
      · exact k5 _ _ e (ni3 nDx nDh nDw)
      · obtain ⟨a1, a2, a3, _⟩ := his' b m
        exact k5 _ _ e (ni3 a1 a2 a3)
def heldI (H0 : Hp) (a G D : Addr) (row : List Int) (h : Int) (t : Nat) (σ : L2.St) (H' : Hp) : Prop := ∃ v4 v5 v6 v7 is kvs, σ = [some (.ref a), some (.int h), some (.ref G), some (.ref D), v4, v5, v6, v7] ∧ H' G = some (.dK kvs) ∧ kvs.length ≤ t ∧ (∀ i : Nat, (valV kvs (.inl (i : Int))).isSome = decide (i ∈ ((plainW row h.toNat).take t).map Prod.fst)) ∧ LL H' D is ((metsT row h.toNat t).map (·.map ci)) ∧ (∀ i ∈ is, H0 i = none) ∧ Keep [G, D] H0 H'
def sp_lheld : Sp := fun vs H Q _ => ∃ (a : Addr) (row : List Int) (h : Int), vs = [.ref a, .int h] ∧ H a = some (.lst (row.map V.int)) ∧ row.length ≤ 1000 ∧ 1 ≤ h ∧ ∀ D is H', H D = none → (∀ i ∈ is, H i = none) → LL H' D is ((metsW row h.toNat).map (·.map ci)) → Same H H' → Q (.ref D) H'
theorem ok__law_held (T : Txt K mg A) : FnOk P w K mg base (L2.CX P w) 2 A.f__law_held A.d__law_held ["cards", "room"] sp_lheld := by
  refine okN T.F__law_held sc__law_held (fun vs H Q E h => ?_) (fun cdv A' outer s H vs Q E hr h => ?_)
  · obtain ⟨a, row, h, rfl, _⟩ := h; rfl
  · obtain ⟨a, row, h, rfl, ha, hl, h1, q⟩ := h
    have h1' : 1 ≤ h.toNat := by omega
    have wl := plainW_length row h1'
    refine ⟨_, (pss_cons (ps_set (i := 2) sc__law_held.nd rfl (Or.inr rfl) pe_dnewK) (pss_cons (ps_set (i := 3) sc__law_held.nd rfl (Or.inl rfl) (pe_lst pa_nil)) (pss_cons (ps_for PassesOwn.never rfl (pi_enumK (K := K) (by rfl) T.b_enumerate (pa_cons (pe_call (ok__law_lay T) (hr.mono (by decide)) (by rfl) T.m__law_lay T.F__law_lay.kp T.b__law_lay .nil passL (pa_cons (pv 0) (pa_cons (pv 1) pa_nil))) pa_nil)) (pg_tupK (K := K) (n := 2) rfl (pgs_cons (pg_name (i := 4) sc__law_held.nd rfl (Or.inl rfl)) (pgs_cons (pg_tupK (K := K) (n := 2) rfl (pgs_cons (pg_name (i := 5) sc__law_held.nd rfl (Or.inl rfl)) (pgs_cons (pg_name (i := 6) sc__law_held.nd rfl (Or.inl rfl)) pgs_nil))) pgs_nil))) (pss_cons (ps_expr (pe_bmK (K := K) PySem.F.plainAttrs_list PySem.F.slot_list_append PySem.F.type_list_append mt_append (pv 3) (pa_cons (pe_lc (own := [("place", 7)]) rfl sc__law_held.nd (pi_range1 (by rfl) T.b_range (pa_cons (pe_callB (call_min2 rfl) (by rfl) T.b_min (by decide +kernel) (pa_cons (pe_callB (call_lenLK (K := K)) (by rfl) T.b_len (by decide +kernel) (pa_cons (pv 0) pa_nil)) (pa_cons (pe_op op_add (pv 1) (pv 4)) pa_nil))) pa_nil)) (blkOk_by (own := [("place", 7)]) (N := ["cards", "room", "gone", "found", "turn", "index", "pile", "place"]) (sc := defScope s__law_held) (by decide +kernel)) (fun _ _ _ _ _ => by exact (pg_name (i := 7) sc__law_held.nd rfl (Or.inl rfl))) (fun _ _ _ _ _ => by exact (pts_one (pt_cmpR (op_dnotIn (Nat.lt_of_le_of_lt (Nat.add_le_add_left (by decide) _) (hu8 hr))) (pv 7) (pv 2) rfl))) (fun _ _ _ _ _ => by exact (pv 7))) pa_nil))) (pss_one (ps_asg (pv 6) (pg_sub (pv 2) (pv 5) (set_dict (Nat.lt_of_le_of_lt (Nat.add_le_add_left (by decide) _) (hu8 hr)))))))) (pss_one (ps_ret (pv 3)))))), ?_⟩
    refine seq_step fun Z hZ => ?_; walk_at "vc"
    refine fun G nG => hZ _ _ ?_; clear hZ Z
    have S1 := same_upd (x := .dK []) nG
    have hG1 : upd H G (.dK []) G = _ := upd_same
    have ha1 := S1 _ _ ha
    generalize upd H G (.dK []) = H1 at *
    refine seq_step fun Z hZ => ?_; walk_at "vc"
    refine ⟨Nat.zero_le _, fun D nD => hZ _ _ ?_⟩; clear hZ Z
    have S2 := same_upd (x := .lst []) nD
    have hD2 : upd H1 D (.lst []) D = some (.lst (([] : List Addr).map V.ref)) := upd_same
    have hG2 := S2 _ _ hG1
    have ha2 := S2 _ _ ha1
    have nDH := S1.free nD
    have nDG : D ≠ G := (ne_of_none hG1 nD).symm
    generalize upd H1 D (.lst []) = H2 at *
    refine seq_step fun Z hZ => ?_; walk_at "vc"; walk_at "go"
    refine ⟨a, row, h, rfl, ha2, hl, h1, fun w H3 nw ⟨ts, hw, htu⟩ S3 => ?_⟩
    walk_at "vc"
    have S123 := (S1.trans S2).trans S3
    have hlt : ts.length = (plainW row h.toNat).length := Paired.length htu
    have nGw : G ≠ w := by rintro rfl; rw [hG2] at nw; cases nw
    have nDw : D ≠ w := by rintro rfl; rw [hD2] at nw; cases nw
    refine ⟨_, SqL.of hw, ?_⟩
    refine forB (walk_enum (xs := ts.map V.ref)) (heldI H3 a G D row h) ⟨none, none, none, none, [], [], rfl, S3 _ _ hG2, Nat.le_refl _, fun i => rfl, ⟨S3 _ _ hD2, List.nodup_nil, by simp, .nil⟩, by simp, Keep.refl⟩ (fun i σ H' _ ⟨_, _, _, _, _, _, _, _, _, _, _, _, k⟩ => SqL.of (k _ _ hw (ni2 nGw.symm nDw.symm))) ?_ ?_
    · rintro t x σ H4 H4' hi ⟨v4, v5, v6, v7, is, kvs, rfl, hG4, hkl, hkv, hLL, his, k4⟩ ⟨p, b0, x0, rfl, np, rfl, eb, ex⟩
      rw [List.length_map] at hi
      have hi' : t < (plainW row h.toNat).length := by omega
      have eb : b0 = .int (t : Int) := (Option.some.inj eb).symm
      subst eb
      obtain ⟨t0, et, rfl⟩ := at_map ex
      have hT3 := Tups.at htu et (List.getElem?_eq_getElem hi')
      have hT : H4 t0 = some (.tup (prV (plainW row h.toNat)[t])) := k4 _ _ hT3 (ni2 (by rintro rfl; rw [S3 _ _ hG2] at hT3; cases hT3) (by rintro rfl; rw [S3 _ _ hD2] at hT3; cases hT3))
      have ha4 := k4 _ _ (S3 _ _ ha2) (ni2 (ne_of_none ha nG) (ne_of_none ha nDH))
      have htk : (plainW row h.toNat).take (t + 1) = (plainW row h.toNat).take t ++ [(plainW row h.toNat)[t]] := by rw [List.take_add_one, List.getElem?_eq_getElem hi']; rfl
      have hG3 := S3 _ _ hG2
      have hT5 := upd_keep (x := .tup [V.int t, V.ref t0]) hT np
      have hG5 := upd_keep (x := .tup [V.int t, V.ref t0]) hG4 np
      have ha5 := upd_keep (x := .tup [V.int t, V.ref t0]) ha4 np
      have hLL5 := hLL.same (same_upd (x := .tup [V.int t, V.ref t0]) np)
      have k5 := k4.trans (same_upd (x := .tup [V.int t, V.ref t0]) np).keep
      have hpp : upd H4 p (.tup [V.int t, V.ref t0]) p = _ := upd_same
      walk_at "vc"
      generalize upd H4 p (.tup [V.int t, V.ref t0]) = H5 at *
      generalize (plainW row h.toNat)[t] = e at *
      have hmn : (if h + (t : Int) < ((row.map V.int).length : Int) then h + (t : Int) else ((row.map V.int).length : Int)) = ((min (h.toNat + t) row.length : Nat) : Int) := by
        rw [List.length_map]
        split <;> omega
      refine ⟨_, SqT.of hpp, rfl, _, _, rfl, _, _, rfl, t0, rfl, _, SqT.of hT5, rfl, _, _, rfl, _, _, rfl, rfl, rfl, .inl ⟨rfl, _, SqL.of hLL5.hd⟩, _, SqL.of ha5, _, rfl, ?_⟩
      rw [hmn]
      refine ⟨by omega, by omega, ?_⟩
      rw [Int.toNat_natCast]
      refine lcFilterR nV (fun i => decide (i ∉ ((plainW row h.toNat).take t).map Prod.fst)) (by omega) (fun m hm H' C C' S c1 c2 => ?_) (fun q1 nq => ?_)
      · walk_at "vc"
        refine ⟨G, _, rfl, DGet.k (k := .inl (m : Int)) (S _ _ hG5), ?_⟩
        rw [hkv m]
        refine ⟨_, rfl, ?_⟩
        by_cases hm2 : m ∈ ((plainW row h.toNat).take t).map Prod.fst
        · rw [decide_eq_true hm2, if_neg (by decide)]
          exact c2 (decide_eq_false (not_not_intro hm2))
        · rw [decide_eq_false hm2, if_pos (by decide)]
          exact c1 (decide_eq_true hm2)
      · have nqD : q1 ≠ D := by rintro rfl; rw [hLL5.hd] at nq; cases nq
        have nqG : q1 ≠ G := by rintro rfl; rw [hG5] at nq; cases nq
        refine ⟨_, upd_keep hLL5.hd nq, by rw [List.length_map, hLL5.len, List.length_map]; unfold metsT; rw [List.length_map, List.length_range]; exact small1000 (by omega), ?_⟩
        have hP := hLL5.pushS (p := (leftOf (min (h.toNat + t) row.length) ((plainW row h.toNat).take t)).map ci) nq
        have efl : ((List.range (min (h.toNat + t) row.length)).filter fun i => decide (i ∉ ((plainW row h.toNat).take t).map Prod.fst)).map nV = ((leftOf (min (h.toNat + t) row.length) ((plainW row h.toNat).take t)).map ci).map V.int := by
          rw [nV_map]
          rfl
        rw [efl]
        rw [← List.map_singleton (f := fun l : List Nat => l.map ci), ← List.map_append, ← metsT_succ] at hP
        generalize ((leftOf (min (h.toNat + t) row.length) ((plainW row h.toNat).take t)).map ci).map V.int = zs at *
        have hG6 : upd (upd H5 q1 (.lst zs)) D (.lst (is.map V.ref ++ [V.ref q1])) G = some (.dK kvs) := upd_other (upd_keep hG5 nq) nDG.symm
        have k6 : Keep [G, D] H3 (upd (upd H5 q1 (.lst zs)) D (.lst (is.map V.ref ++ [V.ref q1]))) := fun b o e2 n => upd_other (upd_keep (k5 _ _ e2 n) nq) (fun e3 => n (by rw [e3]; simp))
        have nq3 : H3 q1 = none := by
          cases e3 : H3 q1 with
          | none => rfl
          | some o =>
            rw [k5 _ _ e3 (ni2 nqG nqD)] at nq
            cases nq
        generalize upd (upd H5 q1 (.lst zs)) D (.lst (is.map V.ref ++ [V.ref q1])) = H6 at *
        have his' : ∀ i ∈ is ++ [q1], H3 i = none := by
          intro i hi
          rcases List.mem_append.mp hi with m | m
          · exact his i m
          · rw [List.mem_singleton.mp m]
            exact nq3
        refine ⟨G, _, rfl, DPut.k (k := .inl (e.1 : Int)) (v := nV e.2) hG6 (small1000 (by omega)), ?_⟩
        refine ⟨_, _, _, _, is ++ [q1], _, rfl, upd_same, Nat.le_trans (putK_le _ _ _) (by omega), fun i => ?_, hP.frame fun b o e2 hb' => upd_other e2 ?_, his', fun b o e2 n => upd_other (k6 _ _ e2 n) (fun e3 => n (by rw [e3]; simp))⟩
        · rw [valV_put, htk, List.map_append]
          by_cases hie : i = e.1
          · rw [if_pos (by rw [hie])]
            exact (decide_eq_true (List.mem_append.mpr (.inr (by rw [hie]; simp)))).symm
          · rw [if_neg (by rw [Sum.inl.injEq]; omega), hkv i, Bool.eq_iff_iff, decide_eq_true_eq, decide_eq_true_eq, List.mem_append]
            simp [hie]
        · rcases hb' with rfl | m
          · exact nDG
          · rintro rfl
            rw [his' _ m] at hG3
            cases hG3
    · rintro σ H4 ⟨v4, v5, v6, v7, is, kvs, rfl, hG4, hkl, hkv, hLL, his, k4⟩
      refine hZ _ _ ?_; clear hZ Z
      rw [List.length_map, hlt, wl] at hLL
      walk_at "vc"
      exact q D is H4 nDH (fun i hi => S123.free (his i hi)) hLL fun b o e => k4 _ _ (S123 _ _ e) (ni2 (ne_of_none e nG) (ne_of_none e nDH))
theorem leftOf_len (d : Nat) (w : List (Nat × Nat)) : (leftOf d w).length ≤ d := Nat.le_trans (List.length_filter_le _ _) (by rw [List.length_range]; exact Nat.le_refl _)
theorem ok__law_same (T : Txt K mg A) : FnOk P w K mg base (L2.CX P w) 5 A.f__law_same A.d__law_same ["found", "due"] (sp_same K 4) := ok_same_k T 4
def sp_law (K : PySem.W.Frag) : Sp := fun vs H Q _ => ∃ (a : Addr) (ns : List Int), vs = [.ref a] ∧ SqL K H a (ns.map V.int) ∧ ns.length ≤ 63 ∧ ∀ H', Q (.bl true) H'
theorem ok_law (T : Txt K mg A) : FnOk P w K mg base (L2.CX P w) 6 A.f_law A.d_law ["script"] (sp_law K) := by
  refine okN T.F_law sc_law (fun vs H Q E h => ?_) (fun cdv A' outer s H vs Q E hr h => ?_)
  · obtain ⟨a, ns, rfl, _⟩ := h; rfl
  · obtain ⟨a, ns, rfl, hS, hn, q⟩ := h
    refine ⟨_, (pss_cons (ps_set (i := 1) sc_law.nd rfl (Or.inl rfl) (pe_call (ok__law_source T) (hr.mono (by decide)) (by rfl) T.m__law_source T.F__law_source.kp T.b__law_source .nil passL (pa_cons (pv 0) (pa_cons pe_int pa_nil)))) (pss_cons (ps_set (i := 2) sc_law.nd rfl (Or.inl rfl) (pe_call (ok__law_cards T) (hr.mono (by decide)) (by rfl) T.m__law_cards T.F__law_cards.kp T.b__law_cards .nil passL (pa_cons (pv 0) (pa_cons (pv 1) (pa_cons pe_int pa_nil))))) (pss_cons (ps_set (i := 3) sc_law.nd rfl (Or.inl rfl) (pe_call (ok__law_room T) (hr.mono (by decide)) (by rfl) T.m__law_room T.F__law_room.kp T.b__law_room .nil passL (pa_cons (pv 1) (pa_cons (pe_callB (call_lenLK (K := K)) (by rfl) T.b_len (by decide +kernel) (pa_cons (pv 2) pa_nil)) pa_nil)))) (pss_cons (ps_set (i := 4) sc_law.nd rfl (Or.inl rfl) (pe_call (ok__law_held T) (hr.mono (by decide)) (by rfl) T.m__law_held T.F__law_held.kp T.b__law_held .nil passL (pa_cons (pv 2) (pa_cons (pv 3) pa_nil)))) (pss_cons (ps_set (i := 5) sc_law.nd rfl (Or.inl rfl) (pe_callTy (call_listLK (K := K)) (by rfl) T.b_list (by decide +kernel) (pa_cons (pv 2) pa_nil))) (pss_cons (ps_set (i := 6) sc_law.nd rfl (Or.inl rfl) (pe_call (ok_hands_met T) (hr.mono (by decide)) (by rfl) T.m_hands_met T.F_hands_met.kp T.b_hands_met .nil passL (pa_cons (pv 5) (pa_cons (pv 3) pa_nil)))) (pss_cons (ps_if (pw_or (pt_not (pt_val (pe_call (ok__law_same T) (hr.mono (by decide)) (by rfl) T.m__law_same T.F__law_same.kp T.b__law_same .nil passL (pa_cons (pv 6) (pa_cons (pv 4) pa_nil))))) (pw_or1 (pt_cmpR (op_neDK (K := K) hr.units) (pv 5) (pv 2) (nomark _)))).pt (pss_one (ps_ret pe_bl)) pss_nil) (pss_cons (ps_if (pt_cmpR (op_neDK (K := K) hr.units) (pv 2) (pe_lst pa_nil) (nomark _)) (pss_cons (ps_set (i := 7) sc_law.nd rfl (Or.inl rfl) (pe_call (ok__law_draw T) (hr.mono (by decide)) (by rfl) T.m__law_draw T.F__law_draw.kp T.b__law_draw .nil passL (pa_cons (pv 1) (pa_cons (pe_callB (call_lenLK (K := K)) (by rfl) T.b_len (by decide +kernel) (pa_cons (pv 2) pa_nil)) pa_nil)))) (pss_cons (ps_set (i := 8) sc_law.nd rfl (Or.inl rfl) (pe_ix (ix_listK (K := K)) (pv 6) (pv 7) (fun _ _ => rfl))) (pss_cons (ps_expr (pe_bmK (K := K) PySem.F.plainAttrs_list PySem.F.slot_list_append PySem.F.type_list_append mt_append (pv 8) (pa_cons (pe_un un_neg pe_int) pa_nil))) (pss_cons (ps_if (pt_not (pt_val (pe_call (ok__law_same T) (hr.mono (by decide)) (by rfl) T.m__law_same T.F__law_same.kp T.b__law_same .nil passL (pa_cons (pe_op op_cat (pe_slice (sl_listK (K := K)) (pv 6) po_none (po_some (pv 7))) (pe_slice (sl_listK (K := K)) (pv 6) (po_some (pe_op op_add (pv 7) pe_int)) po_none)) (pa_cons (pe_op op_cat (pe_slice (sl_listK (K := K)) (pv 4) po_none (po_some (pv 7))) (pe_slice (sl_listK (K := K)) (pv 4) (po_some (pe_op op_add (pv 7) pe_int)) po_none)) pa_nil))))) (pss_one (ps_ret pe_bl)) pss_nil) (pss_one (ps_expr (pe_bmK (K := K) PySem.F.plainAttrs_list PySem.F.slot_list_append PySem.F.type_list_append mt_append (pv 6) (pa_cons (pe_lst (pa_cons pe_int pa_nil)) pa_nil)))))))) pss_nil) (pss_one (ps_ret (pe_call (ok__law_same T) (hr.mono (by decide)) (by rfl) T.m__law_same T.F__law_same.kp T.b__law_same .nil passL (pa_cons (pe_callN0 (ok_hands_met T) (hr.mono (by decide)) (by rfl) T.m_hands_met T.F_hands_met.kp T.kb_hands_met_hand_row passL (pk_cons (pv 3) (pk_cons (pv 5) pk_nil))) (pa_cons (pv 4) pa_nil))))))))))))), ?_⟩
    refine seq_step fun Z hZ => ?_; walk_at "vc"
    refine ⟨a, ns, 0, rfl, hS, by decide, by decide, fun s1 H1 ns1 hs1 S1 => hZ _ _ ?_⟩; clear hZ Z
    have R1 := Rd.of hS ns1 S1
    refine seq_step fun Z hZ => ?_; walk_at "vc"
    refine ⟨a, ns, s1, _, 60, rfl, R1, hs1, by omega, by decide, by decide, fun c xs H2 nc hc lc hs2 k2 => hZ _ _ ?_⟩; clear hZ Z
    refine seq_step fun Z hZ => ?_; walk_at "vc"; walk_at "go"
    rw [List.length_map]
    refine ⟨s1, _, _, rfl, hs2, by omega, by omega, by omega, fun r H3 r1 r2 hs3 k3 => hZ _ _ ?_⟩; clear hZ Z
    have ncs := (hs1.ne nc).symm
    have hc3 := k3.get hc (ni1 ncs)
    have r1' : 1 ≤ r.toNat := by omega
    -- due
    refine seq_step fun Z hZ => ?_; walk_at "vc"
    refine ⟨c, xs, r, rfl, hc3, by omega, by omega, fun D1 is1 H5 nD1 nis1 L5 S5 => hZ _ _ ?_⟩; clear hZ Z
    have hs5 := hs3.same S5
    have ds1 : s1 ≠ D1 := hs3.ne nD1
    have dis1 : ∀ i ∈ is1, s1 ≠ i := fun i hi => hs3.ne (nis1 i hi)
    have hc5 := S5 _ _ hc3
    have hsl : ((metsW xs r.toNat).map (·.map ci)).length = xs.length := by
      rw [List.length_map]
      unfold metsW
      rw [List.length_map, List.length_range]
    have hbnd : ∀ p ∈ (metsW xs r.toNat).map (·.map ci), p.length ≤ 1000 := by
      intro p hp
      obtain ⟨l, hl, rfl⟩ := List.mem_map.mp hp
      obtain ⟨t, _, rfl⟩ := List.mem_map.mp hl
      rw [List.length_map]
      have := leftOf_len (min (r.toNat + t) xs.length) ((plainW xs r.toNat).take t)
      omega
    generalize hhs : (metsW xs r.toNat).map (·.map ci) = hs at *
    refine seq_step fun Z hZ => ?_; walk_at "vc"
    refine ⟨_, SqL.of hc5, fun g ng => hZ _ _ ?_⟩; clear hZ Z
    have S7 := same_upd (x := .lst (xs.map V.int)) ng
    have hg7 : upd H5 g (.lst (xs.map V.int)) g = _ := upd_same
    have hc7 := S7 _ _ hc5
    have L7 := L5.same S7
    have hs7 := hs5.same S7
    have dg : s1 ≠ g := hs5.ne ng
    generalize upd H5 g (.lst (xs.map V.int)) = H7 at *
    have fin : ∀ H', Keep [s1] H7 H' → H' c = some (.lst (xs.map V.int)) ∧ H' g = some (.lst (xs.map V.int)) ∧ LL H' D1 is1 hs := fun H' k =>
      ⟨k.get hc7 (ni1 ncs), k.get hg7 (ni1 dg.symm), L7.frame fun b o e m => k b o e (by
        rcases m with rfl | m
        · exact ni1 ds1.symm
        · exact ni1 (dis1 b m).symm)⟩
    clear hc3 hc5 hc L5 hg7 hc7
    -- told
    obtain ⟨f1, f2, f4⟩ := fin H7 Keep.refl
    refine seq_step fun Z hZ => ?_; walk_at "vc"
    refine ⟨g, xs, r, rfl, f2, by omega, by omega, fun D2 is2 H9 nD2 nis2 L9 S9 => hZ _ _ ?_⟩; clear hZ Z
    rw [hhs] at L9
    have hs9 := hs7.same S9
    have d2 : s1 ≠ D2 := hs7.ne nD2
    have dis2 : ∀ i ∈ is2, s1 ≠ i := fun i hi => hs7.ne (nis2 i hi)
    have k9 : Keep [s1] H7 H9 := S9.keep
    obtain ⟨f1, f2, f4⟩ := fin H9 k9
    refine seq_step fun Z hZ => ?_; walk_at "vc"
    refine ⟨.ref D2, .ref D1, llD hs, rfl, L9.dp, f4.dp, Nat.le_trans (depth_ll _) (by decide), okD_ll (by omega) hbnd, fun H10 S10 => ?_⟩
    walk_at "vc"
    have hs10 := hs9.same S10
    have k10 := k9.trans S10.keep
    have L10 := L9.same S10
    obtain ⟨f1, f2, f4⟩ := fin H10 k10
    refine neD_same (dpIntL (SqL.of f2)) (dpIntL (SqL.of f1)) (shaped_ints _) ?_
    walk_at "vc"
    refine hZ _ _ ?_; clear hZ Z
    refine seq_step fun Z hZ => ?_
    have rest : ∀ H11 v7 v8, Keep [s1] H7 H11 → Z [some (.ref a), some (.ref s1), some (.ref c), some (.int r), some (.ref D1), some (.ref g), some (.ref D2), v7, v8] H11 := by
      intro H11 v7 v8 k11
      refine hZ _ _ ?_; clear hZ Z
      obtain ⟨f1, f2, f4⟩ := fin H11 k11
      walk_at "vc"
      refine ⟨g, xs, r, rfl, f2, by omega, by omega, fun D3 is3 H17 nD3 nis3 L17 S17 => ?_⟩
      rw [hhs] at L17
      obtain ⟨f1, f2, f4⟩ := fin H17 (k11.trans S17.keep)
      exact ⟨.ref D3, .ref D1, llD hs, rfl, L17.dp, f4.dp, Nat.le_trans (depth_ll _) (by decide), okD_ll (by omega) hbnd, fun H18 S18 => q H18⟩
    walk_at "vc"
    refine ⟨Nat.zero_le _, fun e0 ne0 => ?_⟩
    have S11 := same_upd (x := .lst []) ne0
    have L11 := L10.same S11
    have hs11 := hs10.same S11
    have k11 := k10.trans S11.keep
    have he0 : upd H10 e0 (.lst []) e0 = _ := upd_same
    generalize upd H10 e0 (.lst []) = H11 at *
    obtain ⟨f1, f2, f4⟩ := fin H11 k11
    refine ne_nil (dpIntL (SqL.of f1)) (shaped_ints _) (.lst (SqL.of he0) .nil) ?_
    walk_at "vc"
    by_cases hne : xs = []
    · rw [if_neg (by rw [hne]; decide)]
      exact rest _ _ _ k11
    · rw [if_pos (by cases hq : xs with | nil => exact absurd hq hne | cons => rfl)]
      have hil := L11.len
      have hpos : 0 < xs.length := List.length_pos_iff.mpr hne
      refine ⟨_, SqL.of f1, s1, _, _, rfl, hs11, by omega, by rw [List.length_map]; omega, by rw [List.length_map]; omega, fun at_ H12 a0 a1 hs12 k12 => ?_⟩
      rw [List.length_map] at a1
      obtain ⟨k, rfl⟩ : ∃ k : Nat, at_ = (k : Int) := ⟨at_.toNat, by omega⟩
      have hk : k < is2.length := by omega
      have n7D2 : H7 D2 = none := nD2
      have n7is2 : ∀ i ∈ is2, H7 i = none := nis2
      have kk12 := k11.trans k12
      have L12 : LL H12 D2 is2 hs := L11.frame fun b o e m => k12.get e (by
        rcases m with rfl | m
        · exact ni1 d2.symm
        · exact ni1 (dis2 b m).symm)
      have gi : is2[k]? = some is2[k] := List.getElem?_eq_getElem hk
      have gh : hs[k]? = some hs[k] := List.getElem?_eq_getElem (by omega)
      have gv : (is2.map V.ref)[k]? = some (.ref is2[k]) := by rw [List.getElem?_map, gi]; rfl
      have hi0 := L12.get gi gh
      have hi0n := n7is2 _ (List.getElem_mem hk)
      have hi0D : is2[k] ≠ D2 := fun e => L12.nD (e ▸ List.getElem_mem hk)
      have hcne := fun y (hy : y ∈ cutK is2 k) => cutK_ne L12.nd gi hy
      have hbk := hbnd _ (List.getElem_mem (show k < hs.length by omega))
      generalize is2[k] = i0 at *
      generalize hs[k] = pk at *
      walk_at "vc"
      refine ⟨_, SqL.of L12.hd, _, at_of rfl gv, .inl ⟨rfl, _, SqL.of hi0⟩, _, rfl, _, hi0, by rw [List.length_map]; exact small1000 hbk, ?_⟩
      have k13 := kk12.updFresh (u := .lst (pk.map V.int ++ [V.int (-5)])) hi0n
      have hD13 := upd_other (x := .lst (pk.map V.int ++ [V.int (-5)])) L12.hd hi0D.symm
      have hcut := L12.dpCut (K := K) k (H' := upd H12 i0 (.lst (pk.map V.int ++ [V.int (-5)]))) fun i hi o e => upd_other e (hcne i hi)
      generalize upd H12 i0 (.lst (pk.map V.int ++ [V.int (-5)])) = H13 at *
      obtain ⟨f1, f2, f4⟩ := fin H13 k13
      refine cutCat hD13 (by rw [List.length_map]; omega) (by rw [List.length_map]; omega) fun c1 H14 nc1 S14 hc1 => ?_
      have k14 := k13.trans S14.keep
      have L14 := f4.same S14
      have hil1 := L14.len
      refine cutCat L14.hd (by rw [List.length_map]; omega) (by rw [List.length_map]; omega) fun c2 H15 nc2 S15 hc2 => ?_
      have k15 := k14.trans S15.keep
      have L15 := L14.same S15
      have hc1' := S15 _ _ hc1
      have e1 : cutK (is2.map V.ref) k = (cutK is2 k).map V.ref := by rw [List.map_append, List.map_take, List.map_drop]
      have e2 : cutK (is1.map V.ref) k = (cutK is1 k).map V.ref := by rw [List.map_append, List.map_take, List.map_drop]
      rw [e1] at hc1'
      rw [e2] at hc2
      refine ⟨.ref c1, .ref c2, llD (cutK hs k), rfl, .lst (SqL.of hc1') (DpAll.same (S14.trans S15) hcut), .lst (SqL.of hc2) (L15.dpCut k fun i _ o e => e), Nat.le_trans (depth_ll _) (by decide), okD_ll ?_ (fun p hp => hbnd p (cutK_sub hp)), fun H16 S16 => ?_⟩
      · rw [List.length_append, List.length_take, List.length_drop]; omega
      walk_at "vc"
      have k16 := k15.trans S16.keep
      have SS := (S14.trans S15).trans S16
      refine ⟨.inl ⟨rfl, _, SqL.of (SS _ _ hD13)⟩, by decide, fun q8 nq8 => ⟨_, upd_keep (SS _ _ hD13) nq8, by rw [List.length_map]; exact small1000 (by omega), ?_⟩⟩
      exact rest _ _ _ ((k16.trans (same_upd nq8).keep).updFresh n7D2)

end
theorem all_mk {l : PySem.W.OpenLaw} {w : World} {K : PySem.W.Frag} {h : Heap} {mg : Str → Option Value} {fa : Addr} (X : K.In h) (G : h.Ns mainGlobals mg) (hfa : mg "law" = some (.ref fa))
    {f__law_cell_at : Addr} {od__law_cell_at an__law_cell_at : Option Addr} {sl__law_cell_at : Array (Option Value)} {oc__law_cell_at kV__law_cell_at dc__law_cell_at pm__law_cell_at cd__law_cell_at ct__law_cell_at : Value}
    {f__law_source : Addr} {od__law_source an__law_source : Option Addr} {sl__law_source : Array (Option Value)} {oc__law_source kV__law_source dc__law_source pm__law_source cd__law_source ct__law_source : Value}
    {f__law_draw : Addr} {od__law_draw an__law_draw : Option Addr} {sl__law_draw : Array (Option Value)} {oc__law_draw kV__law_draw dc__law_draw pm__law_draw cd__law_draw ct__law_draw : Value}
    {f__law_cards : Addr} {od__law_cards an__law_cards : Option Addr} {sl__law_cards : Array (Option Value)} {oc__law_cards kV__law_cards dc__law_cards pm__law_cards cd__law_cards ct__law_cards : Value}
    {f__law_room : Addr} {od__law_room an__law_room : Option Addr} {sl__law_room : Array (Option Value)} {oc__law_room kV__law_room dc__law_room pm__law_room cd__law_room ct__law_room : Value}
    {f__law_lay : Addr} {od__law_lay an__law_lay : Option Addr} {sl__law_lay : Array (Option Value)} {oc__law_lay kV__law_lay dc__law_lay pm__law_lay cd__law_lay ct__law_lay : Value}
    {f__law_held : Addr} {od__law_held an__law_held : Option Addr} {sl__law_held : Array (Option Value)} {oc__law_held kV__law_held dc__law_held pm__law_held cd__law_held ct__law_held : Value}
    {f_check_hand : Addr} {od_check_hand an_check_hand : Option Addr} {sl_check_hand : Array (Option Value)} {oc_check_hand kV_check_hand dc_check_hand pm_check_hand cd_check_hand ct_check_hand : Value}
    {f_Laying___init__ : Addr} {od_Laying___init__ an_Laying___init__ : Option Addr} {sl_Laying___init__ : Array (Option Value)} {oc_Laying___init__ kV_Laying___init__ dc_Laying___init__ pm_Laying___init__ cd_Laying___init__ ct_Laying___init__ : Value}
    {f_Laying_lay : Addr} {od_Laying_lay an_Laying_lay : Option Addr} {sl_Laying_lay : Array (Option Value)} {oc_Laying_lay kV_Laying_lay dc_Laying_lay pm_Laying_lay cd_Laying_lay ct_Laying_lay : Value}
    {f_Laying_fits : Addr} {od_Laying_fits an_Laying_fits : Option Addr} {sl_Laying_fits : Array (Option Value)} {oc_Laying_fits kV_Laying_fits dc_Laying_fits pm_Laying_fits cd_Laying_fits ct_Laying_fits : Value}
    {f_Laying_least : Addr} {od_Laying_least an_Laying_least : Option Addr} {sl_Laying_least : Array (Option Value)} {oc_Laying_least kV_Laying_least dc_Laying_least pm_Laying_least cd_Laying_least ct_Laying_least : Value}
    {f_Laying_lay_plainly : Addr} {od_Laying_lay_plainly an_Laying_lay_plainly : Option Addr} {sl_Laying_lay_plainly : Array (Option Value)} {oc_Laying_lay_plainly kV_Laying_lay_plainly dc_Laying_lay_plainly pm_Laying_lay_plainly cd_Laying_lay_plainly ct_Laying_lay_plainly : Value}
    {f_hands_met : Addr} {od_hands_met an_hands_met : Option Addr} {sl_hands_met : Array (Option Value)} {oc_hands_met kV_hands_met dc_hands_met pm_hands_met cd_hands_met ct_hands_met : Value}
    {f__law_same : Addr} {od__law_same an__law_same : Option Addr} {sl__law_same : Array (Option Value)} {oc__law_same kV__law_same dc__law_same pm__law_same cd__law_same ct__law_same : Value}
    {f_law : Addr} {od_law an_law : Option Addr} {sl_law : Array (Option Value)} {oc_law kV_law dc_law pm_law cd_law ct_law : Value}
    {c_Laying : Addr}
    (ac_Laying : PySem.W.nsIn K mainGlobals "Laying" = some (some (.ref c_Laying)))
    (a__law_cell_at : PySem.W.nsIn K mainGlobals "_law_cell_at" = some (some (.ref f__law_cell_at)))
    (l__law_cell_at : K.lookup f__law_cell_at = some ⟨oc__law_cell_at, od__law_cell_at, .func (PySem.W.fnOf "_law_cell_at" "_law_cell_at" (defArgs s__law_cell_at) (defBody s__law_cell_at) (defScope s__law_cell_at) .none kV__law_cell_at dc__law_cell_at pm__law_cell_at an__law_cell_at cd__law_cell_at ct__law_cell_at), sl__law_cell_at⟩)
    (h__law_cell_at : PySem.W.codeIn K cd__law_cell_at "_law_cell_at" = true)
    (k__law_cell_at : PySem.W.keepIn K (.ref f__law_cell_at) = true)
    (a__law_source : PySem.W.nsIn K mainGlobals "_law_source" = some (some (.ref f__law_source)))
    (l__law_source : K.lookup f__law_source = some ⟨oc__law_source, od__law_source, .func (PySem.W.fnOf "_law_source" "_law_source" (defArgs s__law_source) (defBody s__law_source) (defScope s__law_source) .none kV__law_source dc__law_source pm__law_source an__law_source cd__law_source ct__law_source), sl__law_source⟩)
    (h__law_source : PySem.W.codeIn K cd__law_source "_law_source" = true)
    (k__law_source : PySem.W.keepIn K (.ref f__law_source) = true)
    (a__law_draw : PySem.W.nsIn K mainGlobals "_law_draw" = some (some (.ref f__law_draw)))
    (l__law_draw : K.lookup f__law_draw = some ⟨oc__law_draw, od__law_draw, .func (PySem.W.fnOf "_law_draw" "_law_draw" (defArgs s__law_draw) (defBody s__law_draw) (defScope s__law_draw) .none kV__law_draw dc__law_draw pm__law_draw an__law_draw cd__law_draw ct__law_draw), sl__law_draw⟩)
    (h__law_draw : PySem.W.codeIn K cd__law_draw "_law_draw" = true)
    (k__law_draw : PySem.W.keepIn K (.ref f__law_draw) = true)
    (a__law_cards : PySem.W.nsIn K mainGlobals "_law_cards" = some (some (.ref f__law_cards)))
    (l__law_cards : K.lookup f__law_cards = some ⟨oc__law_cards, od__law_cards, .func (PySem.W.fnOf "_law_cards" "_law_cards" (defArgs s__law_cards) (defBody s__law_cards) (defScope s__law_cards) .none kV__law_cards dc__law_cards pm__law_cards an__law_cards cd__law_cards ct__law_cards), sl__law_cards⟩)
    (h__law_cards : PySem.W.codeIn K cd__law_cards "_law_cards" = true)
    (k__law_cards : PySem.W.keepIn K (.ref f__law_cards) = true)
    (a__law_room : PySem.W.nsIn K mainGlobals "_law_room" = some (some (.ref f__law_room)))
    (l__law_room : K.lookup f__law_room = some ⟨oc__law_room, od__law_room, .func (PySem.W.fnOf "_law_room" "_law_room" (defArgs s__law_room) (defBody s__law_room) (defScope s__law_room) .none kV__law_room dc__law_room pm__law_room an__law_room cd__law_room ct__law_room), sl__law_room⟩)
    (h__law_room : PySem.W.codeIn K cd__law_room "_law_room" = true)
    (k__law_room : PySem.W.keepIn K (.ref f__law_room) = true)
    (a__law_lay : PySem.W.nsIn K mainGlobals "_law_lay" = some (some (.ref f__law_lay)))
    (l__law_lay : K.lookup f__law_lay = some ⟨oc__law_lay, od__law_lay, .func (PySem.W.fnOf "_law_lay" "_law_lay" (defArgs s__law_lay) (defBody s__law_lay) (defScope s__law_lay) .none kV__law_lay dc__law_lay pm__law_lay an__law_lay cd__law_lay ct__law_lay), sl__law_lay⟩)
    (h__law_lay : PySem.W.codeIn K cd__law_lay "_law_lay" = true)
    (k__law_lay : PySem.W.keepIn K (.ref f__law_lay) = true)
    (a__law_held : PySem.W.nsIn K mainGlobals "_law_held" = some (some (.ref f__law_held)))
    (l__law_held : K.lookup f__law_held = some ⟨oc__law_held, od__law_held, .func (PySem.W.fnOf "_law_held" "_law_held" (defArgs s__law_held) (defBody s__law_held) (defScope s__law_held) .none kV__law_held dc__law_held pm__law_held an__law_held cd__law_held ct__law_held), sl__law_held⟩)
    (h__law_held : PySem.W.codeIn K cd__law_held "_law_held" = true)
    (k__law_held : PySem.W.keepIn K (.ref f__law_held) = true)
    (a_check_hand : PySem.W.nsIn K mainGlobals "check_hand" = some (some (.ref f_check_hand)))
    (l_check_hand : K.lookup f_check_hand = some ⟨oc_check_hand, od_check_hand, .func (PySem.W.fnOf "check_hand" "check_hand" (defArgs s_check_hand) (defBody s_check_hand) (defScope s_check_hand) .none kV_check_hand dc_check_hand pm_check_hand an_check_hand cd_check_hand ct_check_hand), sl_check_hand⟩)
    (h_check_hand : PySem.W.codeIn K cd_check_hand "check_hand" = true)
    (k_check_hand : PySem.W.keepIn K (.ref f_check_hand) = true)
    (a_Laying___init__ : PySem.W.findIn K (.ref c_Laying) "__init__" = some (some (.ref f_Laying___init__)))
    (i_Laying___init__ : PySem.W.isFn K (.ref f_Laying___init__) = true)
    (l_Laying___init__ : K.lookup f_Laying___init__ = some ⟨oc_Laying___init__, od_Laying___init__, .func (PySem.W.fnOf "__init__" "Laying.__init__" (defArgs s_Laying___init__) (defBody s_Laying___init__) (defScope s_Laying___init__) .none kV_Laying___init__ dc_Laying___init__ pm_Laying___init__ an_Laying___init__ cd_Laying___init__ ct_Laying___init__), sl_Laying___init__⟩)
    (h_Laying___init__ : PySem.W.codeIn K cd_Laying___init__ "Laying.__init__" = true)
    (k_Laying___init__ : PySem.W.keepIn K (.ref f_Laying___init__) = true)
    (a_Laying_lay : PySem.W.findIn K (.ref c_Laying) "lay" = some (some (.ref f_Laying_lay)))
    (i_Laying_lay : PySem.W.isFn K (.ref f_Laying_lay) = true)
    (l_Laying_lay : K.lookup f_Laying_lay = some ⟨oc_Laying_lay, od_Laying_lay, .func (PySem.W.fnOf "lay" "Laying.lay" (defArgs s_Laying_lay) (defBody s_Laying_lay) (defScope s_Laying_lay) .none kV_Laying_lay dc_Laying_lay pm_Laying_lay an_Laying_lay cd_Laying_lay ct_Laying_lay), sl_Laying_lay⟩)
    (h_Laying_lay : PySem.W.codeIn K cd_Laying_lay "Laying.lay" = true)
    (k_Laying_lay : PySem.W.keepIn K (.ref f_Laying_lay) = true)
    (a_Laying_fits : PySem.W.findIn K (.ref c_Laying) "fits" = some (some (.ref f_Laying_fits)))
    (i_Laying_fits : PySem.W.isFn K (.ref f_Laying_fits) = true)
    (l_Laying_fits : K.lookup f_Laying_fits = some ⟨oc_Laying_fits, od_Laying_fits, .func (PySem.W.fnOf "fits" "Laying.fits" (defArgs s_Laying_fits) (defBody s_Laying_fits) (defScope s_Laying_fits) .none kV_Laying_fits dc_Laying_fits pm_Laying_fits an_Laying_fits cd_Laying_fits ct_Laying_fits), sl_Laying_fits⟩)
    (h_Laying_fits : PySem.W.codeIn K cd_Laying_fits "Laying.fits" = true)
    (k_Laying_fits : PySem.W.keepIn K (.ref f_Laying_fits) = true)
    (a_Laying_least : PySem.W.findIn K (.ref c_Laying) "least" = some (some (.ref f_Laying_least)))
    (i_Laying_least : PySem.W.isFn K (.ref f_Laying_least) = true)
    (l_Laying_least : K.lookup f_Laying_least = some ⟨oc_Laying_least, od_Laying_least, .func (PySem.W.fnOf "least" "Laying.least" (defArgs s_Laying_least) (defBody s_Laying_least) (defScope s_Laying_least) .none kV_Laying_least dc_Laying_least pm_Laying_least an_Laying_least cd_Laying_least ct_Laying_least), sl_Laying_least⟩)
    (h_Laying_least : PySem.W.codeIn K cd_Laying_least "Laying.least" = true)
    (k_Laying_least : PySem.W.keepIn K (.ref f_Laying_least) = true)
    (a_Laying_lay_plainly : PySem.W.findIn K (.ref c_Laying) "lay_plainly" = some (some (.ref f_Laying_lay_plainly)))
    (i_Laying_lay_plainly : PySem.W.isFn K (.ref f_Laying_lay_plainly) = true)
    (l_Laying_lay_plainly : K.lookup f_Laying_lay_plainly = some ⟨oc_Laying_lay_plainly, od_Laying_lay_plainly, .func (PySem.W.fnOf "lay_plainly" "Laying.lay_plainly" (defArgs s_Laying_lay_plainly) (defBody s_Laying_lay_plainly) (defScope s_Laying_lay_plainly) .none kV_Laying_lay_plainly dc_Laying_lay_plainly pm_Laying_lay_plainly an_Laying_lay_plainly cd_Laying_lay_plainly ct_Laying_lay_plainly), sl_Laying_lay_plainly⟩)
    (h_Laying_lay_plainly : PySem.W.codeIn K cd_Laying_lay_plainly "Laying.lay_plainly" = true)
    (k_Laying_lay_plainly : PySem.W.keepIn K (.ref f_Laying_lay_plainly) = true)
    (a_hands_met : PySem.W.nsIn K mainGlobals "hands_met" = some (some (.ref f_hands_met)))
    (l_hands_met : K.lookup f_hands_met = some ⟨oc_hands_met, od_hands_met, .func (PySem.W.fnOf "hands_met" "hands_met" (defArgs s_hands_met) (defBody s_hands_met) (defScope s_hands_met) .none kV_hands_met dc_hands_met pm_hands_met an_hands_met cd_hands_met ct_hands_met), sl_hands_met⟩)
    (h_hands_met : PySem.W.codeIn K cd_hands_met "hands_met" = true)
    (k_hands_met : PySem.W.keepIn K (.ref f_hands_met) = true)
    (a__law_same : PySem.W.nsIn K mainGlobals "_law_same" = some (some (.ref f__law_same)))
    (l__law_same : K.lookup f__law_same = some ⟨oc__law_same, od__law_same, .func (PySem.W.fnOf "_law_same" "_law_same" (defArgs s__law_same) (defBody s__law_same) (defScope s__law_same) .none kV__law_same dc__law_same pm__law_same an__law_same cd__law_same ct__law_same), sl__law_same⟩)
    (h__law_same : PySem.W.codeIn K cd__law_same "_law_same" = true)
    (k__law_same : PySem.W.keepIn K (.ref f__law_same) = true)
    (a_law : PySem.W.nsIn K mainGlobals "law" = some (some (.ref f_law)))
    (l_law : K.lookup f_law = some ⟨oc_law, od_law, .func (PySem.W.fnOf "law" "law" (defArgs s_law) (defBody s_law) (defScope s_law) .none kV_law dc_law pm_law an_law cd_law ct_law), sl_law⟩)
    (h_law : PySem.W.codeIn K cd_law "law" = true)
    (k_law : PySem.W.keepIn K (.ref f_law) = true)
    (pg_Laying : PySem.W.plainGet K c_Laying Str.empty = true)
    (hd_Laying : PySem.W.hasDictIn K c_Laying = true)
    (po_Laying : PySem.W.plainOver K c_Laying = true)
    (sa_Laying : PySem.W.findIn K (.ref c_Laying) "__setattr__" = some (some (.builtin "object.__setattr__")))
    (mi_Laying : PySem.W.makesIn K c_Laying = true)
    (kc_Laying : PySem.W.keepIn K (.ref c_Laying) = true)
    (na_Laying_row : PySem.W.findIn K (.ref c_Laying) "row" = some none)
    (na_Laying_drawn : PySem.W.findIn K (.ref c_Laying) "drawn" = some none)
    (na_Laying_held : PySem.W.findIn K (.ref c_Laying) "held" = some none)
    (na_Laying_way : PySem.W.findIn K (.ref c_Laying) "way" = some none)
    (na_Laying_last : PySem.W.findIn K (.ref c_Laying) "last" = some none)
    (na_Laying_pile : PySem.W.findIn K (.ref c_Laying) "pile" = some none)
    (z_len : PySem.W.nsIn K mainGlobals "len" = some none)
    (z_int : PySem.W.nsIn K mainGlobals "int" = some none)
    (z_range : PySem.W.nsIn K mainGlobals "range" = some none)
    (z_list : PySem.W.nsIn K mainGlobals "list" = some none)
    (z_min : PySem.W.nsIn K mainGlobals "min" = some none)
    (z_enumerate : PySem.W.nsIn K mainGlobals "enumerate" = some none)
    (z_isinstance : PySem.W.nsIn K mainGlobals "isinstance" = some none)
    (z_tuple : PySem.W.nsIn K mainGlobals "tuple" = some none)
    (z_all : PySem.W.nsIn K mainGlobals "all" = some none)
    (z_bool : PySem.W.nsIn K mainGlobals "bool" = some none)
    (z_str : PySem.W.nsIn K mainGlobals "str" = some none)
    (z_zip : PySem.W.nsIn K mainGlobals "zip" = some none) :
    ∃ fd : FuncData, (∀ (s : Shared) (v : Value), BindsTo s fd ⟨[v], []⟩ [("script", v)]) ∧ ∀ base : Heap, K.In base → base.Ns mainGlobals mg → FnOk l.prog w K mg base (L2.CX l.prog w) 6 fa fd ["script"] (sp_law K) := by
  have e := hfa.symm.trans (PySem.W.mg_of X G a_law)
  cases e
  have F__law_cell_at := fun_mk (st := s__law_cell_at) l__law_cell_at h__law_cell_at k__law_cell_at
  have F__law_source := fun_mk (st := s__law_source) l__law_source h__law_source k__law_source
  have F__law_draw := fun_mk (st := s__law_draw) l__law_draw h__law_draw k__law_draw
  have F__law_cards := fun_mk (st := s__law_cards) l__law_cards h__law_cards k__law_cards
  have F__law_room := fun_mk (st := s__law_room) l__law_room h__law_room k__law_room
  have F__law_lay := fun_mk (st := s__law_lay) l__law_lay h__law_lay k__law_lay
  have F__law_held := fun_mk (st := s__law_held) l__law_held h__law_held k__law_held
  have F_check_hand := fun_mk (st := s_check_hand) l_check_hand h_check_hand k_check_hand
  have F_Laying___init__ := fun_mk (st := s_Laying___init__) l_Laying___init__ h_Laying___init__ k_Laying___init__
  have F_Laying_lay := fun_mk (st := s_Laying_lay) l_Laying_lay h_Laying_lay k_Laying_lay
  have F_Laying_fits := fun_mk (st := s_Laying_fits) l_Laying_fits h_Laying_fits k_Laying_fits
  have F_Laying_least := fun_mk (st := s_Laying_least) l_Laying_least h_Laying_least k_Laying_least
  have F_Laying_lay_plainly := fun_mk (st := s_Laying_lay_plainly) l_Laying_lay_plainly h_Laying_lay_plainly k_Laying_lay_plainly
  have F_hands_met := fun_mk (st := s_hands_met) l_hands_met h_hands_met k_hands_met
  have F__law_same := fun_mk (st := s__law_same) l__law_same h__law_same k__law_same
  have F_law := fun_mk (st := s_law) l_law h_law k_law
  have b__law_cell_at := F__law_cell_at.binds (ps := ["script", "place"]) fun _ _ _ _ _ _ us hl => match us, hl with | [_, _], _ => rfl
  have b__law_source := F__law_source.binds (ps := ["script", "place"]) fun _ _ _ _ _ _ us hl => match us, hl with | [_, _], _ => rfl
  have b__law_draw := F__law_draw.binds (ps := ["source", "many"]) fun _ _ _ _ _ _ us hl => match us, hl with | [_, _], _ => rfl
  have b__law_cards := F__law_cards.binds (ps := ["script", "source", "limit"]) fun _ _ _ _ _ _ us hl => match us, hl with | [_, _, _], _ => rfl
  have b__law_room := F__law_room.binds (ps := ["source", "many"]) fun _ _ _ _ _ _ us hl => match us, hl with | [_, _], _ => rfl
  have b__law_lay := F__law_lay.binds (ps := ["cards", "room"]) fun _ _ _ _ _ _ us hl => match us, hl with | [_, _], _ => rfl
  have b__law_held := F__law_held.binds (ps := ["cards", "room"]) fun _ _ _ _ _ _ us hl => match us, hl with | [_, _], _ => rfl
  have b_check_hand := F_check_hand.binds (ps := ["hand"]) fun _ _ _ _ _ _ us hl => match us, hl with | [_], _ => rfl
  have b_Laying___init__ := F_Laying___init__.binds (ps := ["self", "row", "hand"]) fun _ _ _ _ _ _ us hl => match us, hl with | [_, _, _], _ => rfl
  have b_Laying_lay := F_Laying_lay.binds (ps := ["self", "index", "pile"]) fun _ _ _ _ _ _ us hl => match us, hl with | [_, _, _], _ => rfl
  have b_Laying_fits := F_Laying_fits.binds (ps := ["self", "index"]) fun _ _ _ _ _ _ us hl => match us, hl with | [_, _], _ => rfl
  have b_Laying_least := F_Laying_least.binds (ps := ["self", "indexes"]) fun _ _ _ _ _ _ us hl => match us, hl with | [_, _], _ => rfl
  have b_Laying_lay_plainly := F_Laying_lay_plainly.binds (ps := ["self"]) fun _ _ _ _ _ _ us hl => match us, hl with | [_], _ => rfl
  have b_hands_met := F_hands_met.binds (ps := ["row", "hand"]) fun _ _ _ _ _ _ us hl => match us, hl with | [_, _], _ => rfl
  have b__law_same := F__law_same.binds (ps := ["found", "due"]) fun _ _ _ _ _ _ us hl => match us, hl with | [_, _], _ => rfl
  have b_law := F_law.binds (ps := ["script"]) fun _ _ _ _ _ _ us hl => match us, hl with | [_], _ => rfl
  let A : Ad := { f__law_cell_at := f__law_cell_at, d__law_cell_at := (PySem.W.fnOf "_law_cell_at" "_law_cell_at" (defArgs s__law_cell_at) (defBody s__law_cell_at) (defScope s__law_cell_at) .none kV__law_cell_at dc__law_cell_at pm__law_cell_at an__law_cell_at cd__law_cell_at ct__law_cell_at), f__law_source := f__law_source, d__law_source := (PySem.W.fnOf "_law_source" "_law_source" (defArgs s__law_source) (defBody s__law_source) (defScope s__law_source) .none kV__law_source dc__law_source pm__law_source an__law_source cd__law_source ct__law_source), f__law_draw := f__law_draw, d__law_draw := (PySem.W.fnOf "_law_draw" "_law_draw" (defArgs s__law_draw) (defBody s__law_draw) (defScope s__law_draw) .none kV__law_draw dc__law_draw pm__law_draw an__law_draw cd__law_draw ct__law_draw), f__law_cards := f__law_cards, d__law_cards := (PySem.W.fnOf "_law_cards" "_law_cards" (defArgs s__law_cards) (defBody s__law_cards) (defScope s__law_cards) .none kV__law_cards dc__law_cards pm__law_cards an__law_cards cd__law_cards ct__law_cards), f__law_room := f__law_room, d__law_room := (PySem.W.fnOf "_law_room" "_law_room" (defArgs s__law_room) (defBody s__law_room) (defScope s__law_room) .none kV__law_room dc__law_room pm__law_room an__law_room cd__law_room ct__law_room), f__law_lay := f__law_lay, d__law_lay := (PySem.W.fnOf "_law_lay" "_law_lay" (defArgs s__law_lay) (defBody s__law_lay) (defScope s__law_lay) .none kV__law_lay dc__law_lay pm__law_lay an__law_lay cd__law_lay ct__law_lay), f__law_held := f__law_held, d__law_held := (PySem.W.fnOf "_law_held" "_law_held" (defArgs s__law_held) (defBody s__law_held) (defScope s__law_held) .none kV__law_held dc__law_held pm__law_held an__law_held cd__law_held ct__law_held), f_check_hand := f_check_hand, d_check_hand := (PySem.W.fnOf "check_hand" "check_hand" (defArgs s_check_hand) (defBody s_check_hand) (defScope s_check_hand) .none kV_check_hand dc_check_hand pm_check_hand an_check_hand cd_check_hand ct_check_hand), f_Laying___init__ := f_Laying___init__, d_Laying___init__ := (PySem.W.fnOf "__init__" "Laying.__init__" (defArgs s_Laying___init__) (defBody s_Laying___init__) (defScope s_Laying___init__) .none kV_Laying___init__ dc_Laying___init__ pm_Laying___init__ an_Laying___init__ cd_Laying___init__ ct_Laying___init__), f_Laying_lay := f_Laying_lay, d_Laying_lay := (PySem.W.fnOf "lay" "Laying.lay" (defArgs s_Laying_lay) (defBody s_Laying_lay) (defScope s_Laying_lay) .none kV_Laying_lay dc_Laying_lay pm_Laying_lay an_Laying_lay cd_Laying_lay ct_Laying_lay), f_Laying_fits := f_Laying_fits, d_Laying_fits := (PySem.W.fnOf "fits" "Laying.fits" (defArgs s_Laying_fits) (defBody s_Laying_fits) (defScope s_Laying_fits) .none kV_Laying_fits dc_Laying_fits pm_Laying_fits an_Laying_fits cd_Laying_fits ct_Laying_fits), f_Laying_least := f_Laying_least, d_Laying_least := (PySem.W.fnOf "least" "Laying.least" (defArgs s_Laying_least) (defBody s_Laying_least) (defScope s_Laying_least) .none kV_Laying_least dc_Laying_least pm_Laying_least an_Laying_least cd_Laying_least ct_Laying_least), f_Laying_lay_plainly := f_Laying_lay_plainly, d_Laying_lay_plainly := (PySem.W.fnOf "lay_plainly" "Laying.lay_plainly" (defArgs s_Laying_lay_plainly) (defBody s_Laying_lay_plainly) (defScope s_Laying_lay_plainly) .none kV_Laying_lay_plainly dc_Laying_lay_plainly pm_Laying_lay_plainly an_Laying_lay_plainly cd_Laying_lay_plainly ct_Laying_lay_plainly), f_hands_met := f_hands_met, d_hands_met := (PySem.W.fnOf "hands_met" "hands_met" (defArgs s_hands_met) (defBody s_hands_met) (defScope s_hands_met) .none kV_hands_met dc_hands_met pm_hands_met an_hands_met cd_hands_met ct_hands_met), f__law_same := f__law_same, d__law_same := (PySem.W.fnOf "_law_same" "_law_same" (defArgs s__law_same) (defBody s__law_same) (defScope s__law_same) .none kV__law_same dc__law_same pm__law_same an__law_same cd__law_same ct__law_same), f_law := fa, d_law := (PySem.W.fnOf "law" "law" (defArgs s_law) (defBody s_law) (defScope s_law) .none kV_law dc_law pm_law an_law cd_law ct_law), c_Laying := c_Laying }
  have T : Txt K mg A := {
    F__law_cell_at := F__law_cell_at,
    b__law_cell_at := b__law_cell_at,
    m__law_cell_at := PySem.W.mg_of X G a__law_cell_at,
    F__law_source := F__law_source,
    b__law_source := b__law_source,
    m__law_source := PySem.W.mg_of X G a__law_source,
    F__law_draw := F__law_draw,
    b__law_draw := b__law_draw,
    m__law_draw := PySem.W.mg_of X G a__law_draw,
    F__law_cards := F__law_cards,
    b__law_cards := b__law_cards,
    m__law_cards := PySem.W.mg_of X G a__law_cards,
    F__law_room := F__law_room,
    b__law_room := b__law_room,
    m__law_room := PySem.W.mg_of X G a__law_room,
    F__law_lay := F__law_lay,
    b__law_lay := b__law_lay,
    m__law_lay := PySem.W.mg_of X G a__law_lay,
    F__law_held := F__law_held,
    b__law_held := b__law_held,
    m__law_held := PySem.W.mg_of X G a__law_held,
    F_check_hand := F_check_hand,
    b_check_hand := b_check_hand,
    m_check_hand := PySem.W.mg_of X G a_check_hand,
    F_Laying___init__ := F_Laying___init__,
    b_Laying___init__ := b_Laying___init__,
    F_Laying_lay := F_Laying_lay,
    b_Laying_lay := b_Laying_lay,
    F_Laying_fits := F_Laying_fits,
    b_Laying_fits := b_Laying_fits,
    F_Laying_least := F_Laying_least,
    b_Laying_least := b_Laying_least,
    F_Laying_lay_plainly := F_Laying_lay_plainly,
    b_Laying_lay_plainly := b_Laying_lay_plainly,
    F_hands_met := F_hands_met,
    b_hands_met := b_hands_met,
    m_hands_met := PySem.W.mg_of X G a_hands_met,
    F__law_same := F__law_same,
    b__law_same := b__law_same,
    m__law_same := PySem.W.mg_of X G a__law_same,
    F_law := F_law,
    b_law := b_law,
    m_law := PySem.W.mg_of X G a_law,
    cl_Laying := ⟨pg_Laying, hd_Laying, po_Laying, sa_Laying⟩,
    m_Laying := PySem.W.mg_of X G ac_Laying,
    mk_Laying := ⟨mi_Laying, a_Laying___init__, i_Laying___init__, kc_Laying⟩,
    me_Laying_fits := ⟨a_Laying_fits, i_Laying_fits, k_Laying_fits⟩,
    me_Laying_lay := ⟨a_Laying_lay, i_Laying_lay, k_Laying_lay⟩,
    me_Laying_lay_plainly := ⟨a_Laying_lay_plainly, i_Laying_lay_plainly, k_Laying_lay_plainly⟩,
    me_Laying_least := ⟨a_Laying_least, i_Laying_least, k_Laying_least⟩,
    na_Laying_row := na_Laying_row,
    na_Laying_drawn := na_Laying_drawn,
    na_Laying_held := na_Laying_held,
    na_Laying_way := na_Laying_way,
    na_Laying_last := na_Laying_last,
    na_Laying_pile := na_Laying_pile,
    b_len := PySem.W.mg_none_of X G z_len,
    b_int := PySem.W.mg_none_of X G z_int,
    b_range := PySem.W.mg_none_of X G z_range,
    b_list := PySem.W.mg_none_of X G z_list,
    b_min := PySem.W.mg_none_of X G z_min,
    b_enumerate := PySem.W.mg_none_of X G z_enumerate,
    b_isinstance := PySem.W.mg_none_of X G z_isinstance,
    b_tuple := PySem.W.mg_none_of X G z_tuple,
    b_all := PySem.W.mg_none_of X G z_all,
    b_bool := PySem.W.mg_none_of X G z_bool,
    b_str := PySem.W.mg_none_of X G z_str,
    b_zip := PySem.W.mg_none_of X G z_zip,
    kb_hands_met_hand_row := ⟨fun s us ws X h1 h2 => match us, ws, h1, h2 with | [], [_, _], _, _ => .of_eq rfl, fun r1 r2 => .cons (r2.getD 1) (.cons (r2.getD 0) (.nil))⟩ }
  exact ⟨A.d_law, fun s v => .of_eq rfl, fun base _ _ => ok_law T⟩
theorem walk {l : PySem.W.OpenLaw} {q : Program} {loose : List Str} {XP : (Str → Option Value) → Heap → Prop} {YP : World → Heap → Prop} {d : DefRec} {K : Params → PySem.W.Frag} (hn : l.most = some 63) (hdf : d.params.defaults = [])
    (hY : ∀ (w : World) (h : Heap), YP w h → (K w.params).In h)
    (F : ∀ (w : World) (mg : Str → Option Value) (fa : Addr) (h : Heap), (K w.params).In h → h.Ns mainGlobals mg → mg d.name = some (.ref fa) →
      ∃ fd : FuncData, (∀ (s : Shared) (u : Value), BindsTo s fd ⟨[u], []⟩ [("script", u)]) ∧ ∀ base : Heap, (K w.params).In base → base.Ns mainGlobals mg → FnOk l.prog w (K w.params) mg base (L2.CX l.prog w) 6 fa fd ["script"] (sp_law (K w.params))) :
    PySem.W.WalkO q loose XP YP l.row.toRowW d [] (fun f vs => PySem.call f vs) :=
  L2.walk_of (n := 63) (k := 6) (x := "script") (CX := fun w => L2.CX l.prog w) (sp := fun w => sp_law (K w.params)) hn (by decide) hdf ⟨rfl, by decide, by decide⟩ hY F (fun _ _ a ns hl _ hS => ⟨a, ns, rfl, hS, hl, fun _ => rfl⟩) fun _ _ _ _ _ z => by
    obtain ⟨_, _, _, _, _, _, _, _, _, _, _, _, z⟩ := z
    exact z.elim
end My
open PySem PySem.W PyProof.Rows
set_option maxRecDepth 100000 in
set_option maxHeartbeats 0 in
theorem PySem.Challenge.cw_handpiles_k03_hands_met_holds : PySem.Challenge.rw_handpiles_k03_hands_met.Holds := by
  w_on; o_law; k_head; (case hw => w_witness2)
  k_fill
  refine My.walk (l := PySem.Challenge.rw_handpiles_k03_hands_met) rfl rfl (fun w h Y => PySem.W.kIn_of Y) ?F
  case F =>
    intro w mg fa h KX G hmg
    refine' My.all_mk KX G hmg ?ac_Laying ?a__law_cell_at ?l__law_cell_at ?h__law_cell_at ?k__law_cell_at ?a__law_source ?l__law_source ?h__law_source ?k__law_source ?a__law_draw ?l__law_draw ?h__law_draw ?k__law_draw ?a__law_cards ?l__law_cards ?h__law_cards ?k__law_cards ?a__law_room ?l__law_room ?h__law_room ?k__law_room ?a__law_lay ?l__law_lay ?h__law_lay ?k__law_lay ?a__law_held ?l__law_held ?h__law_held ?k__law_held ?a_check_hand ?l_check_hand ?h_check_hand ?k_check_hand ?a_Laying___init__ ?i_Laying___init__ ?l_Laying___init__ ?h_Laying___init__ ?k_Laying___init__ ?a_Laying_lay ?i_Laying_lay ?l_Laying_lay ?h_Laying_lay ?k_Laying_lay ?a_Laying_fits ?i_Laying_fits ?l_Laying_fits ?h_Laying_fits ?k_Laying_fits ?a_Laying_least ?i_Laying_least ?l_Laying_least ?h_Laying_least ?k_Laying_least ?a_Laying_lay_plainly ?i_Laying_lay_plainly ?l_Laying_lay_plainly ?h_Laying_lay_plainly ?k_Laying_lay_plainly ?a_hands_met ?l_hands_met ?h_hands_met ?k_hands_met ?a__law_same ?l__law_same ?h__law_same ?k__law_same ?a_law ?l_law ?h_law ?k_law ?pg_Laying ?hd_Laying ?po_Laying ?sa_Laying ?mi_Laying ?kc_Laying ?na_Laying_row ?na_Laying_drawn ?na_Laying_held ?na_Laying_way ?na_Laying_last ?na_Laying_pile ?z_len ?z_int ?z_range ?z_list ?z_min ?z_enumerate ?z_isinstance ?z_tuple ?z_all ?z_bool ?z_str ?z_zip
    (case ac_Laying => k_is)
    (case a__law_cell_at => k_is)
    (case l__law_cell_at => k_is)
    (case h__law_cell_at => k_is)
    (case k__law_cell_at => k_is)
    (case a__law_source => k_is)
    (case l__law_source => k_is)
    (case h__law_source => k_is)
    (case k__law_source => k_is)
    (case a__law_draw => k_is)
    (case l__law_draw => k_is)
    (case h__law_draw => k_is)
    (case k__law_draw => k_is)
    (case a__law_cards => k_is)
    (case l__law_cards => k_is)
    (case h__law_cards => k_is)
    (case k__law_cards => k_is)
    (case a__law_room => k_is)
    (case l__law_room => k_is)
    (case h__law_room => k_is)
    (case k__law_room => k_is)
    (case a__law_lay => k_is)
    (case l__law_lay => k_is)
    (case h__law_lay => k_is)
    (case k__law_lay => k_is)
    (case a__law_held => k_is)
    (case l__law_held => k_is)
    (case h__law_held => k_is)
    (case k__law_held => k_is)
    (case a_check_hand => k_is)
    (case l_check_hand => k_is)
    (case h_check_hand => k_is)
    (case k_check_hand => k_is)
    (case a_Laying___init__ => k_is)
    (case i_Laying___init__ => k_is)
    (case l_Laying___init__ => k_is)
    (case h_Laying___init__ => k_is)
    (case k_Laying___init__ => k_is)
    (case a_Laying_lay => k_is)
    (case i_Laying_lay => k_is)
    (case l_Laying_lay => k_is)
    (case h_Laying_lay => k_is)
    (case k_Laying_lay => k_is)
    (case a_Laying_fits => k_is)
    (case i_Laying_fits => k_is)
    (case l_Laying_fits => k_is)
    (case h_Laying_fits => k_is)
    (case k_Laying_fits => k_is)
    (case a_Laying_least => k_is)
    (case i_Laying_least => k_is)
    (case l_Laying_least => k_is)
    (case h_Laying_least => k_is)
    (case k_Laying_least => k_is)
    (case a_Laying_lay_plainly => k_is)
    (case i_Laying_lay_plainly => k_is)
    (case l_Laying_lay_plainly => k_is)
    (case h_Laying_lay_plainly => k_is)
    (case k_Laying_lay_plainly => k_is)
    (case a_hands_met => k_is)
    (case l_hands_met => k_is)
    (case h_hands_met => k_is)
    (case k_hands_met => k_is)
    (case a__law_same => k_is)
    (case l__law_same => k_is)
    (case h__law_same => k_is)
    (case k__law_same => k_is)
    (case a_law => k_is)
    (case l_law => k_is)
    (case h_law => k_is)
    (case k_law => k_is)
    (case pg_Laying => k_is)
    (case hd_Laying => k_is)
    (case po_Laying => k_is)
    (case sa_Laying => k_is)
    (case mi_Laying => k_is)
    (case kc_Laying => k_is)
    (case na_Laying_row => k_is)
    (case na_Laying_drawn => k_is)
    (case na_Laying_held => k_is)
    (case na_Laying_way => k_is)
    (case na_Laying_last => k_is)
    (case na_Laying_pile => k_is)
    (case z_len => k_is)
    (case z_int => k_is)
    (case z_range => k_is)
    (case z_list => k_is)
    (case z_min => k_is)
    (case z_enumerate => k_is)
    (case z_isinstance => k_is)
    (case z_tuple => k_is)
    (case z_all => k_is)
    (case z_bool => k_is)
    (case z_str => k_is)
    (case z_zip => k_is)
