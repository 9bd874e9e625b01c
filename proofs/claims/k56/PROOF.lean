import PyProof.Rows.All
import Wide.All
import OpenK.AllK
import Wide.FinOn
import HandS.ForMost
import HandS.ForExc
import HandS.Wide
import HandS.Conv
import HandS.Remove
import HandS.IsInst
import HandS.Zip
import HandS.Walk
import KE.DataMinMax
import KE.SortData
import HandS.Defaults
import HandS.Style
import HandS.SortInts
import HandS.SortKw
import HandS.WideBits
import HandS.EndBits
import HandS.RevRange
import HandS.More
import KE.DatumOrd
import HandS.TupLe
import HandS.Dict
import HandS.Deep
import HandS.ExcInit
import HandS.ExcField
import HandS.ExcOwn
import HandS.ExcIs
import HandS.SetFor
import HandS.Strs
import PySem.Challenge.RW_handpiles_k56_windows
set_option Elab.async false
set_option linter.all false
set_option maxRecDepth 100000
set_option maxHeartbeats 4000000
namespace My
open PySem PySem.Spec L2
open PyProof.Rows (envOfC)
section
variable {P : Program} {w : World} {K : PySem.W.Frag} {mg : Str → Option Value} {base : Heap}
/-- a def from whose body nothing is raised -/
theorem okN {x qual : Str} {st : Stmt} {f : Addr} {fd : FuncData} {N ps : List Str} {k : Nat} {sp : Sp} (F : Fun K x qual st f fd) (S : FnScope N ps (defScope st)) (len : ∀ vs H Q E, sp vs H Q E → vs.length = ps.length)
    (hbody : ∀ (cdv : Value) (A : Around) (outer : List Env) (s : Shared) (H : Hp) (vs : List V) (Q : VK) (E : XK), Room k (A.deeper (envOfC qual (defScope st) s.heap.objs.size f cdv)) → sp vs H Q E →
      ∃ t, PSs (cxOf (L2.CX P w) P w K mg base N qual (defScope st) f cdv A outer s H E).nox (defBody st) t ∧ t { nx := fun _ H' => Q .non H', rt := Q } (start N vs) H) : FnOk P w K mg base (L2.CX P w) (k + 1) f fd ps sp := by
  refine F.okX S len fun cdv A outer s H vs Q E hr h => ?_
  obtain ⟨t, a, b⟩ := hbody cdv A outer s H vs Q E hr h
  exact ⟨t, a.nox, b⟩
theorem okOr {CX : CXT} {k : Nat} {f : Addr} {fd : FuncData} {ps : List Str} {sp sp' : Sp} (F : FnOk P w K mg base CX k f fd ps sp) (G : FnOk P w K mg base CX k f fd ps sp') : FnOk P w K mg base CX k f fd ps (fun vs H Q E => sp vs H Q E ∨ sp' vs H Q E) :=
  ⟨fun vs H Q E q => q.elim (F.len vs H Q E) (G.len vs H Q E), fun A outer s H args us vs Q E hr he hb hv q => q.elim (F.run A outer s H args us vs Q E hr he hb hv) (G.run A outer s H args us vs Q E hr he hb hv)⟩
theorem tk0 {X : Cx} : Takes X (fun _ _ _ _ => False) := takes0
end
/-! ### what a loop, a comprehension, a while asks, closed -/
def ForB (J : It) (g : TG) (tb : TS) (D : Ends) (σ : St) (H : Hp) : Prop := tFor (fun _ H1 R => R J H1) g tb D σ H
theorem tFor_eq (wi : TI) (g : TG) (tb : TS) (D : Ends) (σ : St) (H : Hp) : tFor wi g tb D σ H = wi σ H fun J H1 => ForB J g tb D σ H1 := rfl
def LcA (J : It) (g : TG) (tt : TT) (te : TE) (vs : List Nat) (σ : St) (H : Hp) (Q : VK) : Prop := tLc (fun _ H1 R => R J H1) g tt te vs σ H Q
theorem tLc_eq (wi : TI) (g : TG) (tt : TT) (te : TE) (vs : List Nat) (σ : St) (H : Hp) (Q : VK) : tLc wi g tt te vs σ H Q = wi σ H fun J H1 => LcA J g tt te vs σ H1 Q := rfl
section
variable {J : It} {n : Nat} {G : Hp → Prop} {Y : Nat → Hp → V → Hp → Prop} {g : TG} {tb : TS} {D : Ends} {σ : St} {H : Hp}
theorem forB (w : Walk J n G Y) (Pv : Nat → St → Hp → Prop) (h0 : Pv 0 σ H)
    (hG : ∀ i σ H, i ≤ n → Pv i σ H → G H)
    (hs : ∀ i x σ H H', i < n → Pv i σ H → Y i H x H' →
      g x σ H' fun σ2 H2 => tb { D with nx := Pv (i + 1), ct := Pv (i + 1), bk := D.nx } σ2 H2)
    (hd : ∀ σ H, Pv n σ H → D.nx σ H) : ForB J g tb D σ H := for_it w Pv h0 hG hs hd
theorem lcB {tt : TT} {te : TE} {vs : List Nat} {H1 : Hp} {Q : VK} (w : Walk J n G Y)
    (h : ∀ D, H1 D = none → ∃ Pv : Nat → Hp → Prop, Pv 0 (upd H1 D (.lst [])) ∧ (∀ i H, i ≤ n → Pv i H → G H) ∧
      (∀ i x H H', i < n → Pv i H → Y i H x H' → g x (wipe σ vs) H' fun σ2 H2 => wipe σ2 vs = wipe σ vs ∧ tt σ2 H2 fun b H3 =>
        if b = true then te σ2 H3 (fun y H4 => ∃ acc, H4 D = some (.lst acc) ∧ acc.length < sizeLine ∧ Pv (i + 1) (upd H4 D (.lst (acc ++ [y]))))
        else Pv (i + 1) H3) ∧ ∀ H, Pv n H → Q (.ref D) H) : LcA J g tt te vs σ H1 Q := fun D hD => by
  obtain ⟨Pv, h0, hG, hs, hd⟩ := h D hD
  exact lc_it w Pv h0 hG hs hd
end

theorem seq_step {t u : TS} {D : Ends} {σ : St} {H : Hp} (h : ∀ Z : St → Hp → Prop, (∀ σ' H', u D σ' H' → Z σ' H') → t { D with nx := Z } σ H) : tSeq t u D σ H := h (u D) fun _ _ x => x
/-! ### rules of one kind -/
section
variable {X : Cx}
theorem call_intI : CallR X (.type "int") (fun xs H Q => ∃ i, xs = [.int i] ∧ Q (.int i) H) := fun pins s σ H vs us Q I r h => call_int1 pins s σ H vs us Q I r (.inl h)
theorem call_intB : CallR X (.type "int") (fun xs H Q => ∃ k, xs = [.bl k] ∧ Q (.int (if k then 1 else 0)) H) := fun pins s σ H vs us Q I r h => call_int1 pins s σ H vs us Q I r (.inr h)
theorem call_lenL : CallR X (.builtin "len") (fun xs H Q => ∃ p ys, xs = [.ref p] ∧ SqL X.K H p ys ∧ Q (.int ys.length) H) := fun pins s σ H vs us Q I r ⟨p, ys, e, h, q⟩ => call_len_seq pins s σ H vs us Q I r ⟨p, ys, e, .inl h, q⟩
theorem call_lenT : CallR X (.builtin "len") (fun xs H Q => ∃ p ys, xs = [.ref p] ∧ SqT X.K H p ys ∧ Q (.int ys.length) H) := fun pins s σ H vs us Q I r ⟨p, ys, e, h, q⟩ => call_len_seq pins s σ H vs us Q I r ⟨p, ys, e, .inr h, q⟩
theorem call_listL : CallR X (.type "list") (fun xs H Q => ∃ p ys, xs = [.ref p] ∧ SqL X.K H p ys ∧ ∀ l, H l = none → Q (.ref l) (upd H l (.lst ys))) := fun pins s σ H vs us Q I r ⟨p, ys, e, h, q⟩ => call_list_of pins s σ H vs us Q I r ⟨p, ys, e, .inl h, q⟩
theorem op_eqI : OpR X (compareOp .Eq) (rI0 fun i j => .bl (decide (i = j))) := fun pins s σ H x y u v Q I rx ry ⟨i, j, e1, e2, q⟩ => by
  subst e1 e2
  refine op_eq pins s σ H _ _ u v Q I rx ry ⟨rfl, ?_⟩
  simpa using q
theorem op_neI : OpR X (compareOp .NotEq) (rI0 fun i j => .bl (!decide (i = j))) := fun pins s σ H x y u v Q I rx ry ⟨i, j, e1, e2, q⟩ => by
  subst e1 e2
  refine op_ne pins s σ H _ _ u v Q I rx ry ⟨rfl, ?_⟩
  simpa using q
/-- a list's truth -/
theorem pt_truL {a : Expr} {ta : TE} (ha : PE X a ta) (he : ∀ whole, isTrue a X.env whole = (do let v ← whole; standAt a.pos; holding [v] (truthy v)) := by intro _; rfl) : PT X a (fun σ H Q => ta σ H fun x H' => ∃ p xs, x = .ref p ∧ SqL X.K H' p xs ∧ Q (!xs.isEmpty) H') :=
  ⟨fun pins s σ H Q I h => PyProof.Rows.isTrue_plain (thn (ha.run pins s σ H _ I h) fun v s1 ⟨x, H1, I1, r1, p, xs, e, hs, q1⟩ => tru_ok pins s1 σ H1 x v Q I1 r1 ⟨_, by subst e; exact .inl ⟨xs, hs, rfl⟩, q1⟩) (he _)⟩
end
/-! ### the context's parts -/
section
variable {CX : CXT} {P : Program} {w : World} {K : PySem.W.Frag} {mg : Str → Option Value} {base : Heap} {N : List Str} {qual : Str} {scope : Scope} {f : Addr} {cd : Value} {A : Around} {outer : List Env} {s : Shared} {H : Hp} {E : XK}
theorem cxK : (cxOf CX P w K mg base N qual scope f cd A outer s H E).K = K := rfl
end
/-! ### heaps -/
section
variable {H H' : Hp} {a p : Addr} {o x : HO}
theorem upd_keep (h : H a = some o) (hn : H p = none) : upd H p x a = some o := by rw [upd_ne (ne_of_none h hn)]; exact h
theorem upd_other (h : H a = some o) (hn : a ≠ p) : upd H p x a = some o := by rw [upd_ne hn]; exact h
theorem _root_.L2.Same.get (S : Same H H') (h : H a = some o) : H' a = some o := S _ _ h
theorem same_upd (hn : H p = none) : Same H (upd H p x) := fun b u e => upd_keep e hn
/-- all but what stands at ms is as it was -/
def Keep (ms : List Addr) (H H' : Hp) : Prop := ∀ b o, H b = some o → b ∉ ms → H' b = some o
theorem Keep.get {ms : List Addr} (S : Keep ms H H') (h : H a = some o) (n : a ∉ ms) : H' a = some o := S _ _ h n
theorem _root_.L2.Same.keep {ms : List Addr} (S : Same H H') : Keep ms H H' := fun b o h _ => S b o h
theorem ni1 {b c : Addr} (h : b ≠ c) : b ∉ [c] := by simpa using h
theorem ni2 {b c d : Addr} (h : b ≠ c) (h2 : b ≠ d) : b ∉ [c, d] := by simp [h, h2]
theorem ni3 {b c d e : Addr} (h : b ≠ c) (h2 : b ≠ d) (h3 : b ≠ e) : b ∉ [c, d, e] := by simp [h, h2, h3]
end
theorem line_small {n : Nat} (h : n ≤ 1000) : n ≤ sizeLine := Nat.le_of_lt (small1000 h)
end My

namespace My
open PySem PySem.Spec L2 PySem.W
/-! ### min of a list of tuples of ints -/
abbrev tupD (k : List Int) : PyData := .tuple (k.map .int)
theorem alikeInts : ∀ k k' : List Int, alikeAll (k.map PyData.int) (k'.map PyData.int) = true
  | [], _ => by simp [alikeAll]
  | _ :: _, [] => by simp [alikeAll]
  | a :: r, b :: t => by
    rw [List.map_cons, List.map_cons, alikeAll, alikeInts r t]
    rfl
theorem depthInts : ∀ k : List Int, PyData.depthAll (k.map PyData.int) = 0
  | [] => rfl
  | a :: r => by
    rw [List.map_cons]
    show max 0 (PyData.depthAll (r.map PyData.int)) = 0
    rw [depthInts r]
    rfl
theorem depthTups : ∀ kz : List (List Int), PyData.depthAll (kz.map tupD) ≤ 1
  | [] => by show 0 ≤ 1; omega
  | k :: r => by
    show max (PyData.depthAll (k.map PyData.int) + 1) (PyData.depthAll (r.map tupD)) ≤ 1
    rw [depthInts k]
    have := depthTups r
    omega
theorem lt_tupD (k k' : List Int) : dataLt (tupD k) (tupD k') = decide (k < k') := (dataLt_tuple _ _).trans (dataLt_ints k k')
theorem alikeTups (kz : List (List Int)) : AlikeAll (kz.map tupD) := by
  refine ⟨fun x hx y hy => ?_, fun x hx => ?_⟩
  · obtain ⟨k, _, rfl⟩ := List.mem_map.mp hx
    obtain ⟨k', _, rfl⟩ := List.mem_map.mp hy
    exact alikeInts k k'
  · obtain ⟨k, _, rfl⟩ := List.mem_map.mp hx
    intro e
    cases e
theorem listInt_asymm {a b : List Int} (h : a < b) : ¬ b < a := fun h' => List.lt_irrefl a (List.lt_trans h h')
/-- the first of the least -/
theorem minD_tups : ∀ (kz : List (List Int)) (k : List Int), ∃ m, minD (tupD k) (kz.map tupD) = tupD m ∧ m ∈ k :: kz ∧ ∀ j ∈ k :: kz, ¬ j < m
  | [], k => ⟨k, rfl, by simp, by simp [List.lt_irrefl]⟩
  | x :: r, k => by
    have e : minD (tupD k) ((x :: r).map tupD) = minD (if dataLt (tupD x) (tupD k) then tupD x else tupD k) (r.map tupD) := rfl
    rw [e, lt_tupD]
    by_cases h : x < k
    · rw [if_pos (decide_eq_true h)]
      obtain ⟨m, e1, e2, e3⟩ := minD_tups r x
      refine ⟨m, e1, List.mem_cons_of_mem _ e2, fun j hj => ?_⟩
      rcases List.mem_cons.mp hj with rfl | hj
      · intro hk
        exact e3 x (by simp) (List.lt_trans h hk)
      · exact e3 j hj
    · rw [if_neg (by simpa using h)]
      obtain ⟨m, e1, e2, e3⟩ := minD_tups r k
      refine ⟨m, e1, ?_, fun j hj => ?_⟩
      · rcases List.mem_cons.mp e2 with q | q
        · rw [q]; simp
        · exact List.mem_cons_of_mem _ (List.mem_cons_of_mem _ q)
      · rcases List.mem_cons.mp hj with rfl | hj
        · exact e3 j (by simp)
        · rcases List.mem_cons.mp hj with rfl | hj
          · intro hx
            exact e3 k (by simp) (List.lt_of_le_of_lt (List.not_lt.mp h) hx)
          · exact e3 j (List.mem_cons_of_mem _ hj)
theorem tupD_inj {k k' : List Int} (h : tupD k = tupD k') : k = k' := by
  have e : k.map PyData.int = k'.map PyData.int := by
    injection h
  have inj : ∀ a b : List Int, a.map PyData.int = b.map PyData.int → a = b := by
    intro a
    induction a with
    | nil => intro b hb; cases b with
      | nil => rfl
      | cons y t => cases hb
    | cons x r ih => intro b hb; cases b with
      | nil => cases hb
      | cons y t =>
        rw [List.map_cons, List.map_cons] at hb
        injection hb with h1 h2
        injection h1 with h1
        rw [h1, ih t h2]
  exact inj _ _ e
/-- what min asks of a list of tuples of ints: Q of the item with a least one -/
def rMinT (K : PySem.W.Frag) : List V → Hp → VK → Prop := fun vs H Q => ∃ (a : Addr) (xs : List V) (kz : List (List Int)), vs = [V.ref a] ∧ SqL K H a xs ∧ DpAll K H xs (kz.map tupD) ∧ kz ≠ [] ∧
  ∀ (p : Addr) k, k ∈ kz → (∀ j ∈ kz, ¬ j < k) → SqT K H p (k.map V.int) → Q (.ref p) H
theorem dpInts_inv {K : PySem.W.Frag} {H : Hp} : ∀ {ns : List Int} {xs : List V}, DpAll K H xs (ns.map PyData.int) → xs = ns.map V.int
  | [], _, .nil => rfl
  | n :: r, _, .cons (.int _) h => by rw [dpInts_inv h]; rfl
theorem dpTup_inv {K : PySem.W.Frag} {H : Hp} {k : List Int} {x : V} (h : Dp K H x (tupD k)) : ∃ p, x = .ref p ∧ SqT K H p (k.map V.int) := by
  cases h with
  | tup h1 h2 => exact ⟨_, rfl, by rw [← dpInts_inv h2]; exact h1⟩
theorem dpAll_get {K : PySem.W.Frag} {H : Hp} : ∀ {xs : List V} {ds : List PyData} {i : Nat} {x : V} {d : PyData}, DpAll K H xs ds → xs[i]? = some x → ds[i]? = some d → Dp K H x d
  | _, _, 0, _, _, .cons a _, h1, h2 => by cases h1; cases h2; exact a
  | _, _, i + 1, _, _, .cons _ r, h1, h2 => dpAll_get (i := i) r (by simpa using h1) (by simpa using h2)
  | _, _, _, _, _, .nil, h1, _ => by simp at h1
section
variable {prog : Program} {w : World} {A : Around} {E : Value → Shared → Prop} {s : Shared}
theorem min_data {l : Addr} {vs : Array Value} {x : PyData} {xs : List PyData} {as : List Addr} {Q : Value → Shared → Prop} (hh : A.handled = none) (hl : s.heap.IsList l vs) (rd : ReadsAll s.heap vs.toList (x :: xs) as) (al : AlikeAll (x :: xs)) (hu : A.units + 1 + PyData.depthAll (x :: xs) < cLine)
    (h : ∀ (i : Nat) v h' tk, vs[i]? = some v → (x :: xs)[i]? = some (minD x xs) → (∀ b o, s.heap.get? b = some o → h'.get? b = some o) → Q v { s with heap := h', toks := tk }) :
    wpAny (model prog w) A (call (.builtin "min") [.ref l]) Q E s := by
  have hn : vs.size = xs.length + 1 := readsAll_len rd
  refine call_min_walkH (iter_listW (A := A.in1) hh hl fun s₂ e W st hfp hw hk => ?_)
  refine ⟨_, _, _, _, _, _, _, s.heap, _, rfl, W, st, hfp, by omega, hw, hk, cmpIn_lt (A := A.in1) rd al (by show A.units + 1 + _ < _; exact hu), fun v s' hP m => ?_⟩
  obtain ⟨h', tk, rfl, hk'⟩ := moved_old e rfl m
  have b := argBest_fold dataLt PyData.none x xs xs.length (Nat.le_refl _)
  have e1 : vs.size - 1 = xs.length := by omega
  rw [List.take_length] at b
  rw [e1] at hP
  refine h _ v h' tk hP ?_ hk'
  have lt : argBest (fun i j => dataLt ((x :: xs).getD i PyData.none) ((x :: xs).getD j PyData.none)) xs.length < (x :: xs).length := by
    rw [List.length_cons]
    exact Nat.lt_succ_of_le b.1
  have := b.2
  rw [List.getD_eq_getElem?_getD, List.getElem?_eq_getElem lt] at this
  rw [List.getElem?_eq_getElem lt]
  exact congrArg some this
end
theorem hu8 {k : Nat} {A : Around} (hr : Room k A) : A.units + 8 < cLine := by
  have := hr.units
  omega
theorem cr_minT {X : Cx} (hc : X.calm = true) (hu : X.A.units + 8 < cLine) : CallR X (.builtin "min") (rMinT X.K) := by
  intro pins s σ H vs us Q I r h
  obtain ⟨a, xs, kz, rfl, hs, hd, hne, q⟩ := h
  obtain ⟨its, rv, hl, hz⟩ := I.list hs
  rw [Vals.ref1 r]
  obtain ⟨as, rd⟩ := Dp.readsAll I _ _ _ hd rv
  cases kz with
  | nil => exact absurd rfl hne
  | cons k kz =>
    have dp := depthTups (k :: kz)
    refine min_data (x := tupD k) (xs := kz.map tupD) (I.ok.hd hc) hl.isList rd (alikeTups (k :: kz)) (by
      show X.A.units + 1 + PyData.depthAll ((k :: kz).map tupD) < cLine
      omega) fun i v h' tk hv hm hk => ?_
    obtain ⟨m, e1, e2, e3⟩ := minD_tups kz k
    have hi : its[i]? = some v := by simpa using hv
    cases hx : xs[i]? with
    | none => rw [Vals.none_of rv hx] at hi; cases hi
    | some x =>
      obtain ⟨u, h1, h2⟩ := Vals.get rv hx
      rw [hi] at h1
      cases h1
      rw [e1] at hm
      have dx := dpAll_get hd hx (show ((k :: kz).map tupD)[i]? = some (tupD m) from hm)
      obtain ⟨p, rfl, hp⟩ := dpTup_inv dx
      exact ⟨.ref p, H, I.kept hk, h2, q p m e2 e3 hp⟩
end My

namespace My
open PySem PySem.Spec L2
section
variable {K : PySem.W.Frag} {H H' H1 : Hp} {a p : Addr} {xs : List V} {o : HO}
theorem _root_.L2.SqL.keep1 (h : SqL K H a xs) (hn : H p = none) : SqL K (upd H p o) a xs := (same_upd hn).seq h
theorem at_map {α : Type} {ms : List α} {f : α → V} {i : Nat} {x : V} (h : (ms.map f)[i]? = some x) : ∃ m, ms[i]? = some m ∧ x = f m := by
  rw [List.getElem?_map] at h
  cases e : ms[i]? with
  | none => rw [e] at h; cases h
  | some m => rw [e] at h; exact ⟨m, rfl, (Option.some.inj h).symm⟩
theorem take_map_next {α : Type} {ms : List α} {f : α → V} {i : Nat} {m : α} (h : ms[i]? = some m) : (ms.take (i + 1)).map f = (ms.take i).map f ++ [f m] := by
  rw [List.take_add_one, h]
  simp
theorem take_filter_next {α : Type} {ms : List α} {q : α → Bool} {f : α → V} {i : Nat} {m : α} (h : ms[i]? = some m) : ((ms.take (i + 1)).filter q).map f = ((ms.take i).filter q).map f ++ (if q m = true then [f m] else []) := by
  rw [List.take_add_one, h]
  cases hq : q m <;> simp [hq]
variable {g : TG} {tt : TT} {te : TE} {vs : List Nat} {σ : L2.St} {Q : VK}
/-- a comprehension that only reads: every item by f -/
theorem lcMap {α : Type} {ms : List α} (v f : α → V) (hS : SqL K H1 a (ms.map v)) (hn : ms.length ≤ 1000)
    (step : ∀ m, m ∈ ms → ∀ (H' : Hp) (C : V → Hp → Prop), Same H1 H' → C (f m) H' → g (v m) (wipe σ vs) H' fun σ2 H2 => wipe σ2 vs = wipe σ vs ∧ te σ2 H2 C)
    (hq : ∀ D, H1 D = none → Q (.ref D) (upd H1 D (.lst (ms.map f)))) : LcA (Itl K a) g tYes te vs σ H1 Q := by
  refine lcB (walk_list (xs := ms.map v)) fun D hD => ⟨fun i H => i ≤ ms.length ∧ H = upd H1 D (.lst ((ms.take i).map f)), ⟨Nat.zero_le _, rfl⟩, (fun i H _ h => by rw [h.2]; exact (same_upd hD).seq hS), ?_, ?_⟩
  · rintro i x H H' hi ⟨h1, rfl⟩ ⟨rfl, hx⟩
    obtain ⟨m, hm, rfl⟩ := at_map hx
    have hmem : m ∈ ms := List.mem_of_getElem? hm
    have hlt := (List.getElem?_eq_some_iff.mp hm).1
    have st := step m hmem (upd H1 D (.lst ((ms.take i).map f))) (fun y H4 => ∃ acc, H4 D = some (.lst acc) ∧ acc.length < sizeLine ∧ (i + 1 ≤ ms.length ∧ upd H4 D (.lst (acc ++ [y])) = upd H1 D (.lst ((ms.take (i + 1)).map f)))) (same_upd hD) ?_
    · simpa only [tYes, if_true] using st
    · refine ⟨_, upd_same, ?_, hlt, ?_⟩
      · rw [List.length_map, List.length_take]
        exact Nat.lt_of_le_of_lt (Nat.min_le_left _ _) (small1000 (by omega))
      · rw [upd_upd, take_map_next hm]
  · rintro H ⟨_, rfl⟩
    rw [List.length_map, List.take_length]
    exact hq D hD
/-- .. with a test -/
theorem lcFilter {α : Type} {ms : List α} (v f : α → V) (q : α → Bool) (hS : SqL K H1 a (ms.map v)) (hn : ms.length ≤ 1000)
    (step : ∀ m, m ∈ ms → ∀ (H' : Hp) (C : V → Hp → Prop) (C' : Hp → Prop), Same H1 H' → (q m = true → C (f m) H') → (q m = false → C' H') → g (v m) (wipe σ vs) H' fun σ2 H2 => wipe σ2 vs = wipe σ vs ∧ tt σ2 H2 fun b H3 => if b = true then te σ2 H3 C else C' H3)
    (hq : ∀ D, H1 D = none → Q (.ref D) (upd H1 D (.lst ((ms.filter q).map f)))) : LcA (Itl K a) g tt te vs σ H1 Q := by
  refine lcB (walk_list (xs := ms.map v)) fun D hD => ⟨fun i H => i ≤ ms.length ∧ H = upd H1 D (.lst (((ms.take i).filter q).map f)), ⟨Nat.zero_le _, rfl⟩, (fun i H _ h => by rw [h.2]; exact (same_upd hD).seq hS), ?_, ?_⟩
  · rintro i x H H' hi ⟨h1, rfl⟩ ⟨rfl, hx⟩
    obtain ⟨m, hm, rfl⟩ := at_map hx
    have hmem : m ∈ ms := List.mem_of_getElem? hm
    have hlt := (List.getElem?_eq_some_iff.mp hm).1
    refine step m hmem (upd H1 D (.lst (((ms.take i).filter q).map f))) _ _ (same_upd hD) (fun hq => ?_) (fun hq => ?_)
    · refine ⟨_, upd_same, ?_, hlt, ?_⟩
      · rw [List.length_map]
        refine Nat.lt_of_le_of_lt (List.length_filter_le _ _) ?_
        rw [List.length_take]
        exact Nat.lt_of_le_of_lt (Nat.min_le_left _ _) (small1000 (by omega))
      · rw [upd_upd, take_filter_next hm, if_pos hq]
    · refine ⟨hlt, ?_⟩
      rw [take_filter_next hm, if_neg (by rw [hq]; decide), List.append_nil]
  · rintro H ⟨_, rfl⟩
    rw [List.length_map, List.take_length]
    exact hq D hD
/-- a comprehension over a range whose steps may change the heap: I says what holds behind i of them -/
theorem lcRange {n : Nat} {lo : Int} (I : Nat → List V → Hp → Prop) (hn : n ≤ 1000) (h0 : I 0 [] H1)
    (step : ∀ D i acc H', H1 D = none → i < n → acc.length = i → I i acc H' → H' D = some (.lst acc) → ∀ (C : V → Hp → Prop), (∀ y H4, H4 D = some (.lst acc) → I (i + 1) (acc ++ [y]) H4 → C y H4) → g (.int (lo + i)) (wipe σ vs) H' fun σ2 H2 => wipe σ2 vs = wipe σ vs ∧ te σ2 H2 C)
    (stable : ∀ D i acc H' u, H1 D = none → I i acc H' → I i acc (upd H' D u)) (hq : ∀ D acc H', H1 D = none → acc.length = n → I n acc H' → H' D = some (.lst acc) → Q (.ref D) H') : LcA (Itr lo n) g tYes te vs σ H1 Q := by
  refine lcB (walk_range (lo := lo) (n := n)) fun D hD => ⟨fun i H => ∃ acc, acc.length = i ∧ I i acc H ∧ H D = some (.lst acc), ⟨[], rfl, stable D _ _ _ _ hD h0, upd_same⟩, (fun _ _ _ _ => trivial), ?_, ?_⟩
  · rintro i x H H' hi ⟨acc, hl, hI, hD'⟩ ⟨rfl, rfl⟩
    have st := step D i acc _ hD hi hl hI hD' (fun y H4 => ∃ acc, H4 D = some (.lst acc) ∧ acc.length < sizeLine ∧ ∃ acc', acc'.length = i + 1 ∧ I (i + 1) acc' (upd H4 D (.lst (acc ++ [y]))) ∧ (upd H4 D (.lst (acc ++ [y]))) D = some (.lst acc')) ?_
    · simpa only [tYes, if_true] using st
    · intro y H4 hd hI4
      exact ⟨acc, hd, small1000 (by omega), acc ++ [y], by simp [hl], stable D _ _ _ _ hD hI4, upd_same⟩
  · rintro H ⟨acc, hl, hI, hd⟩
    exact hq D acc H hD hl hI hd
/-! ### slices -/
theorem cutV_ints (ns : List Int) (i j : Nat) : ∃ ms : List Int, cutV (ns.map V.int) (some (i : Int)) (some (j : Int)) = ms.map V.int ∧ ms.length ≤ j - i ∧ ms = (ns.drop (min i ns.length)).take (min j ns.length - min i ns.length) := by
  refine ⟨(ns.drop (min i ns.length)).take (min j ns.length - min i ns.length), ?_, ?_, rfl⟩
  · unfold cutV
    rw [HT.sIx_nat, HT.sIx_nat, List.length_map, List.map_take, List.map_drop]
  · rw [List.length_take]
    omega
end
/-! ### a list that is read while one tray changes -/
def Rd (K : PySem.W.Frag) (a : Addr) (xs : List V) (s : Addr) (H : Hp) : Prop := ∀ H', Keep [s] H H' → SqL K H' a xs
section
variable {K : PySem.W.Frag} {H H' H1 : Hp} {a s : Addr} {xs : List V}
theorem Keep.refl {ms : List Addr} : Keep ms H H := fun _ _ e _ => e
theorem Keep.trans {ms : List Addr} (k : Keep ms H H') (k' : Keep ms H' H1) : Keep ms H H1 := fun b o e n => k' b o (k b o e n) n
theorem Rd.now (h : Rd K a xs s H) : SqL K H a xs := h H Keep.refl
theorem Rd.next (h : Rd K a xs s H) (k : Keep [s] H H') : Rd K a xs s H' := fun H2 k2 => h H2 (k.trans k2)
theorem Rd.of (h : SqL K H a xs) (hs : H s = none) (S : Same H H') : Rd K a xs s H' := fun H2 k => by
  rcases h with (h | ⟨o, h⟩) | h
  · exact .inl (.inl (k _ _ (S _ _ h) (by simpa using ne_of_none h hs)))
  · exact .inl (.inr ⟨o, k _ _ (S _ _ h) (by simpa using ne_of_none h hs)⟩)
  · exact .inr h
theorem keep_upd {o : HO} : Keep [a] H (upd H a o) := fun b u e n => upd_other e (by simpa using n)
end
section
variable {H H' : Hp} {p D : Addr} {ms : List Addr} {u : HO}
theorem Keep.updFresh (k : Keep ms H H') (h : H D = none) : Keep ms H (upd H' D u) := fun b o e n => upd_other (k b o e n) (ne_of_none e h)
theorem Keep.free (k : Keep ms H H') (h : H' p = none) (hm : ∀ b ∈ ms, H' b ≠ none) : H p = none := by
  cases e : H p with
  | none => rfl
  | some o =>
    by_cases hp : p ∈ ms
    · exact absurd h (hm p hp)
    · rw [k p o e hp] at h
      cases h
end
theorem sameF {H H' H1 : Hp} {s : Addr} (hs : H s = none) (S : Same H H') (k : Keep [s] H' H1) : Same H H1 := fun b o e => k b o (S b o e) (by simpa using ne_of_none e hs)
/-- draws of a law: a list of three ints, the last one counts -/
def Src (H : Hp) (a : Addr) (n : Nat) : Prop := ∃ (x f c : Int), H a = some (.lst [.int x, .int f, .int c]) ∧ 0 ≤ c ∧ c ≤ (n : Int)
theorem Src.same {H H' : Hp} {a : Addr} {n : Nat} (h : Src H a n) (S : Same H H') : Src H' a n := by
  obtain ⟨x, f, c, e, h⟩ := h
  exact ⟨x, f, c, S _ _ e, h⟩
theorem Src.keep {H H' : Hp} {a b : Addr} {n : Nat} (h : Src H a n) (S : Keep [b] H H') (hn : a ≠ b) : Src H' a n := by
  obtain ⟨x, f, c, e, h⟩ := h
  exact ⟨x, f, c, S _ _ e (by simpa using hn), h⟩
theorem Src.mono {H : Hp} {a : Addr} {n m : Nat} (h : Src H a n) (l : n ≤ m) : Src H a m := by
  obtain ⟨x, f, c, e, h1, h2⟩ := h
  exact ⟨x, f, c, e, h1, by omega⟩
theorem Src.free {H H' : Hp} {s p : Addr} {n : Nat} (hs : Src H' s n) (k : Keep [s] H H') (h : H' p = none) : H p = none := k.free h fun b hb => by
  obtain ⟨x, f, c, e, _⟩ := hs
  rw [List.mem_singleton.mp hb, e]
  exact nofun
theorem Src.upd {H : Hp} {s D : Addr} {n : Nat} {u : HO} (hs : Src H s n) (h : s ≠ D) : Src (upd H D u) s n := by
  obtain ⟨x, f, c, e, q⟩ := hs
  exact ⟨x, f, c, upd_other e h, q⟩
theorem Src.ne {H : Hp} {a b : Addr} {n : Nat} (h : Src H a n) (hb : H b = none) : a ≠ b := by
  obtain ⟨x, f, c, e, _⟩ := h
  exact ne_of_none e hb
end My

namespace My
open PySem PySem.Spec L2
open PyProof.Rows (envOfC)
theorem ixN_ok {n k : Nat} (h : k < n) : ixN n (k : Int) = some k := by
  unfold ixN
  rw [if_pos (by omega), if_pos (by omega), Int.toNat_natCast]
theorem ixN4 {n : Nat} (z : Int) (k : Nat) (e : z = (k : Int)) (h : k < 4) : ixN (n + 4) z = some k := by rw [e]; exact ixN_ok (by omega)
/-! ### the rules with the written part named -/
section
variable {X : Cx} {K : PySem.W.Frag} {e o value : Expr} {es : List Expr} {f : Str} {pos pos' tpos apos cpos : Pos} {ta tv te to : TE} {t : TA}
theorem pe_fldK (he : PE X e ta) (hb : attributeBase e f X.env (eval e X.env) = eval e X.env := by rfl) (hK : X.K = K := by rfl) :
    PE X (.Attribute e f pos) (tFld K ta f) := by subst hK; exact pe_fld he hb
theorem ps_fldK (ha : PE X o ta) (hv : PE X value tv) (hK : X.K = K := by rfl)
    (hs : swapsWith value (some (.Attribute o f pos')) pos.line X.env = pure false := by rfl) :
    PS X (.Assign [.Attribute o f pos'] value pos) (sFld K ta tv f) := by subst hK; exact ps_fld ha hv hs
theorem ps_fldaugK {op : Operator} {rd : V → V → Hp → VK → Prop} (ha : PE X o ta) (hv : PE X value tv) (hop : InOp X op rd) (hK : X.K = K := by rfl) :
    PS X (.AugAssign (.Attribute o f tpos) op value pos) (sFldAug K ta tv rd f) := by subst hK; exact ps_fldaug ha hv hop
theorem ix_listK (hK : X.K = K := by rfl) : IxR X (rIxL K) := by subst hK; exact ix_list
theorem ix_tupK (hK : X.K = K := by rfl) : IxR X (rIxT K) := by subst hK; exact ix_tup
theorem sl_listK (hK : X.K = K := by rfl) : SlR X (rSlL K) := by subst hK; exact sl_list
theorem call_lenLK (hK : X.K = K := by rfl) : CallR X (.builtin "len") (fun xs H Q => ∃ p ys, xs = [.ref p] ∧ SqL K H p ys ∧ Q (.int ys.length) H) := by subst hK; exact call_lenL
theorem call_lenTK (hK : X.K = K := by rfl) : CallR X (.builtin "len") (fun xs H Q => ∃ p ys, xs = [.ref p] ∧ SqT K H p ys ∧ Q (.int ys.length) H) := by subst hK; exact call_lenT
theorem call_listLK (hK : X.K = K := by rfl) : CallR X (.type "list") (fun xs H Q => ∃ p ys, xs = [.ref p] ∧ SqL K H p ys ∧ ∀ l, H l = none → Q (.ref l) (upd H l (.lst ys))) := by subst hK; exact call_listL
theorem cr_minTK (hc : X.calm = true) (hu : X.A.units + 8 < cLine) (hK : X.K = K := by rfl) : CallR X (.builtin "min") (rMinT K) := by subst hK; exact cr_minT hc hu
theorem cr_allK (hc : X.calm = true) (hK : X.K = K := by rfl) : CallR X (.builtin "all") (rAll K) := by subst hK; exact cr_all hc
theorem cr_anyK (hc : X.calm = true) (hK : X.K = K := by rfl) : CallR X (.builtin "any") (rAny K) := by subst hK; exact cr_any hc
theorem cr_sumK (hc : X.calm = true) (hK : X.K = K := by rfl) : CallR X (.builtin "sum") (rSum K) := by subst hK; exact cr_sum hc
theorem cr_maxK (hc : X.calm = true) (hK : X.K = K := by rfl) : CallR X (.builtin "max") (rMax K) := by subst hK; exact cr_max hc
theorem cr_minK1 (hc : X.calm = true) (hK : X.K = K := by rfl) : CallR X (.builtin "min") (rMin K) := by subst hK; exact cr_min hc
theorem call_isiK1 (hK : X.K = K := by rfl) : CallR X (.builtin "isinstance") (rIsi K) := by subst hK; exact call_isi
theorem call_isiTK (hK : X.K = K := by rfl) : CallR X (.builtin "isinstance") (rIsiT K) := by subst hK; exact call_isiT
theorem op_ltTK (hu : X.A.units < cLine) (hK : X.K = K := by rfl) : OpR X (compareOp .Lt) (rLtT K) := by subst hK; exact op_ltT hu
theorem op_inK (hK : X.K = K := by rfl) : OpR X (compareOp .In) (rIn K false) := by subst hK; exact op_in_seq
theorem op_notInK (hK : X.K = K := by rfl) : OpR X (compareOp .NotIn) (rIn K true) := by subst hK; exact op_notIn_seq
theorem op_eqDK (hu : X.A.units + 64 < cLine) (hK : X.K = K := by rfl) : OpR X (compareOp .Eq) (rEqD K) := by subst hK; exact op_eqD hu
theorem op_neDK (hu : X.A.units + 64 < cLine) (hK : X.K = K := by rfl) : OpR X (compareOp .NotEq) (rNeD K) := by subst hK; exact op_neD hu
theorem pe_bm0K {T name id : String} {r : V → List V → Hp → VK → Prop} (pa : PlainAttrs T) (slot : Slot T name id) (hty : typeOf (.builtin id) = pure (.type "method_descriptor")) (hm : MtR X id r) (ho : PE X o to) (hK : X.K = K := by rfl)
    (hb : attributeBase o name X.env (eval o X.env) = eval o X.env := by rfl) (hl : (apos.endLine == cpos.line) = true := by rfl) :
    PE X (.Call (.Attribute o name apos) [] [] cpos) (tBM0 K T r to) := by subst hK; exact pe_bm0 pa slot hty hm ho hb hl
theorem pe_bmK {T name id : String} {r : V → List V → Hp → VK → Prop} (pa : PlainAttrs T) (slot : Slot T name id) (hty : typeOf (.builtin id) = pure (.type "method_descriptor")) (hm : MtR X id r) (ho : PE X o to) (ha : PA X (e :: es) t) (hK : X.K = K := by rfl)
    (h1 : attributeBase o name X.env (eval o X.env) = eval o X.env := by rfl)
    (h2 : ((backTo cpos (starEach (e :: es) X.env)).all (fun x => !x.1) && (backToKw cpos (keywordEach [] X.env)).all (fun x => x.1.isSome) &&
      decide ((e :: es).length + ([] : List Keyword).length + (if ([] : List Keyword).isEmpty then 0 else 1) < 30)) = true := by rfl)
    (h3 : (apos.endLine == cpos.line) = true := by rfl) (h4 : starEach (e :: es) X.env = (false, eval e X.env) :: starEach es X.env := by rfl)
    (h5 : (backTo cpos (starEach es X.env)).any (·.1) = false := by rfl) :
    PE X (.Call (.Attribute o name apos) (e :: es) [] cpos) (tBM K T r to t) := by subst hK; exact pe_bm pa slot hty hm ho ha h1 h2 h3 h4 h5
theorem pe_remXK {W : WX} (hc : X.calm = true) (tk : Takes X W) (ho : PE X o to) (he : PE X e te) (hK : X.K = K := by rfl)
    (h1 : attributeBase o "remove" X.env (eval o X.env) = eval o X.env := by rfl)
    (h2 : ((backTo cpos (starEach [e] X.env)).all (fun x => !x.1) && (backToKw cpos (keywordEach [] X.env)).all (fun x => x.1.isSome) &&
      decide (([e] : List Expr).length + ([] : List Keyword).length + (if ([] : List Keyword).isEmpty then 0 else 1) < 30)) = true := by rfl)
    (h3 : (apos.endLine == cpos.line) = true := by rfl) (h4 : starEach [e] X.env = (false, eval e X.env) :: starEach [] X.env := by rfl) (h5 : (backTo cpos (starEach [] X.env)).any (·.1) = false := by rfl) :
    PE X (.Call (.Attribute o "remove" apos) [e] [] cpos) (tRemX K W to te) := by subst hK; exact pe_remX hc tk ho he h1 h2 h3 h4 h5
theorem pi_listK {tg l : Expr} {tl : TE} (hl : PE X l tl) (hK : X.K = K := by rfl) : PI X tg l (iList K tl) := by subst hK; exact pi_list hl
theorem pi_tupK {tg l : Expr} {tl : TE} (hl : PE X l tl) (hK : X.K = K := by rfl) : PI X tg l (iTup K tl) := by subst hK; exact pi_tup hl
theorem pi_enumK {p pp : Pos} {elts : List Expr} {kk : Nat} (hg : Gl X "enumerate") (hm : X.mg "enumerate" = none) (ha : PA X [e] t) (hK : X.K = K := by rfl)
    (hs : starEach [e] X.env = [(false, eval e X.env)] := by rfl) : PI X (.Tuple elts kk tpos) (.Call (.Name "enumerate" p) [e] [] pp) (iEnum K t) := by subst hK; exact pi_enum hg hm ha hs
theorem pi_zipK {e2 : Expr} {p pp : Pos} {elts : List Expr} {kk : Nat} (hg : Gl X "zip") (hm : X.mg "zip" = none) (ha : PA X [e, e2] t) (hK : X.K = K := by rfl)
    (hs : starEach [e, e2] X.env = (false, eval e X.env) :: starEach [e2] X.env := by rfl) (h2 : (backTo pp (starEach [e2] X.env)).any (·.1) = false := by rfl) :
    PI X (.Tuple elts kk tpos) (.Call (.Name "zip" p) [e, e2] [] pp) (iZip K t) := by subst hK; exact pi_zip hg hm ha hs h2
theorem pt_truLK {a : Expr} (ha : PE X a ta) (hK : X.K = K := by rfl) (he : ∀ whole, isTrue a X.env whole = (do let v ← whole; standAt a.pos; holding [v] (truthy v)) := by intro _; rfl) :
    PT X a (fun σ H Q => ta σ H fun x H' => ∃ p xs, x = .ref p ∧ SqL K H' p xs ∧ Q (!xs.isEmpty) H') := by subst hK; exact pt_truL ha he
theorem pg_tupK {k n : Nat} {t : TGs} (hc : X.calm = true) (h : PGs X es t) (hK : X.K = K := by rfl)
    (hn : (assignEach es X.env).length = n := by rfl) (hst : (assignEach es X.env).findIdx? (·.1) = none := by rfl) :
    PG X (.Tuple es k pos) (gTup K n t) := by subst hK; exact pg_tup hc h hn hst
/-- f(k = v, ..) alone -/
theorem pe_callN0 {CX : CXT} {k : Nat} {fa : Addr} {fd : FuncData} {ps ks : List Str} {sp : Sp} {E : XK} {x : Str} {p : Pos} {kws : List Keyword} {tk : TA} {g : List Value → List Value → List Value} {gV : List V → List V → List V}
    (F : FnOk X.prog X.w X.K X.mg X.base CX k fa fd ps sp) (hr : Room k X.A) (hg : Gl X x) (hm : X.mg x = some (.ref fa)) (hk : PySem.W.keepIn X.K (.ref fa) = true) (hb : KBn X.K fd ps 0 ks g gV) (hx : Passes CX X E)
    (hkw : PK X kws tk) (hall : (backToKw pos (keywordEach kws X.env)).all (·.1.isSome) = true := by rfl)
    (hks : (backToKw pos (keywordEach kws X.env)).filterMap (·.1) = ks := by rfl) (hdb : (x == ("__debug__" : Str)) = false := by decide)
    (hpl : ((backTo pos (starEach [] X.env)).any (·.1) || (backToKw pos (keywordEach kws X.env)).any (·.1.isNone)) = false := by rfl) :
    PE X (.Call (.Name x p) [] kws pos) (tCallN 0 ks.length sp gV E tNil tk) := by
  refine ⟨fun pins s σ H Q I h => ?_⟩
  refine wpAny_Call_Name_kw (ld_glob I hg hm ?_ hdb)
  refine PySem.W.callWith_KW0 (h₀ := X.base) I.ok.mod.kin hk hall ?_ hpl
  refine thn (hkw.run pos pins s σ H _ I h) fun ws s2 ⟨zs, H2, I2, rz, l1, l2, q2⟩ => ⟨I2.kIn, ?_⟩
  rw [hks]
  exact run_fnN F hr hb hx I2 .nil rz l1 l2 q2
theorem _root_.L2.Vals.getD {zs : List V} {ws : List Value} (r : Vals zs ws) (i : Nat) : RelV (zs.getD i .non) (ws.getD i .none) := by
  rw [List.getD_eq_getElem?_getD, List.getD_eq_getElem?_getD]
  cases e : zs[i]? with
  | none => rw [Vals.none_of r e]; rfl
  | some x =>
    obtain ⟨u, h1, h2⟩ := Vals.get r e
    rw [h1]
    exact h2
end
end My

namespace My
open PySem PySem.Spec L2
/-! ### data made of new objects alone -/
/-- H5 has what H' has and H had not -/
def NewIn (H H' H5 : Hp) : Prop := ∀ b o, H' b = some o → H b = none → H5 b = some o
def New (K : PySem.W.Frag) (H H' : Hp) (r : V) (d : PyData) : Prop := ∀ H5, NewIn H H' H5 → Dp K H5 r d
section
variable {K : PySem.W.Frag} {H H' H'' H1 : Hp} {r : V} {d : PyData} {t : Addr}
theorem New.now (h : New K H H' r d) : Dp K H' r d := h H' fun _ _ e _ => e
theorem New.grow (h : New K H H' r d) (S : Same H' H'') : New K H H'' r d := fun H5 k => h H5 fun b o e n => k b o (S b o e) n
theorem New.back (h : New K H' H'' r d) (S : Same H H') : New K H H'' r d := fun H5 k => h H5 fun b o e n => k b o e (by
  cases q : H b with
  | none => rfl
  | some u => rw [S b u q] at n; cases n)
theorem New.int {i : Int} : New K H H' (.int i) (.int i) := fun _ _ => .int i
theorem New.bl {i : Bool} : New K H H' (.bl i) (.bool i) := fun _ _ => .bl i
theorem New.tup {xs : List V} {ds : List PyData} (ht : H t = none) (h : ∀ H5, DpAll K H5 xs ds) : New K H (upd H t (.tup xs)) (.ref t) (.tuple ds) := fun H5 k => .tup (SqT.of (k t _ upd_same ht)) (h H5)
theorem dpInts : ∀ (ns : List Int) (H : Hp), DpAll K H (ns.map V.int) (ns.map PyData.int)
  | [], _ => .nil
  | n :: r, H => .cons (.int n) (dpInts r H)
theorem New.tup2 {i j : Int} (ht : H t = none) : New K H (upd H t (.tup [.int i, .int j])) (.ref t) (tupD [i, j]) := .tup ht fun H5 => dpInts [i, j] H5
theorem New.tup3 {i j k : Int} (ht : H t = none) : New K H (upd H t (.tup [.int i, .int j, .int k])) (.ref t) (tupD [i, j, k]) := .tup ht fun H5 => dpInts [i, j, k] H5
theorem DpAll.snoc {v : V} {d : PyData} (h : Dp K H v d) : ∀ {vs : List V} {ds : List PyData}, DpAll K H vs ds → DpAll K H (vs ++ [v]) (ds ++ [d])
  | _, _, .nil => .cons h .nil
  | _, _, .cons a r => .cons a (DpAll.snoc h r)
theorem DpAll.len : ∀ {vs : List V} {ds : List PyData}, DpAll K H vs ds → vs.length = ds.length
  | _, _, .nil => rfl
  | _, _, .cons _ r => congrArg (· + 1) (DpAll.len r)
/-- all items are made of objects that are new since H, but for the one at D -/
def NewAll (K : PySem.W.Frag) (H H' : Hp) (D : Addr) (vs : List V) (ds : List PyData) : Prop := ∀ H5, (∀ b o, H' b = some o → H b = none → b ≠ D → H5 b = some o) → DpAll K H5 vs ds
theorem NewAll.now {D : Addr} {vs : List V} {ds : List PyData} (h : NewAll K H H' D vs ds) : DpAll K H' vs ds := h H' fun _ _ e _ _ => e
theorem NewAll.list {D : Addr} {vs : List V} {ds : List PyData} (h : NewAll K H H' D vs ds) (hD : H D = none) (e : H' D = some (.lst vs)) : New K H H' (.ref D) (.list ds) := fun H5 k => .lst (SqL.of (k D _ e hD)) (h H5 fun b o e n _ => k b o e n)
theorem NewAll.next {H4 : Hp} {D : Addr} {vs acc : List V} {ds : List PyData} {y : V} {d : PyData} (h : NewAll K H1 H D vs ds) (S1 : Same H1 H) (S : Same H H4) (hD : H D = some (.lst acc)) (n : New K H H4 y d) (u : HO) : NewAll K H1 (upd H4 D u) D (vs ++ [y]) (ds ++ [d]) := fun H5 k => by
  refine DpAll.snoc (n H5 fun b o e nn => ?_) (h H5 fun b o e nn hb => k b o (upd_other (S b o e) hb) nn hb)
  have hb : b ≠ D := by
    rintro rfl
    rw [hD] at nn
    cases nn
  refine k b o (upd_other e hb) ?_ hb
  cases q : H1 b with
  | none => rfl
  | some x => rw [S1 b x q] at nn; cases nn
variable {g : TG} {tt : TT} {te : TE} {vs : List Nat} {σ : L2.St} {Q : VK} {a : Addr}
/-- a comprehension over what a walk gives, each item's value made of new objects -/
theorem lcW {J : It} {n : Nat} {G : Hp → Prop} {Y : Nat → Hp → V → Hp → Prop} (f : Nat → PyData) (w : Walk J n G Y) (hn : n ≤ 1000) (hG : ∀ H', Same H1 H' → G H')
    (step : ∀ i x H' H2', i < n → Same H1 H' → Y i H' x H2' → ∀ (C : V → Hp → Prop), (∀ y H4, Same H' H4 → New K H' H4 y (f i) → C y H4) → g x (wipe σ vs) H2' fun σ2 H2 => wipe σ2 vs = wipe σ vs ∧ te σ2 H2 C)
    (hq : ∀ D acc H', H1 D = none → Same H1 H' → H' D = some (.lst acc) → NewAll K H1 H' D acc ((List.range n).map f) → Q (.ref D) H') : LcA J g tYes te vs σ H1 Q := by
  refine lcB w fun D hD => ⟨fun i H => ∃ acc, i ≤ n ∧ acc.length = i ∧ Same H1 H ∧ H D = some (.lst acc) ∧ NewAll K H1 H D acc ((List.range i).map f), ⟨[], Nat.zero_le _, rfl, same_upd hD, upd_same, fun H5 _ => .nil⟩, (fun i H _ ⟨acc, _, _, S, _⟩ => hG H S), ?_, ?_⟩
  · rintro i x H H2' hi ⟨acc, h0, h1, S, hd, ha⟩ hy
    have st := step i x H H2' hi S hy (fun y H4 => ∃ acc, H4 D = some (.lst acc) ∧ acc.length < sizeLine ∧ ∃ acc', i + 1 ≤ n ∧ acc'.length = i + 1 ∧ Same H1 (upd H4 D (.lst (acc ++ [y]))) ∧ (upd H4 D (.lst (acc ++ [y]))) D = some (.lst acc') ∧ NewAll K H1 (upd H4 D (.lst (acc ++ [y]))) D acc' ((List.range (i + 1)).map f)) ?_
    · simpa only [tYes, if_true] using st
    · intro y H4 S4 hy4
      refine ⟨acc, S4 _ _ hd, small1000 (by omega), acc ++ [y], hi, by simp [h1], fun b o e => upd_other (S4 _ _ (S _ _ e)) (ne_of_none e hD), upd_same, ?_⟩
      rw [List.range_succ, List.map_append]
      exact ha.next S S4 hd hy4 _
  · rintro H ⟨acc, h0, h1, S, hd, ha⟩
    exact hq D acc H hD S hd ha
/-- .. over a list -/
theorem lcNew {α : Type} {ms : List α} (v : α → V) (f : α → PyData) (hS : SqL K H1 a (ms.map v)) (hn : ms.length ≤ 1000)
    (step : ∀ m, m ∈ ms → ∀ H', Same H1 H' → ∀ (C : V → Hp → Prop), (∀ y H4, Same H' H4 → New K H' H4 y (f m) → C y H4) → g (v m) (wipe σ vs) H' fun σ2 H2 => wipe σ2 vs = wipe σ vs ∧ te σ2 H2 C)
    (hq : ∀ D acc H', H1 D = none → Same H1 H' → H' D = some (.lst acc) → NewAll K H1 H' D acc (ms.map f) → Q (.ref D) H') : LcA (Itl K a) g tYes te vs σ H1 Q := by
  have e : (List.range ms.length).map (fun i => match ms[i]? with | some m => f m | none => .none) = ms.map f := by
    refine List.ext_getElem (by simp) fun i h1 h2 => ?_
    rw [List.length_map, List.length_range] at h1
    rw [List.getElem_map, List.getElem_range, List.getElem_map, List.getElem?_eq_getElem h1]
  refine lcW (K := K) (H1 := H1) (n := (ms.map v).length) (fun i => match ms[i]? with | some m => f m | none => .none) (walk_list (xs := ms.map v)) (by rw [List.length_map]; exact hn) (fun H' S => S.seq hS) ?_ ?_
  · rintro i x H' H2' hi S ⟨rfl, hx⟩ C hC
    obtain ⟨m, hm, rfl⟩ := at_map hx
    refine step m (List.mem_of_getElem? hm) _ S C fun y H4 S4 n => hC y H4 S4 ?_
    rw [hm]
    exact n
  · intro D acc H' hD S hd ha
    rw [List.length_map, e] at ha
    exact hq D acc H' hD S hd ha
end
end My

namespace My
open PySem PySem.Spec L2
def tyD : PyData → String
  | .none => "NoneType"
  | .bool _ => "bool"
  | .int _ => "int"
  | .str _ => "str"
  | .list _ => "list"
  | .tuple _ => "tuple"
  | .dict _ => "dict"
section
variable {K : PySem.W.Frag} {H : Hp} {a : Addr} {xs : List V} {X : Cx}
theorem tyX_list (h : SqL K H a xs) : TyX K H (.ref a) (.type "list") := by
  rcases h with (h | ⟨o, h⟩) | ⟨o, its, n, h1, h2, h3⟩
  · exact .base (.lst h)
  · exact .base (.frz h)
  · exact .kList h1 h2
theorem tyX_tuple (h : SqT K H a xs) : TyX K H (.ref a) (.type "tuple") := by
  rcases h with (h | ⟨o, h⟩) | ⟨o, its, n, h1, h2, h3⟩
  · exact .base (.tup h)
  · exact .fTuple h
  · exact .kTuple h1 h2
theorem tyX_of {x : V} {d : PyData} (h : Dp K H x d) : TyX K H x (.type (tyD d)) := by
  cases h with
  | non => exact .base .non
  | bl b => exact .base (.bl b)
  | int i => exact .base (.int i)
  | str x => exact .base (.str x)
  | lst h _ => exact tyX_list h
  | tup h _ => exact tyX_tuple h
/-- isinstance of data -/
def rIsD (K : PySem.W.Frag) : List V → Hp → VK → Prop := fun xs H Q => ∃ x n d b, xs = [x, .ty n] ∧ Dp K H x d ∧ kitB (tyD d) n = some b ∧ Q (.bl b) H
theorem call_isD (hK : X.K = K := by rfl) : CallR X (.builtin "isinstance") (rIsD K) := fun pins s σ H vs us Q I r ⟨x, n, d, b, e, h, k, q⟩ => by
  subst hK
  exact call_isi pins s σ H vs us Q I r ⟨x, _, _, _, b, e, .ty n, tyX_of h, kit_ty k, q⟩
theorem isd {x : V} {n : String} {d : PyData} {b : Bool} {Q : VK} (h : Dp K H x d) (k : kitB (tyD d) n = some b) (q : Q (.bl b) H) : rIsD K [x, .ty n] H Q := ⟨x, n, d, b, rfl, h, k, q⟩
/-- isinstance against (list, tuple) -/
def rIsD2 (K : PySem.W.Frag) : List V → Hp → VK → Prop := fun xs H Q => ∃ x t n m d b c, xs = [x, .ref t] ∧ H t = some (.tup [.ty n, .ty m]) ∧ Dp K H x d ∧ kitB (tyD d) n = some b ∧ kitB (tyD d) m = some c ∧ Q (.bl (b || c)) H
theorem call_isD2 (hK : X.K = K := by rfl) : CallR X (.builtin "isinstance") (rIsD2 K) := fun pins s σ H vs us Q I r ⟨x, t, n, m, d, b, c, e, ht, h, k, k2, q⟩ => by
  subst hK
  refine call_isiT pins s σ H vs us Q I r ⟨x, t, _, _, _, b || c, e, ht, .cons (.ty n) (.cons (.ty m) .nil), tyX_of h, ?_, q⟩
  refine kitAny_cons (kit_ty k) (fun hb => kitAny_cons (kit_ty k2) (fun hc => ?_) fun hc => ?_) fun hb => ?_
  · rw [hb, hc]; exact kitAny_nil
  · rw [hc, Bool.or_true]
  · rw [hb, Bool.true_or]
theorem call_lenSK (hK : X.K = K := by rfl) : CallR X (.builtin "len") (fun xs H Q => ∃ p ys, xs = [.ref p] ∧ (SqL K H p ys ∨ SqT K H p ys) ∧ Q (.int ys.length) H) := by subst hK; exact call_len_seq
theorem pi_zipAK {e e2 : Expr} {t : TA} {p pp tpos : Pos} {elts : List Expr} {kk : Nat} (hg : Gl X "zip") (hm : X.mg "zip" = none) (ha : PA X [e, e2] t) (hK : X.K = K := by rfl)
    (hs : starEach [e, e2] X.env = (false, eval e X.env) :: starEach [e2] X.env := by rfl) (h2 : (backTo pp (starEach [e2] X.env)).any (·.1) = false := by rfl) :
    PI X (.Tuple elts kk tpos) (.Call (.Name "zip" p) [e, e2] [] pp) (RZ.iZipA K t) := by subst hK; exact RZ.pi_zipA hg hm ha hs h2
theorem walk_zipT {b : Addr} {ys : List V} {n : Nat} (hn : n = min xs.length ys.length) : Walk (RZ.ItzT K a b) n (fun H => SqT K H a xs ∧ SqT K H b ys) (YPair (fun i => xs[i]?) (fun i => ys[i]?)) where
  goes := fun i H hi h => ⟨xs, ys, xs[i]'(by omega), ys[i]'(by omega), h.1, h.2, by simp, by simp⟩
  stops := fun H h => ⟨xs, ys, h.1, h.2, by omega⟩
  yields := fun i H x H' hi h ⟨T, x1, y1, e1, e2, e3, f1, f2⟩ => ⟨T, x1, y1, e1, e2, e3, f1 _ h.1, f2 _ h.2⟩
/-! ### the same data -/
mutual
def okD : PyData → Prop
  | .list xs => xs.length ≤ 1000 ∧ okDs xs
  | .tuple xs => xs.length ≤ 1000 ∧ okDs xs
  | .dict _ => False
  | _ => True
def okDs : List PyData → Prop
  | [] => True
  | x :: xs => okD x ∧ okDs xs
end
theorem okDs_get : ∀ {ds : List PyData} {i : Nat} {d : PyData}, okDs ds → ds[i]? = some d → okD d
  | [], _, _, _, h => by simp at h
  | x :: r, 0, d, ⟨h1, _⟩, h => by cases h; exact h1
  | x :: r, i + 1, d, ⟨_, h2⟩, h => okDs_get (ds := r) (i := i) h2 (by simpa using h)
theorem depth_get : ∀ {ds : List PyData} {i : Nat} {d : PyData}, ds[i]? = some d → d.depth ≤ PyData.depthAll ds
  | [], _, _, h => by simp at h
  | x :: r, 0, d, h => by cases h; exact Nat.le_max_left _ _
  | x :: r, i + 1, d, h => Nat.le_trans (depth_get (ds := r) (i := i) (by simpa using h)) (Nat.le_max_right _ _)
mutual
theorem Dp.same {H H' : Hp} (S : Same H H') : ∀ {v : V} {d : PyData}, Dp K H v d → Dp K H' v d
  | _, _, .non => .non
  | _, _, .bl b => .bl b
  | _, _, .int i => .int i
  | _, _, .str x => .str x
  | _, _, .lst h r => .lst (S.seq h) (DpAll.same S r)
  | _, _, .tup h r => .tup (by
      rcases h with (h | ⟨o, h⟩) | h
      · exact .inl (.inl (S _ _ h))
      · exact .inl (.inr ⟨o, S _ _ h⟩)
      · exact .inr h) (DpAll.same S r)
theorem DpAll.same {H H' : Hp} (S : Same H H') : ∀ {vs : List V} {ds : List PyData}, DpAll K H vs ds → DpAll K H' vs ds
  | _, _, .nil => .nil
  | _, _, .cons h r => .cons (Dp.same S h) (DpAll.same S r)
end
theorem sqT_same {H H' : Hp} (S : Same H H') (h : SqT K H a xs) : SqT K H' a xs := by
  rcases h with (h | ⟨o, h⟩) | h
  · exact .inl (.inl (S _ _ h))
  · exact .inl (.inr ⟨o, S _ _ h⟩)
  · exact .inr h
theorem trues_inv {H : Hp} : ∀ {n : Nat} {acc : List V}, DpAll K H acc ((List.range n).map fun _ => PyData.bool true) → acc = (List.replicate n true).map V.bl := by
  have go : ∀ (ds : List PyData) (acc : List V), (∀ d ∈ ds, d = .bool true) → DpAll K H acc ds → acc = (List.replicate ds.length true).map V.bl := by
    intro ds
    induction ds with
    | nil => intro acc _ h; cases h; rfl
    | cons d r ih =>
      intro acc hd h
      cases h with
      | cons a t =>
        rw [hd d (by simp)] at a
        cases a
        rw [ih _ (fun d' h' => hd d' (by simp [h'])) t]
        rfl
  intro n acc h
  have := go _ _ (by simp) h
  simpa using this
/-- a list of True alone -/
theorem all_true (n : Nat) : (List.replicate n true).all id = true := by simp
end
end My

namespace My
open PySem PySem.Spec L2
def fl (a b c d e f : V) : List (Str × V) := [("row", a), ("drawn", b), ("held", c), ("way", d), ("last", e), ("pile", f)]
theorem kk (s t : String) (h : (Str.ofString s == Str.ofString t) = false) : ¬ Str.ofString s = Str.ofString t := by
  intro e
  rw [e] at h
  simp at h
section
variable {a b c d e f x : V}
theorem fl_row : (fl a b c d e f).lookup ("row" : Str) = some a := rfl
theorem fl_drawn : (fl a b c d e f).lookup ("drawn" : Str) = some b := by rfl
theorem fl_held : (fl a b c d e f).lookup ("held" : Str) = some c := by rfl
theorem fl_way : (fl a b c d e f).lookup ("way" : Str) = some d := by rfl
theorem fl_last : (fl a b c d e f).lookup ("last" : Str) = some e := by rfl
theorem fl_pile : (fl a b c d e f).lookup ("pile" : Str) = some f := by rfl
theorem fl_no_fits : (fl a b c d e f).lookup ("fits" : Str) = none := by rfl
theorem pu_pile : putF "pile" x (fl a b c d e f) = fl a b c d e x := by
  simp only [fl, putF]
  rfl
end
end My

namespace My
open PySem PySem.Spec L2
/-! ### laying, as plain functions -/
def cd (row : List Int) (i : Nat) : Int := row.getD i 0
structure LSt where
  held : List Nat
  way : List (Nat × Nat)
  last : Option Int
  pile : Nat
  drawn : Nat
def fitB (row : List Int) (last : Option Int) (i : Nat) : Bool := match last with
  | none => true
  | some l => decide (l ≤ cd row i)
def layS (row : List Int) (s : LSt) (i p : Nat) : LSt where
  held := s.held.erase i ++ (if s.drawn < row.length then [s.drawn] else [])
  way := s.way ++ [(i, p)]
  last := some (cd row i)
  pile := p
  drawn := if s.drawn < row.length then s.drawn + 1 else s.drawn
theorem layS_held {row : List Int} {s : LSt} {i p : Nat} (h : s.drawn < row.length) : (layS row s i p).held = s.held.erase i ++ [s.drawn] := by
  show s.held.erase i ++ (if s.drawn < row.length then [s.drawn] else []) = _
  rw [if_pos h]
theorem layS_held0 {row : List Int} {s : LSt} {i p : Nat} (h : ¬ s.drawn < row.length) : (layS row s i p).held = s.held.erase i := by
  show s.held.erase i ++ (if s.drawn < row.length then [s.drawn] else []) = _
  rw [if_neg h, List.append_nil]
theorem layS_drawn {row : List Int} {s : LSt} {i p : Nat} (h : s.drawn < row.length) : (layS row s i p).drawn = s.drawn + 1 := if_pos h
theorem layS_drawn0 {row : List Int} {s : LSt} {i p : Nat} (h : ¬ s.drawn < row.length) : (layS row s i p).drawn = s.drawn := if_neg h
/-- i's card is less, or the same and i is not greater -/
def kle (row : List Int) (i j : Nat) : Prop := cd row i < cd row j ∨ (cd row i = cd row j ∧ i ≤ j)
instance (row : List Int) (i j : Nat) : Decidable (kle row i j) := inferInstanceAs (Decidable (_ ∨ _))
theorem kle_refl (row : List Int) (i : Nat) : kle row i i := .inr ⟨rfl, Nat.le_refl _⟩
theorem kle_trans {row : List Int} {i j k : Nat} (a : kle row i j) (b : kle row j k) : kle row i k := by
  unfold kle at *; omega
theorem kle_total (row : List Int) (i j : Nat) : kle row i j ∨ kle row j i := by
  unfold kle; omega
theorem kle_anti {row : List Int} {i j : Nat} (a : kle row i j) (b : kle row j i) : i = j := by
  unfold kle at *; omega
def least (row : List Int) : List Nat → Nat
  | [] => 0
  | [i] => i
  | i :: j :: r => let m := least row (j :: r); if kle row i m then i else m
theorem least_spec (row : List Int) : ∀ is : List Nat, is ≠ [] → least row is ∈ is ∧ ∀ j ∈ is, kle row (least row is) j
  | [], h => absurd rfl h
  | [i], _ => ⟨by simp [least], by intro j hj; rw [List.mem_singleton.mp hj]; exact kle_refl _ _⟩
  | i :: k :: r, _ => by
    obtain ⟨h1, h2⟩ := least_spec row (k :: r) (by simp)
    show (if kle row i (least row (k :: r)) then i else least row (k :: r)) ∈ _ ∧ ∀ j ∈ _, kle row (if kle row i (least row (k :: r)) then i else least row (k :: r)) j
    split
    · rename_i h
      refine ⟨by simp, fun j hj => ?_⟩
      rcases List.mem_cons.mp hj with rfl | hj
      · exact kle_refl _ _
      · exact kle_trans h (h2 j hj)
    · rename_i h
      refine ⟨List.mem_cons_of_mem _ h1, fun j hj => ?_⟩
      rcases List.mem_cons.mp hj with rfl | hj
      · exact (kle_total row j _).resolve_left h
      · exact h2 j hj
theorem least_unique {row : List Int} {is : List Nat} {m : Nat} (hm : m ∈ is) (h : ∀ j ∈ is, kle row m j) : least row is = m := by
  have hne : is ≠ [] := by intro e; rw [e] at hm; cases hm
  obtain ⟨h1, h2⟩ := least_spec row is hne
  exact kle_anti (h2 m hm) (h _ h1)
theorem least_mem {row : List Int} {is : List Nat} (h : is ≠ []) : least row is ∈ is := (least_spec row is h).1
def fitting (row : List Int) (s : LSt) : List Nat := s.held.filter (fitB row s.last)
def stepS (row : List Int) (s : LSt) : LSt :=
  if fitting row s = [] then layS row s (least row s.held) (s.pile + 1) else layS row s (least row (fitting row s)) s.pile
def initS (row : List Int) (h : Nat) : LSt := ⟨List.range (min h row.length), [], none, 0, min h row.length⟩
def goN (row : List Int) : Nat → LSt → LSt
  | 0, s => s
  | k + 1, s => if s.held = [] then s else goN row k (stepS row s)
def restS (row : List Int) (s : LSt) : Nat := s.held.length + (row.length - s.drawn)
def goAll (row : List Int) (s : LSt) : LSt := goN row (restS row s) s
def plainS (row : List Int) (h : Nat) : LSt := goAll row (initS row h)
def plainW (row : List Int) (h : Nat) : List (Nat × Nat) := (plainS row h).way
/-- what holds of each beginning -/
structure WF (row : List Int) (s : LSt) : Prop where
  nd : s.held.Nodup
  lt : ∀ i ∈ s.held, i < s.drawn
  dr : s.drawn ≤ row.length
  len : s.way.length + s.held.length = s.drawn
  ne : s.held = [] → s.drawn = row.length
theorem wf_init (row : List Int) {h : Nat} (hh : 1 ≤ h) : WF row (initS row h) where
  nd := List.nodup_range
  lt := fun i hi => List.mem_range.mp hi
  dr := Nat.min_le_right _ _
  len := by simp [initS]
  ne := by
    intro e
    have := congrArg List.length e
    simp [initS] at this
    show min h row.length = row.length
    rcases this with e | e
    · omega
    · rw [e]; simp
theorem wf_lay {row : List Int} {s : LSt} (W : WF row s) {i p : Nat} (hi : i ∈ s.held) : WF row (layS row s i p) := by
  have hl := List.length_erase_of_mem hi
  have hpos : 0 < s.held.length := List.length_pos_of_mem hi
  have h4 := W.len
  have h3 := W.dr
  by_cases hd : s.drawn < row.length
  · refine ⟨?_, ?_, ?_, ?_, ?_⟩
    · show (s.held.erase i ++ (if s.drawn < row.length then [s.drawn] else [])).Nodup
      rw [if_pos hd]
      refine List.nodup_append.mpr ⟨W.nd.erase i, by simp, ?_⟩
      intro a ha b hb
      rw [List.mem_singleton.mp hb]
      have := W.lt a (List.mem_of_mem_erase ha)
      omega
    · intro j hj
      have hj : j ∈ s.held.erase i ++ (if s.drawn < row.length then [s.drawn] else []) := hj
      show j < (if s.drawn < row.length then s.drawn + 1 else s.drawn)
      rw [if_pos hd] at hj ⊢
      rcases List.mem_append.mp hj with h | h
      · have := W.lt j (List.mem_of_mem_erase h)
        omega
      · rw [List.mem_singleton.mp h]; omega
    · show (if s.drawn < row.length then s.drawn + 1 else s.drawn) ≤ row.length
      rw [if_pos hd]; omega
    · show (s.way ++ [(i, p)]).length + (s.held.erase i ++ (if s.drawn < row.length then [s.drawn] else [])).length = (if s.drawn < row.length then s.drawn + 1 else s.drawn)
      rw [if_pos hd, if_pos hd, List.length_append, List.length_append, hl]
      simp only [List.length_cons, List.length_nil]
      omega
    · intro e
      have e : s.held.erase i ++ (if s.drawn < row.length then [s.drawn] else []) = [] := e
      rw [if_pos hd] at e
      simp at e
  · refine ⟨?_, ?_, ?_, ?_, ?_⟩
    · show (s.held.erase i ++ (if s.drawn < row.length then [s.drawn] else [])).Nodup
      rw [if_neg hd, List.append_nil]
      exact W.nd.erase i
    · intro j hj
      have hj : j ∈ s.held.erase i ++ (if s.drawn < row.length then [s.drawn] else []) := hj
      show j < (if s.drawn < row.length then s.drawn + 1 else s.drawn)
      rw [if_neg hd, List.append_nil] at hj
      rw [if_neg hd]
      exact W.lt j (List.mem_of_mem_erase hj)
    · show (if s.drawn < row.length then s.drawn + 1 else s.drawn) ≤ row.length
      rw [if_neg hd]; exact h3
    · show (s.way ++ [(i, p)]).length + (s.held.erase i ++ (if s.drawn < row.length then [s.drawn] else [])).length = (if s.drawn < row.length then s.drawn + 1 else s.drawn)
      rw [if_neg hd, if_neg hd, List.append_nil, List.length_append, hl]
      simp only [List.length_cons, List.length_nil]
      omega
    · intro _
      show (if s.drawn < row.length then s.drawn + 1 else s.drawn) = row.length
      rw [if_neg hd]; omega
theorem fitting_sub {row : List Int} {s : LSt} {i : Nat} (h : i ∈ fitting row s) : i ∈ s.held := (List.mem_filter.mp h).1
/-- the plain step lays a card of the hand -/
theorem step_is {row : List Int} {s : LSt} (h : s.held ≠ []) : ∃ i p, i ∈ s.held ∧ stepS row s = layS row s i p := by
  unfold stepS
  split
  · exact ⟨_, _, least_mem h, rfl⟩
  · rename_i hf
    exact ⟨_, _, fitting_sub (least_mem hf), rfl⟩
theorem wf_step {row : List Int} {s : LSt} (W : WF row s) (h : s.held ≠ []) : WF row (stepS row s) := by
  obtain ⟨i, p, hi, e⟩ := step_is (row := row) h
  rw [e]
  exact wf_lay W hi
theorem rest_lay {row : List Int} {s : LSt} {i p : Nat} (hi : i ∈ s.held) : restS row (layS row s i p) + 1 = restS row s := by
  have hl := List.length_erase_of_mem hi
  have hpos : 0 < s.held.length := List.length_pos_of_mem hi
  show (s.held.erase i ++ (if s.drawn < row.length then [s.drawn] else [])).length + (row.length - (if s.drawn < row.length then s.drawn + 1 else s.drawn)) + 1 = s.held.length + (row.length - s.drawn)
  by_cases hd : s.drawn < row.length
  · rw [if_pos hd, if_pos hd, List.length_append, hl]
    simp only [List.length_cons, List.length_nil]
    omega
  · rw [if_neg hd, if_neg hd, List.append_nil, hl]
    omega
theorem rest_step {row : List Int} {s : LSt} (h : s.held ≠ []) : restS row (stepS row s) + 1 = restS row s := by
  obtain ⟨i, p, hi, e⟩ := step_is (row := row) h
  rw [e]
  exact rest_lay hi
theorem goAll_done {row : List Int} {s : LSt} (h : s.held = []) : goAll row s = s := by
  unfold goAll
  cases restS row s with
  | zero => rfl
  | succ k => show (if s.held = [] then s else _) = s; rw [if_pos h]
theorem goAll_step {row : List Int} {s : LSt} (h : s.held ≠ []) : goAll row s = goAll row (stepS row s) := by
  unfold goAll
  rw [← rest_step h]
  show (if s.held = [] then s else goN row _ (stepS row s)) = _
  rw [if_neg h]
theorem rest_zero {row : List Int} {s : LSt} (W : WF row s) : restS row s = 0 ↔ s.held = [] := by
  have h3 := W.dr
  constructor
  · intro e
    have : s.held.length = 0 := by unfold restS at e; omega
    exact List.length_eq_zero_iff.mp this
  · intro e
    unfold restS
    rw [W.ne e, e]
    simp
end My

namespace My
open PySem PySem.Spec L2
abbrev nV (i : Nat) : V := .int (i : Int)
def lastV : Option Int → V
  | none => .non
  | some l => .int l
def prV (e : Nat × Nat) : List V := [nV e.1, nV e.2]
def Tups (H : Hp) (ts : List Addr) (w : List (Nat × Nat)) : Prop := Paired (fun t e => H t = some (.tup (prV e))) ts w
theorem Tups.mono {H H' : Hp} {ts : List Addr} {w : List (Nat × Nat)} (h : Tups H ts w) (k : ∀ t xs, H t = some (.tup xs) → H' t = some (.tup xs)) : Tups H' ts w := Paired.mapP h fun _ _ e => k _ _ e
theorem Tups.snoc {H : Hp} {t : Addr} {e : Nat × Nat} (ht : H t = some (.tup (prV e))) : ∀ {ts : List Addr} {w : List (Nat × Nat)}, Tups H ts w → Tups H (ts ++ [t]) (w ++ [e])
  | _, _, .nil => .cons ht .nil
  | _, _, .cons r q => .cons r (Tups.snoc ht q)
theorem Paired.at {α β : Type} {R : α → β → Prop} : ∀ {xs : List α} {ys : List β} {i : Nat} {x : α} {y : β}, Paired R xs ys → xs[i]? = some x → ys[i]? = some y → R x y
  | _, _, 0, _, _, .cons a _, h1, h2 => by cases h1; cases h2; exact a
  | _, _, i + 1, _, _, .cons _ r, h1, h2 => Paired.at (i := i) r (by simpa using h1) (by simpa using h2)
  | _, _, _, _, _, .nil, h1, _ => by simp at h1
theorem Tups.at {H : Hp} {ts : List Addr} {w : List (Nat × Nat)} {i : Nat} {t : Addr} {e : Nat × Nat} (h : Tups H ts w) (h1 : ts[i]? = some t) (h2 : w[i]? = some e) : H t = some (.tup (prV e)) :=
  Paired.at (R := fun t e => H t = some (.tup (prV e))) h h1 h2
def WayAt (H : Hp) (wb : Addr) (w : List (Nat × Nat)) : Prop := ∃ ts, H wb = some (.lst (ts.map V.ref)) ∧ Tups H ts w
theorem WayAt.same {H H' : Hp} {wb : Addr} {w : List (Nat × Nat)} (h : WayAt H wb w) (S : Same H H') : WayAt H' wb w := by
  obtain ⟨ts, e, t⟩ := h
  exact ⟨ts, S _ _ e, t.mono fun _ _ q => S _ _ q⟩
/-- a Laying stands at p, its row at a, its hand at hb, its way at wb -/
structure LayAt (C : Addr) (H : Hp) (p a hb wb : Addr) (row : List Int) (s : LSt) : Prop where
  ob : ∃ dx, H p = some (.ins C dx (fl (.ref a) (nV s.drawn) (.ref hb) (.ref wb) (lastV s.last) (nV s.pile)))
  rw : H a = some (.lst (row.map V.int))
  hd : H hb = some (.lst (s.held.map nV))
  wy : WayAt H wb s.way
  ah : a ≠ hb
  aw : a ≠ wb
  hw : hb ≠ wb
  le : row.length ≤ 1000
section
variable {C : Addr} {H H' : Hp} {p a hb wb : Addr} {row : List Int} {s : LSt}
theorem LayAt.same (L : LayAt C H p a hb wb row s) (S : Same H H') : LayAt C H' p a hb wb row s := by
  obtain ⟨⟨dx, e⟩, h1, h2, h3, h4, h5, h6, h7⟩ := L
  exact ⟨⟨dx, S _ _ e⟩, S _ _ h1, S _ _ h2, h3.same S, h4, h5, h6, h7⟩
theorem keep_write {H : Hp} {ms : List Addr} {b : Addr} {o : HO} (h : b ∈ ms) : Keep ms H (upd H b o) := fun c u e n => upd_other e (by rintro rfl; exact n h)
theorem Tups.wr {H : Hp} {ts : List Addr} {w : List (Nat × Nat)} {b : Addr} {o u : HO} (h : Tups H ts w) (hb : H b = some u) (hu : ∀ xs, u ≠ .tup xs) : Tups (upd H b o) ts w := h.mono fun t xs e => upd_other e (by rintro rfl; rw [e] at hb; exact hu xs (Option.some.inj hb).symm)
theorem Tups.new {H : Hp} {ts : List Addr} {w : List (Nat × Nat)} {b : Addr} {o : HO} (h : Tups H ts w) (hb : H b = none) : Tups (upd H b o) ts w := h.mono fun t xs e => upd_keep e hb
theorem getI_row {row : List Int} {i : Nat} (h : i < row.length) : atI (row.map V.int) (i : Int) = some (.int (cd row i)) := by
  refine atI_nat ?_
  rw [List.getElem?_map, List.getElem?_eq_getElem h]
  show some (V.int row[i]) = _
  unfold cd
  rw [List.getD_eq_getElem?_getD, List.getElem?_eq_getElem h]
  rfl
theorem nV_map (l : List Nat) : l.map nV = (l.map fun i : Nat => (i : Int)).map V.int := by
  rw [List.map_map]
  rfl
theorem erase_cast : ∀ (l : List Nat) (i : Nat), (l.map fun i : Nat => (i : Int)).erase (i : Int) = (l.erase i).map fun i : Nat => (i : Int)
  | [], _ => rfl
  | a :: r, i => by
    by_cases h : a = i
    · subst h
      rw [List.map_cons, List.erase_cons_head, List.erase_cons_head]
    · have h' : ¬ ((a : Int) == (i : Int)) = true := by
        simp only [beq_iff_eq]
        omega
      have h2 : ¬ (a == i) = true := by simpa using h
      rw [List.map_cons, List.erase_cons_tail h', List.erase_cons_tail h2, List.map_cons, erase_cast r i]
theorem least_of {row : List Int} {is : List Nat} {k : List Int} (hk : k ∈ is.map fun i : Nat => [cd row i, (i : Int)]) (h : ∀ j ∈ is.map (fun i : Nat => [cd row i, (i : Int)]), ¬ j < k) : k = [cd row (least row is), ((least row is : Nat) : Int)] := by
  obtain ⟨m, hm, rfl⟩ := List.mem_map.mp hk
  have : least row is = m := least_unique hm fun j hj => by
    have := h _ (List.mem_map.mpr ⟨j, hj, rfl⟩)
    rw [List.cons_lt_cons_iff, List.cons_lt_cons_iff] at this
    unfold kle
    by_cases h1 : cd row j < cd row m
    · exact absurd (Or.inl h1) this
    · by_cases h2 : cd row j = cd row m
      · right
        refine ⟨h2.symm, ?_⟩
        by_cases h3 : (j : Int) < (m : Int)
        · exact absurd (Or.inr ⟨h2, Or.inl h3⟩) this
        · omega
      · left; omega
  rw [this]
theorem range_nV (n : Nat) : rgV 0 (n : Int) = (List.range n).map nV := by
  unfold rgV
  rw [show ((n : Int) - 0).toNat = n by omega]
  refine List.map_congr_left fun i _ => ?_
  show V.int (0 + (i : Int)) = V.int (i : Int)
  rw [Int.zero_add]
theorem min_cast (h : Int) (n : Nat) (hh : 1 ≤ h) : (if (n : Int) < h then (n : Int) else h) = ((min h.toNat n : Nat) : Int) := by
  split <;> omega
end
end My

namespace My
open PySem PySem.Spec L2
/-! ### the plain way, step by step -/
def stN (row : List Int) (h : Nat) : Nat → LSt
  | 0 => initS row h
  | t + 1 => stepS row (stN row h t)
theorem stN_facts (row : List Int) {h : Nat} (hh : 1 ≤ h) : ∀ t, t ≤ row.length → WF row (stN row h t) ∧ restS row (stN row h t) + t = row.length ∧ goAll row (stN row h t) = plainS row h
  | 0, _ => ⟨wf_init row hh, by show (List.range (min h row.length)).length + (row.length - min h row.length) + 0 = row.length; rw [List.length_range]; omega, rfl⟩
  | t + 1, ht => by
    obtain ⟨W, r, g⟩ := stN_facts row hh t (by omega)
    have hne : (stN row h t).held ≠ [] := fun e => by
      have := (rest_zero W).mpr e
      omega
    refine ⟨wf_step W hne, ?_, ?_⟩
    · have := rest_step (row := row) hne
      show restS row (stepS row (stN row h t)) + (t + 1) = row.length
      omega
    · rw [← g, goAll_step hne]; rfl
theorem stN_ne {row : List Int} {h t : Nat} (hh : 1 ≤ h) (ht : t < row.length) : (stN row h t).held ≠ [] := fun e => by
  obtain ⟨W, r, g⟩ := stN_facts row hh t (by omega)
  have := (rest_zero W).mpr e
  omega
theorem stN_end {row : List Int} {h : Nat} (hh : 1 ≤ h) : stN row h row.length = plainS row h := by
  obtain ⟨W, r, g⟩ := stN_facts row hh row.length (Nat.le_refl _)
  rw [← g, goAll_done ((rest_zero W).mp (by omega))]
theorem step_drawn {row : List Int} {s : LSt} (h : s.held ≠ []) : (stepS row s).drawn = if s.drawn < row.length then s.drawn + 1 else s.drawn := by
  obtain ⟨i, p, _, e⟩ := step_is (row := row) h
  rw [e]
  rfl
theorem stN_drawn {row : List Int} {h : Nat} (hh : 1 ≤ h) : ∀ t, t ≤ row.length → (stN row h t).drawn = min (h + t) row.length
  | 0, _ => rfl
  | t + 1, ht => by
    have ih := stN_drawn (row := row) hh t (by omega)
    show (stepS row (stN row h t)).drawn = _
    rw [step_drawn (stN_ne hh (by omega)), ih]
    split <;> omega
theorem stN_way {row : List Int} {h : Nat} (hh : 1 ≤ h) : ∀ t, t ≤ row.length → (stN row h t).way.length = t
  | 0, _ => rfl
  | t + 1, ht => by
    have ih := stN_way (row := row) hh t (by omega)
    obtain ⟨i, p, _, e⟩ := step_is (row := row) (stN_ne hh (show t < row.length by omega))
    show (stepS row (stN row h t)).way.length = _
    rw [e]
    show ((stN row h t).way ++ [(i, p)]).length = _
    rw [List.length_append, ih]
    rfl
/-- which card comes next, and on which pile -/
def pick (row : List Int) (s : LSt) : Nat × Nat := if fitting row s = [] then (least row s.held, s.pile + 1) else (least row (fitting row s), s.pile)
theorem step_pick (row : List Int) (s : LSt) : stepS row s = layS row s (pick row s).1 (pick row s).2 := by
  unfold stepS pick
  split <;> rfl
theorem pick_mem {row : List Int} {s : LSt} (h : s.held ≠ []) : (pick row s).1 ∈ s.held := by
  unfold pick
  split
  · exact least_mem h
  · rename_i hf
    exact fitting_sub (least_mem hf)
theorem lt3 (a b c a' b' c' : Int) : ([a, b, c] : List Int) < [a', b', c'] ↔ a < a' ∨ (a = a' ∧ (b < b' ∨ (b = b' ∧ c < c'))) := by
  rw [List.cons_lt_cons_iff, List.cons_lt_cons_iff, List.cons_lt_cons_iff]
  simp
/-- a card's key: 1 more where it does not fit -/
def key3 (row : List Int) (s : LSt) (i : Nat) : List Int := [(s.pile : Int) + (if fitB row s.last i = true then 0 else 1), cd row i, (i : Int)]
theorem pick_key {row : List Int} {s : LSt} {k : List Int} (hk : k ∈ s.held.map (key3 row s)) (h : ∀ j ∈ s.held.map (key3 row s), ¬ j < k) : k = [((pick row s).2 : Int), cd row (pick row s).1, ((pick row s).1 : Int)] := by
  obtain ⟨m, hm, rfl⟩ := List.mem_map.mp hk
  have hm' : ∀ j ∈ s.held, ¬ key3 row s j < key3 row s m := fun j hj => h _ (List.mem_map.mpr ⟨j, hj, rfl⟩)
  unfold pick
  split
  · rename_i hf
    have nofit : ∀ j ∈ s.held, ¬ fitB row s.last j = true := fun j hj e => by
      have : j ∈ fitting row s := List.mem_filter.mpr ⟨hj, e⟩
      rw [hf] at this
      cases this
    have : least row s.held = m := least_unique hm fun j hj => by
      have := hm' j hj
      unfold key3 at this
      rw [if_neg (nofit j hj), if_neg (nofit m hm), lt3] at this
      unfold kle
      omega
    show key3 row s m = [((s.pile + 1 : Nat) : Int), cd row (least row s.held), ((least row s.held : Nat) : Int)]
    rw [this]
    unfold key3
    rw [if_neg (nofit m hm)]
    rfl
  · rename_i hf
    obtain ⟨x, hx⟩ := List.exists_mem_of_ne_nil _ hf
    have hx2 := List.mem_filter.mp hx
    have fm : fitB row s.last m = true := by
      by_cases e : fitB row s.last m = true
      · exact e
      · have := hm' x hx2.1
        unfold key3 at this
        rw [if_pos hx2.2, if_neg e, lt3] at this
        omega
    have : least row (fitting row s) = m := least_unique (List.mem_filter.mpr ⟨hm, fm⟩) fun j hj => by
      have hj2 := List.mem_filter.mp hj
      have := hm' j hj2.1
      unfold key3 at this
      rw [if_pos hj2.2, if_pos fm, lt3] at this
      unfold kle
      omega
    show key3 row s m = [((s.pile : Nat) : Int), cd row (least row (fitting row s)), ((least row (fitting row s) : Nat) : Int)]
    rw [this]
    unfold key3
    rw [if_pos fm, Int.add_zero]
end My

namespace My
open PySem PySem.Spec L2
abbrev wayD (w : List (Nat × Nat)) : PyData := .list (w.map fun e => tupD [(e.1 : Int), (e.2 : Int)])
abbrev intsD (ns : List Int) : PyData := .list (ns.map PyData.int)
theorem plainW_length (row : List Int) {h : Nat} (hh : 1 ≤ h) : (plainW row h).length = row.length := by
  unfold plainW
  rw [← stN_end hh]
  exact stN_way hh row.length (Nat.le_refl _)
section
variable {K : PySem.W.Frag} {H : Hp} {a b : Addr} {Q : VK}
theorem dpTups : ∀ {ts : List Addr} {w : List (Nat × Nat)}, Tups H ts w → DpAll K H (ts.map V.ref) (w.map fun e => tupD [(e.1 : Int), (e.2 : Int)])
  | _, _, .nil => .nil
  | _, _, .cons (b := e) h r => .cons (.tup (SqT.of h) (dpInts [(e.1 : Int), (e.2 : Int)] H)) (dpTups r)
theorem dpWay {w : List (Nat × Nat)} (h : WayAt H a w) : Dp K H (.ref a) (wayD w) := by
  obtain ⟨ts, e, t⟩ := h
  exact .lst (SqL.of e) (dpTups t)
theorem dpIntL {ns : List Int} (h : SqL K H a (ns.map V.int)) : Dp K H (.ref a) (intsD ns) := .lst h (dpInts ns H)
theorem okDs_ints : ∀ ns : List Int, okDs (ns.map PyData.int)
  | [] => trivial
  | _ :: r => ⟨trivial, okDs_ints r⟩
theorem okDs_way : ∀ w : List (Nat × Nat), okDs (w.map fun e => tupD [(e.1 : Int), (e.2 : Int)])
  | [] => trivial
  | _ :: r => ⟨⟨by simp, okDs_ints _⟩, okDs_way r⟩
theorem okD_way {w : List (Nat × Nat)} (h : w.length ≤ 1000) : okD (wayD w) := ⟨by simpa using h, okDs_way w⟩
theorem okD_ints {ns : List Int} (h : ns.length ≤ 1000) : okD (intsD ns) := ⟨by simpa using h, okDs_ints ns⟩
theorem depth_way (w : List (Nat × Nat)) : (wayD w).depth ≤ 2 := by
  have := depthTups (w.map fun e : Nat × Nat => [(e.1 : Int), (e.2 : Int)])
  rw [List.map_map] at this
  show PyData.depthAll (w.map fun e => tupD [(e.1 : Int), (e.2 : Int)]) + 1 ≤ 2
  have e : (tupD ∘ fun e : Nat × Nat => [(e.1 : Int), (e.2 : Int)]) = fun e : Nat × Nat => tupD [(e.1 : Int), (e.2 : Int)] := rfl
  rw [e] at this
  omega
theorem depth_ints (ns : List Int) : (intsD ns).depth ≤ 1 := by
  show PyData.depthAll (ns.map PyData.int) + 1 ≤ 1
  rw [depthInts]
  omega
theorem canInts : ∀ ns : List Int, PyData.canLayAll0 (ns.map PyData.int) = true
  | [] => rfl
  | _ :: r => by
    rw [List.map_cons, PyData.canLayAll0, canInts r]
    rfl
theorem canTups : ∀ kz : List (List Int), PyData.canLayAll0 (kz.map tupD) = true
  | [] => rfl
  | k :: r => by
    rw [List.map_cons, PyData.canLayAll0, canTups r]
    show ((PyData.canLayAll0 (k.map PyData.int)) && true) = true
    rw [canInts k]
    rfl
theorem shaped_ints (ns : List Int) : SeqAt.shaped (intsD ns) = true := by
  unfold SeqAt.shaped
  rw [show (intsD ns).canLay0 = PyData.canLayAll0 (ns.map PyData.int) from rfl, canInts, decide_eq_true (Nat.le_trans (depth_ints ns) (by decide))]
  rfl
theorem way_tups (w : List (Nat × Nat)) : (w.map fun e => tupD [(e.1 : Int), (e.2 : Int)]) = (w.map fun e : Nat × Nat => [(e.1 : Int), (e.2 : Int)]).map tupD := by
  rw [List.map_map]
  rfl
theorem shaped_way (w : List (Nat × Nat)) : SeqAt.shaped (wayD w) = true := by
  unfold SeqAt.shaped
  rw [show (wayD w).canLay0 = PyData.canLayAll0 (w.map fun e => tupD [(e.1 : Int), (e.2 : Int)]) from rfl, way_tups, canTups, decide_eq_true (Nat.le_trans (depth_way w) (by decide))]
  rfl
theorem eqv_self {d : PyData} (h : SeqAt.shaped d = true) : PyData.eqv d d = true := SeqAt.eqv_refl d (SeqAt.canLay_of_shaped h)
theorem eqD_same {x y : V} {d : PyData} (hx : Dp K H x d) (hy : Dp K H y d) (h : SeqAt.shaped d = true) (q : Q (.bl true) H) : rEqD K x y H Q := ⟨d, d, hx, hy, h, h, by rw [eqv_self h]; exact q⟩
theorem neD_same {x y : V} {d : PyData} (hx : Dp K H x d) (hy : Dp K H y d) (h : SeqAt.shaped d = true) (q : Q (.bl false) H) : rNeD K x y H Q := ⟨d, d, hx, hy, h, h, by rw [eqv_self h]; exact q⟩
end
end My

namespace My
open PySem PySem.Spec L2
/-! ### the piles of a way -/
/-- the piles follow one another without a gap: n of them so far -/
inductive Sted : List (Nat × Nat) → Nat → Prop
  | nil : Sted [] 0
  | snoc {w : List (Nat × Nat)} {n i p : Nat} : Sted w n → (p = n ∨ p + 1 = n) → Sted (w ++ [(i, p)]) (p + 1)
theorem Sted.at {w : List (Nat × Nat)} {n : Nat} (h : Sted w n) : ∀ t (ht : t < w.length), ∃ m, Sted (w.take t) m ∧ ((w[t]).2 = m ∨ (w[t]).2 + 1 = m) := by
  induction h with
  | nil => intro t ht; exact absurd ht (by simp)
  | snoc h0 hp ih =>
    rename_i w n i p
    intro t ht
    rw [List.length_append] at ht
    simp only [List.length_cons, List.length_nil] at ht
    by_cases hl : t < w.length
    · obtain ⟨m, h1, h2⟩ := ih t hl
      refine ⟨m, ?_, ?_⟩
      · rw [List.take_append_of_le_length (by omega)]
        exact h1
      · rw [List.getElem_append_left hl]
        exact h2
    · have e : t = w.length := by omega
      subst e
      refine ⟨n, ?_, ?_⟩
      · rw [List.take_left]
        exact h0
      · rw [List.getElem_append_right (Nat.le_refl _)]
        simpa using hp
theorem Sted.take_next {w : List (Nat × Nat)} {t : Nat} (ht : t < w.length) : w.take (t + 1) = w.take t ++ [w[t]] := by
  rw [List.take_add_one, List.getElem?_eq_getElem ht]
  rfl
theorem Sted.le {w : List (Nat × Nat)} {n : Nat} (h : Sted w n) : n ≤ w.length := by
  induction h with
  | nil => exact Nat.le_refl _
  | snoc h0 hp ih => rw [List.length_append]; simp only [List.length_cons, List.length_nil]; omega
def stepF (f : List Nat) (b p : Nat) : List Nat := (if p = f.length then f ++ [b] else f).set p (b + 1)
def frontsB (w : List (Nat × Nat)) : List Nat × Nat := w.foldl (fun fb e => (stepF fb.1 fb.2 e.2, fb.2 + 1)) ([], 0)
def frontsL (w : List (Nat × Nat)) : List Nat := (frontsB w).1
def stepH (row : List Int) (hs : List (List Int)) (e : Nat × Nat) : List (List Int) :=
  let hs' := if e.2 = hs.length then hs ++ [[]] else hs
  hs'.set e.2 (hs'.getD e.2 [] ++ [cd row e.1])
def heapsL (row : List Int) (w : List (Nat × Nat)) : List (List Int) := w.foldl (stepH row) []
theorem frontsB_snd (w : List (Nat × Nat)) : (frontsB w).2 = w.length := by
  have go : ∀ (w : List (Nat × Nat)) (f : List Nat) (b : Nat), (w.foldl (fun fb e => (stepF fb.1 fb.2 e.2, fb.2 + 1)) (f, b)).2 = b + w.length := by
    intro w
    induction w with
    | nil => intro f b; rfl
    | cons e r ih => intro f b; rw [List.foldl_cons, ih, List.length_cons]; omega
  unfold frontsB
  rw [go]
  omega
theorem frontsL_snoc (w : List (Nat × Nat)) (e : Nat × Nat) : frontsL (w ++ [e]) = stepF (frontsL w) w.length e.2 := by
  unfold frontsL
  rw [← frontsB_snd w]
  unfold frontsB
  rw [List.foldl_append]
  rfl
theorem heapsL_snoc (row : List Int) (w : List (Nat × Nat)) (e : Nat × Nat) : heapsL row (w ++ [e]) = stepH row (heapsL row w) e := by
  unfold heapsL
  rw [List.foldl_append]
  rfl
theorem stepF_new (f : List Nat) (b : Nat) : stepF f b f.length = f ++ [b + 1] := by
  unfold stepF
  rw [if_pos rfl, List.set_append_right _ _ (Nat.le_refl _)]
  simp
theorem stepF_old (f : List Nat) (b p : Nat) (h : p ≠ f.length) : stepF f b p = f.set p (b + 1) := by
  unfold stepF
  rw [if_neg h]
theorem stepH_new (row : List Int) (hs : List (List Int)) (i : Nat) : stepH row hs (i, hs.length) = hs ++ [[cd row i]] := by
  unfold stepH
  simp only [if_true]
  rw [List.set_append_right _ _ (Nat.le_refl _)]
  simp
theorem stepH_old (row : List Int) (hs : List (List Int)) (i p : Nat) (h : p ≠ hs.length) : stepH row hs (i, p) = hs.set p (hs.getD p [] ++ [cd row i]) := by
  unfold stepH
  simp only [if_neg h]
theorem frontsL_len {w : List (Nat × Nat)} {n : Nat} (h : Sted w n) : (frontsL w).length = n := by
  induction h with
  | nil => rfl
  | snoc h0 hp ih =>
    rename_i w n i p
    rw [frontsL_snoc]
    rcases hp with rfl | rfl
    · have := stepF_new (frontsL w) w.length
      rw [ih] at this
      rw [this, List.length_append, ih]
      rfl
    · rw [stepF_old _ _ _ (by rw [ih]; omega), List.length_set, ih]
theorem heapsL_len (row : List Int) {w : List (Nat × Nat)} {n : Nat} (h : Sted w n) : (heapsL row w).length = n := by
  induction h with
  | nil => rfl
  | snoc h0 hp ih =>
    rename_i w n i p
    rw [heapsL_snoc]
    rcases hp with rfl | rfl
    · have := stepH_new row (heapsL row w) i
      rw [ih] at this
      rw [this, List.length_append, ih]
      rfl
    · rw [stepH_old _ _ _ _ (by rw [ih]; omega), List.length_set, ih]
/-- the running sums -/
def sumsF (t : Nat) : List (List Int) → List Nat
  | [] => []
  | h :: r => (t + h.length) :: sumsF (t + h.length) r
theorem sumsF_append : ∀ (hs : List (List Int)) (t : Nat) (h : List Int), sumsF t (hs ++ [h]) = sumsF t hs ++ [t + (hs.map List.length).sum + h.length]
  | [], t, h => by simp [sumsF]
  | a :: r, t, h => by
    rw [List.cons_append, sumsF, sumsF_append r, sumsF, List.map_cons, List.sum_cons]
    rw [show t + a.length + (r.map List.length).sum = t + (a.length + (r.map List.length).sum) by omega]
    rfl
theorem sumsF_len : ∀ (hs : List (List Int)) (t : Nat), (sumsF t hs).length = hs.length
  | [], _ => rfl
  | a :: r, t => by rw [sumsF, List.length_cons, sumsF_len r, List.length_cons]
theorem fronts_sums (row : List Int) {w : List (Nat × Nat)} {n : Nat} (h : Sted w n) : frontsL w = sumsF 0 (heapsL row w) ∧ ((heapsL row w).map List.length).sum = w.length := by
  induction h with
  | nil => exact ⟨rfl, rfl⟩
  | snoc h0 hp ih =>
    rename_i w n i p
    obtain ⟨e1, e2⟩ := ih
    have hl := heapsL_len row h0
    have fl := frontsL_len h0
    rw [frontsL_snoc, heapsL_snoc]
    rcases hp with rfl | rfl
    · have a1 := stepF_new (frontsL w) w.length
      rw [fl] at a1
      have a2 := stepH_new row (heapsL row w) i
      rw [hl] at a2
      rw [a1, a2, sumsF_append, e1, e2]
      refine ⟨?_, ?_⟩
      · simp
      · rw [List.map_append, List.sum_append, e2]
        simp
    · have hne : p ≠ (heapsL row w).length := by omega
      rw [stepF_old _ _ _ (by omega), stepH_old _ _ _ _ hne, e1]
      generalize heapsL row w = hs at *
      obtain ⟨hs0, x, rfl⟩ : ∃ hs0 x, hs = hs0 ++ [x] := by
        have : hs ≠ [] := by intro e; rw [e] at hl; simp at hl
        exact ⟨hs.dropLast, hs.getLast this, (List.dropLast_concat_getLast this).symm⟩
      rw [List.length_append] at hl
      simp only [List.length_cons, List.length_nil] at hl
      have hp0 : p = hs0.length := by omega
      subst hp0
      rw [List.set_append_right _ _ (Nat.le_refl _), sumsF_append]
      have lf := sumsF_len hs0 0
      rw [show hs0.length = (sumsF 0 hs0).length from lf.symm, List.set_append_right _ _ (Nat.le_refl _)]
      rw [List.map_append, List.sum_append] at e2
      simp only [List.map_cons, List.map_nil, List.sum_cons, List.sum_nil, Nat.sub_self, List.set_cons_zero] at e2 ⊢
      rw [lf]
      have eg : (hs0 ++ [x]).getD hs0.length [] = x := by
        rw [List.getD_eq_getElem?_getD, List.getElem?_append_right (Nat.le_refl _)]
        simp
      rw [eg, sumsF_append]
      refine ⟨?_, ?_⟩
      · rw [List.length_append]
        simp only [List.length_cons, List.length_nil]
        congr 2
        omega
      · simp only [List.map_append, List.sum_append, List.length_append, List.map_cons, List.map_nil, List.sum_cons, List.sum_nil, List.length_cons, List.length_nil]
        omega
/-- the plain way's piles have no gap -/
theorem stN_sted {row : List Int} {h : Nat} (hh : 1 ≤ h) : ∀ t, t ≤ row.length → ∃ n, Sted (stN row h t).way n ∧ (t = 0 → n = 0 ∧ (stN row h t).pile = 0 ∧ (stN row h t).last = none) ∧ (t ≠ 0 → n = (stN row h t).pile + 1)
  | 0, _ => ⟨0, .nil, fun _ => ⟨rfl, rfl, rfl⟩, fun h => absurd rfl h⟩
  | t + 1, ht => by
    obtain ⟨n, h1, h2, h3⟩ := stN_sted (row := row) hh t (by omega)
    have hne := stN_ne (row := row) hh (show t < row.length by omega)
    refine ⟨(stN row h (t + 1)).pile + 1, ?_, fun h => absurd h (by omega), fun _ => rfl⟩
    have e : stN row h (t + 1) = layS row (stN row h t) (pick row (stN row h t)).1 (pick row (stN row h t)).2 := step_pick _ _
    rw [e]
    show Sted ((stN row h t).way ++ [((pick row (stN row h t)).1, (pick row (stN row h t)).2)]) ((pick row (stN row h t)).2 + 1)
    refine .snoc h1 ?_
    by_cases h0 : t = 0
    · obtain ⟨a, b, c⟩ := h2 h0
      left
      unfold pick
      have : fitting row (stN row h t) = (stN row h t).held := by
        unfold fitting
        rw [c]
        exact List.filter_eq_self.mpr fun _ _ => rfl
      rw [if_neg (by rw [this]; exact hne), b, a]
    · have := h3 h0
      unfold pick
      split
      · left; show (stN row h t).pile + 1 = n; omega
      · right; show (stN row h t).pile + 1 = n; omega
theorem stN_lt {row : List Int} {h : Nat} (hh : 1 ≤ h) : ∀ t, t ≤ row.length → ∀ e ∈ (stN row h t).way, e.1 < row.length
  | 0, _ => fun e he => by cases he
  | t + 1, ht => by
    have ih := stN_lt (row := row) hh t (by omega)
    obtain ⟨W, _, _⟩ := stN_facts row hh t (by omega)
    have hne := stN_ne (row := row) hh (show t < row.length by omega)
    have e0 : stN row h (t + 1) = layS row (stN row h t) (pick row (stN row h t)).1 (pick row (stN row h t)).2 := step_pick _ _
    intro e he
    rw [e0] at he
    rcases List.mem_append.mp (show e ∈ (stN row h t).way ++ [((pick row (stN row h t)).1, (pick row (stN row h t)).2)] from he) with m | m
    · exact ih e m
    · rw [List.mem_singleton.mp m]
      exact Nat.lt_of_lt_of_le (W.lt _ (pick_mem hne)) W.dr
theorem plainW_lt {row : List Int} {h : Nat} (hh : 1 ≤ h) : ∀ e ∈ plainW row h, e.1 < row.length := by
  unfold plainW
  rw [← stN_end hh]
  exact stN_lt hh row.length (Nat.le_refl _)
theorem plainW_sted (row : List Int) {h : Nat} (hh : 1 ≤ h) : ∃ n, Sted (plainW row h) n := by
  obtain ⟨n, h1, _⟩ := stN_sted (row := row) hh row.length (Nat.le_refl _)
  refine ⟨n, ?_⟩
  unfold plainW
  rw [← stN_end hh]
  exact h1
end My

namespace My
open PySem PySem.Spec L2
/-- at D a list of lists of ints, each of its own -/
structure LL (H : Hp) (D : Addr) (is : List Addr) (hs : List (List Int)) : Prop where
  hd : H D = some (.lst (is.map V.ref))
  nd : is.Nodup
  nD : D ∉ is
  it : Paired (fun i (p : List Int) => H i = some (.lst (p.map V.int))) is hs
section
variable {H H' : Hp} {D q : Addr} {is : List Addr} {hs : List (List Int)} {K : PySem.W.Frag}
theorem paired_app {α β : Type} {R : α → β → Prop} {x : α} {y : β} (h : R x y) : ∀ {xs : List α} {ys : List β}, Paired R xs ys → Paired R (xs ++ [x]) (ys ++ [y])
  | _, _, .nil => .cons h .nil
  | _, _, .cons a r => .cons a (paired_app h r)
theorem paired_mono {α β : Type} {R R' : α → β → Prop} : ∀ {xs : List α} {ys : List β}, Paired R xs ys → (∀ x y, x ∈ xs → R x y → R' x y) → Paired R' xs ys
  | _, _, .nil, _ => .nil
  | _, _, .cons a r, h => .cons (h _ _ (by simp) a) (paired_mono r fun x y hx => h x y (by simp [hx]))
theorem paired_set {α β : Type} {R R' : α → β → Prop} : ∀ {xs : List α} {ys : List β} {k : Nat} {x : α} {y' : β}, Paired R xs ys → xs.Nodup → xs[k]? = some x → R' x y' → (∀ a b, a ∈ xs → a ≠ x → R a b → R' a b) → Paired R' xs (ys.set k y')
  | _, _, k, x, y', .nil, _, h, _, _ => by simp at h
  | _, _, 0, x, y', .cons a r, hn, h, hx, hk => by
    cases h
    have hn := List.nodup_cons.mp hn
    exact .cons hx (paired_mono r fun a b ha hr => hk a b (by simp [ha]) (by rintro rfl; exact hn.1 ha) hr)
  | _, _, k + 1, x, y', .cons (a := a0) a r, hn, h, hx, hk => by
    rw [List.getElem?_cons_succ] at h
    have hn := List.nodup_cons.mp hn
    exact .cons (hk _ _ (by simp) (by rintro rfl; exact hn.1 (List.mem_of_getElem? h)) a) (paired_set (k := k) r hn.2 h hx fun a b ha => hk a b (by simp [ha]))
theorem LL.len (h : LL H D is hs) : is.length = hs.length := Paired.length h.it
theorem LL.get (h : LL H D is hs) {k : Nat} {i : Addr} {p : List Int} (h1 : is[k]? = some i) (h2 : hs[k]? = some p) : H i = some (.lst (p.map V.int)) :=
  Paired.at (R := fun i (p : List Int) => H i = some (.lst (p.map V.int))) h.it h1 h2
theorem LL.same (h : LL H D is hs) (S : Same H H') : LL H' D is hs := ⟨S _ _ h.hd, h.nd, h.nD, paired_mono h.it fun _ _ _ e => S _ _ e⟩
theorem LL.live (h : LL H D is hs) {i : Addr} (hi : i ∈ is) : ∃ p : List Int, H i = some (.lst (p.map V.int)) := by
  obtain ⟨k, hk, rfl⟩ := List.getElem_of_mem hi
  have hl := h.len
  exact ⟨_, h.get (List.getElem?_eq_getElem hk) (List.getElem?_eq_getElem (by omega))⟩
theorem LL.frame (h : LL H D is hs) (k : ∀ b o, H b = some o → (b = D ∨ b ∈ is) → H' b = some o) : LL H' D is hs := ⟨k _ _ h.hd (.inl rfl), h.nd, h.nD, paired_mono h.it fun _ _ m e => k _ _ e (.inr m)⟩
/-- an empty one more -/
theorem LL.push (h : LL H D is hs) (hq : H q = none) : LL (upd (upd H q (.lst [])) D (.lst (is.map V.ref ++ [V.ref q]))) D (is ++ [q]) (hs ++ [[]]) := by
  have nqi : q ∉ is := fun m => by
    obtain ⟨p, e⟩ := h.live m
    rw [e] at hq
    cases hq
  have nqD : q ≠ D := by
    rintro rfl
    rw [h.hd] at hq
    cases hq
  refine ⟨by rw [upd_same, List.map_append]; rfl, List.nodup_append.mpr ⟨h.nd, by simp, fun a ha b hb => by rw [List.mem_singleton.mp hb]; rintro rfl; exact nqi ha⟩, fun m => ?_, ?_⟩
  · rcases List.mem_append.mp m with m | m
    · exact h.nD m
    · exact nqD (List.mem_singleton.mp m).symm
  · refine paired_app (by rw [upd_ne nqD, upd_same]; rfl) (paired_mono h.it fun i p hi e => ?_)
    exact upd_other (upd_keep e hq) (by rintro rfl; exact h.nD hi)
/-- one more card on the k-th -/
theorem LL.app (h : LL H D is hs) {k : Nat} {i : Addr} {p : List Int} {c : Int} (h1 : is[k]? = some i) (h2 : hs[k]? = some p) : LL (upd H i (.lst (p.map V.int ++ [V.int c]))) D is (hs.set k (p ++ [c])) := by
  have hi : i ∈ is := List.mem_of_getElem? h1
  refine ⟨upd_other h.hd (by rintro rfl; exact h.nD hi), h.nd, h.nD, paired_set h.it h.nd h1 (by rw [upd_same, List.map_append]; rfl) fun a b _ ne e => upd_other e ne⟩
theorem LL.dp (h : LL H D is hs) : Dp K H (.ref D) (.list (hs.map intsD)) := by
  refine .lst (SqL.of h.hd) ?_
  have go : ∀ {is : List Addr} {hs : List (List Int)}, Paired (fun i (p : List Int) => H i = some (.lst (p.map V.int))) is hs → DpAll K H (is.map V.ref) (hs.map intsD) := by
    intro is hs h
    induction h with
    | nil => exact .nil
    | cons a _ ih => exact .cons (.lst (SqL.of a) (dpInts _ H)) ih
  exact go h.it
end
theorem paired_take {α β : Type} {R : α → β → Prop} : ∀ {xs : List α} {ys : List β} (k : Nat), Paired R xs ys → Paired R (xs.take k) (ys.take k)
  | _, _, 0, _ => .nil
  | _, _, _ + 1, .nil => .nil
  | _, _, k + 1, .cons a r => .cons a (paired_take k r)
theorem paired_drop {α β : Type} {R : α → β → Prop} : ∀ {xs : List α} {ys : List β} (k : Nat), Paired R xs ys → Paired R (xs.drop k) (ys.drop k)
  | _, _, 0, h => h
  | _, _, _ + 1, .nil => .nil
  | _, _, k + 1, .cons a r => paired_drop k r
theorem paired_cat {α β : Type} {R : α → β → Prop} : ∀ {xs xs' : List α} {ys ys' : List β}, Paired R xs ys → Paired R xs' ys' → Paired R (xs ++ xs') (ys ++ ys')
  | _, _, _, _, .nil, h => h
  | _, _, _, _, .cons a r, h => .cons a (paired_cat r h)
/-- all but the k-th -/
abbrev cutK {α : Type} (xs : List α) (k : Nat) : List α := xs.take k ++ xs.drop (k + 1)
theorem cutK_sub {α : Type} {xs : List α} {k : Nat} {x : α} (h : x ∈ cutK xs k) : x ∈ xs := by
  rcases List.mem_append.mp h with h | h
  · exact List.mem_of_mem_take h
  · exact List.mem_of_mem_drop h
theorem cutK_ne {α : Type} {xs : List α} (hn : xs.Nodup) {k : Nat} {x y : α} (hx : xs[k]? = some x) (h : y ∈ cutK xs k) : y ≠ x := by
  obtain ⟨hk, rfl⟩ := List.getElem?_eq_some_iff.mp hx
  rintro rfl
  rcases List.mem_append.mp h with h | h
  · obtain ⟨j, hj, e⟩ := List.getElem_of_mem h
    rw [List.length_take] at hj
    rw [List.getElem_take] at e
    have := (List.getElem_inj hn).mp e
    omega
  · obtain ⟨j, hj, e⟩ := List.getElem_of_mem h
    rw [List.getElem_drop] at e
    have := (List.getElem_inj hn).mp e
    omega
theorem LL.dpCut {K : PySem.W.Frag} {H H' : Hp} {D : Addr} {is : List Addr} {hs : List (List Int)} (h : LL H D is hs) (k : Nat) (keep : ∀ i ∈ cutK is k, ∀ o, H i = some o → H' i = some o) : DpAll K H' ((cutK is k).map V.ref) ((cutK hs k).map intsD) := by
  have p : Paired (fun i (p : List Int) => H i = some (.lst (p.map V.int))) (cutK is k) (cutK hs k) := paired_cat (paired_take k h.it) (paired_drop (k + 1) h.it)
  have go : ∀ {is : List Addr} {hs : List (List Int)}, Paired (fun i (p : List Int) => H i = some (.lst (p.map V.int))) is hs → (∀ i ∈ is, ∀ o, H i = some o → H' i = some o) → DpAll K H' (is.map V.ref) (hs.map intsD) := by
    intro is hs h
    induction h with
    | nil => intro _; exact .nil
    | cons a _ ih => intro k; exact .cons (.lst (SqL.of (k _ (by simp) _ a)) (dpInts _ H')) (ih fun i hi => k i (by simp [hi]))
  exact go p keep
theorem cutV_to (xs : List V) {k : Nat} (h : k ≤ xs.length) : cutV xs none (some (k : Int)) = xs.take k := by
  unfold cutV
  rw [HT.sIx_none, HT.sIx_nat, Nat.min_eq_left h]
  simp
theorem cutV_from (xs : List V) {k : Nat} (h : k ≤ xs.length) : cutV xs (some (k : Int)) none = xs.drop k := by
  unfold cutV
  rw [HT.sIx_none, HT.sIx_nat, Nat.min_eq_left h, List.take_of_length_le (by rw [List.length_drop]; omega)]
/-- xs[:k] + xs[k + 1:] -/
theorem cutCat {K : PySem.W.Frag} {H : Hp} {a : Addr} {xs : List V} {k : Nat} {QQ : VK} (h : H a = some (.lst xs)) (hk : k < xs.length) (hl : xs.length ≤ 1000)
    (q : ∀ r H', H r = none → Same H H' → H' r = some (.lst (cutK xs k)) → QQ (.ref r) H') :
    ∃ x, SqL K H a x ∧ ∀ p, H p = none → ∃ x1, SqL K (upd H p (.lst (cutV x none (some (k : Int))))) a x1 ∧ ∀ p1, upd H p (.lst (cutV x none (some (k : Int)))) p1 = none →
      rCat (.ref p) (.ref p1) (upd (upd H p (.lst (cutV x none (some (k : Int))))) p1 (.lst (cutV x1 (some ((k : Int) + 1)) none))) QQ := by
  refine ⟨xs, SqL.of h, fun p hp => ⟨xs, SqL.of (upd_keep h hp), fun p1 hp1 => ?_⟩⟩
  rw [cutV_to xs (Nat.le_of_lt hk), show ((k : Int) + 1) = ((k + 1 : Nat) : Int) by omega, cutV_from xs (by omega)] at *
  have S1 := same_upd (x := .lst (xs.take k)) hp
  have S2 := S1.trans (same_upd (x := .lst (xs.drop (k + 1))) hp1)
  refine ⟨p, p1, xs.take k, xs.drop (k + 1), rfl, rfl, upd_keep upd_same hp1, upd_same, ?_, fun r hr => q r _ (S2.free hr) (S2.trans (same_upd hr)) upd_same⟩
  rw [List.length_take, List.length_drop]
  exact Nat.le_trans (by omega) (line_small hl)
abbrev llD (hs : List (List Int)) : PyData := .list (hs.map intsD)
theorem okD_ll {hs : List (List Int)} (h : hs.length ≤ 1000) (hh : ∀ p ∈ hs, p.length ≤ 1000) : okD (llD hs) := by
  refine ⟨by simpa using h, ?_⟩
  have go : ∀ hs : List (List Int), (∀ p ∈ hs, p.length ≤ 1000) → okDs (hs.map intsD) := by
    intro hs
    induction hs with
    | nil => intro _; trivial
    | cons a r ih => intro h; exact ⟨okD_ints (h a (by simp)), ih fun p hp => h p (by simp [hp])⟩
  exact go hs hh
theorem depth_ll (hs : List (List Int)) : (llD hs).depth ≤ 2 := by
  show PyData.depthAll (hs.map intsD) + 1 ≤ 2
  have go : ∀ hs : List (List Int), PyData.depthAll (hs.map intsD) ≤ 1 := by
    intro hs
    induction hs with
    | nil => exact Nat.zero_le _
    | cons a r ih =>
      rw [List.map_cons]
      exact Nat.max_le.mpr ⟨depth_ints a, ih⟩
  have := go hs
  omega
theorem le_sum {l : List Nat} {n : Nat} (h : n ∈ l) : n ≤ l.sum := by
  induction l with
  | nil => cases h
  | cons a r ih =>
    rw [List.sum_cons]
    rcases List.mem_cons.mp h with rfl | h
    · omega
    · have := ih h
      omega
theorem canLL : ∀ hs : List (List Int), PyData.canLayAll0 (hs.map intsD) = true
  | [] => rfl
  | k :: r => by
    rw [List.map_cons, PyData.canLayAll0, canLL r]
    show ((PyData.canLayAll0 (k.map PyData.int)) && true) = true
    rw [canInts k]
    rfl
theorem shaped_ll (hs : List (List Int)) : SeqAt.shaped (llD hs) = true := by
  unfold SeqAt.shaped
  rw [show (llD hs).canLay0 = PyData.canLayAll0 (hs.map intsD) from rfl, canLL, decide_eq_true (Nat.le_trans (depth_ll hs) (by decide))]
  rfl
theorem shaped_nil : SeqAt.shaped (.list []) = true := by decide
theorem eqv_nil (ds : List PyData) : PyData.eqv (.list ds) (.list []) = ds.isEmpty := by
  cases ds with
  | nil => decide
  | cons a r =>
    show PyData.eqv (.list (a :: r)) (.list []) = false
    simp [PyData.eqv, PyData.eqvAll]
theorem ne_nil {K : PySem.W.Frag} {H : Hp} {x y : V} {ds : List PyData} {Q : VK} (hx : Dp K H x (.list ds)) (hs : SeqAt.shaped (.list ds) = true) (hy : Dp K H y (.list [])) (q : Q (.bl (!ds.isEmpty)) H) : rNeD K x y H Q :=
  ⟨_, _, hx, hy, hs, shaped_nil, by rw [eqv_nil]; exact q⟩
/-- the piles of a way have no more cards than it -/
theorem heaps_bound (row : List Int) {w : List (Nat × Nat)} {n : Nat} (h : Sted w n) : ∀ p ∈ heapsL row w, p.length ≤ w.length := fun p hp => by
  have := (fronts_sums row h).2
  have m : p.length ∈ (heapsL row w).map List.length := List.mem_map.mpr ⟨p, hp, rfl⟩
  have := le_sum m
  omega
end My

namespace My
open PySem PySem.Spec L2
/-! ### told entries -/
def ci (i : Nat) : Int := (i : Int)
def cst (e : Nat × Nat) : Int × Int := ((e.1 : Int), (e.2 : Int))
def isHeld (s : LSt) (k : Int) : Bool := decide (k ∈ s.held.map ci)
/-- may the entry come next -/
def allowB (row : List Int) (s : LSt) (e : Int × Int) : Bool :=
  if isHeld s e.1 = true then (if e.2 = (s.pile : Int) then fitB row s.last e.1.toNat else s.last.isSome && decide (e.2 = (s.pile : Int) + 1)) else false
def follow (row : List Int) : LSt → List (Int × Int) → LSt
  | s, [] => s
  | s, e :: r => if allowB row s e = true then follow row (layS row s e.1.toNat e.2.toNat) r else s
/-- the beginnings -/
inductive Reach (row : List Int) (h : Nat) : LSt → Prop
  | init : Reach row h (initS row h)
  | lay {s : LSt} {i p : Nat} : Reach row h s → allowB row s (cst (i, p)) = true → Reach row h (layS row s i p)
theorem held_cast {s : LSt} {k : Int} (h : isHeld s k = true) : k.toNat ∈ s.held ∧ (k.toNat : Int) = k := by
  obtain ⟨i, hi, rfl⟩ := List.mem_map.mp (of_decide_eq_true h)
  exact ⟨by show (i : Int).toNat ∈ s.held; rw [Int.toNat_natCast]; exact hi, by show ((i : Int).toNat : Int) = (i : Int); rw [Int.toNat_natCast]⟩
theorem allow_facts {row : List Int} {s : LSt} {e : Int × Int} (h : allowB row s e = true) : e.1.toNat ∈ s.held ∧ (e.1.toNat : Int) = e.1 ∧ (e.2.toNat : Int) = e.2 ∧ (s.last = none → e.2.toNat = s.pile) ∧ (e.2.toNat = s.pile ∨ e.2.toNat = s.pile + 1) := by
  unfold allowB at h
  by_cases h1 : isHeld s e.1 = true
  · rw [if_pos h1] at h
    obtain ⟨a, b⟩ := held_cast h1
    by_cases h2 : e.2 = (s.pile : Int)
    · refine ⟨a, b, by omega, fun _ => by omega, .inl (by omega)⟩
    · rw [if_neg h2, Bool.and_eq_true, decide_eq_true_eq] at h
      refine ⟨a, b, by omega, fun hn => ?_, .inr (by omega)⟩
      rw [hn] at h
      exact absurd h.1 (by decide)
  · rw [if_neg h1] at h
    cases h
theorem allow_nat {row : List Int} {s : LSt} {i p : Nat} (h : allowB row s (cst (i, p)) = true) : i ∈ s.held ∧ (s.last = none → p = s.pile) ∧ (p = s.pile ∨ p = s.pile + 1) := by
  obtain ⟨a, b, c, d, f⟩ := allow_facts h
  have e1 : (cst (i, p)).1.toNat = i := Int.toNat_natCast _
  have e2 : (cst (i, p)).2.toNat = p := Int.toNat_natCast _
  rw [e1] at a
  rw [e2] at d f
  exact ⟨a, d, f⟩
theorem allow_of {row : List Int} {s : LSt} {i p : Nat} (hi : i ∈ s.held) (h0 : s.last = none → p = s.pile) (h1 : s.last ≠ none → (p = s.pile ∧ fitB row s.last i = true) ∨ p = s.pile + 1) : allowB row s (cst (i, p)) = true := by
  have hh : isHeld s (cst (i, p)).1 = true := decide_eq_true (List.mem_map.mpr ⟨i, hi, rfl⟩)
  unfold allowB
  rw [if_pos hh]
  have e1 : (cst (i, p)).1.toNat = i := Int.toNat_natCast _
  rw [e1]
  by_cases hn : s.last = none
  · rw [h0 hn, if_pos (show (cst (i, s.pile)).2 = (s.pile : Int) from rfl), hn]
    rfl
  · rcases h1 hn with ⟨a, b⟩ | a
    · rw [if_pos (by show (p : Int) = _; omega)]
      exact b
    · rw [if_neg (by show ¬ (p : Int) = _; omega)]
      have : s.last.isSome = true := by cases hl : s.last with | none => exact absurd hl hn | some l => rfl
      rw [this, Bool.true_and, decide_eq_true_eq]
      show (p : Int) = _
      omega
structure ReachF (row : List Int) (h : Nat) (s : LSt) : Prop where
  wf : WF row s
  dr : s.drawn = min (h + s.way.length) row.length
  l0 : s.way = [] → s.last = none ∧ s.pile = 0
  l1 : ∀ w e, s.way = w ++ [e] → s.last = some (cd row e.1) ∧ s.pile = e.2
  st : ∃ n, Sted s.way n ∧ (s.last = none → n = 0) ∧ (s.last ≠ none → n = s.pile + 1)
  lt : ∀ e ∈ s.way, e.1 < row.length
theorem Reach.pile0 {row : List Int} {h : Nat} {s : LSt} (R : Reach row h s) : s.last = none → s.pile = 0 := by
  cases R with
  | init => intro _; rfl
  | lay _ _ => intro e; exact nomatch e
theorem Reach.facts {row : List Int} {h : Nat} (hh : 1 ≤ h) {s : LSt} (R : Reach row h s) : ReachF row h s := by
  induction R with
  | init => exact ⟨wf_init row hh, rfl, fun _ => ⟨rfl, rfl⟩, fun w e he => by simp [initS] at he, ⟨0, .nil, fun _ => rfl, fun h => absurd rfl h⟩, fun e he => by cases he⟩
  | lay R0 hal ih =>
    rename_i s i p
    obtain ⟨hi, h0', h1⟩ := allow_nat hal
    have hp0 := R0.pile0
    obtain ⟨W, d, l0, l1, ⟨n, st, n0, n1⟩, lt⟩ := ih
    refine ⟨wf_lay W hi, ?_, fun e => ?_, fun w e he => ?_, ⟨p + 1, .snoc st ?_, (fun e => nomatch e), fun _ => rfl⟩, fun e he => ?_⟩
    · show (if s.drawn < row.length then s.drawn + 1 else s.drawn) = min (h + (s.way ++ [(i, p)]).length) row.length
      rw [List.length_append]
      simp only [List.length_cons, List.length_nil]
      split <;> omega
    · have e : s.way ++ [(i, p)] = [] := e
      simp at e
    · have he : s.way ++ [(i, p)] = w ++ [e] := he
      have := (List.append_inj' he rfl).2
      cases this
      exact ⟨rfl, rfl⟩
    · by_cases hl : s.last = none
      · left; rw [n0 hl, h0' hl, hp0 hl]
      · have := n1 hl
        rcases h1 with e | e
        · right; omega
        · left; omega
    · rcases List.mem_append.mp (show e ∈ s.way ++ [(i, p)] from he) with m | m
      · exact lt e m
      · rw [List.mem_singleton.mp m]
        exact Nat.lt_of_lt_of_le (W.lt _ hi) W.dr
theorem Reach.next {row : List Int} {h : Nat} (hh : 1 ≤ h) {s : LSt} (R : Reach row h s) {e : Int × Int} (ha : allowB row s e = true) : Reach row h (layS row s e.1.toNat e.2.toNat) := by
  obtain ⟨a, b, c, d, f⟩ := allow_facts ha
  have ee : cst (e.1.toNat, e.2.toNat) = e := by
    show ((e.1.toNat : Int), (e.2.toNat : Int)) = e
    rw [b, c]
  exact .lay R (by rw [ee]; exact ha)
theorem follow_way {row : List Int} {h : Nat} {s : LSt} (R : Reach row h s) : ∀ rest, follow row (initS row h) (s.way.map cst ++ rest) = follow row s rest := by
  induction R with
  | init => intro rest; rfl
  | lay R0 hal ih =>
    rename_i s i p
    intro rest
    show follow row (initS row h) ((s.way ++ [(i, p)]).map cst ++ rest) = _
    rw [List.map_append, List.append_assoc, ih]
    show (if allowB row s (cst (i, p)) = true then follow row (layS row s (cst (i, p)).1.toNat (cst (i, p)).2.toNat) rest else s) = _
    rw [if_pos hal]
    have e1 : (cst (i, p)).1.toNat = i := Int.toNat_natCast _
    have e2 : (cst (i, p)).2.toNat = p := Int.toNat_natCast _
    rw [e1, e2]
theorem follow_reach {row : List Int} {h : Nat} (hh : 1 ≤ h) : ∀ {es : List (Int × Int)} {s : LSt}, Reach row h s → Reach row h (follow row s es)
  | [], _, R => R
  | e :: r, s, R => by
    show Reach row h (if allowB row s e = true then follow row (layS row s e.1.toNat e.2.toNat) r else s)
    split
    · rename_i ha
      exact follow_reach hh (R.next hh ha)
    · exact R
theorem inV_held (s : LSt) (k : Int) : inV (.int k) (s.held.map nV) = isHeld s k := by
  unfold inV isHeld
  rw [List.any_map, Bool.eq_iff_iff, List.any_eq_true, decide_eq_true_eq, List.mem_map]
  constructor
  · rintro ⟨i, hi, e⟩
    refine ⟨i, hi, ?_⟩
    have : ((i : Int) == k) = true := e
    simpa [ci] using this
  · rintro ⟨i, hi, rfl⟩
    refine ⟨i, hi, ?_⟩
    show ((i : Int) == (i : Int)) = true
    simp
theorem flat_held (l : List Nat) : (l.map nV).all flatV = true := by
  rw [List.all_map, List.all_eq_true]
  intro i _
  rfl
theorem if_step {c : TT} {t u : TS} {D : Ends} {σ : L2.St} {H : Hp} (h : ∀ T U : L2.St → Hp → Prop, (∀ σ' H', t D σ' H' → T σ' H') → (∀ σ' H', u D σ' H' → U σ' H') → c σ H fun b H1 => if b = true then T σ H1 else U σ H1) : tIfS c t u D σ H :=
  h (t D) (u D) (fun _ _ x => x) fun _ _ x => x
/-- the number of entries ahead of the first fault or lack -/
def faultO (row : List Int) (h : Nat) (es : List (Int × Int)) : Option Nat :=
  if (follow row (initS row h) es).way.length < es.length ∨ (follow row (initS row h) es).held ≠ [] then some (follow row (initS row h) es).way.length else none
def optV : Option Nat → V
  | none => .non
  | some k => nV k
def optD : Option Nat → PyData
  | none => .none
  | some k => .int (k : Int)
theorem dpOpt {K : PySem.W.Frag} {H : Hp} (o : Option Nat) : Dp K H (optV o) (optD o) := by
  cases o with
  | none => exact .non
  | some k => exact .int _
/-- a comprehension whose test never holds -/
theorem lcNone {n : Nat} {lo : Int} {g : TG} {tt : TT} {te : TE} {vs : List Nat} {σ : L2.St} {H1 : Hp} {Q : VK}
    (step : ∀ i H', i < n → Same H1 H' → ∀ (C : V → Hp → Prop) (C' : Hp → Prop), (∀ H4, Same H' H4 → C' H4) → g (.int (lo + i)) (wipe σ vs) H' fun σ2 H2 => wipe σ2 vs = wipe σ vs ∧ tt σ2 H2 fun b H3 => if b = true then te σ2 H3 C else C' H3)
    (hq : ∀ D H', H1 D = none → Same H1 H' → H' D = some (.lst []) → Q (.ref D) H') : LcA (Itr lo n) g tt te vs σ H1 Q := by
  refine lcB (walk_range (lo := lo) (n := n)) fun D hD => ⟨fun i H => Same H1 H ∧ H D = some (.lst []), ⟨same_upd hD, upd_same⟩, (fun _ _ _ _ => trivial), ?_, ?_⟩
  · rintro i x H H' hi ⟨S, e⟩ ⟨rfl, rfl⟩
    exact step i _ hi S _ _ fun H4 S4 => ⟨S.trans S4, S4 _ _ e⟩
  · rintro H ⟨S, e⟩
    exact hq D H hD S e
mutual
def okS : PyData → Prop
  | .list xs => xs.length ≤ 1000 ∧ okSs xs
  | .tuple xs => xs.length ≤ 1000 ∧ okSs xs
  | .dict _ => False
  | .str _ => False
  | _ => True
def okSs : List PyData → Prop
  | [] => True
  | x :: xs => okS x ∧ okSs xs
end
theorem okSs_get : ∀ {ds : List PyData} {i : Nat} {d : PyData}, okSs ds → ds[i]? = some d → okS d
  | [], _, _, _, h => by simp at h
  | x :: r, 0, d, ⟨h1, _⟩, h => by cases h; exact h1
  | x :: r, i + 1, d, ⟨_, h2⟩, h => okSs_get (ds := r) (i := i) h2 (by simpa using h)
theorem okSs_ints : ∀ ns : List Int, okSs (ns.map PyData.int)
  | [] => trivial
  | _ :: r => ⟨trivial, okSs_ints r⟩
theorem okS_ints {ns : List Int} (h : ns.length ≤ 1000) : okS (.list (ns.map PyData.int)) := ⟨by simpa using h, okSs_ints ns⟩
theorem dpAll_len_get {K : PySem.W.Frag} {H : Hp} : ∀ {xs : List V} {ds : List PyData} {i : Nat} {d : PyData}, DpAll K H xs ds → ds[i]? = some d → ∃ x, xs[i]? = some x ∧ Dp K H x d
  | _, _, 0, _, .cons a _, h => by cases h; exact ⟨_, rfl, a⟩
  | _, _, i + 1, _, .cons _ r, h => by
    obtain ⟨x, e, p⟩ := dpAll_len_get (i := i) r (by simpa using h)
    exact ⟨x, by simpa using e, p⟩
  | _, _, _, _, .nil, h => by simp at h
/-! ### the purse of a law: four ints and the script's cells -/
def Purse (H : Hp) (a : Addr) (n : Nat) : Prop := ∃ (x0 x1 x2 x3 : Int) (cs : List Int), H a = some (.lst (.int x0 :: .int x1 :: .int x2 :: .int x3 :: cs.map V.int)) ∧ 0 ≤ x0 ∧ 0 ≤ x1 ∧ x1 < 2 ^ 62 ∧ 0 ≤ x2 ∧ x2 ≤ (n : Int) ∧ 0 ≤ x3 ∧ (∀ c ∈ cs, 0 ≤ c) ∧ cs.length ≤ 1000
theorem Purse.same {H H' : Hp} {a : Addr} {n : Nat} (h : Purse H a n) (S : Same H H') : Purse H' a n := by
  obtain ⟨x0, x1, x2, x3, cs, e, q⟩ := h
  exact ⟨x0, x1, x2, x3, cs, S _ _ e, q⟩
theorem Purse.mono {H : Hp} {a : Addr} {n m : Nat} (h : Purse H a n) (l : n ≤ m) : Purse H a m := by
  obtain ⟨x0, x1, x2, x3, cs, e, h0, h1, h2, h3, h4, q⟩ := h
  exact ⟨x0, x1, x2, x3, cs, e, h0, h1, h2, h3, by omega, q⟩
theorem Purse.ne {H : Hp} {a b : Addr} {n : Nat} (h : Purse H a n) (hb : H b = none) : a ≠ b := by
  obtain ⟨x0, x1, x2, x3, cs, e, _⟩ := h
  exact ne_of_none e hb
theorem Purse.lst {H : Hp} {a : Addr} {n : Nat} (h : Purse H a n) : ∃ xs, H a = some (.lst xs) := by
  obtain ⟨x0, x1, x2, x3, cs, e, _⟩ := h
  exact ⟨_, e⟩
theorem Purse.upd {H : Hp} {s D : Addr} {n : Nat} {u : HO} (hs : Purse H s n) (h : s ≠ D) : Purse (L2.upd H D u) s n := by
  obtain ⟨x0, x1, x2, x3, cs, e, q⟩ := hs
  exact ⟨x0, x1, x2, x3, cs, upd_other e h, q⟩
theorem Purse.free {H H' : Hp} {s p : Addr} {n : Nat} (hs : Purse H' s n) (k : Keep [s] H H') (h : H' p = none) : H p = none := k.free h fun b hb => by
  obtain ⟨xs, e⟩ := hs.lst
  rw [List.mem_singleton.mp hb, e]
  exact nofun
/-! ### entries at a list -/
def prI (e : Int × Int) : List V := [.int e.1, .int e.2]
def EntT (H : Hp) (ts : List Addr) (es : List (Int × Int)) : Prop := Paired (fun t e => H t = some (.tup (prI e))) ts es
def EntAt (H : Hp) (b : Addr) (es : List (Int × Int)) : Prop := ∃ ts, H b = some (.lst (ts.map V.ref)) ∧ EntT H ts es
theorem EntT.mono {H H' : Hp} {ts : List Addr} {es : List (Int × Int)} (h : EntT H ts es) (k : ∀ t xs, H t = some (.tup xs) → H' t = some (.tup xs)) : EntT H' ts es := Paired.mapP h fun _ _ e => k _ _ e
theorem EntT.at {H : Hp} {ts : List Addr} {es : List (Int × Int)} {i : Nat} {t : Addr} {e : Int × Int} (h : EntT H ts es) (h1 : ts[i]? = some t) (h2 : es[i]? = some e) : H t = some (.tup (prI e)) :=
  Paired.at (R := fun t e => H t = some (.tup (prI e))) h h1 h2
theorem EntT.snoc {H : Hp} {t : Addr} {e : Int × Int} (ht : H t = some (.tup (prI e))) {ts : List Addr} {es : List (Int × Int)} (h : EntT H ts es) : EntT H (ts ++ [t]) (es ++ [e]) := paired_app (R := fun t e => H t = some (.tup (prI e))) ht h
theorem EntAt.same {H H' : Hp} {b : Addr} {es : List (Int × Int)} (h : EntAt H b es) (S : Same H H') : EntAt H' b es := by
  obtain ⟨ts, e, t⟩ := h
  exact ⟨ts, S _ _ e, t.mono fun _ _ q => S _ _ q⟩
theorem EntAt.keep {H H' : Hp} {b s : Addr} {es : List (Int × Int)} {xs : List V} (h : EntAt H b es) (S : Keep [s] H H') (hs : H s = some (.lst xs)) (n : b ≠ s) : EntAt H' b es := by
  obtain ⟨ts, e, t⟩ := h
  exact ⟨ts, S.get e (ni1 n), t.mono fun _ _ q => S.get q (ni1 (by rintro rfl; rw [hs] at q; cases q))⟩
abbrev entD (es : List (Int × Int)) : PyData := .list (es.map fun e => tupD [e.1, e.2])
theorem ent_tups (es : List (Int × Int)) : (es.map fun e => tupD [e.1, e.2]) = (es.map fun e : Int × Int => [e.1, e.2]).map tupD := by
  rw [List.map_map]
  rfl
theorem depth_ent (es : List (Int × Int)) : (entD es).depth ≤ 2 := by
  have := depthTups (es.map fun e : Int × Int => [e.1, e.2])
  rw [← ent_tups] at this
  show PyData.depthAll (es.map fun e => tupD [e.1, e.2]) + 1 ≤ 2
  omega
theorem shaped_ent (es : List (Int × Int)) : SeqAt.shaped (entD es) = true := by
  unfold SeqAt.shaped
  rw [show (entD es).canLay0 = PyData.canLayAll0 (es.map fun e => tupD [e.1, e.2]) from rfl, ent_tups, canTups, decide_eq_true (Nat.le_trans (depth_ent es) (by decide))]
  rfl
theorem okD_ent {es : List (Int × Int)} (h : es.length ≤ 1000) : okD (entD es) := by
  refine ⟨by simpa using h, ?_⟩
  have go : ∀ es : List (Int × Int), okDs (es.map fun e => tupD [e.1, e.2]) := by
    intro es
    induction es with
    | nil => trivial
    | cons a r ih => exact ⟨⟨by simp, okDs_ints _⟩, ih⟩
  exact go es
theorem dpEntT {K : PySem.W.Frag} {H : Hp} : ∀ {ts : List Addr} {es : List (Int × Int)}, EntT H ts es → DpAll K H (ts.map V.ref) (es.map fun e => tupD [e.1, e.2])
  | _, _, .nil => .nil
  | _, _, .cons (b := e) h r => .cons (.tup (SqT.of h) (dpInts [e.1, e.2] H)) (dpEntT r)
theorem dpEnt {K : PySem.W.Frag} {H : Hp} {b : Addr} {es : List (Int × Int)} (h : EntAt H b es) : Dp K H (.ref b) (entD es) := by
  obtain ⟨ts, e, t⟩ := h
  exact .lst (SqL.of e) (dpEntT t)
theorem paired_snoc_inv {α β : Type} {R : α → β → Prop} : ∀ {xs : List α} {ys : List β} {y : β}, Paired R xs (ys ++ [y]) → ∃ xs' x, xs = xs' ++ [x] ∧ Paired R xs' ys ∧ R x y
  | _, [], y, .cons a .nil => ⟨[], _, rfl, .nil, a⟩
  | _, z :: ys, y, .cons (a := x0) a r => by
    obtain ⟨xs', x, rfl, h1, h2⟩ := paired_snoc_inv (ys := ys) r
    exact ⟨x0 :: xs', x, rfl, .cons a h1, h2⟩
theorem lexLt_lt : ∀ ns ms : List Int, HT.lexLt ns ms = decide (ns < ms)
  | [], [] => by rw [HT.lexLt_nil_nil, decide_eq_false (List.lt_irrefl _)]
  | [], y :: ys => by rw [HT.lexLt_nil_cons, decide_eq_true (List.nil_lt_cons y ys)]
  | x :: xs, [] => by rw [HT.lexLt_cons_nil, decide_eq_false (List.not_lt_nil _)]
  | x :: xs, y :: ys => by
    rw [HT.lexLt_cons, lexLt_lt xs ys]
    by_cases h : x = y
    · rw [if_pos h, Bool.eq_iff_iff, decide_eq_true_eq, decide_eq_true_eq, List.cons_lt_cons_iff]
      constructor
      · exact fun q => .inr ⟨h, q⟩
      · rintro (q | ⟨_, q⟩)
        · omega
        · exact q
    · rw [if_neg h, Bool.eq_iff_iff, decide_eq_true_eq, decide_eq_true_eq, List.cons_lt_cons_iff]
      constructor
      · exact fun q => .inl q
      · rintro (q | ⟨q, _⟩)
        · exact q
        · exact absurd q h
theorem entT_way {H : Hp} : ∀ {ts : List Addr} {w : List (Nat × Nat)}, Tups H ts w → EntT H ts (w.map cst)
  | _, _, .nil => .nil
  | _, _, .cons a r => .cons a (entT_way r)
theorem WayAt.ent {H : Hp} {b : Addr} {w : List (Nat × Nat)} (h : WayAt H b w) : EntAt H b (w.map cst) := by
  obtain ⟨ts, e, t⟩ := h
  exact ⟨ts, e, entT_way t⟩
end My

namespace My
open PySem PySem.Spec L2
/-! ### abstract values, a store by numbers -/
inductive AV where
  /-- data that never changes again; data that does not change while this def runs -/
  | d (x : PyData) | r (x : PyData)
  /-- the cell with this number -/
  | c (n : Nat)
  /-- a value of the text -/
  | g (v : V)
  /-- a tuple of such -/
  | t (xs : List AV)
inductive OC where
  | lst (xs : List AV) | obj (C : Addr) (fs : List (Str × AV)) | dk (kvs : List (Key × AV))
abbrev Sto := List OC
abbrev En := List (Option AV)
inductive Res (α : Type) where
  | ok (a : α) (S : Sto) | ex (C : Addr) (x : AV) (S : Sto) | no
def Res.bind {α β : Type} (m : Res α) (k : α → Sto → Res β) : Res β := match m with
  | .ok a S => k a S
  | .ex C x S => .ex C x S
  | .no => .no
section
variable {α β γ : Type}
@[simp] theorem bind_ok {a : α} {S : Sto} {k : α → Sto → Res β} : (Res.ok a S).bind k = k a S := rfl
@[simp] theorem bind_ex {C : Addr} {x : AV} {S : Sto} {k : α → Sto → Res β} : (Res.ex C x S : Res α).bind k = .ex C x S := rfl
@[simp] theorem bind_no {k : α → Sto → Res β} : (Res.no : Res α).bind k = .no := rfl
end
mutual
inductive RV (K : PySem.W.Frag) (F B : Hp) (ι : List Addr) : V → AV → Prop
  | d {v : V} {x : PyData} : Dp K F v x → RV K F B ι v (.d x)
  | r {v : V} {x : PyData} : Dp K B v x → RV K F B ι v (.r x)
  | c {a : Addr} {n : Nat} : ι[n]? = some a → RV K F B ι (.ref a) (.c n)
  | g {v : V} : RV K F B ι v (.g v)
  | t {a : Addr} {vs : List V} {xs : List AV} : SqT K F a vs → RVL K F B ι vs xs → RV K F B ι (.ref a) (.t xs)
inductive RVL (K : PySem.W.Frag) (F B : Hp) (ι : List Addr) : List V → List AV → Prop
  | nil : RVL K F B ι [] []
  | cons {v : V} {x : AV} {vs : List V} {xs : List AV} : RV K F B ι v x → RVL K F B ι vs xs → RVL K F B ι (v :: vs) (x :: xs)
end
section
variable {K : PySem.W.Frag} {F F' B B' : Hp} {ι : List Addr}
theorem pre_get {ι t : List Addr} {n : Nat} {a : Addr} (h : ι[n]? = some a) : (ι ++ t)[n]? = some a := by
  rw [List.getElem?_append_left (List.getElem?_eq_some_iff.mp h).1]
  exact h
mutual
theorem RV.mono {t : List Addr} (sF : Same F F') (sB : Same B B') : ∀ {v : V} {x : AV}, RV K F B ι v x → RV K F' B' (ι ++ t) v x
  | _, _, .d h => .d (Dp.same sF h)
  | _, _, .r h => .r (Dp.same sB h)
  | _, _, .c h => .c (pre_get h)
  | _, _, .g => .g
  | _, _, .t h hs => .t (sqT_same sF h) (RVL.mono sF sB hs)
theorem RVL.mono {t : List Addr} (sF : Same F F') (sB : Same B B') : ∀ {vs : List V} {xs : List AV}, RVL K F B ι vs xs → RVL K F' B' (ι ++ t) vs xs
  | _, _, .nil => .nil
  | _, _, .cons h hs => .cons (RV.mono sF sB h) (RVL.mono sF sB hs)
end
theorem RVL.len : ∀ {vs : List V} {xs : List AV}, RVL K F B ι vs xs → vs.length = xs.length
  | _, _, .nil => rfl
  | _, _, .cons _ h => congrArg (· + 1) (RVL.len h)
theorem RVL.get : ∀ {vs : List V} {xs : List AV} {i : Nat} {x : AV}, RVL K F B ι vs xs → xs[i]? = some x → ∃ v, vs[i]? = some v ∧ RV K F B ι v x
  | _, _, _, _, .nil, h => by simp at h
  | _, _, 0, _, .cons h _, e => by cases e; exact ⟨_, rfl, h⟩
  | _, _, i + 1, x, .cons _ h, e => RVL.get (i := i) h (by simpa using e)
theorem RVL.append : ∀ {vs ws : List V} {xs ys : List AV}, RVL K F B ι vs xs → RVL K F B ι ws ys → RVL K F B ι (vs ++ ws) (xs ++ ys)
  | _, _, _, _, .nil, h => h
  | _, _, _, _, .cons a r, h => .cons a (RVL.append r h)
theorem RVL.set {v : V} {x : AV} (h : RV K F B ι v x) : ∀ {vs : List V} {xs : List AV} (i : Nat), RVL K F B ι vs xs → RVL K F B ι (vs.set i v) (xs.set i x)
  | _, _, _, .nil => .nil
  | _, _, 0, .cons _ r => .cons h r
  | _, _, i + 1, .cons a r => .cons a (RVL.set h i r)
theorem RVL.take : ∀ {vs : List V} {xs : List AV} (n : Nat), RVL K F B ι vs xs → RVL K F B ι (vs.take n) (xs.take n)
  | _, _, 0, _ => .nil
  | _, _, _ + 1, .nil => .nil
  | _, _, n + 1, .cons a r => .cons a (RVL.take n r)
theorem RVL.drop : ∀ {vs : List V} {xs : List AV} (n : Nat), RVL K F B ι vs xs → RVL K F B ι (vs.drop n) (xs.drop n)
  | _, _, 0, h => h
  | _, _, _ + 1, .nil => .nil
  | _, _, n + 1, .cons _ r => RVL.drop n r
theorem RVL.ofD : ∀ {vs : List V} {ds : List PyData}, DpAll K F vs ds → RVL K F B ι vs (ds.map .d)
  | _, _, .nil => .nil
  | _, _, .cons a r => .cons (.d a) (RVL.ofD r)
end
/-! ### worlds -/
structure Wo where
  H : Hp
  F : Hp
  B : Hp
  ι : List Addr
abbrev RVw (K : PySem.W.Frag) (W : Wo) : V → AV → Prop := RV K W.F W.B W.ι
abbrev RLw (K : PySem.W.Frag) (W : Wo) : List V → List AV → Prop := RVL K W.F W.B W.ι
inductive ROC (K : PySem.W.Frag) (W : Wo) : HO → OC → Prop
  | lst {vs : List V} {xs : List AV} : RLw K W vs xs → ROC K W (.lst vs) (.lst xs)
  | obj {C dx : Addr} {fs : List (Str × V)} {gs : List (Str × AV)} : fs.map Prod.fst = gs.map Prod.fst → RLw K W (fs.map Prod.snd) (gs.map Prod.snd) → ROC K W (.ins C dx fs) (.obj C gs)
  | dk {fs : List (Key × V)} {gs : List (Key × AV)} : fs.map Prod.fst = gs.map Prod.fst → RLw K W (fs.map Prod.snd) (gs.map Prod.snd) → ROC K W (.dK fs) (.dk gs)
structure Ext (W W' : Wo) : Prop where
  sF : Same W.F W'.F
  sB : Same W.B W'.B
  pi : ∃ t, W'.ι = W.ι ++ t
  keep : ∀ b o, W.H b = some o → b ∉ W.ι → W'.H b = some o
  dom : ∀ b, W.H b ≠ none → W'.H b ≠ none
  nF : ∀ b, W.F b = none → W'.F b ≠ none → W.H b = none
  nB : ∀ b, W.B b = none → W'.B b ≠ none → W.H b = none
  nI : ∀ b, b ∈ W'.ι → b ∉ W.ι → W.H b = none
structure Wd (K : PySem.W.Frag) (W : Wo) (S : Sto) : Prop where
  br : Same W.B W.H
  fb : Same W.F W.B
  nd : W.ι.Nodup
  dB : ∀ a, a ∈ W.ι → W.B a = none
  ln : W.ι.length = S.length
  cl : ∀ (n : Nat) (oc : OC), S[n]? = some oc → ∃ a o, W.ι[n]? = some a ∧ W.H a = some o ∧ ROC K W o oc
section
variable {K : PySem.W.Frag} {W W1 W2 W3 : Wo} {S : Sto} {v : V} {x : AV} {vs : List V} {xs : List AV}
theorem Ext.rv (e : Ext W W1) (h : RVw K W v x) : RVw K W1 v x := by
  obtain ⟨t, ht⟩ := e.pi
  show RV K W1.F W1.B W1.ι v x
  rw [ht]
  exact h.mono e.sF e.sB
theorem Ext.rl (e : Ext W W1) (h : RLw K W vs xs) : RLw K W1 vs xs := by
  obtain ⟨t, ht⟩ := e.pi
  show RVL K W1.F W1.B W1.ι vs xs
  rw [ht]
  exact h.mono e.sF e.sB
theorem Ext.roc (e : Ext W W1) {o : HO} {oc : OC} (h : ROC K W o oc) : ROC K W1 o oc := by
  cases h with
  | lst h => exact .lst (e.rl h)
  | obj h1 h2 => exact .obj h1 (e.rl h2)
  | dk h1 h2 => exact .dk h1 (e.rl h2)
theorem Ext.refl : Ext W W := ⟨fun _ _ h => h, fun _ _ h => h, ⟨[], by simp⟩, fun _ _ h _ => h, fun _ h => h, fun _ h1 h2 => absurd h1 h2, fun _ h1 h2 => absurd h1 h2, fun _ h1 h2 => absurd h1 h2⟩
theorem some_of {α : Type} {o : Option α} (h : o ≠ none) : ∃ x, o = some x := by
  cases o with
  | none => exact absurd rfl h
  | some x => exact ⟨x, rfl⟩
theorem Ext.trans (a : Ext W W1) (b : Ext W1 W2) : Ext W W2 := by
  obtain ⟨t1, h1⟩ := a.pi
  obtain ⟨t2, h2⟩ := b.pi
  have nid : ∀ z, W1.H z = none → W.H z = none := fun z h => by
    cases e : W.H z with
    | none => rfl
    | some o => exact absurd h (a.dom z (by rw [e]; exact nofun))
  refine ⟨fun z o h => b.sF z o (a.sF z o h), fun z o h => b.sB z o (a.sB z o h), ⟨t1 ++ t2, by rw [h2, h1, List.append_assoc]⟩, fun z o h hn => ?_, fun z h => b.dom z (a.dom z h), fun z n f => ?_, fun z n f => ?_, fun z i n => ?_⟩
  · refine b.keep z o (a.keep z o h hn) fun hz => ?_
    have := a.nI z hz hn
    rw [h] at this
    cases this
  · by_cases q : W1.F z = none
    · exact nid z (b.nF z q f)
    · exact a.nF z n q
  · by_cases q : W1.B z = none
    · exact nid z (b.nB z q f)
    · exact a.nB z n q
  · by_cases q : z ∈ W1.ι
    · exact a.nI z q n
    · exact nid z (b.nI z i q)
theorem Wd.fr (w : Wd K W S) : Same W.F W.H := fun b o h => w.br b o (w.fb b o h)
theorem Wd.dF (w : Wd K W S) {a : Addr} (h : a ∈ W.ι) : W.F a = none := by
  cases e : W.F a with
  | none => rfl
  | some o =>
    have := w.fb a o e
    rw [w.dB a h] at this
    cases this
theorem Wd.mem (w : Wd K W S) {a : Addr} (h : a ∈ W.ι) : W.H a ≠ none := by
  obtain ⟨n, hn, e⟩ := List.mem_iff_getElem.mp h
  obtain ⟨a', o, e1, e2, _⟩ := w.cl n (S[n]'(by rw [← w.ln]; exact hn)) (List.getElem?_eq_getElem _)
  rw [List.getElem?_eq_getElem hn, e] at e1
  cases e1
  rw [e2]
  exact nofun
theorem nin_of_none (w : Wd K W S) {p : Addr} (h : W.H p = none) : p ∉ W.ι := fun hp => w.mem hp h
theorem B_none (w : Wd K W S) {p : Addr} (h : W.H p = none) : W.B p = none := by
  cases e : W.B p with
  | none => rfl
  | some o =>
    have := w.br p o e
    rw [h] at this
    cases this
theorem F_none (w : Wd K W S) {p : Addr} (h : W.H p = none) : W.F p = none := by
  cases e : W.F p with
  | none => rfl
  | some o =>
    have := w.fr p o e
    rw [h] at this
    cases this
/-- a new object that never changes -/
def Wo.frz (W : Wo) (p : Addr) (o : HO) : Wo := ⟨upd W.H p o, upd W.F p o, upd W.B p o, W.ι⟩
theorem upd_dom {H : Hp} {p : Addr} {o : HO} {b : Addr} (h : H b ≠ none) : upd H p o b ≠ none := by
  unfold upd
  split
  · exact nofun
  · exact h
theorem upd_none {H : Hp} {p : Addr} {o : HO} {b : Addr} (h : H b = none) (h2 : upd H p o b ≠ none) : b = p := by
  unfold upd at h2
  split at h2
  · assumption
  · exact absurd h h2
theorem ext_frz (w : Wd K W S) {p : Addr} {o : HO} (h : W.H p = none) : Ext W (W.frz p o) := by
  refine ⟨same_upd (F_none w h), same_upd (B_none w h), ⟨[], by simp [Wo.frz]⟩, fun b u e _ => upd_keep e h, fun b e => upd_dom e, fun b e q => ?_, fun b e q => ?_, fun b i n => absurd i n⟩
  · rw [upd_none e q]; exact h
  · rw [upd_none e q]; exact h
theorem Same.upd2 {H H' : Hp} {p : Addr} {o : HO} (h : Same H H') : Same (upd H p o) (upd H' p o) := fun b u e => by
  unfold upd at *
  split
  · rename_i hb; rw [if_pos hb] at e; exact e
  · rename_i hb; rw [if_neg hb] at e; exact h b u e
theorem wd_frz (w : Wd K W S) {p : Addr} {o : HO} (h : W.H p = none) : Wd K (W.frz p o) S := by
  refine ⟨Same.upd2 w.br, Same.upd2 w.fb, w.nd, fun a ha => ?_, w.ln, fun n oc hn => ?_⟩
  · show upd W.B p o a = none
    rw [upd_ne (by rintro rfl; exact nin_of_none w h ha)]
    exact w.dB a ha
  · obtain ⟨a, u, e1, e2, e3⟩ := w.cl n oc hn
    exact ⟨a, u, e1, upd_keep e2 h, (ext_frz w h).roc e3⟩
/-- a new object that may change -/
def Wo.new (W : Wo) (p : Addr) (o : HO) : Wo := ⟨upd W.H p o, W.F, W.B, W.ι ++ [p]⟩
theorem ext_new (w : Wd K W S) {p : Addr} {o : HO} (h : W.H p = none) : Ext W (W.new p o) := by
  refine ⟨fun _ _ h => h, fun _ _ h => h, ⟨[p], rfl⟩, fun b u e _ => upd_keep e h, fun b e => upd_dom e, fun _ h1 h2 => absurd h1 h2, fun _ h1 h2 => absurd h1 h2, fun b i n => ?_⟩
  rcases List.mem_append.mp i with i | i
  · exact absurd i n
  · rw [List.mem_singleton.mp i]; exact h
theorem wd_new (w : Wd K W S) {p : Addr} {o : HO} {oc : OC} (h : W.H p = none) (r : ROC K (W.new p o) o oc) : Wd K (W.new p o) (S ++ [oc]) := by
  refine ⟨fun b u e => upd_keep (w.br b u e) h, w.fb, ?_, fun a ha => ?_, ?_, fun n q hn => ?_⟩
  · refine List.nodup_append.mpr ⟨w.nd, by simp, fun a ha b hb => ?_⟩
    rw [List.mem_singleton.mp hb]
    rintro rfl
    exact nin_of_none w h ha
  · rcases List.mem_append.mp ha with i | i
    · exact w.dB a i
    · rw [List.mem_singleton.mp i]; exact B_none w h
  · show (W.ι ++ [p]).length = (S ++ [oc]).length
    rw [List.length_append, List.length_append, w.ln]; rfl
  · show ∃ a o', (W.ι ++ [p])[n]? = some a ∧ _
    by_cases hl : n < S.length
    · rw [List.getElem?_append_left hl] at hn
      obtain ⟨a, u, e1, e2, e3⟩ := w.cl n q hn
      exact ⟨a, u, pre_get e1, upd_keep e2 h, (ext_new w h).roc e3⟩
    · have hn' : n = S.length := by
        have := (List.getElem?_eq_some_iff.mp hn).1
        simp at this
        omega
      subst hn'
      simp at hn
      subst hn
      refine ⟨p, o, ?_, upd_same, r⟩
      rw [← w.ln]
      simp
/-- a cell changes -/
def Wo.wr (W : Wo) (p : Addr) (o : HO) : Wo := ⟨upd W.H p o, W.F, W.B, W.ι⟩
theorem ext_wr {p : Addr} {o : HO} (h : p ∈ W.ι) : Ext W (W.wr p o) := by
  refine ⟨fun _ _ h => h, fun _ _ h => h, ⟨[], by simp [Wo.wr]⟩, fun b u e n => upd_other e (by rintro rfl; exact n h), fun b e => upd_dom e, fun _ h1 h2 => absurd h1 h2, fun _ h1 h2 => absurd h1 h2, fun b i n => absurd i n⟩
theorem wd_wr (w : Wd K W S) {n : Nat} {p : Addr} {o : HO} {oc : OC} (h : W.ι[n]? = some p) (r : ROC K W o oc) : Wd K (W.wr p o) (S.set n oc) := by
  have hp : p ∈ W.ι := List.mem_of_getElem? h
  have hr : ∀ {u : HO} {q : OC}, ROC K W u q → ROC K (W.wr p o) u q := fun z => (ext_wr hp).roc z
  refine ⟨fun b u e => upd_other (w.br b u e) ?_, w.fb, w.nd, w.dB, by rw [List.length_set]; exact w.ln, fun m q hm => ?_⟩
  · rintro rfl
    have e : W.B b = some u := e
    rw [w.dB _ hp] at e
    cases e
  · by_cases e : m = n
    · subst e
      have hl : m < S.length := by rw [← w.ln]; exact (List.getElem?_eq_some_iff.mp h).1
      rw [List.getElem?_set_self hl] at hm
      cases hm
      exact ⟨p, o, h, upd_same, hr r⟩
    · rw [List.getElem?_set_ne (Ne.symm e)] at hm
      obtain ⟨a, u, e1, e2, e3⟩ := w.cl m q hm
      refine ⟨a, u, e1, upd_other e2 ?_, hr e3⟩
      rintro rfl
      have l1 := List.getElem?_eq_some_iff.mp h
      have l2 := List.getElem?_eq_some_iff.mp e1
      exact e ((List.getElem_inj w.nd).mp (l2.2.trans l1.2.symm))
end
/-! ### slots -/
structure ER (K : PySem.W.Frag) (W : Wo) (σ : L2.St) (ρ : En) : Prop where
  ln : σ.length = ρ.length
  at_ : ∀ (i : Nat) (x : AV), ρ[i]? = some (some x) → ∃ v, σ[i]? = some (some v) ∧ RVw K W v x
section
variable {K : PySem.W.Frag} {W W1 : Wo} {σ : L2.St} {ρ : En} {v : V} {x : AV}
theorem ER.ext (e : Ext W W1) (h : ER K W σ ρ) : ER K W1 σ ρ := ⟨h.ln, fun i x hi => by
  obtain ⟨v, h1, h2⟩ := h.at_ i x hi
  exact ⟨v, h1, e.rv h2⟩⟩
theorem ER.set (h : ER K W σ ρ) (r : RVw K W v x) (i : Nat) : ER K W (σ.set i (some v)) (ρ.set i (some x)) := ⟨by rw [List.length_set, List.length_set]; exact h.ln, fun j y hj => by
  by_cases e : j = i
  · subst e
    have hl : j < ρ.length := by
      have := (List.getElem?_eq_some_iff.mp hj).1
      simpa using this
    rw [List.getElem?_set_self hl] at hj
    cases hj
    exact ⟨v, List.getElem?_set_self (by rw [h.ln]; exact hl), r⟩
  · rw [List.getElem?_set_ne (Ne.symm e)] at hj ⊢
    exact h.at_ j y hj⟩
theorem ER.forget (h : ER K W σ ρ) {ρ' : En} (l : ρ'.length = ρ.length) (f : ∀ (i : Nat) (x : AV), ρ'[i]? = some (some x) → ρ[i]? = some (some x)) : ER K W σ ρ' := ⟨by rw [l]; exact h.ln, fun i x hi => h.at_ i x (f i x hi)⟩
theorem er_start {N : List Str} {vs : List V} {xs : List AV} (h : RLw K W vs xs) : ER K W (L2.start N vs) (xs.map some ++ List.replicate (N.length - xs.length) none) := by
  have hl := h.len
  refine ⟨by simp [L2.start, hl], fun i x hi => ?_⟩
  by_cases hx : i < xs.length
  · rw [List.getElem?_append_left (by simpa using hx), List.getElem?_map] at hi
    cases e : xs[i]? with
    | none => rw [e] at hi; cases hi
    | some y =>
      rw [e] at hi
      cases hi
      obtain ⟨v, e1, e2⟩ := h.get e
      refine ⟨v, ?_, e2⟩
      unfold L2.start
      rw [List.getElem?_append_left (by rw [List.length_map, hl]; exact hx), List.getElem?_map, e1]
      rfl
  · rw [List.getElem?_append_right (by simpa using hx)] at hi
    have := List.mem_of_getElem? hi
    rw [List.mem_replicate] at this
    cases this.2
end
/-! ### what is wanted behind -/
def XD (H : Hp) (dx : Addr) (v : V) : Prop := H dx = some (.xd [("value", v)])
def PostE (K : PySem.W.Frag) (E : L2.XK) (W : Wo) (m : Res AV) (Q : VK) : Prop := match m with
  | .ok x S => ∀ v W', Ext W W' → Wd K W' S → RVw K W' v x → Q v W'.H
  | .ex C x S => ∀ v dx W', Ext W W' → Wd K W' S → RVw K W' v x → XD W'.H dx v → E (.ref C) (some dx) W'.H
  | .no => False
def PostA (K : PySem.W.Frag) (E : L2.XK) (W : Wo) (m : Res (List AV)) (Q : List V → Hp → Prop) : Prop := match m with
  | .ok x S => ∀ v W', Ext W W' → Wd K W' S → RLw K W' v x → Q v W'.H
  | .ex C x S => ∀ v dx W', Ext W W' → Wd K W' S → RVw K W' v x → XD W'.H dx v → E (.ref C) (some dx) W'.H
  | .no => False
def PostT (K : PySem.W.Frag) (E : L2.XK) (W : Wo) (m : Res Bool) (Q : Bool → Hp → Prop) : Prop := match m with
  | .ok b S => ∀ W', Ext W W' → Wd K W' S → Q b W'.H
  | .ex C x S => ∀ v dx W', Ext W W' → Wd K W' S → RVw K W' v x → XD W'.H dx v → E (.ref C) (some dx) W'.H
  | .no => False
/-- an exception is as good as wanted -/
def Bad {α : Type} (K : PySem.W.Frag) (E : L2.XK) (W : Wo) (m : Res α) : Prop := match m with
  | .ok _ _ => True
  | .ex C x S => ∀ v dx W', Ext W W' → Wd K W' S → RVw K W' v x → XD W'.H dx v → E (.ref C) (some dx) W'.H
  | .no => False
section
variable {K : PySem.W.Frag} {E : L2.XK} {W W1 : Wo} {Q : VK}
theorem PostE.ext {m : Res AV} (e : Ext W W1) (h : PostE K E W m Q) : PostE K E W1 m Q := by
  cases m with
  | ok x S => exact fun v W' e' => h v W' (e.trans e')
  | ex C x S => exact fun v dx W' e' => h v dx W' (e.trans e')
  | no => exact h
theorem PostT.ext {m : Res Bool} {Q : Bool → Hp → Prop} (e : Ext W W1) (h : PostT K E W m Q) : PostT K E W1 m Q := by
  cases m with
  | ok x S => exact fun W' e' => h W' (e.trans e')
  | ex C x S => exact fun v dx W' e' => h v dx W' (e.trans e')
  | no => exact h
theorem PostA.ext {m : Res (List AV)} {Q : List V → Hp → Prop} (e : Ext W W1) (h : PostA K E W m Q) : PostA K E W1 m Q := by
  cases m with
  | ok x S => exact fun v W' e' => h v W' (e.trans e')
  | ex C x S => exact fun v dx W' e' => h v dx W' (e.trans e')
  | no => exact h
end
/-- t's reading by den -/
def RE (K : PySem.W.Frag) (E : L2.XK) (t : TE) (den : En → Sto → Res AV) : Prop := ∀ (W : Wo) (S : Sto) (σ : L2.St) (ρ : En) (Q : VK), Wd K W S → ER K W σ ρ → PostE K E W (den ρ S) Q → t σ W.H Q
def RT (K : PySem.W.Frag) (E : L2.XK) (t : TT) (den : En → Sto → Res Bool) : Prop := ∀ (W : Wo) (S : Sto) (σ : L2.St) (ρ : En) (Q : Bool → Hp → Prop), Wd K W S → ER K W σ ρ → PostT K E W (den ρ S) Q → t σ W.H Q
def RA (K : PySem.W.Frag) (E : L2.XK) (t : TA) (den : En → Sto → Res (List AV)) : Prop := ∀ (W : Wo) (S : Sto) (σ : L2.St) (ρ : En) (Q : List V → Hp → Prop), Wd K W S → ER K W σ ρ → PostA K E W (den ρ S) Q → t σ W.H Q
section
variable {K : PySem.W.Frag} {E : L2.XK} {W : Wo} {S : Sto} {σ : L2.St} {ρ : En}
/-- an expression first -/
theorem RE.step {t : TE} {den : En → Sto → Res AV} (h : RE K E t den) {k : AV → Sto → Res AV} {Q : VK} {R : VK} (w : Wd K W S) (r : ER K W σ ρ) (p : PostE K E W ((den ρ S).bind k) Q)
    (q : ∀ v x W1 S1, Ext W W1 → Wd K W1 S1 → ER K W1 σ ρ → RVw K W1 v x → PostE K E W1 (k x S1) Q → R v W1.H) : t σ W.H R := by
  refine h W S σ ρ R w r ?_
  cases e : den ρ S with
  | ok x S1 =>
    rw [e] at p
    exact fun v W1 e1 w1 r1 => q v x W1 S1 e1 w1 (r.ext e1) r1 (PostE.ext e1 p)
  | ex C x S1 => rw [e] at p; exact p
  | no => rw [e] at p; exact p
theorem RE.stepT {t : TE} {den : En → Sto → Res AV} (h : RE K E t den) {k : AV → Sto → Res Bool} {Q : Bool → Hp → Prop} {R : VK} (w : Wd K W S) (r : ER K W σ ρ) (p : PostT K E W ((den ρ S).bind k) Q)
    (q : ∀ v x W1 S1, Ext W W1 → Wd K W1 S1 → ER K W1 σ ρ → RVw K W1 v x → PostT K E W1 (k x S1) Q → R v W1.H) : t σ W.H R := by
  refine h W S σ ρ R w r ?_
  cases e : den ρ S with
  | ok x S1 =>
    rw [e] at p
    exact fun v W1 e1 w1 r1 => q v x W1 S1 e1 w1 (r.ext e1) r1 (PostT.ext e1 p)
  | ex C x S1 => rw [e] at p; exact p
  | no => rw [e] at p; exact p
theorem RE.stepA {t : TE} {den : En → Sto → Res AV} (h : RE K E t den) {k : AV → Sto → Res (List AV)} {Q : List V → Hp → Prop} {R : VK} (w : Wd K W S) (r : ER K W σ ρ) (p : PostA K E W ((den ρ S).bind k) Q)
    (q : ∀ v x W1 S1, Ext W W1 → Wd K W1 S1 → ER K W1 σ ρ → RVw K W1 v x → PostA K E W1 (k x S1) Q → R v W1.H) : t σ W.H R := by
  refine h W S σ ρ R w r ?_
  cases e : den ρ S with
  | ok x S1 =>
    rw [e] at p
    exact fun v W1 e1 w1 r1 => q v x W1 S1 e1 w1 (r.ext e1) r1 (PostA.ext e1 p)
  | ex C x S1 => rw [e] at p; exact p
  | no => rw [e] at p; exact p
theorem RA.step {t : TA} {den : En → Sto → Res (List AV)} (h : RA K E t den) {k : List AV → Sto → Res AV} {Q : VK} {R : List V → Hp → Prop} (w : Wd K W S) (r : ER K W σ ρ) (p : PostE K E W ((den ρ S).bind k) Q)
    (q : ∀ v x W1 S1, Ext W W1 → Wd K W1 S1 → ER K W1 σ ρ → RLw K W1 v x → PostE K E W1 (k x S1) Q → R v W1.H) : t σ W.H R := by
  refine h W S σ ρ R w r ?_
  cases e : den ρ S with
  | ok x S1 =>
    rw [e] at p
    exact fun v W1 e1 w1 r1 => q v x W1 S1 e1 w1 (r.ext e1) r1 (PostE.ext e1 p)
  | ex C x S1 => rw [e] at p; exact p
  | no => rw [e] at p; exact p
theorem RA.stepA {t : TA} {den : En → Sto → Res (List AV)} (h : RA K E t den) {k : List AV → Sto → Res (List AV)} {Q : List V → Hp → Prop} {R : List V → Hp → Prop} (w : Wd K W S) (r : ER K W σ ρ) (p : PostA K E W ((den ρ S).bind k) Q)
    (q : ∀ v x W1 S1, Ext W W1 → Wd K W1 S1 → ER K W1 σ ρ → RLw K W1 v x → PostA K E W1 (k x S1) Q → R v W1.H) : t σ W.H R := by
  refine h W S σ ρ R w r ?_
  cases e : den ρ S with
  | ok x S1 =>
    rw [e] at p
    exact fun v W1 e1 w1 r1 => q v x W1 S1 e1 w1 (r.ext e1) r1 (PostA.ext e1 p)
  | ex C x S1 => rw [e] at p; exact p
  | no => rw [e] at p; exact p
theorem RT.step {t : TT} {den : En → Sto → Res Bool} (h : RT K E t den) {k : Bool → Sto → Res AV} {Q : VK} {R : Bool → Hp → Prop} (w : Wd K W S) (r : ER K W σ ρ) (p : PostE K E W ((den ρ S).bind k) Q)
    (q : ∀ b W1 S1, Ext W W1 → Wd K W1 S1 → ER K W1 σ ρ → PostE K E W1 (k b S1) Q → R b W1.H) : t σ W.H R := by
  refine h W S σ ρ R w r ?_
  cases e : den ρ S with
  | ok x S1 =>
    rw [e] at p
    exact fun W1 e1 w1 => q x W1 S1 e1 w1 (r.ext e1) (PostE.ext e1 p)
  | ex C x S1 => rw [e] at p; exact p
  | no => rw [e] at p; exact p
theorem RT.stepT {t : TT} {den : En → Sto → Res Bool} (h : RT K E t den) {k : Bool → Sto → Res Bool} {Q : Bool → Hp → Prop} {R : Bool → Hp → Prop} (w : Wd K W S) (r : ER K W σ ρ) (p : PostT K E W ((den ρ S).bind k) Q)
    (q : ∀ b W1 S1, Ext W W1 → Wd K W1 S1 → ER K W1 σ ρ → PostT K E W1 (k b S1) Q → R b W1.H) : t σ W.H R := by
  refine h W S σ ρ R w r ?_
  cases e : den ρ S with
  | ok x S1 =>
    rw [e] at p
    exact fun W1 e1 w1 => q x W1 S1 e1 w1 (r.ext e1) (PostT.ext e1 p)
  | ex C x S1 => rw [e] at p; exact p
  | no => rw [e] at p; exact p
/-- ends here -/
theorem PostE.end_ {x : AV} {Q : VK} {v : V} (w : Wd K W S) (p : PostE K E W (.ok x S) Q) (r : RVw K W v x) : Q v W.H := p v W Ext.refl w r
end
end My

namespace My
open PySem PySem.Spec L2
open Classical
/-! ### reading -/
def rel : PyData → AV
  | .list xs => .r (.list xs)
  | .tuple xs => .r (.tuple xs)
  | .dict xs => .r (.dict xs)
  | .none => .d .none
  | .bool b => .d (.bool b)
  | .int i => .d (.int i)
  | .str s => .d (.str s)
abbrev iA (i : Int) : AV := .d (.int i)
abbrev bA (b : Bool) : AV := .d (.bool b)
abbrev nA : AV := .d .none
def look (S : Sto) : AV → Option (List AV)
  | .d (.list ds) => some (ds.map .d)
  | .r (.list ds) => some (ds.map rel)
  | .c n => match S[n]? with
    | some (.lst xs) => some xs
    | _ => none
  | _ => none
def lookT : AV → Option (List AV)
  | .d (.tuple ds) => some (ds.map .d)
  | .r (.tuple ds) => some (ds.map rel)
  | .t xs => some xs
  | _ => none
def asI : AV → Option Int
  | .d (.int i) => some i
  | _ => none
def asB : AV → Option Bool
  | .d (.bool b) => some b
  | _ => none
section
variable {K : PySem.W.Frag} {W : Wo} {S : Sto} {v : V} {x : AV}
theorem rel_rv {d : PyData} (h : Dp K W.B v d) : RVw K W v (rel d) := by
  cases d with
  | none => cases h; exact .d .non
  | bool b => cases h; exact .d (.bl b)
  | int i => cases h; exact .d (.int i)
  | str s => cases h; exact .d (.str s)
  | list ds => exact .r h
  | tuple ds => exact .r h
  | dict ds => exact .r h
theorem rel_rl : ∀ {vs : List V} {ds : List PyData}, DpAll K W.B vs ds → RLw K W vs (ds.map rel)
  | _, _, .nil => .nil
  | _, _, .cons a r => .cons (rel_rv a) (rel_rl r)
theorem cell_lst (w : Wd K W S) {n : Nat} {a : Addr} {xs : List AV} (h : W.ι[n]? = some a) (e : S[n]? = some (.lst xs)) : ∃ vs, W.H a = some (.lst vs) ∧ RLw K W vs xs := by
  obtain ⟨a', o, e1, e2, e3⟩ := w.cl n _ e
  rw [h] at e1
  cases e1
  cases e3 with
  | lst h => exact ⟨_, e2, h⟩
theorem look_ok (w : Wd K W S) (r : RVw K W v x) {xs : List AV} (h : look S x = some xs) : ∃ a vs, v = .ref a ∧ SqL K W.H a vs ∧ RLw K W vs xs := by
  cases r with
  | d r =>
    cases r with
    | lst h1 h2 => cases h; exact ⟨_, _, rfl, w.fr.seq h1, .ofD h2⟩
    | _ => cases h
  | r r =>
    cases r with
    | lst h1 h2 => cases h; exact ⟨_, _, rfl, w.br.seq h1, rel_rl h2⟩
    | _ => cases h
  | @c a n hn =>
    simp only [look] at h
    cases e : S[n]? with
    | none => rw [e] at h; cases h
    | some oc =>
      rw [e] at h
      cases oc with
      | lst ys =>
        cases h
        obtain ⟨vs, h1, h2⟩ := cell_lst w hn e
        exact ⟨a, vs, rfl, SqL.of h1, h2⟩
      | _ => cases h
  | _ => cases h
theorem lookT_ok (w : Wd K W S) (r : RVw K W v x) {xs : List AV} (h : lookT x = some xs) : ∃ a vs, v = .ref a ∧ SqT K W.H a vs ∧ RLw K W vs xs := by
  cases r with
  | d r =>
    cases r with
    | tup h1 h2 => cases h; exact ⟨_, _, rfl, sqT_same w.fr h1, .ofD h2⟩
    | _ => cases h
  | r r =>
    cases r with
    | tup h1 h2 => cases h; exact ⟨_, _, rfl, sqT_same w.br h1, rel_rl h2⟩
    | _ => cases h
  | t h1 h2 => cases h; exact ⟨_, _, rfl, sqT_same w.fr h1, h2⟩
  | _ => cases h
theorem asI_ok (r : RVw K W v x) {i : Int} (h : asI x = some i) : v = .int i := by
  cases r with
  | d r => cases r with
    | int j => cases h; rfl
    | _ => cases h
  | _ => cases h
theorem asB_ok (r : RVw K W v x) {i : Bool} (h : asB x = some i) : v = .bl i := by
  cases r with
  | d r => cases r with
    | bl j => cases h; rfl
    | _ => cases h
  | _ => cases h
def asInts : List AV → Option (List Int)
  | [] => some []
  | x :: r => match asI x, asInts r with
    | some i, some is => some (i :: is)
    | _, _ => none
def asBools : List AV → Option (List Bool)
  | [] => some []
  | x :: r => match asB x, asBools r with
    | some i, some is => some (i :: is)
    | _, _ => none
theorem asInts_ok : ∀ {vs : List V} {xs : List AV} {is : List Int}, RLw K W vs xs → asInts xs = some is → vs = is.map V.int
  | _, _, _, .nil, h => by cases h; rfl
  | _, _, _, .cons (x := x) (xs := xs) a r, h => by
    unfold asInts at h
    cases e1 : asI x with
    | none => rw [e1] at h; cases h
    | some i =>
      cases e2 : asInts xs with
      | none => rw [e1, e2] at h; cases h
      | some is =>
        rw [e1, e2] at h
        cases h
        rw [asI_ok a e1, asInts_ok r e2]
        rfl
theorem asBools_ok : ∀ {vs : List V} {xs : List AV} {is : List Bool}, RLw K W vs xs → asBools xs = some is → vs = is.map V.bl
  | _, _, _, .nil, h => by cases h; rfl
  | _, _, _, .cons (x := x) (xs := xs) a r, h => by
    unfold asBools at h
    cases e1 : asB x with
    | none => rw [e1] at h; cases h
    | some i =>
      cases e2 : asBools xs with
      | none => rw [e1, e2] at h; cases h
      | some is =>
        rw [e1, e2] at h
        cases h
        rw [asB_ok a e1, asBools_ok r e2]
        rfl
end
@[simp] theorem asInts_map (ns : List Int) : asInts (ns.map fun i => iA i) = some ns := by
  induction ns with
  | nil => rfl
  | cons a r ih => simp [asInts, asI, ih]
@[simp] theorem asBools_map (ns : List Bool) : asBools (ns.map fun i => bA i) = some ns := by
  induction ns with
  | nil => rfl
  | cons a r ih => simp [asBools, asB, ih]
/-! ### whole data -/
def rbs (f : AV → Option PyData) : List AV → Option (List PyData)
  | [] => some []
  | x :: r => match f x, rbs f r with
    | some d, some ds => some (d :: ds)
    | _, _ => none
/-- what is read as data, k deep; al: that which does not change while the def runs, too -/
def rb (al : Bool) : Nat → Sto → AV → Option PyData
  | _, _, .d x => some x
  | _, _, .r x => if al = true then some x else none
  | k + 1, S, .c n => match S[n]? with
    | some (.lst xs) => (rbs (rb al k S) xs).map .list
    | _ => none
  | k + 1, S, .t xs => (rbs (rb al k S) xs).map .tuple
  | _, _, _ => none
@[simp] theorem rbs_d {f : AV → Option PyData} (h : ∀ x, f (.d x) = some x) (ds : List PyData) : rbs f (ds.map .d) = some ds := by
  induction ds with
  | nil => rfl
  | cons a r ih => simp [rbs, h, ih]
section
variable {K : PySem.W.Frag} {W : Wo} {S : Sto} {al : Bool} {G : Hp}
theorem rb_dp (w : Wd K W S) (hF : Same W.F G) (hB : al = true → Same W.B G) (hC : ∀ a o, a ∈ W.ι → W.H a = some o → G a = some o) : ∀ (k : Nat) {v : V} {x : AV} {d : PyData}, RVw K W v x → rb al k S x = some d → Dp K G v d := by
  have all : ∀ (f : AV → Option PyData), (∀ {v : V} {x : AV} {d : PyData}, RVw K W v x → f x = some d → Dp K G v d) → ∀ {vs : List V} {xs : List AV} {ds : List PyData}, RLw K W vs xs → rbs f xs = some ds → DpAll K G vs ds := by
    intro f hf vs xs
    induction xs generalizing vs with
    | nil => intro ds r h; cases r; cases h; exact .nil
    | cons x xs ih =>
      intro ds r h
      cases r with
      | cons a r =>
        unfold rbs at h
        cases e1 : f x with
        | none => rw [e1] at h; cases h
        | some d =>
          cases e2 : rbs f xs with
          | none => rw [e1, e2] at h; cases h
          | some ds' =>
            rw [e1, e2] at h
            cases h
            exact .cons (hf a e1) (ih r e2)
  have base : ∀ (k : Nat) {v : V} {x : PyData} {d : PyData}, (RVw K W v (.d x) → rb al k S (.d x) = some d → Dp K G v d) ∧ (RVw K W v (.r x) → rb al k S (.r x) = some d → Dp K G v d) := by
    intro k v x d
    constructor
    · intro r h
      unfold rb at h
      cases h
      cases r with
      | d r => exact Dp.same hF r
    · intro r h
      unfold rb at h
      split at h
      · rename_i ha
        cases h
        cases r with
        | r r => exact Dp.same (hB ha) r
      · cases h
  intro k
  induction k with
  | zero =>
    intro v x d r h
    cases x with
    | d x => exact (base 0).1 r h
    | r x => exact (base 0).2 r h
    | _ => simp [rb] at h
  | succ k ih =>
    intro v x d r h
    cases x with
    | d x => exact (base (k + 1)).1 r h
    | r x => exact (base (k + 1)).2 r h
    | c n =>
      unfold rb at h
      cases e : S[n]? with
      | none => rw [e] at h; cases h
      | some oc =>
        rw [e] at h
        cases oc with
        | lst xs =>
          cases r with
          | c hn =>
            obtain ⟨vs, h1, h2⟩ := cell_lst w hn e
            cases e2 : rbs (rb al k S) xs with
            | none => simp [e2] at h
            | some ds =>
              simp [e2] at h
              subst h
              exact .lst (SqL.of (hC _ _ (List.mem_of_getElem? hn) h1)) (all _ ih h2 e2)
        | _ => cases h
    | t xs =>
      cases r with
      | t h1 h2 =>
        unfold rb at h
        cases e2 : rbs (rb al k S) xs with
        | none => simp [e2] at h
        | some ds =>
          simp [e2] at h
          subst h
          exact .tup (sqT_same hF h1) (all _ ih h2 e2)
    | g v => simp [rb] at h
theorem rb_now (w : Wd K W S) {k : Nat} {v : V} {x : AV} {d : PyData} (r : RVw K W v x) (h : rb al k S x = some d) : Dp K W.H v d := rb_dp w w.fr (fun _ => w.br) (fun _ _ _ h => h) k r h
end
/-! ### new objects -/
def allD : List AV → Option (List PyData)
  | [] => some []
  | .d x :: r => (allD r).map (x :: ·)
  | _ => none
def mkT (xs : List AV) : AV := match allD xs with
  | some ds => .d (.tuple ds)
  | none => .t xs
def newL (xs : List AV) (S : Sto) : Res AV := .ok (.c S.length) (S ++ [.lst xs])
section
variable {K : PySem.W.Frag} {E : L2.XK} {W : Wo} {S : Sto} {Q : VK} {vs : List V} {xs : List AV} {p : Addr}
theorem allD_ok {F B : Hp} {ι : List Addr} : ∀ {vs : List V} {xs : List AV} {ds : List PyData}, RVL K F B ι vs xs → allD xs = some ds → DpAll K F vs ds
  | _, _, _, .nil, h => by cases h; exact .nil
  | _, _, _, .cons (x := x) (xs := xs) a r, h => by
    cases x with
    | d x =>
      unfold allD at h
      cases e : allD xs with
      | none => rw [e] at h; cases h
      | some ds =>
        rw [e] at h
        cases h
        cases a with
        | d a => exact .cons a (allD_ok r e)
    | _ => cases h
theorem tup_rv (w : Wd K W S) (h : W.H p = none) (r : RLw K W vs xs) : RVw K (W.frz p (.tup vs)) (.ref p) (mkT xs) := by
  have r' := (ext_frz (o := .tup vs) w h).rl r
  have hp : SqT K (W.frz p (.tup vs)).F p vs := SqT.of upd_same
  unfold mkT
  cases e : allD xs with
  | none => exact .t hp r'
  | some ds => exact .d (.tup hp (allD_ok r' e))
theorem post_tup (w : Wd K W S) (r : RLw K W vs xs) (h : PostE K E W (.ok (mkT xs) S) Q) : ∀ p, W.H p = none → Q (.ref p) (upd W.H p (.tup vs)) := fun p hp =>
  h (.ref p) (W.frz p (.tup vs)) (ext_frz w hp) (wd_frz w hp) (tup_rv w hp r)
theorem post_lst (w : Wd K W S) (r : RLw K W vs xs) (h : PostE K E W (newL xs S) Q) : ∀ p, W.H p = none → Q (.ref p) (upd W.H p (.lst vs)) := fun p hp =>
  h (.ref p) (W.new p (.lst vs)) (ext_new w hp) (wd_new w hp (.lst ((ext_new w hp).rl r))) (.c (by
    show (W.ι ++ [p])[S.length]? = some p
    rw [← w.ln]
    simp))
/-- a cell is written -/
theorem post_wr (w : Wd K W S) {n : Nat} {a : Addr} {o : HO} {oc : OC} {v : V} {x : AV} (hn : W.ι[n]? = some a) (r : ROC K W o oc) (h : PostE K E W (.ok x (S.set n oc)) Q) (hv : ∀ W', Ext W W' → RVw K W' v x) : Q v (upd W.H a o) :=
  h v (W.wr a o) (ext_wr (List.mem_of_getElem? hn)) (wd_wr w hn r) (hv _ (ext_wr (List.mem_of_getElem? hn)))
end
/-! ### refinements of rules -/
def R2R (K : PySem.W.Frag) (E : L2.XK) (r : R2) (f : AV → AV → Sto → Res AV) : Prop := ∀ (W : Wo) (S : Sto) (x y : V) (a b : AV) (Q : VK), Wd K W S → RVw K W x a → RVw K W y b → PostE K E W (f a b S) Q → r x y W.H Q
def UR (K : PySem.W.Frag) (E : L2.XK) (r : V → Hp → VK → Prop) (f : AV → Sto → Res AV) : Prop := ∀ (W : Wo) (S : Sto) (x : V) (a : AV) (Q : VK), Wd K W S → RVw K W x a → PostE K E W (f a S) Q → r x W.H Q
def CRR (K : PySem.W.Frag) (E : L2.XK) (r : List V → Hp → VK → Prop) (f : List AV → Sto → Res AV) : Prop := ∀ (W : Wo) (S : Sto) (x : List V) (a : List AV) (Q : VK), Wd K W S → RLw K W x a → PostE K E W (f a S) Q → r x W.H Q
def MRR (K : PySem.W.Frag) (E : L2.XK) (r : V → List V → Hp → VK → Prop) (f : AV → List AV → Sto → Res AV) : Prop := ∀ (W : Wo) (S : Sto) (o : V) (b : AV) (x : List V) (a : List AV) (Q : VK), Wd K W S → RVw K W o b → RLw K W x a → PostE K E W (f b a S) Q → r o x W.H Q
def SRR (K : PySem.W.Frag) (E : L2.XK) (r : V → Option Int → Option Int → Hp → VK → Prop) (f : AV → Option Int → Option Int → Sto → Res AV) : Prop := ∀ (W : Wo) (S : Sto) (o : V) (b : AV) (l h : Option Int) (Q : VK), Wd K W S → RVw K W o b → PostE K E W (f b l h S) Q → r o l h W.H Q
section
variable {K : PySem.W.Frag} {E : L2.XK} {W : Wo} {S : Sto}
/-- a value that needs no heap -/
theorem post_val {x : AV} {v : V} {Q : VK} (w : Wd K W S) (h : PostE K E W (.ok x S) Q) (r : RVw K W v x) : Q v W.H := h v W Ext.refl w r
def fI (g : Int → Int → PyData) : AV → AV → Sto → Res AV := fun a b S => match asI a, asI b with
  | some i, some j => .ok (.d (g i j)) S
  | _, _ => .no
theorem post_no {Q : VK} : ¬ PostE K E W (.no) Q := fun h => h
theorem rr_I {g : Int → Int → V} {f : Int → Int → PyData} (h : ∀ F i j, Dp K F (g i j) (f i j)) : R2R K E (rI0 g) (fI f) := by
  intro W S x y a b Q w ra rb p
  unfold fI at p
  cases e1 : asI a with
  | none => rw [e1] at p; exact p.elim
  | some i =>
    cases e2 : asI b with
    | none => rw [e1, e2] at p; exact p.elim
    | some j =>
      rw [e1, e2] at p
      exact ⟨i, j, asI_ok ra e1, asI_ok rb e2, post_val w p (.d (h _ i j))⟩
theorem rr_int {g : Int → Int → Int} : R2R K E (rI0 fun i j => .int (g i j)) (fI fun i j => .int (g i j)) := rr_I fun _ _ _ => .int _
theorem rr_bl {g : Int → Int → Bool} : R2R K E (rI0 fun i j => .bl (g i j)) (fI fun i j => .bool (g i j)) := rr_I fun _ _ _ => .bl _
noncomputable def fIC (C : Int → Int → Prop) (g : Int → Int → PyData) : AV → AV → Sto → Res AV := fun a b S => match asI a, asI b with
  | some i, some j => if C i j then .ok (.d (g i j)) S else .no
  | _, _ => .no
theorem rr_IC {C : Int → Int → Prop} {g : Int → Int → Int} : R2R K E (rI C fun i j => .int (g i j)) (fIC C fun i j => .int (g i j)) := by
  intro W S x y a b Q w ra rb p
  unfold fIC at p
  cases e1 : asI a with
  | none => rw [e1] at p; exact p.elim
  | some i =>
    cases e2 : asI b with
    | none => rw [e1, e2] at p; exact p.elim
    | some j =>
      rw [e1, e2] at p
      by_cases hc : C i j
      · simp only [if_pos hc] at p
        exact ⟨i, j, asI_ok ra e1, asI_ok rb e2, hc, post_val w p (.d (.int _))⟩
      · simp only [if_neg hc] at p
        exact p.elim
def fU (g : Int → Int) : AV → Sto → Res AV := fun a S => match asI a with
  | some i => .ok (iA (g i)) S
  | none => .no
theorem ur_int {g : Int → Int} : UR K E (rU fun i => .int (g i)) (fU g) := by
  intro W S x a Q w ra p
  unfold fU at p
  cases e1 : asI a with
  | none => rw [e1] at p; exact p.elim
  | some i =>
    rw [e1] at p
    exact ⟨i, asI_ok ra e1, post_val w p (.d (.int _))⟩
/-- is None -/
def isN : AV → Option Bool
  | .d .none => some true
  | .r .none => some true
  | .g _ => none
  | _ => some false
theorem isN_ok {v : V} {x : AV} (r : RVw K W v x) {b : Bool} (h : isN x = some b) : decide (v = .non) = b := by
  cases r with
  | d r => cases r <;> cases h <;> simp
  | r r => cases r <;> cases h <;> simp
  | c r => cases h; simp
  | g => cases h
  | t r => cases h; simp
end
end My

namespace My
open PySem PySem.Spec L2
open Classical
abbrev EV := En → Sto → Res AV
abbrev TV := En → Sto → Res Bool
abbrev LV := En → Sto → Res (List AV)
section
variable {K : PySem.W.Frag} {E : L2.XK} {ta tb tc : TE} {da db dc : EV}
/-! ### names, constants -/
def eVar (i : Nat) : EV := fun ρ S => match ρ[i]? with
  | some (some x) => .ok x S
  | _ => .no
theorem re_var {i : Nat} : RE K E (tVar i) (eVar i) := by
  intro W S σ ρ Q w r p
  unfold eVar at p
  cases e : ρ[i]? with
  | none => rw [e] at p; exact p.elim
  | some o =>
    cases o with
    | none => rw [e] at p; exact p.elim
    | some x =>
      rw [e] at p
      obtain ⟨v, h1, h2⟩ := r.at_ i x e
      exact ⟨v, h1, post_val w p h2⟩
def eK (x : AV) : EV := fun _ S => .ok x S
theorem re_c {v : V} {x : AV} (h : ∀ F B ι, RV K F B ι v x) : RE K E (tC v) (eK x) := fun W S σ ρ Q w r p => post_val w p (h _ _ _)
theorem re_int {i : Int} : RE K E (tC (.int i)) (eK (iA i)) := re_c fun _ _ _ => .d (.int i)
theorem re_bl {i : Bool} : RE K E (tC (.bl i)) (eK (bA i)) := re_c fun _ _ _ => .d (.bl i)
theorem re_non : RE K E (tC .non) (eK nA) := re_c fun _ _ _ => .d .non
theorem re_str {x : Str} : RE K E (tC (.str x)) (eK (.d (.str x))) := re_c fun _ _ _ => .d (.str x)
theorem re_g {v : V} : RE K E (tC v) (eK (.g v)) := re_c fun _ _ _ => .g
/-! ### operators -/
def eOp (f : AV → AV → Sto → Res AV) (da db : EV) : EV := fun ρ S => (da ρ S).bind fun x S1 => (db ρ S1).bind fun y S2 => f x y S2
theorem re_op {r : R2} {f : AV → AV → Sto → Res AV} (h : R2R K E r f) (ha : RE K E ta da) (hb : RE K E tb db) : RE K E (tOp r ta tb) (eOp f da db) := by
  intro W S σ ρ Q w r p
  refine ha.step w r p fun x a W1 S1 e1 w1 r1 v1 p1 => ?_
  refine hb.step w1 r1 p1 fun y b W2 S2 e2 w2 r2 v2 p2 => ?_
  exact h W2 S2 x y a b Q w2 (e2.rv v1) v2 p2
def eUn (f : AV → Sto → Res AV) (da : EV) : EV := fun ρ S => (da ρ S).bind f
theorem re_un {r : V → Hp → VK → Prop} {f : AV → Sto → Res AV} (h : UR K E r f) (ha : RE K E ta da) : RE K E (tUn r ta) (eUn f da) := by
  intro W S σ ρ Q w r p
  exact ha.step w r p fun x a W1 S1 e1 w1 r1 v1 p1 => h W1 S1 x a Q w1 v1 p1
/-- is None -/
def fIsN (neg : Bool) : AV → AV → Sto → Res AV := fun a b S => match b, isN a with
  | .d .none, some c => .ok (bA (if neg = true then !c else c)) S
  | _, _ => .no
theorem rr_isN : R2R K E (fun x y H Q => y = .non ∧ Q (.bl (decide (x = .non))) H) (fIsN false) := by
  intro W S x y a b Q w ra rb p
  unfold fIsN at p
  split at p
  · rename_i c e
    cases rb with
    | d rb => cases rb; exact ⟨rfl, by rw [isN_ok ra e]; exact post_val w p (.d (.bl _))⟩
  · exact p.elim
theorem rr_notN : R2R K E (fun x y H Q => y = .non ∧ Q (.bl (!decide (x = .non))) H) (fIsN true) := by
  intro W S x y a b Q w ra rb p
  unfold fIsN at p
  split at p
  · rename_i c e
    cases rb with
    | d rb => cases rb; exact ⟨rfl, by rw [isN_ok ra e]; exact post_val w p (.d (.bl _))⟩
  · exact p.elim
/-- is True -/
def fIsB (neg : Bool) : AV → AV → Sto → Res AV := fun a b S => match asB a, asB b with
  | some i, some j => .ok (bA (if neg = true then !decide (i = j) else decide (i = j))) S
  | _, _ => .no
/-- == of data -/
def fEq (neg : Bool) : AV → AV → Sto → Res AV := fun a b S => match rb true 8 S a, rb true 8 S b with
  | some d, some e => if SeqAt.shaped d = true ∧ SeqAt.shaped e = true then .ok (bA (if neg = true then !PyData.eqv d e else PyData.eqv d e)) S else .no
  | _, _ => .no
theorem rr_eqD : R2R K E (rEqD K) (fEq false) := by
  intro W S x y a b Q w r1 r2 p
  unfold fEq at p
  cases e1 : rb true 8 S a with
  | none => rw [e1] at p; exact p.elim
  | some d =>
    cases e2 : rb true 8 S b with
    | none => rw [e1, e2] at p; exact p.elim
    | some e =>
      simp only [e1, e2] at p
      by_cases h : SeqAt.shaped d = true ∧ SeqAt.shaped e = true
      · rw [if_pos h] at p
        exact ⟨d, e, rb_now w r1 e1, rb_now w r2 e2, h.1, h.2, post_val w p (.d (.bl _))⟩
      · rw [if_neg h] at p
        exact p.elim
theorem rr_neD : R2R K E (rNeD K) (fEq true) := by
  intro W S x y a b Q w r1 r2 p
  unfold fEq at p
  cases e1 : rb true 8 S a with
  | none => rw [e1] at p; exact p.elim
  | some d =>
    cases e2 : rb true 8 S b with
    | none => rw [e1, e2] at p; exact p.elim
    | some e =>
      simp only [e1, e2] at p
      by_cases h : SeqAt.shaped d = true ∧ SeqAt.shaped e = true
      · rw [if_pos h] at p
        exact ⟨d, e, rb_now w r1 e1, rb_now w r2 e2, h.1, h.2, post_val w p (.d (.bl _))⟩
      · rw [if_neg h] at p
        exact p.elim
/-- x in xs, flat -/
def flatA : AV → Option V
  | .d .none => some .non
  | .d (.bool b) => some (.bl b)
  | .d (.int i) => some (.int i)
  | .d (.str s) => some (.str s)
  | _ => none
def flatAs : List AV → Option (List V)
  | [] => some []
  | x :: r => match flatA x, flatAs r with
    | some v, some vs => some (v :: vs)
    | _, _ => none
theorem flatA_ok {W : Wo} {v u : V} {x : AV} (r : RVw K W v x) (h : flatA x = some u) : v = u ∧ flatV u = true := by
  cases r with
  | d r => cases r <;> cases h <;> exact ⟨rfl, rfl⟩
  | _ => cases h
theorem flatAs_ok {W : Wo} : ∀ {vs us : List V} {xs : List AV}, RLw K W vs xs → flatAs xs = some us → vs = us ∧ us.all flatV = true
  | _, _, _, .nil, h => by cases h; exact ⟨rfl, rfl⟩
  | _, _, _, .cons (x := x) (xs := xs) a r, h => by
    unfold flatAs at h
    cases e1 : flatA x with
    | none => rw [e1] at h; cases h
    | some i =>
      cases e2 : flatAs xs with
      | none => rw [e1, e2] at h; cases h
      | some is =>
        rw [e1, e2] at h
        cases h
        obtain ⟨h1, h2⟩ := flatA_ok a e1
        obtain ⟨h3, h4⟩ := flatAs_ok r e2
        refine ⟨by rw [h1, h3], ?_⟩
        rw [List.all_cons, h2, h4]
        rfl
@[simp] theorem flatAs_ints (ns : List Int) : flatAs (ns.map fun i => iA i) = some (ns.map V.int) := by
  induction ns with
  | nil => rfl
  | cons a r ih => simp [flatAs, flatA, ih]
@[simp] theorem inV_ints (i : Int) (ns : List Int) : inV (.int i) (ns.map V.int) = decide (i ∈ ns) := by
  unfold inV
  induction ns with
  | nil => rfl
  | cons a r ih =>
    rw [List.map_cons, List.any_cons, ih]
    by_cases h : a = i
    · subst h; simp [eqV]
    · have : i ≠ a := fun e => h e.symm
      simp [eqV, h, this]
def fIn (neg : Bool) : AV → AV → Sto → Res AV := fun a b S => match flatA a, (match look S b with | some xs => some xs | none => lookT b) with
  | some v, some xs => match flatAs xs with
    | some vs => .ok (bA (if neg = true then !inV v vs else inV v vs)) S
    | none => .no
  | _, _ => .no
theorem rr_in {neg : Bool} : R2R K E (rIn K neg) (fIn neg) := by
  intro W S x y a b Q w ra rb p
  unfold fIn at p
  cases e1 : flatA a with
  | none => rw [e1] at p; exact p.elim
  | some v =>
    rw [e1] at p
    obtain ⟨h1, h2⟩ := flatA_ok ra e1
    subst h1
    have fin : ∀ (q : Addr) (vs : List V) (xs : List AV), y = .ref q → (SqL K W.H q vs ∨ SqT K W.H q vs) → RLw K W vs xs → PostE K E W (match flatAs xs with
        | some vs => .ok (bA (if neg = true then !inV x vs else inV x vs)) S
        | none => .no) Q → rIn K neg x y W.H Q := by
      intro q vs xs e hs r p
      cases e2 : flatAs xs with
      | none => rw [e2] at p; exact p.elim
      | some us =>
        rw [e2] at p
        obtain ⟨h3, h4⟩ := flatAs_ok r e2
        subst h3
        exact ⟨q, vs, e, hs, h2, h4, post_val w p (.d (.bl _))⟩
    cases e2 : look S b with
    | some xs =>
      rw [e2] at p
      obtain ⟨q, vs, e3, h3, h4⟩ := look_ok w rb e2
      exact fin q vs xs e3 (.inl h3) h4 p
    | none =>
      rw [e2] at p
      cases e4 : lookT b with
      | none => rw [e4] at p; exact p.elim
      | some xs =>
        rw [e4] at p
        obtain ⟨q, vs, e3, h3, h4⟩ := lookT_ok w rb e4
        exact fin q vs xs e3 (.inr h3) h4 p
/-- lists joined -/
def cellL (S : Sto) : AV → Option (List AV)
  | .c n => match S[n]? with
    | some (.lst xs) => some xs
    | _ => none
  | _ => none
theorem cellL_ok {W : Wo} {S : Sto} {v : V} {x : AV} {xs : List AV} (w : Wd K W S) (r : RVw K W v x) (h : cellL S x = some xs) : ∃ n a vs, x = .c n ∧ v = .ref a ∧ W.ι[n]? = some a ∧ S[n]? = some (.lst xs) ∧ W.H a = some (.lst vs) ∧ RLw K W vs xs := by
  cases r with
  | @c a n hn =>
    simp only [cellL] at h
    cases e : S[n]? with
    | none => rw [e] at h; cases h
    | some oc =>
      rw [e] at h
      cases oc with
      | lst ys =>
        cases h
        obtain ⟨vs, h1, h2⟩ := cell_lst w hn e
        exact ⟨n, a, vs, rfl, rfl, hn, e, h1, h2⟩
      | _ => cases h
  | _ => cases h
def rCatS (K : PySem.W.Frag) : R2 := fun x y H Q => ∃ l b xs zs, x = .ref l ∧ y = .ref b ∧ SqL K H l xs ∧ SqL K H b zs ∧ xs.length + zs.length ≤ sizeLine ∧ ∀ p, H p = none → Q (.ref p) (upd H p (.lst (xs ++ zs)))
theorem op_catS {X : Cx} : OpR X (binaryOp .Add) (rCatS X.K) := by
  intro pins s σ H x y v u Q I rx ry h
  obtain ⟨l, b, xs, zs, rfl, rfl, hH, hB, hz, q⟩ := h
  cases rx
  cases ry
  obtain ⟨its, r, p1, _⟩ := I.list hH
  obtain ⟨its2, r2, p2, _⟩ := I.list hB
  have l1 := r.length
  have l2 := r2.length
  obtain ⟨⟨cls, dd, data, sl⟩, ho, hc, n, hd⟩ := p1.isList
  obtain ⟨⟨cls2, dd2, data2, sl2⟩, ho2, hc2, n2, hd2⟩ := p2.isList
  simp only at hc hd hc2 hd2
  subst hc hd hc2 hd2
  have ea : its.toArray ++ its2.toArray = (its ++ its2).toArray := by simp
  refine PySem.concat_meets ⟨_, ho, rfl⟩ ⟨_, ho2, rfl⟩ noFill_list_add seq_list_add PySem.F.slot_list_add PySem.F.entry_list_add (PySem.F.args_list_add_2 _ _) (PyProof.Rows.list_addW l b its.toArray its2.toArray n n2 dd dd2 sl sl2 (by simp; omega)) ⟨ho, ho2, ?_⟩
  rw [ea]
  exact ⟨.ref _, _, I.lnew (t' := s.toks) (r.append r2) (by rw [List.length_append]; omega), rfl, q _ I.fresh⟩
def fCat : AV → AV → Sto → Res AV := fun a b S => match look S a, look S b with
  | some xs, some ys => if xs.length + ys.length ≤ 1000 then newL (xs ++ ys) S else .no
  | _, _ => .no
theorem rr_cat : R2R K E (rCatS K) fCat := by
  intro W S x y a b Q w ra rb p
  unfold fCat at p
  cases e1 : look S a with
  | none => rw [e1] at p; exact p.elim
  | some xs =>
    cases e2 : look S b with
    | none => rw [e1, e2] at p; exact p.elim
    | some ys =>
      simp only [e1, e2] at p
      by_cases h : xs.length + ys.length ≤ 1000
      · rw [if_pos h] at p
        obtain ⟨l, vs, rfl, h1, r1⟩ := look_ok w ra e1
        obtain ⟨l2, us, rfl, h2, r2⟩ := look_ok w rb e2
        exact ⟨l, l2, vs, us, rfl, rfl, h1, h2, by rw [r1.len, r2.len]; exact line_small h, post_lst w (r1.append r2) p⟩
      · rw [if_neg h] at p
        exact p.elim
/-- xs[i] -/
def fIx : AV → AV → Sto → Res AV := fun a b S => match (match look S a with | some xs => some xs | none => lookT a), asI b with
  | some xs, some i => match atI xs i with
    | some x => .ok x S
    | none => .no
  | _, _ => .no
theorem atI_get {W : Wo} {vs : List V} {xs : List AV} {i : Int} {x : AV} (r : RLw K W vs xs) (h : atI xs i = some x) : ∃ v, atI vs i = some v ∧ RVw K W v x := by
  unfold atI at *
  rw [r.len]
  cases e : ixN xs.length i with
  | none => rw [e] at h; cases h
  | some j =>
    rw [e] at h
    exact r.get h
theorem rr_ix : R2R K E (fun x y H Q => rIxL K x y H Q ∨ rIxT K x y H Q) fIx := by
  intro W S x y a b Q w ra rb p
  unfold fIx at p
  cases e2 : asI b with
  | none => simp only [e2] at p; exact (by split at p <;> first | exact p.elim | (rename_i h; cases h))
  | some i =>
    have ey := asI_ok rb e2
    cases e1 : look S a with
    | some xs =>
      simp only [e1, e2] at p
      obtain ⟨q, vs, e3, h3, h4⟩ := look_ok w ra e1
      cases e5 : atI xs i with
      | none => rw [e5] at p; exact p.elim
      | some z =>
        rw [e5] at p
        obtain ⟨v, h5, h6⟩ := atI_get h4 e5
        exact .inl ⟨q, vs, i, v, e3, ey, h3, h5, post_val w p h6⟩
    | none =>
      simp only [e1, e2] at p
      cases e4 : lookT a with
      | none => rw [e4] at p; exact p.elim
      | some xs =>
        simp only [e4] at p
        obtain ⟨q, vs, e3, h3, h4⟩ := lookT_ok w ra e4
        cases e5 : atI xs i with
        | none => rw [e5] at p; exact p.elim
        | some z =>
          rw [e5] at p
          obtain ⟨v, h5, h6⟩ := atI_get h4 e5
          exact .inr ⟨q, vs, i, v, e3, ey, h3, h5, post_val w p h6⟩
/-! ### and, or, not, if -/
def eAnd (da db : EV) : EV := fun ρ S => (da ρ S).bind fun x S1 => match asB x with
  | some true => db ρ S1
  | some false => .ok (bA false) S1
  | none => .no
def eOr (da db : EV) : EV := fun ρ S => (da ρ S).bind fun x S1 => match asB x with
  | some true => .ok (bA true) S1
  | some false => db ρ S1
  | none => .no
def eNot (da : EV) : EV := fun ρ S => (da ρ S).bind fun x S1 => match asB x with
  | some b => .ok (bA !b) S1
  | none => .no
theorem re_and (ha : RE K E ta da) (hb : RE K E tb db) : RE K E (tAndV ta tb) (eAnd da db) := by
  intro W S σ ρ Q w r p
  refine ha.step w r p fun x a W1 S1 e1 w1 r1 v1 p1 => ?_
  cases e : asB a with
  | none => rw [e] at p1; exact p1.elim
  | some c =>
    rw [e] at p1
    cases c with
    | true => exact ⟨true, asB_ok v1 e, by rw [if_pos rfl]; exact hb W1 S1 σ ρ Q w1 r1 p1⟩
    | false => exact ⟨false, asB_ok v1 e, by rw [if_neg nofun]; exact post_val w1 p1 (.d (.bl _))⟩
theorem re_or (ha : RE K E ta da) (hb : RE K E tb db) : RE K E (tOrV ta tb) (eOr da db) := by
  intro W S σ ρ Q w r p
  refine ha.step w r p fun x a W1 S1 e1 w1 r1 v1 p1 => ?_
  cases e : asB a with
  | none => rw [e] at p1; exact p1.elim
  | some c =>
    rw [e] at p1
    cases c with
    | true => exact ⟨true, asB_ok v1 e, by rw [if_pos rfl]; exact post_val w1 p1 (.d (.bl _))⟩
    | false => exact ⟨false, asB_ok v1 e, by rw [if_neg nofun]; exact hb W1 S1 σ ρ Q w1 r1 p1⟩
theorem re_not (ha : RE K E ta da) : RE K E (tNotV ta) (eNot da) := by
  intro W S σ ρ Q w r p
  refine ha.step w r p fun x a W1 S1 e1 w1 r1 v1 p1 => ?_
  cases e : asB a with
  | none => rw [e] at p1; exact p1.elim
  | some c =>
    rw [e] at p1
    exact ⟨c, asB_ok v1 e, post_val w1 p1 (.d (.bl _))⟩
variable {ca cb : TT} {ga gb : TV}
def eIf (g : TV) (da db : EV) : EV := fun ρ S => (g ρ S).bind fun b S1 => if b = true then da ρ S1 else db ρ S1
theorem re_if (hc : RT K E ca ga) (ha : RE K E ta da) (hb : RE K E tb db) : RE K E (tIf ca ta tb) (eIf ga da db) := by
  intro W S σ ρ Q w r p
  refine hc.step w r p fun b W1 S1 e1 w1 r1 p1 => ?_
  cases b with
  | true => rw [if_pos rfl] at *; exact ha W1 S1 σ ρ Q w1 r1 p1
  | false => rw [if_neg nofun] at *; exact hb W1 S1 σ ρ Q w1 r1 p1
/-! ### tests -/
def bE (da : EV) : TV := fun ρ S => (da ρ S).bind fun x S1 => match asB x with
  | some b => .ok b S1
  | none => .no
theorem rt_b (ha : RE K E ta da) : RT K E (tB ta) (bE da) := by
  intro W S σ ρ Q w r p
  refine ha.stepT w r p fun x a W1 S1 e1 w1 r1 v1 p1 => ?_
  cases e : asB a with
  | none => rw [e] at p1; exact p1.elim
  | some c => rw [e] at p1; exact ⟨c, asB_ok v1 e, p1 W1 Ext.refl w1⟩
def bAnd (ga gb : TV) : TV := fun ρ S => (ga ρ S).bind fun b S1 => if b = true then gb ρ S1 else .ok false S1
def bOr (ga gb : TV) : TV := fun ρ S => (ga ρ S).bind fun b S1 => if b = true then .ok true S1 else gb ρ S1
def bNot (ga : TV) : TV := fun ρ S => (ga ρ S).bind fun b S1 => .ok (!b) S1
theorem rt_and (ha : RT K E ca ga) (hb : RT K E cb gb) : RT K E (tAnd ca cb) (bAnd ga gb) := by
  intro W S σ ρ Q w r p
  refine ha.stepT w r p fun b W1 S1 e1 w1 r1 p1 => ?_
  cases b with
  | true => rw [if_pos rfl] at *; exact hb W1 S1 σ ρ Q w1 r1 p1
  | false => rw [if_neg nofun] at *; exact p1 W1 Ext.refl w1
theorem rt_or (ha : RT K E ca ga) (hb : RT K E cb gb) : RT K E (tOr ca cb) (bOr ga gb) := by
  intro W S σ ρ Q w r p
  refine ha.stepT w r p fun b W1 S1 e1 w1 r1 p1 => ?_
  cases b with
  | true => rw [if_pos rfl] at *; exact p1 W1 Ext.refl w1
  | false => rw [if_neg nofun] at *; exact hb W1 S1 σ ρ Q w1 r1 p1
theorem rt_not (ha : RT K E ca ga) : RT K E (tNot ca) (bNot ga) := by
  intro W S σ ρ Q w r p
  exact ha.stepT w r p fun b W1 S1 e1 w1 r1 p1 => p1 W1 Ext.refl w1
/-- a list's truth -/
def bTru (da : EV) : TV := fun ρ S => (da ρ S).bind fun x S1 => match look S1 x with
  | some xs => .ok (!xs.isEmpty) S1
  | none => .no
theorem rt_tru (ha : RE K E ta da) : RT K E (fun σ H Q => ta σ H fun x H' => ∃ p xs, x = .ref p ∧ SqL K H' p xs ∧ Q (!xs.isEmpty) H') (bTru da) := by
  intro W S σ ρ Q w r p
  refine ha.stepT w r p fun x a W1 S1 e1 w1 r1 v1 p1 => ?_
  cases e : look S1 a with
  | none => rw [e] at p1; exact p1.elim
  | some xs =>
    rw [e] at p1
    obtain ⟨q, vs, e3, h3, h4⟩ := look_ok w1 v1 e
    refine ⟨q, vs, e3, h3, ?_⟩
    have hl := h4.len
    rw [show vs.isEmpty = xs.isEmpty by cases vs <;> cases xs <;> first | rfl | (simp at hl)]
    exact p1 W1 Ext.refl w1
/-! ### argument lists, lists, tuples -/
def aNil : LV := fun _ S => .ok [] S
def aCons (da : EV) (dr : LV) : LV := fun ρ S => (da ρ S).bind fun x S1 => (dr ρ S1).bind fun xs S2 => .ok (x :: xs) S2
variable {al ar : TA} {dl dr : LV}
theorem ra_nil : RA K E tNil aNil := fun W S σ ρ Q w r p => p [] W Ext.refl w .nil
theorem ra_cons (ha : RE K E ta da) (hr : RA K E ar dr) : RA K E (tCons ta ar) (aCons da dr) := by
  intro W S σ ρ Q w r p
  refine ha.stepA w r p fun x a W1 S1 e1 w1 r1 v1 p1 => ?_
  refine hr.stepA w1 r1 p1 fun xs as W2 S2 e2 w2 r2 v2 p2 => ?_
  exact p2 (x :: xs) W2 Ext.refl w2 (.cons (e2.rv v1) v2)
def eLst (dl : LV) : EV := fun ρ S => (dl ρ S).bind fun xs S1 => if xs.length ≤ 1000 then newL xs S1 else .no
def eTup (dl : LV) : EV := fun ρ S => (dl ρ S).bind fun xs S1 => if xs.length ≤ 1000 then .ok (mkT xs) S1 else .no
theorem re_lst (h : RA K E al dl) : RE K E (tLst al) (eLst dl) := by
  intro W S σ ρ Q w r p
  refine h.step w r p fun vs xs W1 S1 e1 w1 r1 v1 p1 => ?_
  by_cases hl : xs.length ≤ 1000
  · rw [if_pos hl] at p1
    exact ⟨by rw [v1.len]; exact line_small hl, post_lst w1 v1 p1⟩
  · rw [if_neg hl] at p1
    exact p1.elim
theorem re_tup (h : RA K E al dl) : RE K E (tTup al) (eTup dl) := by
  intro W S σ ρ Q w r p
  refine h.step w r p fun vs xs W1 S1 e1 w1 r1 v1 p1 => ?_
  by_cases hl : xs.length ≤ 1000
  · rw [if_pos hl] at p1
    exact ⟨by rw [v1.len]; exact line_small hl, post_tup w1 v1 p1⟩
  · rw [if_neg hl] at p1
    exact p1.elim
/-! ### calls of built-ins, of methods of lists -/
def eCB (f : List AV → Sto → Res AV) (dl : LV) : EV := fun ρ S => (dl ρ S).bind f
theorem re_cb {r : List V → Hp → VK → Prop} {f : List AV → Sto → Res AV} (h : CRR K E r f) (hl : RA K E al dl) : RE K E (tCB r al) (eCB f dl) := by
  intro W S σ ρ Q w r p
  exact hl.step w r p fun vs xs W1 S1 e1 w1 r1 v1 p1 => h W1 S1 vs xs Q w1 v1 p1
def eBM (f : AV → List AV → Sto → Res AV) (da : EV) (dl : LV) : EV := fun ρ S => (da ρ S).bind fun o S1 => match look S1 o with
  | some _ => (dl ρ S1).bind fun xs S2 => f o xs S2
  | none => .no
theorem re_bm {r : V → List V → Hp → VK → Prop} {f : AV → List AV → Sto → Res AV} (h : MRR K E r f) (ha : RE K E ta da) (hl : RA K E al dl) : RE K E (tBM K "list" r ta al) (eBM f da dl) := by
  intro W S σ ρ Q w r p
  refine ha.step w r p fun x a W1 S1 e1 w1 r1 v1 p1 => ?_
  cases e : look S1 a with
  | none => rw [e] at p1; exact p1.elim
  | some ys =>
    rw [e] at p1
    obtain ⟨q, us, rfl, h3, h4⟩ := look_ok w1 v1 e
    refine ⟨.inl ⟨rfl, _, h3⟩, ?_⟩
    exact hl.step w1 r1 p1 fun vs xs W2 S2 e2 w2 r2 v2 p2 => h W2 S2 _ a vs xs Q w2 (e2.rv v1) v2 p2
theorem re_bm0 {r : V → List V → Hp → VK → Prop} {f : AV → List AV → Sto → Res AV} (h : MRR K E r f) (ha : RE K E ta da) : RE K E (tBM0 K "list" r ta) (eBM f da aNil) := by
  intro W S σ ρ Q w r p
  refine ha.step w r p fun x a W1 S1 e1 w1 r1 v1 p1 => ?_
  cases e : look S1 a with
  | none => rw [e] at p1; exact p1.elim
  | some ys =>
    rw [e] at p1
    obtain ⟨q, us, rfl, h3, h4⟩ := look_ok w1 v1 e
    exact ⟨.inl ⟨rfl, _, h3⟩, h W1 S1 _ a [] [] Q w1 v1 .nil p1⟩
def fAppend : AV → List AV → Sto → Res AV := fun o xs S => match o, xs, cellL S o with
  | .c n, [y], some ys => if ys.length < 1000 then .ok nA (S.set n (.lst (ys ++ [y]))) else .no
  | _, _, _ => .no
theorem mr_append : MRR K E rAppend fAppend := by
  intro W S o b x a Q w ro rx p
  unfold fAppend at p
  split at p
  · rename_i n y ys e
    split at p
    · rename_i hl
      obtain ⟨m, q, vs, em, rfl, h1, h2, h3, h4⟩ := cellL_ok w ro e
      cases em
      cases rx with
      | cons ry rn =>
        cases rn
        refine ⟨q, vs, _, rfl, rfl, h3, by rw [h4.len]; exact small1000 (by omega), ?_⟩
        exact post_wr w h1 (.lst (h4.append (.cons ry .nil))) p fun _ _ => .d .non
    · exact p.elim
  · exact p.elim
def fPop : AV → List AV → Sto → Res AV := fun o xs S => match o, xs, cellL S o with
  | .c n, [], some ys => match ys[ys.length - 1]? with
    | some y => .ok y (S.set n (.lst ys.dropLast))
    | none => .no
  | _, _, _ => .no
theorem RVL.dropLast {F B : Hp} {ι : List Addr} {vs : List V} {xs : List AV} (h : RVL K F B ι vs xs) : RVL K F B ι vs.dropLast xs.dropLast := by
  rw [List.dropLast_eq_take, List.dropLast_eq_take, h.len]
  exact h.take _
theorem mr_pop : MRR K E rPop fPop := by
  intro W S o b x a Q w ro rx p
  unfold fPop at p
  split at p
  · rename_i n ys e
    obtain ⟨m, q, vs, em, rfl, h1, h2, h3, h4⟩ := cellL_ok w ro e
    cases em
    cases rx
    cases e5 : ys[ys.length - 1]? with
    | none => rw [e5] at p; exact p.elim
    | some y =>
      rw [e5] at p
      obtain ⟨v, h5, h6⟩ := h4.get e5
      refine ⟨q, vs, v, rfl, rfl, h3, by rw [h4.len]; exact h5, ?_⟩
      exact post_wr w h1 (.lst h4.dropLast) p fun W' e' => e'.rv h6
  · exact p.elim
/-- xs.remove(int) -/
def eRem (da db : EV) : EV := fun ρ S => (da ρ S).bind fun o S1 => match look S1 o with
  | some _ => (db ρ S1).bind fun y S2 => match o, asI y, (cellL S2 o).bind asInts with
    | .c n, some k, some ns => if k ∈ ns then .ok nA (S2.set n (.lst ((ns.erase k).map fun i => iA i))) else .no
    | _, _, _ => .no
  | none => .no
theorem rl_ints {F B : Hp} {ι : List Addr} : ∀ ns : List Int, RVL K F B ι (ns.map V.int) (ns.map fun i => iA i)
  | [] => .nil
  | i :: r => .cons (.d (.int i)) (rl_ints r)
theorem re_rem (ha : RE K E ta da) (hb : RE K E tb db) : RE K E (tRemX K (fun _ _ _ _ => False) ta tb) (eRem da db) := by
  intro W S σ ρ Q w r p
  refine ha.step w r p fun x a W1 S1 e1 w1 r1 v1 p1 => ?_
  cases e : look S1 a with
  | none => rw [e] at p1; exact p1.elim
  | some ys =>
    rw [e] at p1
    obtain ⟨q, us, rfl, h3, h4⟩ := look_ok w1 v1 e
    refine ⟨.inl ⟨rfl, _, h3⟩, ?_⟩
    refine hb.step w1 r1 p1 fun y b W2 S2 e2 w2 r2 v2 p2 => ?_
    have v1' := e2.rv v1
    split at p2
    · rename_i n k ns e5 e6
      obtain ⟨zs, e7, e8⟩ := Option.bind_eq_some_iff.mp e6
      obtain ⟨m, q', vs, em, eq, g1, g2, g3, g4⟩ := cellL_ok w2 v1' e7
      cases em
      cases eq
      have ev := asInts_ok g4 e8
      subst ev
      split at p2
      · rename_i hk
        refine ⟨q, ns, k, rfl, asI_ok v2 e5, g3, fun _ => ?_, fun hn _ => hn hk⟩
        exact post_wr w2 g1 (.lst (rl_ints _)) p2 fun _ _ => .d .non
      · exact p2.elim
    · exact p2.elim
end
end My

namespace My
open PySem PySem.Spec L2
open Classical
section
variable {K : PySem.W.Frag} {E : L2.XK} {ta tb tc : TE} {da db dc : EV} {al : TA} {dl : LV}
/-! ### built-ins -/
def fLen : List AV → Sto → Res AV := fun xs S => match xs with
  | [x] => match (match look S x with | some ys => some ys | none => lookT x) with
    | some ys => .ok (iA ys.length) S
    | none => .no
  | _ => .no
theorem rl1 {W : Wo} {vs : List V} {x : AV} (r : RLw K W vs [x]) : ∃ v, vs = [v] ∧ RVw K W v x := by
  cases r with
  | cons a r => cases r; exact ⟨_, rfl, a⟩
theorem rl2 {W : Wo} {vs : List V} {x y : AV} (r : RLw K W vs [x, y]) : ∃ v u, vs = [v, u] ∧ RVw K W v x ∧ RVw K W u y := by
  cases r with
  | cons a r => obtain ⟨u, rfl, b⟩ := rl1 r; exact ⟨_, _, rfl, a, b⟩
theorem cr_len : CRR K E (fun xs H Q => ∃ p ys, xs = [.ref p] ∧ (SqL K H p ys ∨ SqT K H p ys) ∧ Q (.int ys.length) H) fLen := by
  intro W S x a Q w r p
  unfold fLen at p
  split at p
  · rename_i z
    obtain ⟨v, rfl, rv⟩ := rl1 r
    cases e : look S z with
    | some ys =>
      simp only [e] at p
      obtain ⟨q, vs, rfl, h3, h4⟩ := look_ok w rv e
      exact ⟨q, vs, rfl, .inl h3, by rw [h4.len]; exact post_val w p (.d (.int _))⟩
    | none =>
      simp only [e] at p
      cases e2 : lookT z with
      | none => rw [e2] at p; exact p.elim
      | some ys =>
        simp only [e2] at p
        obtain ⟨q, vs, rfl, h3, h4⟩ := lookT_ok w rv e2
        exact ⟨q, vs, rfl, .inr h3, by rw [h4.len]; exact post_val w p (.d (.int _))⟩
  · exact p.elim
def fList : List AV → Sto → Res AV := fun xs S => match xs with
  | [x] => match (match look S x with | some ys => some ys | none => lookT x) with
    | some ys => newL ys S
    | none => .no
  | _ => .no
theorem cr_list : CRR K E (fun xs H Q => ∃ p ys, xs = [.ref p] ∧ (SqL K H p ys ∨ SqT K H p ys) ∧ ∀ l, H l = none → Q (.ref l) (upd H l (.lst ys))) fList := by
  intro W S x a Q w r p
  unfold fList at p
  split at p
  · rename_i z
    obtain ⟨v, rfl, rv⟩ := rl1 r
    cases e : look S z with
    | some ys =>
      simp only [e] at p
      obtain ⟨q, vs, rfl, h3, h4⟩ := look_ok w rv e
      exact ⟨q, vs, rfl, .inl h3, post_lst w h4 p⟩
    | none =>
      simp only [e] at p
      cases e2 : lookT z with
      | none => rw [e2] at p; exact p.elim
      | some ys =>
        simp only [e2] at p
        obtain ⟨q, vs, rfl, h3, h4⟩ := lookT_ok w rv e2
        exact ⟨q, vs, rfl, .inr h3, post_lst w h4 p⟩
  · exact p.elim
def fInt : List AV → Sto → Res AV := fun xs S => match xs with
  | [.d (.int i)] => .ok (iA i) S
  | [.d (.bool b)] => .ok (iA (if b = true then 1 else 0)) S
  | _ => .no
theorem cr_int : CRR K E (fun xs H Q => (∃ i, xs = [.int i] ∧ Q (.int i) H) ∨ ∃ k, xs = [.bl k] ∧ Q (.int (if k then 1 else 0)) H) fInt := by
  intro W S x a Q w r p
  unfold fInt at p
  split at p
  · obtain ⟨v, rfl, rv⟩ := rl1 r
    cases rv with
    | d h => cases h; exact .inl ⟨_, rfl, post_val w p (.d (.int _))⟩
  · obtain ⟨v, rfl, rv⟩ := rl1 r
    cases rv with
    | d h => cases h; exact .inr ⟨_, rfl, post_val w p (.d (.int _))⟩
  · exact p.elim
def fAbs : List AV → Sto → Res AV := fun xs S => match xs with
  | [.d (.int i)] => .ok (iA (if i < 0 then -i else i)) S
  | _ => .no
theorem cr_abs : CRR K E (fun xs H Q => ∃ i, xs = [.int i] ∧ Q (.int (if i < 0 then -i else i)) H) fAbs := by
  intro W S x a Q w r p
  unfold fAbs at p
  split at p
  · obtain ⟨v, rfl, rv⟩ := rl1 r
    cases rv with
    | d h => cases h; exact ⟨_, rfl, post_val w p (.d (.int _))⟩
  · exact p.elim
def fI2 (g : Int → Int → Int) : List AV → Sto → Res AV := fun xs S => match xs with
  | [.d (.int i), .d (.int j)] => .ok (iA (g i j)) S
  | _ => .no
theorem cr_i2 {g : Int → Int → Int} : CRR K E (fun xs H Q => ∃ i j, xs = [.int i, .int j] ∧ Q (.int (g i j)) H) (fI2 g) := by
  intro W S x a Q w r p
  unfold fI2 at p
  split at p
  · obtain ⟨v, u, rfl, rv, ru⟩ := rl2 r
    cases rv with
    | d h => cases ru with
      | d h2 => cases h; cases h2; exact ⟨_, _, rfl, post_val w p (.d (.int _))⟩
  · exact p.elim
theorem cr_max2 : CRR K E (fun xs H Q => ∃ i j, xs = [.int i, .int j] ∧ Q (.int (if j > i then j else i)) H) (fI2 fun i j => if j > i then j else i) := cr_i2
theorem cr_min2 : CRR K E (fun xs H Q => ∃ i j, xs = [.int i, .int j] ∧ Q (.int (if j < i then j else i)) H) (fI2 fun i j => if j < i then j else i) := cr_i2
/-- sum, max, min, all, any of a list -/
def fInts (f : List Int → Option PyData) : List AV → Sto → Res AV := fun xs S => match xs with
  | [x] => match (look S x).bind asInts with
    | some ns => match f ns with
      | some d => .ok (.d d) S
      | none => .no
    | none => .no
  | _ => .no
def fBools (f : List Bool → Bool) : List AV → Sto → Res AV := fun xs S => match xs with
  | [x] => match (look S x).bind asBools with
    | some ns => .ok (bA (f ns)) S
    | none => .no
  | _ => .no
theorem fInts_ok {f : List Int → Option PyData} {W : Wo} {S : Sto} {vs : List V} {xs : List AV} {Q : VK} (w : Wd K W S) (r : RLw K W vs xs) (p : PostE K E W (fInts f xs S) Q) : ∃ a ns d, vs = [V.ref a] ∧ SqL K W.H a (ns.map V.int) ∧ f ns = some d ∧ PostE K E W (.ok (.d d) S) Q := by
  unfold fInts at p
  split at p
  · obtain ⟨v, rfl, rv⟩ := rl1 r
    split at p
    · rename_i ns e
      obtain ⟨ys, e1, e2⟩ := Option.bind_eq_some_iff.mp e
      obtain ⟨q, us, rfl, h3, h4⟩ := look_ok w rv e1
      have := asInts_ok h4 e2
      subst this
      cases e3 : f ns with
      | none => rw [e3] at p; exact p.elim
      | some d => rw [e3] at p; exact ⟨q, ns, d, rfl, h3, e3, p⟩
    · exact p.elim
  · exact p.elim
theorem fBools_ok {f : List Bool → Bool} {W : Wo} {S : Sto} {vs : List V} {xs : List AV} {Q : VK} (w : Wd K W S) (r : RLw K W vs xs) (p : PostE K E W (fBools f xs S) Q) : ∃ a ns, vs = [V.ref a] ∧ SqL K W.H a (ns.map V.bl) ∧ PostE K E W (.ok (bA (f ns)) S) Q := by
  unfold fBools at p
  split at p
  · obtain ⟨v, rfl, rv⟩ := rl1 r
    split at p
    · rename_i ns e
      obtain ⟨ys, e1, e2⟩ := Option.bind_eq_some_iff.mp e
      obtain ⟨q, us, rfl, h3, h4⟩ := look_ok w rv e1
      have := asBools_ok h4 e2
      subst this
      exact ⟨q, ns, rfl, h3, p⟩
    · exact p.elim
  · exact p.elim
theorem cr_sumD : CRR K E (rSum K) (fInts fun ns => some (.int ns.sum)) := by
  intro W S x a Q w r p
  obtain ⟨q, ns, d, e1, h, e2, p⟩ := fInts_ok w r p
  cases e2
  exact ⟨q, ns, e1, h, post_val w p (.d (.int _))⟩
theorem cr_maxD : CRR K E (rMax K) (fInts fun ns => ns.max?.map .int) := by
  intro W S x a Q w r p
  obtain ⟨q, ns, d, e1, h, e2, p⟩ := fInts_ok w r p
  cases e3 : ns.max? with
  | none => rw [e3] at e2; cases e2
  | some m =>
    rw [e3] at e2
    cases e2
    have hm := List.max?_eq_some_iff.mp e3
    refine ⟨q, ns, e1, h, List.length_pos_of_mem hm.1, fun m' h1 h2 => ?_⟩
    have : m' = m := Int.le_antisymm (hm.2 m' h1) (h2 m hm.1)
    subst this
    exact post_val w p (.d (.int _))
theorem cr_minD : CRR K E (rMin K) (fInts fun ns => ns.min?.map .int) := by
  intro W S x a Q w r p
  obtain ⟨q, ns, d, e1, h, e2, p⟩ := fInts_ok w r p
  cases e3 : ns.min? with
  | none => rw [e3] at e2; cases e2
  | some m =>
    rw [e3] at e2
    cases e2
    have hm := List.min?_eq_some_iff.mp e3
    refine ⟨q, ns, e1, h, List.length_pos_of_mem hm.1, fun m' h1 h2 => ?_⟩
    have : m' = m := Int.le_antisymm (h2 m hm.1) (hm.2 m' h1)
    subst this
    exact post_val w p (.d (.int _))
theorem cr_allD : CRR K E (rAll K) (fBools fun bs => bs.all id) := by
  intro W S x a Q w r p
  obtain ⟨q, ns, e1, h, p⟩ := fBools_ok w r p
  exact ⟨q, ns, e1, h, post_val w p (.d (.bl _))⟩
theorem cr_anyD : CRR K E (rAny K) (fBools fun bs => bs.any id) := by
  intro W S x a Q w r p
  obtain ⟨q, ns, e1, h, p⟩ := fBools_ok w r p
  exact ⟨q, ns, e1, h, post_val w p (.d (.bl _))⟩
/-- list(range(..)) -/
def rgA (a b : Int) : List AV := (List.range (b - a).toNat).map fun i : Nat => iA (a + (i : Int))
theorem rg_rl {F B : Hp} {ι : List Addr} (a b : Int) : RVL K F B ι (rgV a b) (rgA a b) := by
  have : rgV a b = ((List.range (b - a).toNat).map fun i : Nat => a + (i : Int)).map V.int := by
    unfold rgV; rw [List.map_map]; rfl
  rw [this, show rgA a b = ((List.range (b - a).toNat).map fun i : Nat => a + (i : Int)).map (fun i => iA i) by unfold rgA; rw [List.map_map]; rfl]
  exact rl_ints _
def rgOk (a b : Int) : Prop := -1000000 ≤ a ∧ a ≤ 1000000 ∧ -1000000 ≤ b ∧ b ≤ 1000000
theorem rgOk.rg {a b : Int} (h : rgOk a b) : RgOk a b := by
  obtain ⟨h1, h2, h3, h4⟩ := h
  refine ⟨by omega, by omega, by omega, by omega, by omega⟩
instance (a b : Int) : Decidable (rgOk a b) := inferInstanceAs (Decidable (_ ∧ _ ∧ _ ∧ _))
def eRg1 (da : EV) : EV := fun ρ S => (da ρ S).bind fun x S1 => match asI x with
  | some n => if rgOk 0 n then newL (rgA 0 n) S1 else .no
  | none => .no
def eRg2 (da db : EV) : EV := fun ρ S => (da ρ S).bind fun x S1 => (db ρ S1).bind fun y S2 => match asI x, asI y with
  | some i, some j => if rgOk i j then newL (rgA i j) S2 else .no
  | _, _ => .no
theorem re_rg1 (ha : RE K E ta da) : RE K E (tLstRg (tRg1 ta)) (eRg1 da) := by
  intro W S σ ρ Q w r p
  refine ha.step w r p fun x a W1 S1 e1 w1 r1 v1 p1 => ?_
  cases e : asI a with
  | none => rw [e] at p1; exact p1.elim
  | some n =>
    simp only [e] at p1
    split at p1
    · rename_i h
      exact ⟨n, asI_ok v1 e, h.rg, post_lst w1 (rg_rl 0 n) p1⟩
    · exact p1.elim
theorem re_rg2 (ha : RE K E ta da) (hb : RE K E tb db) : RE K E (tLstRg (tRg2 ta tb)) (eRg2 da db) := by
  intro W S σ ρ Q w r p
  refine ha.step w r p fun x a W1 S1 e1 w1 r1 v1 p1 => ?_
  refine hb.step w1 r1 p1 fun y b W2 S2 e2 w2 r2 v2 p2 => ?_
  cases e : asI a with
  | none => rw [e] at p2; exact p2.elim
  | some i =>
    cases e' : asI b with
    | none => rw [e, e'] at p2; exact p2.elim
    | some j =>
      simp only [e, e'] at p2
      split at p2
      · rename_i h
        exact ⟨i, j, asI_ok v1 e, asI_ok v2 e', h.rg, post_lst w2 (rg_rl i j) p2⟩
      · exact p2.elim
/-! ### slices -/
abbrev OV := En → Sto → Res (Option Int)
def PostO (K : PySem.W.Frag) (E : L2.XK) (W : Wo) (m : Res (Option Int)) (Q : Option Int → Hp → Prop) : Prop := match m with
  | .ok b S => ∀ W', Ext W W' → Wd K W' S → Q b W'.H
  | .ex C x S => ∀ v dx W', Ext W W' → Wd K W' S → RVw K W' v x → XD W'.H dx v → E (.ref C) (some dx) W'.H
  | .no => False
def RO (K : PySem.W.Frag) (E : L2.XK) (t : TO) (den : OV) : Prop := ∀ (W : Wo) (S : Sto) (σ : L2.St) (ρ : En) (Q : Option Int → Hp → Prop), Wd K W S → ER K W σ ρ → PostO K E W (den ρ S) Q → t σ W.H Q
def oN : OV := fun _ S => .ok none S
def oS (da : EV) : OV := fun ρ S => (da ρ S).bind fun x S1 => match asI x with
  | some i => .ok (some i) S1
  | none => .no
theorem ro_n : RO K E tNoPart oN := fun W S σ ρ Q w r p => p W Ext.refl w
theorem ro_s (ha : RE K E ta da) : RO K E (tPart ta) (oS da) := by
  intro W S σ ρ Q w r p
  refine ha W S σ ρ _ w r ?_
  unfold oS at p
  cases e : da ρ S with
  | ok x S1 =>
    rw [e] at p
    intro v W1 e1 w1 r1
    cases e2 : asI x with
    | none => simp [e2] at p; exact p.elim
    | some i =>
      simp only [bind_ok, e2] at p
      exact ⟨i, asI_ok r1 e2, p W1 e1 w1⟩
  | ex C x S1 => rw [e] at p; exact p
  | no => rw [e] at p; exact p
theorem RO.step {t : TO} {den : OV} (h : RO K E t den) {W : Wo} {S : Sto} {σ : L2.St} {ρ : En} {k : Option Int → Sto → Res AV} {Q : VK} {R : Option Int → Hp → Prop} (w : Wd K W S) (r : ER K W σ ρ) (p : PostE K E W ((den ρ S).bind k) Q)
    (q : ∀ b W1 S1, Ext W W1 → Wd K W1 S1 → ER K W1 σ ρ → PostE K E W1 (k b S1) Q → R b W1.H) : t σ W.H R := by
  refine h W S σ ρ R w r ?_
  cases e : den ρ S with
  | ok x S1 =>
    rw [e] at p
    exact fun W1 e1 w1 => q x W1 S1 e1 w1 (r.ext e1) (PostE.ext e1 p)
  | ex C x S1 => rw [e] at p; exact p
  | no => rw [e] at p; exact p
def cutA (xs : List AV) (lo hi : Option Int) : List AV := (xs.drop (HT.sIx xs.length 0 lo)).take (HT.sIx xs.length xs.length hi - HT.sIx xs.length 0 lo)
def eSl (da : EV) (ol oh : OV) : EV := fun ρ S => (da ρ S).bind fun x S1 => (ol ρ S1).bind fun l S2 => (oh ρ S2).bind fun h S3 => match look S3 x with
  | some xs => newL (cutA xs l h) S3
  | none => .no
theorem re_sl {tl th : TO} {ol oh : OV} (ha : RE K E ta da) (hl : RO K E tl ol) (hh : RO K E th oh) : RE K E (tSl (rSlL K) ta tl th) (eSl da ol oh) := by
  intro W S σ ρ Q w r p
  refine ha.step w r p fun x a W1 S1 e1 w1 r1 v1 p1 => ?_
  refine hl.step w1 r1 p1 fun l W2 S2 e2 w2 r2 p2 => ?_
  refine hh.step w2 r2 p2 fun h W3 S3 e3 w3 r3 p3 => ?_
  cases e : look S3 a with
  | none => simp only [e] at p3; exact p3.elim
  | some xs =>
    simp only [e] at p3
    obtain ⟨q, vs, rfl, h3, h4⟩ := look_ok w3 (e3.rv (e2.rv v1)) e
    refine ⟨q, vs, rfl, h3, ?_⟩
    have : RLw K W3 (cutV vs l h) (cutA xs l h) := by
      unfold cutV cutA
      rw [h4.len]
      exact (h4.drop _).take _
    exact post_lst w3 this p3
/-! ### fields -/
def objAt (S : Sto) : AV → Option (Nat × Addr × List (Str × AV))
  | .c n => match S[n]? with
    | some (.obj C gs) => some (n, C, gs)
    | _ => none
  | _ => none
theorem lookup_rl {W : Wo} {f : Str} {x : AV} : ∀ {fs : List (Str × V)} {gs : List (Str × AV)}, fs.map Prod.fst = gs.map Prod.fst → RLw K W (fs.map Prod.snd) (gs.map Prod.snd) → gs.lookup f = some x → ∃ v, fs.lookup f = some v ∧ RVw K W v x
  | [], [], _, _, h => by cases h
  | (k, v) :: r, (k', y) :: t, e, q, h => by
    simp only [List.map_cons, List.cons.injEq] at e
    obtain ⟨rfl, e⟩ := e
    cases q with
    | cons a q =>
      by_cases hk : f = k
      · subst hk
        simp only [List.lookup, beq_self_eq_true] at h ⊢
        cases h
        exact ⟨v, rfl, a⟩
      · have hb : (f == k) = false := beq_eq_false_iff_ne.mpr hk
        simp only [List.lookup, hb] at h ⊢
        exact lookup_rl e q h
  | [], _ :: _, e, _, _ => by cases e
  | _ :: _, [], e, _, _ => by cases e
theorem obj_ok {W : Wo} {S : Sto} {v : V} {x : AV} (w : Wd K W S) (r : RVw K W v x) {n : Nat} {C : Addr} {gs : List (Str × AV)} (h : objAt S x = some (n, C, gs)) : ∃ a dx fs, x = .c n ∧ v = .ref a ∧ W.ι[n]? = some a ∧ S[n]? = some (.obj C gs) ∧ W.H a = some (.ins C dx fs) ∧ fs.map Prod.fst = gs.map Prod.fst ∧ RLw K W (fs.map Prod.snd) (gs.map Prod.snd) := by
  cases r with
  | @c a m hn =>
    simp only [objAt] at h
    cases e : S[m]? with
    | none => rw [e] at h; cases h
    | some oc =>
      rw [e] at h
      cases oc with
      | obj C' gs' =>
        cases h
        obtain ⟨a', o, e1, e2, e3⟩ := w.cl _ _ e
        rw [hn] at e1
        cases e1
        cases e3 with
        | obj q1 q2 => exact ⟨a, _, _, rfl, rfl, hn, e, e2, q1, q2⟩
      | _ => cases h
  | _ => cases h
def eFld (cs : List Addr) (da : EV) (f : Str) : EV := fun ρ S => (da ρ S).bind fun x S1 => match objAt S1 x with
  | some (_, C, gs) => if C ∈ cs then (match gs.lookup f with | some y => .ok y S1 | none => .no) else .no
  | none => .no
theorem re_fld {cs : List Addr} {f : Str} (hc : ∀ C ∈ cs, Cls K C ∧ NoAttr K C f) (ha : RE K E ta da) : RE K E (tFld K ta f) (eFld cs da f) := by
  intro W S σ ρ Q w r p
  refine ha.step w r p fun x a W1 S1 e1 w1 r1 v1 p1 => ?_
  cases e : objAt S1 a with
  | none => rw [e] at p1; exact p1.elim
  | some t =>
    obtain ⟨n, C, gs⟩ := t
    rw [e] at p1
    by_cases h : C ∈ cs
    · simp only [if_pos h] at p1
      obtain ⟨q, dx, fs, rfl, rfl, h1, h2, h3, h4, h5⟩ := obj_ok w1 v1 e
      cases e2 : gs.lookup f with
      | none => rw [e2] at p1; exact p1.elim
      | some y =>
        rw [e2] at p1
        obtain ⟨v, g1, g2⟩ := lookup_rl h4 h5 e2
        exact ⟨q, C, dx, fs, v, rfl, h3, (hc C h).1, (hc C h).2, g1, post_val w1 p1 g2⟩
    · simp only [if_neg h] at p1
      exact p1.elim
/-! ### calls of defs -/
def sp_d (K : PySem.W.Frag) (n : Nat) (den : List AV → Sto → Res AV) : Sp := fun vs H Q _ => vs.length = n ∧ ∃ (W : Wo) (S : Sto) (xs : List AV), W.H = H ∧ Wd K W S ∧ RLw K W vs xs ∧ PostE K E0 W (den xs S) Q
def noX {α : Type} (m : Res α) : Res α := match m with
  | .ok x S => .ok x S
  | _ => .no
theorem noX_post {W : Wo} {m : Res AV} {Q : VK} (p : PostE K E W (noX m) Q) : PostE K E0 W m Q := by
  cases m with
  | ok x S => exact p
  | ex C x S => exact p.elim
  | no => exact p
/-- in the caller's own store -/
def fCallI (n : Nat) (den : List AV → Sto → Res AV) : List AV → Sto → Res AV := fun xs S => if xs.length = n then noX (den xs S) else .no
theorem sp_callI {n : Nat} {den : List AV → Sto → Res AV} {E' : L2.XK} {W : Wo} {S : Sto} {vs : List V} {xs : List AV} {Q : VK} (w : Wd K W S) (r : RLw K W vs xs) (p : PostE K E W (fCallI n den xs S) Q) : sp_d K n den vs W.H Q E' := by
  unfold fCallI at p
  split at p
  · rename_i h
    exact ⟨by rw [r.len]; exact h, W, S, xs, rfl, w, r, noX_post p⟩
  · exact p.elim
/-- on data alone, giving data -/
def runP (den : List AV → Sto → Res AV) (ds : List PyData) : Option PyData := match den (ds.map rel) [] with
  | .ok r T => rb false 8 T r
  | _ => none
def fCallP (n : Nat) (den : List AV → Sto → Res AV) : List AV → Sto → Res AV := fun xs S => if xs.length = n then (match rbs (rb true 8 S) xs with
  | some ds => match runP den ds with
    | some x => .ok (.d x) S
    | none => .no
  | none => .no) else .no
theorem rbs_dp {W : Wo} {S : Sto} {al : Bool} {G : Hp} (w : Wd K W S) (hF : Same W.F G) (hB : al = true → Same W.B G) (hC : ∀ a o, a ∈ W.ι → W.H a = some o → G a = some o) {k : Nat} : ∀ {vs : List V} {xs : List AV} {ds : List PyData}, RLw K W vs xs → rbs (rb al k S) xs = some ds → DpAll K G vs ds
  | _, _, _, .nil, h => by cases h; exact .nil
  | _, _, _, .cons (x := x) (xs := xs) a r, h => by
    unfold rbs at h
    cases e1 : rb al k S x with
    | none => rw [e1] at h; cases h
    | some d =>
      cases e2 : rbs (rb al k S) xs with
      | none => rw [e1, e2] at h; cases h
      | some ds' =>
        rw [e1, e2] at h
        cases h
        exact .cons (rb_dp w hF hB hC k a e1) (rbs_dp w hF hB hC r e2)
/-- a world in which all is read only -/
def Wo.still (W : Wo) : Wo := ⟨W.H, W.F, fun b => if b ∈ W.ι then W.H b else W.B b, []⟩
theorem wd_still {W : Wo} {S : Sto} (w : Wd K W S) : Wd K W.still [] := by
  refine ⟨fun b o h => ?_, fun b o h => ?_, List.nodup_nil, (fun a h => by cases h), rfl, fun n oc h => by simp at h⟩
  · show W.H b = some o
    have h : (if b ∈ W.ι then W.H b else W.B b) = some o := h
    split at h
    · exact h
    · exact w.br b o h
  · show (if b ∈ W.ι then W.H b else W.B b) = some o
    split
    · exact w.fr b o h
    · exact w.fb b o h
theorem still_rl {W : Wo} {S : Sto} (w : Wd K W S) {k : Nat} {vs : List V} {xs : List AV} {ds : List PyData} (r : RLw K W vs xs) (h : rbs (rb true k S) xs = some ds) : RLw K W.still vs (ds.map rel) := by
  have hB : Same W.B W.still.B := fun b o h => by
    show (if b ∈ W.ι then W.H b else W.B b) = some o
    split
    · exact w.br b o h
    · exact h
  exact rel_rl (rbs_dp w (fun b o h => hB b o (w.fb b o h)) (fun _ => hB) (fun a o ha h => by
    show (if a ∈ W.ι then W.H a else W.B a) = some o
    rw [if_pos ha]; exact h) r h)
/-- back from there: what was made is kept as it is; the caller's cells go on -/
def Wo.back (W W1 : Wo) (own : List Addr) : Wo := ⟨W1.H, fun b => if b ∈ own then W1.H b else W1.F b, fun b => match (if b ∈ own then W1.H b else W1.F b) with | some o => some o | none => W.B b, W.ι⟩
theorem back_F {W W1 : Wo} {S T : Sto} {own : List Addr} (w : Wd K W S) (w1 : Wd K W1 T) (e : Ext W.still W1) (ho : ∀ b ∈ own, b ∈ W1.ι) {b : Addr} (h : W.F b = none) (h2 : (W.back W1 own).F b ≠ none) : W.H b = none := by
  have h2 : (if b ∈ own then W1.H b else W1.F b) ≠ none := h2
  split at h2
  · rename_i hb
    exact e.nI b (ho b hb) (by simp [Wo.still])
  · exact e.nF b h h2
theorem ext_back {W W1 : Wo} {S T : Sto} {own : List Addr} (w : Wd K W S) (w1 : Wd K W1 T) (e : Ext W.still W1) (ho : ∀ b ∈ own, b ∈ W1.ι) : Ext W (W.back W1 own) := by
  have hF : Same W.F (W.back W1 own).F := fun b o h => by
    show (if b ∈ own then W1.H b else W1.F b) = some o
    have := e.sF b o h
    split
    · exact w1.fr b o this
    · exact this
  have keep : ∀ b o, W.H b = some o → W1.H b = some o := fun b o h => e.keep b o h (by simp [Wo.still])
  refine ⟨hF, fun b o h => ?_, ⟨[], by simp [Wo.back]⟩, fun b o h _ => keep b o h, e.dom, fun b h h2 => back_F w w1 e ho h h2, fun b h h2 => ?_, fun b h n => absurd h n⟩
  · show (match (W.back W1 own).F b with | some o => some o | none => W.B b) = some o
    cases q : (W.back W1 own).F b with
    | none => exact h
    | some u =>
      have q : (if b ∈ own then W1.H b else W1.F b) = some u := q
      have hu : W1.H b = some u := by
        split at q
        · exact q
        · exact w1.fr b u q
      rw [keep b o (w.br b o h)] at hu
      cases hu
      rfl
  · have hf : W.F b = none := by
      cases q : W.F b with
      | none => rfl
      | some o => rw [w.fb b o q] at h; cases h
    refine back_F w w1 e ho hf fun q => h2 ?_
    show (match (W.back W1 own).F b with | some o => some o | none => W.B b) = none
    rw [q]
    exact h
theorem wd_back {W W1 : Wo} {S T : Sto} {own : List Addr} (w : Wd K W S) (w1 : Wd K W1 T) (e : Ext W.still W1) (ho : ∀ b ∈ own, b ∈ W1.ι) : Wd K (W.back W1 own) S := by
  have ex := ext_back w w1 e ho
  have keep : ∀ b o, W.H b = some o → W1.H b = some o := fun b o h => e.keep b o h (by simp [Wo.still])
  have fH : Same (W.back W1 own).F W1.H := fun b o h => by
    have h : (if b ∈ own then W1.H b else W1.F b) = some o := h
    split at h
    · exact h
    · exact w1.fr b o h
  refine ⟨fun b o h => ?_, fun b o h => ?_, w.nd, fun a ha => ?_, w.ln, fun n oc hn => ?_⟩
  · have h : (match (W.back W1 own).F b with | some o => some o | none => W.B b) = some o := h
    cases q : (W.back W1 own).F b with
    | some u => rw [q] at h; cases h; exact fH b _ q
    | none => rw [q] at h; exact keep b o (w.br b o h)
  · show (match (W.back W1 own).F b with | some o => some o | none => W.B b) = some o
    rw [h]
  · show (match (W.back W1 own).F a with | some o => some o | none => W.B a) = none
    have ha : a ∈ W.ι := ha
    cases q : (W.back W1 own).F a with
    | none => exact w.dB a ha
    | some u => exact absurd (back_F w w1 e ho (w.dF ha) (by rw [q]; exact nofun)) (w.mem ha)
  · obtain ⟨a, o, h1, h2, h3⟩ := w.cl n oc hn
    exact ⟨a, o, h1, keep a o h2, ex.roc h3⟩
theorem sp_callP {n : Nat} {den : List AV → Sto → Res AV} {E' : L2.XK} {W : Wo} {S : Sto} {vs : List V} {xs : List AV} {Q : VK} (w : Wd K W S) (r : RLw K W vs xs) (p : PostE K E W (fCallP n den xs S) Q) : sp_d K n den vs W.H Q E' := by
  unfold fCallP at p
  split at p
  · rename_i h
    cases e : rbs (rb true 8 S) xs with
    | none => rw [e] at p; exact p.elim
    | some ds =>
      rw [e] at p
      cases e2 : runP den ds with
      | none => simp only [e2] at p; exact p.elim
      | some x =>
        simp only [e2] at p
        refine ⟨by rw [r.len]; exact h, W.still, [], ds.map rel, rfl, wd_still w, still_rl w r e, ?_⟩
        unfold runP at e2
        cases e3 : den (ds.map rel) [] with
        | no => rw [e3] at e2; cases e2
        | ex C x S => rw [e3] at e2; cases e2
        | ok y T =>
          rw [e3] at e2
          intro v W1 ex w1 r1
          refine p v (W.back W1 W1.ι) (ext_back w w1 ex fun b h => h) (wd_back w w1 ex fun b h => h) (.d ?_)
          refine rb_dp w1 (fun b o h => ?_) (fun h => by cases h) (fun a o ha h => ?_) 8 r1 e2
          · show (if b ∈ W1.ι then W1.H b else W1.F b) = some o
            split
            · exact w1.fr b o h
            · exact h
          · show (if a ∈ W1.ι then W1.H a else W1.F a) = some o
            rw [if_pos ha]
            exact h
  · exact p.elim
def eCall (f : List AV → Sto → Res AV) (dl : LV) : EV := fun ρ S => (dl ρ S).bind f
theorem re_callI {n : Nat} {den : List AV → Sto → Res AV} {E' : L2.XK} (h : RA K E al dl) : RE K E (tCall (sp_d K n den) [] E' al) (eCall (fCallI n den) dl) := by
  intro W S σ ρ Q w r p
  refine h.step w r p fun vs xs W1 S1 e1 w1 r1 v1 p1 => ?_
  rw [List.append_nil]
  exact sp_callI w1 v1 p1
theorem re_callP {n : Nat} {den : List AV → Sto → Res AV} {E' : L2.XK} (h : RA K E al dl) : RE K E (tCall (sp_d K n den) [] E' al) (eCall (fCallP n den) dl) := by
  intro W S σ ρ Q w r p
  refine h.step w r p fun vs xs W1 S1 e1 w1 r1 v1 p1 => ?_
  rw [List.append_nil]
  exact sp_callP w1 v1 p1
end
end My

namespace My
open PySem PySem.Spec L2
open PyProof.Rows (envOfC)
open Classical
section
variable {K : PySem.W.Frag} {E : L2.XK} {ta tb tc : TE} {da db dc : EV} {al : TA} {dl : LV}
/-! ### a call on data alone whose list is a new cell -/
def thaw (r : AV) (T : Sto) : Option (List PyData) := match r with
  | .c m => match T[m]? with
    | some (.lst ys) => rbs (rb false 8 (T.set m (.obj 0 []))) ys
    | _ => none
  | _ => none
theorem rbs_dp2 {W : Wo} {T : Sto} {G : Hp} (hF : Same W.F G) (hC : ∀ (n : Nat) (xs : List AV), T[n]? = some (OC.lst xs) → ∀ a, W.ι[n]? = some a → ∃ vs, G a = some (HO.lst vs) ∧ RLw K W vs xs) : ∀ (k : Nat), (∀ {v : V} {x : AV} {d : PyData}, RVw K W v x → rb false k T x = some d → Dp K G v d) ∧ (∀ {vs : List V} {xs : List AV} {ds : List PyData}, RLw K W vs xs → rbs (rb false k T) xs = some ds → DpAll K G vs ds) := by
  have all : ∀ (f : AV → Option PyData), (∀ {v : V} {x : AV} {d : PyData}, RVw K W v x → f x = some d → Dp K G v d) → ∀ {vs : List V} {xs : List AV} {ds : List PyData}, RLw K W vs xs → rbs f xs = some ds → DpAll K G vs ds := by
    intro f hf vs xs
    induction xs generalizing vs with
    | nil => intro ds r h; cases r; cases h; exact .nil
    | cons x xs ih =>
      intro ds r h
      cases r with
      | cons a r =>
        unfold rbs at h
        cases e1 : f x with
        | none => rw [e1] at h; cases h
        | some d =>
          cases e2 : rbs f xs with
          | none => rw [e1, e2] at h; cases h
          | some ds' =>
            rw [e1, e2] at h
            cases h
            exact .cons (hf a e1) (ih r e2)
  have base : ∀ (k : Nat) {v : V} {x : AV} {d : PyData}, (∀ n, x ≠ .c n) → (∀ ys, x ≠ .t ys) → RVw K W v x → rb false k T x = some d → Dp K G v d := by
    intro k v x d h1 h2 r h
    cases x with
    | d x => unfold rb at h; cases h; cases r with
      | d r => exact Dp.same hF r
    | r x => unfold rb at h; cases h
    | c n => exact absurd rfl (h1 n)
    | t ys => exact absurd rfl (h2 ys)
    | g v => cases k <;> simp [rb] at h
  have one : ∀ (k : Nat) {v : V} {x : AV} {d : PyData}, RVw K W v x → rb false k T x = some d → Dp K G v d := by
    intro k
    induction k with
    | zero =>
      intro v x d r h
      refine base 0 (fun n e => ?_) (fun ys e => ?_) r h
      · subst e; simp [rb] at h
      · subst e; simp [rb] at h
    | succ k ih =>
      intro v x d r h
      cases x with
      | c n =>
        unfold rb at h
        cases e : T[n]? with
        | none => rw [e] at h; cases h
        | some oc =>
          rw [e] at h
          cases oc with
          | lst xs =>
            cases r with
            | c hn =>
              obtain ⟨vs, h1, h2⟩ := hC n xs e _ hn
              cases e2 : rbs (rb false k T) xs with
              | none => simp [e2] at h
              | some ds =>
                simp [e2] at h
                subst h
                exact .lst (SqL.of h1) (all _ ih h2 e2)
          | _ => cases h
      | t xs =>
        cases r with
        | t h1 h2 =>
          unfold rb at h
          cases e2 : rbs (rb false k T) xs with
          | none => simp [e2] at h
          | some ds =>
            simp [e2] at h
            subst h
            exact .tup (sqT_same hF h1) (all _ ih h2 e2)
      | d x => exact base (k + 1) (fun _ e => by cases e) (fun _ e => by cases e) r h
      | r x => exact base (k + 1) (fun _ e => by cases e) (fun _ e => by cases e) r h
      | g v => exact base (k + 1) (fun _ e => by cases e) (fun _ e => by cases e) r h
  exact fun k => ⟨one k, all _ (one k)⟩
theorem rbs_dp3 {W : Wo} {T : Sto} {G : Hp} (hF : Same W.F G) (hB : Same W.B G) (hC : ∀ (n : Nat) (xs : List AV), T[n]? = some (OC.lst xs) → ∀ a, W.ι[n]? = some a → ∃ vs, G a = some (HO.lst vs) ∧ RLw K W vs xs) : ∀ (k : Nat), (∀ {v : V} {x : AV} {d : PyData}, RVw K W v x → rb true k T x = some d → Dp K G v d) ∧ (∀ {vs : List V} {xs : List AV} {ds : List PyData}, RLw K W vs xs → rbs (rb true k T) xs = some ds → DpAll K G vs ds) := by
  have all : ∀ (f : AV → Option PyData), (∀ {v : V} {x : AV} {d : PyData}, RVw K W v x → f x = some d → Dp K G v d) → ∀ {vs : List V} {xs : List AV} {ds : List PyData}, RLw K W vs xs → rbs f xs = some ds → DpAll K G vs ds := by
    intro f hf vs xs
    induction xs generalizing vs with
    | nil => intro ds r h; cases r; cases h; exact .nil
    | cons x xs ih =>
      intro ds r h
      cases r with
      | cons a r =>
        unfold rbs at h
        cases e1 : f x with
        | none => rw [e1] at h; cases h
        | some d =>
          cases e2 : rbs f xs with
          | none => rw [e1, e2] at h; cases h
          | some ds' =>
            rw [e1, e2] at h
            cases h
            exact .cons (hf a e1) (ih r e2)
  have base : ∀ (k : Nat) {v : V} {x : AV} {d : PyData}, (∀ n, x ≠ .c n) → (∀ ys, x ≠ .t ys) → RVw K W v x → rb true k T x = some d → Dp K G v d := by
    intro k v x d h1 h2 r h
    cases x with
    | d x => unfold rb at h; cases h; cases r with
      | d r => exact Dp.same hF r
    | r x => unfold rb at h; cases h; cases r with
      | r r => exact Dp.same hB r
    | c n => exact absurd rfl (h1 n)
    | t ys => exact absurd rfl (h2 ys)
    | g v => cases k <;> simp [rb] at h
  have one : ∀ (k : Nat) {v : V} {x : AV} {d : PyData}, RVw K W v x → rb true k T x = some d → Dp K G v d := by
    intro k
    induction k with
    | zero =>
      intro v x d r h
      refine base 0 (fun n e => ?_) (fun ys e => ?_) r h
      · subst e; simp [rb] at h
      · subst e; simp [rb] at h
    | succ k ih =>
      intro v x d r h
      cases x with
      | c n =>
        unfold rb at h
        cases e : T[n]? with
        | none => rw [e] at h; cases h
        | some oc =>
          rw [e] at h
          cases oc with
          | lst xs =>
            cases r with
            | c hn =>
              obtain ⟨vs, h1, h2⟩ := hC n xs e _ hn
              cases e2 : rbs (rb true k T) xs with
              | none => simp [e2] at h
              | some ds =>
                simp [e2] at h
                subst h
                exact .lst (SqL.of h1) (all _ ih h2 e2)
          | _ => cases h
      | t xs =>
        cases r with
        | t h1 h2 =>
          unfold rb at h
          cases e2 : rbs (rb true k T) xs with
          | none => simp [e2] at h
          | some ds =>
            simp [e2] at h
            subst h
            exact .tup (sqT_same hF h1) (all _ ih h2 e2)
      | d x => exact base (k + 1) (fun _ e => by cases e) (fun _ e => by cases e) r h
      | r x => exact base (k + 1) (fun _ e => by cases e) (fun _ e => by cases e) r h
      | g v => exact base (k + 1) (fun _ e => by cases e) (fun _ e => by cases e) r h
  exact fun k => ⟨one k, all _ (one k)⟩
def runC (den : List AV → Sto → Res AV) (ds : List PyData) : Option (List PyData) := match den (ds.map rel) [] with
  | .ok r T => thaw r T
  | _ => none
def fCallC (n : Nat) (den : List AV → Sto → Res AV) : List AV → Sto → Res AV := fun xs S => if xs.length = n then (match rbs (rb true 8 S) xs with
  | some ds => (match runC den ds with
    | some ys => newL (ys.map .d) S
    | none => (match runP den ds with
      | some x => .ok (.d x) S
      | none => .no))
  | none => .no) else .no
theorem sp_callC {n : Nat} {den : List AV → Sto → Res AV} {E' : L2.XK} {W : Wo} {S : Sto} {vs : List V} {xs : List AV} {Q : VK} (w : Wd K W S) (r : RLw K W vs xs) (p : PostE K E W (fCallC n den xs S) Q) : sp_d K n den vs W.H Q E' := by
  unfold fCallC at p
  split at p
  · rename_i h
    cases e : rbs (rb true 8 S) xs with
    | none => rw [e] at p; exact p.elim
    | some ds =>
      cases e2 : runC den ds with
      | none =>
        refine sp_callP (E := E) w r ?_
        unfold fCallP
        rw [if_pos h, e]
        simp only [e, e2] at p
        exact p
      | some ys =>
        simp only [e, e2] at p
        refine ⟨by rw [r.len]; exact h, W.still, [], ds.map rel, rfl, wd_still w, still_rl w r e, ?_⟩
        unfold runC at e2
        cases e3 : den (ds.map rel) [] with
        | no => rw [e3] at e2; cases e2
        | ex C x S => rw [e3] at e2; cases e2
        | ok y T =>
          rw [e3] at e2
          intro v W1 ex w1 r1
          simp only at e2
          unfold thaw at e2
          split at e2
          · rename_i m
            split at e2
            · rename_i zs e4
              cases r1 with
              | @c a _ hn =>
                obtain ⟨us, q1, q2⟩ := cell_lst w1 hn e4
                have hown : ∀ b ∈ W1.ι.filter (fun b => decide (b ≠ a)), b ∈ W1.ι := fun b hb => (List.mem_filter.mp hb).1
                have xb := ext_back (own := W1.ι.filter (fun b => decide (b ≠ a))) w w1 ex hown
                have wb := wd_back (own := W1.ι.filter (fun b => decide (b ≠ a))) w w1 ex hown
                have ha : W.H a = none := ex.nI a (List.mem_of_getElem? hn) (by simp [Wo.still])
                have hai : a ∉ W.ι := nin_of_none w ha
                have hFa : (W.back W1 (W1.ι.filter (fun b => decide (b ≠ a)))).F a = none := by
                  show (if a ∈ W1.ι.filter (fun b => decide (b ≠ a)) then W1.H a else W1.F a) = none
                  rw [if_neg (by simp)]
                  exact w1.dF (List.mem_of_getElem? hn)
                have hBa : (W.back W1 (W1.ι.filter (fun b => decide (b ≠ a)))).B a = none := by
                  show (match (W.back W1 (W1.ι.filter (fun b => decide (b ≠ a)))).F a with | some o => some o | none => W.B a) = none
                  rw [hFa]
                  exact B_none w ha
                have dz : DpAll K (W.back W1 (W1.ι.filter (fun b => decide (b ≠ a)))).F us ys := by
                  refine (rbs_dp2 (T := T.set m (.obj 0 [])) (fun b o h => ?_) (fun n xs hx b hb => ?_) 8).2 q2 e2
                  · show (if b ∈ W1.ι.filter (fun b => decide (b ≠ a)) then W1.H b else W1.F b) = some o
                    split
                    · exact w1.fr b o h
                    · exact h
                  · have hnm : n ≠ m := by
                      rintro rfl
                      have hl : n < T.length := (List.getElem?_eq_some_iff.mp e4).1
                      rw [List.getElem?_set_self hl] at hx
                      cases hx
                    rw [List.getElem?_set_ne (Ne.symm hnm)] at hx
                    obtain ⟨vs', g1, g2⟩ := cell_lst w1 hb hx
                    have hba : b ≠ a := by
                      rintro rfl
                      have l1 := List.getElem?_eq_some_iff.mp hb
                      have l2 := List.getElem?_eq_some_iff.mp hn
                      exact hnm ((List.getElem_inj w1.nd).mp (l1.2.trans l2.2.symm))
                    refine ⟨vs', ?_, g2⟩
                    show (if b ∈ W1.ι.filter (fun b => decide (b ≠ a)) then W1.H b else W1.F b) = _
                    rw [if_pos (List.mem_filter.mpr ⟨List.mem_of_getElem? hb, by simpa using hba⟩)]
                    exact g1
                -- the list itself goes among the caller's cells
                refine p (.ref a) ⟨W1.H, (W.back W1 (W1.ι.filter (fun b => decide (b ≠ a)))).F, (W.back W1 (W1.ι.filter (fun b => decide (b ≠ a)))).B, W.ι ++ [a]⟩ ?_ ?_ (.c ?_)
                · refine ⟨xb.sF, xb.sB, ⟨[a], rfl⟩, xb.keep, xb.dom, xb.nF, xb.nB, fun b hb hbn => ?_⟩
                  rcases List.mem_append.mp hb with hb | hb
                  · exact absurd hb hbn
                  · rw [List.mem_singleton.mp hb]; exact ha
                · refine ⟨wb.br, wb.fb, ?_, fun b hb => ?_, ?_, fun n oc hx => ?_⟩
                  · refine List.nodup_append.mpr ⟨w.nd, by simp, fun x hx y hy => ?_⟩
                    rw [List.mem_singleton.mp hy]
                    rintro rfl
                    exact hai hx
                  · rcases List.mem_append.mp hb with hb | hb
                    · exact wb.dB b hb
                    · rw [List.mem_singleton.mp hb]; exact hBa
                  · show (W.ι ++ [a]).length = _
                    rw [List.length_append, List.length_append, w.ln]; rfl
                  · by_cases hl : n < S.length
                    · rw [List.getElem?_append_left hl] at hx
                      obtain ⟨b, o, g1, g2, g3⟩ := wb.cl n oc hx
                      refine ⟨b, o, pre_get g1, g2, ?_⟩
                      cases g3 with
                      | lst g => exact .lst (g.mono (fun _ _ h => h) (fun _ _ h => h))
                      | obj g g' => exact .obj g (g'.mono (fun _ _ h => h) (fun _ _ h => h))
                      | dk g g' => exact .dk g (g'.mono (fun _ _ h => h) (fun _ _ h => h))
                    · have hn' : n = S.length := by
                        have := (List.getElem?_eq_some_iff.mp hx).1
                        simp at this
                        omega
                      subst hn'
                      simp at hx
                      subst hx
                      refine ⟨a, .lst us, ?_, q1, .lst (.ofD dz)⟩
                      show (W.ι ++ [a])[S.length]? = _
                      rw [← w.ln]
                      simp
                · show (W.ι ++ [a])[S.length]? = some a
                  rw [← w.ln]
                  simp
            · cases e2
          · cases e2
  · exact p.elim
theorem re_callC {n : Nat} {den : List AV → Sto → Res AV} {E' : L2.XK} (h : RA K E al dl) : RE K E (tCall (sp_d K n den) [] E' al) (eCall (fCallC n den) dl) := by
  intro W S σ ρ Q w r p
  refine h.step w r p fun vs xs W1 S1 e1 w1 r1 v1 p1 => ?_
  rw [List.append_nil]
  exact sp_callC w1 v1 p1
/-! ### a call by names: the arguments put in their order -/
def eCallN (f : List AV → Sto → Res AV) (n m : Nat) (g : List AV → List AV → List AV) (dl dk : LV) : EV := fun ρ S => (dl ρ S).bind fun xs S1 => (dk ρ S1).bind fun ys S2 => if xs.length = n ∧ ys.length = m then f (g xs ys) S2 else .no
theorem RVL.getD {F B : Hp} {ι : List Addr} {vs : List V} {xs : List AV} (h : RVL K F B ι vs xs) (i : Nat) : RV K F B ι (vs.getD i .non) (xs.getD i nA) := by
  rw [List.getD_eq_getElem?_getD, List.getD_eq_getElem?_getD]
  cases e : xs[i]? with
  | none =>
    have h1 := List.getElem?_eq_none_iff.mp e
    rw [List.getElem?_eq_none_iff.mpr (by rw [h.len]; exact h1)]
    exact .d .non
  | some x =>
    obtain ⟨v, h1, h2⟩ := h.get e
    rw [h1]
    exact h2
theorem re_callN {n m : Nat} {sp : Sp} {f : List AV → Sto → Res AV} {gV : List V → List V → List V} {gA : List AV → List AV → List AV} {E' : L2.XK} {ak : TA} {dk : LV}
    (hf : ∀ {W : Wo} {S : Sto} {vs : List V} {xs : List AV} {Q : VK}, Wd K W S → RLw K W vs xs → PostE K E W (f xs S) Q → sp vs W.H Q E')
    (hg : ∀ {F B : Hp} {ι : List Addr} {vs zs : List V} {xs ys : List AV}, RVL K F B ι vs xs → RVL K F B ι zs ys → RVL K F B ι (gV vs zs) (gA xs ys)) (h : RA K E al dl) (hk : RA K E ak dk) : RE K E (tCallN n m sp gV E' al ak) (eCallN f n m gA dl dk) := by
  intro W S σ ρ Q w r p
  refine h.step w r p fun vs xs W1 S1 e1 w1 r1 v1 p1 => ?_
  refine hk.step w1 r1 p1 fun zs ys W2 S2 e2 w2 r2 v2 p2 => ?_
  split at p2
  · rename_i hl
    have v1' := e2.rl v1
    exact ⟨by rw [v1'.len]; exact hl.1, by rw [v2.len]; exact hl.2, hf w2 (hg v1' v2) p2⟩
  · exact p2.elim
/-! ### methods of own objects, new objects -/
def eMeth (C : Addr) (m : Str) (f : List AV → Sto → Res AV) (da : EV) (dl : LV) : EV := fun ρ S => (da ρ S).bind fun o S1 => match objAt S1 o with
  | some (_, C', gs) => if C' = C ∧ gs.lookup m = none then (dl ρ S1).bind fun xs S2 => f (o :: xs) S2 else .no
  | none => .no
theorem lookup_none {f : Str} : ∀ {fs : List (Str × V)} {gs : List (Str × AV)}, fs.map Prod.fst = gs.map Prod.fst → gs.lookup f = none → fs.lookup f = none
  | [], [], _, _ => rfl
  | (k, v) :: r, (k', y) :: t, e, h => by
    simp only [List.map_cons, List.cons.injEq] at e
    obtain ⟨rfl, e⟩ := e
    by_cases hk : f = k
    · subst hk
      simp only [List.lookup, beq_self_eq_true] at h
      cases h
    · have hb : (f == k) = false := beq_eq_false_iff_ne.mpr hk
      simp only [List.lookup, hb] at h ⊢
      exact lookup_none e h
  | [], _ :: _, e, _ => by cases e
  | _ :: _, [], e, _ => by cases e
theorem re_meth {C : Addr} {m : Str} {n : Nat} {den : List AV → Sto → Res AV} {E' : L2.XK} (ha : RE K E ta da) (h : RA K E al dl) : RE K E (tMeth C m (sp_d K n den) [] E' ta al) (eMeth C m (fCallI n den) da dl) := by
  intro W S σ ρ Q w r p
  refine ha.step w r p fun x a W1 S1 e1 w1 r1 v1 p1 => ?_
  cases e : objAt S1 a with
  | none => rw [e] at p1; exact p1.elim
  | some t =>
    obtain ⟨k, C', gs⟩ := t
    rw [e] at p1
    by_cases hc : C' = C ∧ gs.lookup m = none
    · simp only [if_pos hc] at p1
      obtain ⟨q, dx, fs, rfl, rfl, h1, h2, h3, h4, h5⟩ := obj_ok w1 v1 e
      obtain ⟨rfl, hm⟩ := hc
      refine ⟨q, dx, fs, rfl, h3, lookup_none h4 hm, ?_⟩
      refine h.step w1 r1 p1 fun vs xs W2 S2 e2 w2 r2 v2 p2 => ?_
      rw [List.append_nil]
      exact sp_callI w2 (.cons (e2.rv v1) v2) p2
    · simp only [if_neg hc] at p1
      exact p1.elim
def eMake (C : Addr) (f : List AV → Sto → Res AV) (dl : LV) : EV := fun ρ S => (dl ρ S).bind fun xs S1 => (f (.c S1.length :: xs) (S1 ++ [.obj C []])).bind fun y S2 => match y with
  | .d .none => .ok (.c S1.length) S2
  | _ => .no
/-- an object that is nobody's -/
theorem ext_other {W : Wo} {S : Sto} (w : Wd K W S) {p : Addr} {o : HO} (h : W.H p = none) : Ext W ⟨upd W.H p o, W.F, W.B, W.ι⟩ := ⟨fun _ _ h => h, fun _ _ h => h, ⟨[], by simp⟩, fun b u e _ => upd_keep e h, fun b e => upd_dom e, fun _ h1 h2 => absurd h1 h2, fun _ h1 h2 => absurd h1 h2, fun b i n => absurd i n⟩
theorem wd_other {W : Wo} {S : Sto} (w : Wd K W S) {p : Addr} {o : HO} (h : W.H p = none) : Wd K ⟨upd W.H p o, W.F, W.B, W.ι⟩ S := by
  refine ⟨fun b u e => upd_keep (w.br b u e) h, w.fb, w.nd, w.dB, w.ln, fun n oc hn => ?_⟩
  obtain ⟨a, u, e1, e2, e3⟩ := w.cl n oc hn
  exact ⟨a, u, e1, upd_keep e2 h, (ext_other w h).roc e3⟩
theorem PostE.weak {W : Wo} {m : Res AV} {Q Q' : VK} (p : PostE K E W m Q) (h : ∀ v H, Q v H → Q' v H) : PostE K E W m Q' := by
  cases m with
  | ok x S => exact fun v W' e w r => h _ _ (p v W' e w r)
  | ex C x S => exact p
  | no => exact p
theorem re_make {C : Addr} {n : Nat} {den : List AV → Sto → Res AV} {E' : L2.XK} (h : RA K E al dl) : RE K E (tMake C (sp_d K n den) [] E' al) (eMake C (fCallI n den) dl) := by
  intro W S σ ρ Q w r p
  refine h.step w r p fun vs xs W1 S1 e1 w1 r1 v1 p1 => ?_
  intro x dx hx hdx hne
  rw [List.append_nil]
  have eo := ext_other w1 (o := .own x) hdx
  have wo := wd_other w1 (o := .own x) hdx
  have hx' : upd W1.H dx (.own x) x = none := by rw [upd_ne hne.symm]; exact hx
  have en := ext_new (o := .ins C dx []) wo hx'
  have wn := wd_new (oc := .obj C []) (o := .ins C dx []) wo hx' (.obj rfl .nil)
  have e12 := eo.trans en
  refine sp_callI (E := E) (W := Wo.new ⟨upd W1.H dx (.own x), W1.F, W1.B, W1.ι⟩ x (.ins C dx [])) (xs := .c S1.length :: xs) wn (.cons (.c ?_) (e12.rl v1)) ?_
  · show (W1.ι ++ [x])[S1.length]? = some x
    rw [← w1.ln]
    simp
  · unfold fCallI at p1 ⊢
    split
    · rename_i hl
      rw [if_pos hl] at p1
      cases e : den (.c S1.length :: xs) (S1 ++ [.obj C []]) with
      | no => rw [e] at p1; exact p1
      | ex C' y T => rw [e] at p1; exact p1
      | ok y T =>
        rw [e] at p1
        intro v W2 e2 w2 r2
        show v = .non ∧ Q (.ref x) W2.H
        simp only [noX, bind_ok] at p1
        split at p1
        · cases r2 with
          | d r2 =>
            cases r2
            refine ⟨rfl, p1 (.ref x) W2 (e12.trans e2) w2 (.c ?_)⟩
            obtain ⟨t, ht⟩ := e2.pi
            rw [ht]
            refine pre_get ?_
            show (W1.ι ++ [x])[S1.length]? = some x
            rw [← w1.ln]
            simp
        · exact p1.elim
    · rename_i hl
      rw [if_neg hl] at p1
      exact p1.elim
end
end My

namespace My
open PySem PySem.Spec L2
open PyProof.Rows (envOfC)
open Classical
/-! ### statements -/
inductive Out where
  | nx (ρ : En) (S : Sto) | rt (x : AV) (S : Sto) | bk (ρ : En) (S : Sto) | ct (ρ : En) (S : Sto) | ex (C : Addr) (x : AV) (S : Sto) | no
abbrev SV := En → Sto → Out
def PostS (K : PySem.W.Frag) (E : L2.XK) (W : Wo) (m : Out) (D : Ends) : Prop := match m with
  | .nx ρ S => ∀ σ W', Ext W W' → Wd K W' S → ER K W' σ ρ → D.nx σ W'.H
  | .bk ρ S => ∀ σ W', Ext W W' → Wd K W' S → ER K W' σ ρ → D.bk σ W'.H
  | .ct ρ S => ∀ σ W', Ext W W' → Wd K W' S → ER K W' σ ρ → D.ct σ W'.H
  | .rt x S => ∀ v W', Ext W W' → Wd K W' S → RVw K W' v x → D.rt v W'.H
  | .ex C x S => ∀ v dx W', Ext W W' → Wd K W' S → RVw K W' v x → XD W'.H dx v → E (.ref C) (some dx) W'.H
  | .no => False
/-- an expression's result, then a statement's end -/
def Res.out {α : Type} (m : Res α) (k : α → Sto → Out) : Out := match m with
  | .ok a S => k a S
  | .ex C x S => .ex C x S
  | .no => .no
@[simp] theorem out_ok {α : Type} {a : α} {S : Sto} {k : α → Sto → Out} : (Res.ok a S).out k = k a S := rfl
@[simp] theorem out_ex {α : Type} {C : Addr} {x : AV} {S : Sto} {k : α → Sto → Out} : (Res.ex C x S : Res α).out k = .ex C x S := rfl
@[simp] theorem out_no {α : Type} {k : α → Sto → Out} : (Res.no : Res α).out k = .no := rfl
def RS (K : PySem.W.Frag) (E : L2.XK) (t : TS) (den : SV) : Prop := ∀ (W : Wo) (S : Sto) (σ : L2.St) (ρ : En) (D : Ends), Wd K W S → ER K W σ ρ → PostS K E W (den ρ S) D → t D σ W.H
/-- targets -/
abbrev GV := AV → En → Sto → Res En
def Agree (vs : List Nat) (σ σ' : L2.St) : Prop := σ'.length = σ.length ∧ ∀ i, i ∉ vs → σ'[i]? = σ[i]?
def PostG (K : PySem.W.Frag) (E : L2.XK) (vs : List Nat) (σ : L2.St) (W : Wo) (m : Res En) (Q : L2.St → Hp → Prop) : Prop := match m with
  | .ok ρ S => ∀ σ' W', Agree vs σ σ' → Ext W W' → Wd K W' S → ER K W' σ' ρ → Q σ' W'.H
  | .ex C x S => ∀ v dx W', Ext W W' → Wd K W' S → RVw K W' v x → XD W'.H dx v → E (.ref C) (some dx) W'.H
  | .no => False
def RG (K : PySem.W.Frag) (E : L2.XK) (vs : List Nat) (t : TG) (den : GV) : Prop := ∀ (W : Wo) (S : Sto) (σ : L2.St) (ρ : En) (v : V) (x : AV) (Q : L2.St → Hp → Prop), Wd K W S → ER K W σ ρ → RVw K W v x → PostG K E vs σ W (den x ρ S) Q → t v σ W.H Q
abbrev GsV := List AV → En → Sto → Res En
def RGs (K : PySem.W.Frag) (E : L2.XK) (vs : List Nat) (t : TGs) (den : GsV) : Prop := ∀ (W : Wo) (S : Sto) (σ : L2.St) (ρ : En) (v : List V) (x : List AV) (Q : L2.St → Hp → Prop), Wd K W S → ER K W σ ρ → RLw K W v x → PostG K E vs σ W (den x ρ S) Q → t v σ W.H Q
section
variable {K : PySem.W.Frag} {E : L2.XK} {W W1 : Wo} {S : Sto} {σ : L2.St} {ρ : En} {ta tb tc : TE} {da db dc : EV} {al : TA} {dl : LV}
theorem PostS.ext {m : Out} {D : Ends} (e : Ext W W1) (h : PostS K E W m D) : PostS K E W1 m D := by
  cases m with
  | nx x S => exact fun v W' e' => h v W' (e.trans e')
  | bk x S => exact fun v W' e' => h v W' (e.trans e')
  | ct x S => exact fun v W' e' => h v W' (e.trans e')
  | rt x S => exact fun v W' e' => h v W' (e.trans e')
  | ex C x S => exact fun v dx W' e' => h v dx W' (e.trans e')
  | no => exact h
theorem Agree.refl {vs : List Nat} {σ : L2.St} : Agree vs σ σ := ⟨rfl, fun _ _ => rfl⟩
theorem Agree.trans {vs : List Nat} {σ σ1 σ2 : L2.St} (a : Agree vs σ σ1) (b : Agree vs σ1 σ2) : Agree vs σ σ2 := ⟨b.1.trans a.1, fun i h => (b.2 i h).trans (a.2 i h)⟩
theorem PostG.ext {vs : List Nat} {σ1 : L2.St} {m : Res En} {Q : L2.St → Hp → Prop} (a : Agree vs σ σ1) (e : Ext W W1) (h : PostG K E vs σ W m Q) : PostG K E vs σ1 W1 m Q := by
  cases m with
  | ok x S => exact fun v W' a' e' => h v W' (a.trans a') (e.trans e')
  | ex C x S => exact fun v dx W' e' => h v dx W' (e.trans e')
  | no => exact h
theorem RE.stepS {t : TE} {den : EV} (h : RE K E t den) {k : AV → Sto → Out} {D : Ends} {R : VK} (w : Wd K W S) (r : ER K W σ ρ) (p : PostS K E W ((den ρ S).out k) D)
    (q : ∀ v x W1 S1, Ext W W1 → Wd K W1 S1 → ER K W1 σ ρ → RVw K W1 v x → PostS K E W1 (k x S1) D → R v W1.H) : t σ W.H R := by
  refine h W S σ ρ R w r ?_
  cases e : den ρ S with
  | ok x S1 =>
    rw [e] at p
    exact fun v W1 e1 w1 r1 => q v x W1 S1 e1 w1 (r.ext e1) r1 (PostS.ext e1 p)
  | ex C x S1 => rw [e] at p; exact p
  | no => rw [e] at p; exact p
theorem RT.stepS {t : TT} {den : TV} (h : RT K E t den) {k : Bool → Sto → Out} {D : Ends} {R : Bool → Hp → Prop} (w : Wd K W S) (r : ER K W σ ρ) (p : PostS K E W ((den ρ S).out k) D)
    (q : ∀ b W1 S1, Ext W W1 → Wd K W1 S1 → ER K W1 σ ρ → PostS K E W1 (k b S1) D → R b W1.H) : t σ W.H R := by
  refine h W S σ ρ R w r ?_
  cases e : den ρ S with
  | ok x S1 =>
    rw [e] at p
    exact fun W1 e1 w1 => q x W1 S1 e1 w1 (r.ext e1) (PostS.ext e1 p)
  | ex C x S1 => rw [e] at p; exact p
  | no => rw [e] at p; exact p
theorem RG.stepS {vs : List Nat} {t : TG} {den : GV} (h : RG K E vs t den) {k : En → Sto → Out} {D : Ends} {R : L2.St → Hp → Prop} {v : V} {x : AV} (w : Wd K W S) (r : ER K W σ ρ) (rv : RVw K W v x) (p : PostS K E W ((den x ρ S).out k) D)
    (q : ∀ σ1 ρ1 W1 S1, Agree vs σ σ1 → Ext W W1 → Wd K W1 S1 → ER K W1 σ1 ρ1 → PostS K E W1 (k ρ1 S1) D → R σ1 W1.H) : t v σ W.H R := by
  refine h W S σ ρ v x R w r rv ?_
  cases e : den x ρ S with
  | ok ρ1 S1 =>
    rw [e] at p
    exact fun σ1 W1 a e1 w1 r1 => q σ1 ρ1 W1 S1 a e1 w1 r1 (PostS.ext e1 p)
  | ex C x S1 => rw [e] at p; exact p
  | no => rw [e] at p; exact p
/-- targets -/
def gnm (i : Nat) : GV := fun x ρ S => .ok (ρ.set i (some x)) S
theorem rg_name {vs : List Nat} {i : Nat} (hi : i ∈ vs := by decide) : RG K E vs (gName i) (gnm i) := by
  intro W S σ ρ v x Q w r rv p
  refine p (σ.set i (some v)) W ⟨by rw [List.length_set], fun j hj => ?_⟩ Ext.refl w (r.set rv i)
  rw [List.getElem?_set_ne]
  rintro rfl
  exact hj hi
def gsN : GsV := fun xs ρ S => match xs with
  | [] => .ok ρ S
  | _ => .no
def gsC (g : GV) (gs : GsV) : GsV := fun xs ρ S => match xs with
  | x :: r => (g x ρ S).bind fun ρ1 S1 => gs r ρ1 S1
  | [] => .no
theorem rgs_nil {vs : List Nat} : RGs K E vs gNil gsN := by
  intro W S σ ρ v x Q w r rv p
  unfold gsN at p
  cases rv with
  | nil => exact ⟨rfl, p σ W Agree.refl Ext.refl w r⟩
  | cons a b => exact p.elim
theorem rgs_cons {vs : List Nat} {t : TG} {ts : TGs} {g : GV} {gs : GsV} (h1 : RG K E vs t g) (h2 : RGs K E vs ts gs) : RGs K E vs (gCons t ts) (gsC g gs) := by
  intro W S σ ρ v x Q w r rv p
  unfold gsC at p
  cases rv with
  | nil => exact p.elim
  | cons a b =>
    rename_i u y us ys
    refine ⟨u, us, rfl, ?_⟩
    refine h1 W S σ ρ u y _ w r a ?_
    cases e : g y ρ S with
    | no => simp only [e] at p; exact p.elim
    | ex C z T => simp only [e] at p; exact p
    | ok ρ1 S1 =>
      simp only [e, bind_ok] at p
      intro σ1 W1 ag e1 w1 r1
      exact h2 W1 S1 σ1 ρ1 us ys Q w1 r1 (e1.rl b) (p.ext ag e1)
def gtp (n : Nat) (gs : GsV) : GV := fun x ρ S => match lookT x with
  | some xs => if xs.length = n then gs xs ρ S else .no
  | none => .no
theorem rg_tup {vs : List Nat} {n : Nat} {ts : TGs} {gs : GsV} (h : RGs K E vs ts gs) : RG K E vs (gTup K n ts) (gtp n gs) := by
  intro W S σ ρ v x Q w r rv p
  unfold gtp at p
  cases e : lookT x with
  | none => rw [e] at p; exact p.elim
  | some xs =>
    simp only [e] at p
    by_cases hl : xs.length = n
    · rw [if_pos hl] at p
      obtain ⟨a, us, rfl, h3, h4⟩ := lookT_ok w rv e
      exact ⟨a, us, rfl, h3, by rw [h4.len]; exact hl, h W S σ ρ us xs Q w r h4 p⟩
    · rw [if_neg hl] at p
      exact p.elim
/-- o[i] = v, a list's item -/
def fSet : AV → AV → AV → Sto → Res Unit := fun o i v S => match o, cellL S o, asI i with
  | .c n, some xs, some k => match ixN xs.length k with
    | some j => .ok () (S.set n (.lst (xs.set j v)))
    | none => .no
  | _, _, _ => .no
theorem fSet_ex {a b x : AV} {S : Sto} {C : Addr} {z : AV} {T : Sto} : fSet a b x S ≠ .ex C z T := by
  unfold fSet
  split
  · split <;> exact nofun
  · exact nofun
def gsb (da db : EV) : GV := fun x ρ S => (da ρ S).bind fun o S1 => (db ρ S1).bind fun i S2 => (fSet o i x S2).bind fun _ S3 => .ok ρ S3
theorem fSet_ok {o i v : V} {a b x : AV} {Q : Hp → Prop} (w : Wd K W S) (ro : RVw K W o a) (ri : RVw K W i b) (rv : RVw K W v x) (h : ∃ T, fSet a b x S = .ok () T ∧ ∀ W', Ext W W' → Wd K W' T → Q W'.H) : rSetL o i v W.H Q := by
  obtain ⟨T, e, q⟩ := h
  unfold fSet at e
  split at e
  · rename_i n xs k e2 e1
    obtain ⟨m, c, us, em, rfl, h1, h2, h3, h4⟩ := cellL_ok w ro e1
    cases em
    cases e3 : ixN xs.length k with
    | none => rw [e3] at e; cases e
    | some j =>
      rw [e3] at e
      cases e
      refine ⟨c, us, k, j, rfl, asI_ok ri e2, h3, by rw [h4.len]; exact e3, ?_⟩
      exact q (W.wr c _) (ext_wr (List.mem_of_getElem? h1)) (wd_wr w h1 (.lst (RVL.set rv j h4)))
  · cases e
theorem rg_sub {vs : List Nat} (ha : RE K E ta da) (hb : RE K E tb db) : RG K E vs (gSub ta tb rSetL) (gsb da db) := by
  intro W S σ ρ v x Q w r rv p
  unfold gsb at p
  refine ha W S σ ρ _ w r ?_
  cases e : da ρ S with
  | no => rw [e] at p; exact p.elim
  | ex C z T => rw [e] at p; exact p
  | ok o S1 =>
    rw [e] at p
    intro ov W1 e1 w1 ro
    refine hb W1 S1 σ ρ _ w1 (r.ext e1) ?_
    simp only [bind_ok] at p
    cases e2 : db ρ S1 with
    | no => rw [e2] at p; exact p.elim
    | ex C z T => rw [e2] at p; exact PostE.ext (m := .ex C z T) e1 p
    | ok i S2 =>
      rw [e2] at p
      intro iv W2 e2' w2 ri
      simp only [bind_ok] at p
      cases e3 : fSet o i x S2 with
      | no => rw [e3] at p; exact p.elim
      | ex C z T => exact absurd e3 fSet_ex
      | ok u S3 =>
        rw [e3] at p
        exact fSet_ok w2 (e2'.rv ro) ri ((e1.trans e2').rv rv) ⟨S3, e3, fun W3 e3' w3 => p σ W3 Agree.refl ((e1.trans e2').trans e3') w3 (r.ext ((e1.trans e2').trans e3'))⟩
/-! ### blocks -/
def dNx : SV := fun ρ S => .nx ρ S
def dSeq (a b : SV) : SV := fun ρ S => match a ρ S with
  | .nx ρ1 S1 => b ρ1 S1
  | o => o
variable {t u : TS} {a b : SV}
theorem rs_next : RS K E tNext dNx := fun W S σ ρ D w r p => p σ W Ext.refl w r
theorem rs_seq (ha : RS K E t a) (hb : RS K E u b) : RS K E (tSeq t u) (dSeq a b) := by
  intro W S σ ρ D w r p
  refine ha W S σ ρ { D with nx := u D } w r ?_
  unfold dSeq at p
  cases e : a ρ S with
  | nx ρ1 S1 =>
    rw [e] at p
    exact fun σ1 W1 e1 w1 r1 => hb W1 S1 σ1 ρ1 D w1 r1 (p.ext e1)
  | bk x S => rw [e] at p; exact p
  | ct x S => rw [e] at p; exact p
  | rt x S => rw [e] at p; exact p
  | ex C x S => rw [e] at p; exact p
  | no => rw [e] at p; exact p
def dBk : SV := fun ρ S => .bk ρ S
def dCt : SV := fun ρ S => .ct ρ S
theorem rs_break : RS K E tBreak dBk := fun W S σ ρ D w r p => p σ W Ext.refl w r
theorem rs_cont : RS K E tCont dCt := fun W S σ ρ D w r p => p σ W Ext.refl w r
def dEx (da : EV) : SV := fun ρ S => (da ρ S).out fun _ S1 => .nx ρ S1
theorem rs_expr (ha : RE K E ta da) : RS K E (tDrop ta) (dEx da) := by
  intro W S σ ρ D w r p
  exact ha.stepS w r p fun v x W1 S1 e1 w1 r1 v1 p1 => p1 σ W1 Ext.refl w1 r1
def dRt (da : EV) : SV := fun ρ S => (da ρ S).out fun x S1 => .rt x S1
theorem rs_ret (ha : RE K E ta da) : RS K E (tRet ta) (dRt da) := by
  intro W S σ ρ D w r p
  exact ha.stepS w r p fun v x W1 S1 e1 w1 r1 v1 p1 => p1 v W1 Ext.refl w1 v1
def dRtN : SV := fun ρ S => .rt nA S
theorem rs_retN : RS K E tRetN dRtN := fun W S σ ρ D w r p => p .non W Ext.refl w (.d .non)
def dIf (g : TV) (a b : SV) : SV := fun ρ S => (g ρ S).out fun c S1 => if c = true then a ρ S1 else b ρ S1
theorem rs_if {c : TT} {g : TV} (hc : RT K E c g) (ha : RS K E t a) (hb : RS K E u b) : RS K E (tIfS c t u) (dIf g a b) := by
  intro W S σ ρ D w r p
  refine hc.stepS w r p fun c W1 S1 e1 w1 r1 p1 => ?_
  cases c with
  | true => rw [if_pos rfl] at *; exact ha W1 S1 σ ρ D w1 r1 p1
  | false => rw [if_neg nofun] at *; exact hb W1 S1 σ ρ D w1 r1 p1
def dNever : SV := fun _ _ => .no
theorem rs_never : RS K E tNever dNever := fun W S σ ρ D w r p => p
def dAs (da : EV) (g : GV) : SV := fun ρ S => (da ρ S).out fun x S1 => (g x ρ S1).out fun ρ1 S2 => .nx ρ1 S2
theorem rs_asg {vs : List Nat} {g : TG} {dg : GV} (ha : RE K E ta da) (hg : RG K E vs g dg) : RS K E (tAsg ta g) (dAs da dg) := by
  intro W S σ ρ D w r p
  refine ha.stepS w r p fun v x W1 S1 e1 w1 r1 v1 p1 => ?_
  exact hg.stepS w1 r1 v1 p1 fun σ2 ρ2 W2 S2 ag e2 w2 r2 p2 => p2 σ2 W2 Ext.refl w2 r2
def dAu (i : Nat) (f : AV → AV → Sto → Res AV) (da : EV) : SV := fun ρ S => (eVar i ρ S).out fun x S0 => (da ρ S0).out fun y S1 => (f x y S1).out fun z S2 => .nx (ρ.set i (some z)) S2
theorem rs_aug {i : Nat} {r2 : TIp} {f : AV → AV → Sto → Res AV} (h : R2R K E r2 f) (ha : RE K E ta da) : RS K E (tAug i ta r2) (dAu i f da) := by
  intro W S σ ρ D w r p
  unfold dAu eVar at p
  cases e : ρ[i]? with
  | none => rw [e] at p; exact p.elim
  | some o =>
    cases o with
    | none => rw [e] at p; exact p.elim
    | some x =>
      rw [e] at p
      obtain ⟨v, h1, h2⟩ := r.at_ i x e
      refine ⟨v, h1, ?_⟩
      refine ha.stepS w r p fun u y W1 S1 e1 w1 r1 v1 p1 => ?_
      refine h W1 S1 v u x y _ w1 (e1.rv h2) v1 ?_
      cases e3 : f x y S1 with
      | no => rw [e3] at p1; exact p1.elim
      | ex C z T => rw [e3] at p1; exact p1
      | ok z S2 =>
        rw [e3] at p1
        exact fun zv W2 e2 w2 rz => p1 _ W2 e2 w2 ((r1.ext e2).set rz i)
theorem ip_int {g : Int → Int → Int} : R2R K E (ipI g) (fI fun i j => .int (g i j)) := rr_int
/-- o[i] op= e -/
def dAuS (f : AV → AV → Sto → Res AV) (da db dc : EV) : SV := fun ρ S => (da ρ S).out fun o S1 => (db ρ S1).out fun i S2 => (fIx o i S2).out fun x S3 => (dc ρ S3).out fun y S4 => (f x y S4).out fun z S5 => (fSet o i z S5).out fun _ S6 => .nx ρ S6
/-- o.f = v -/
def putA (f : Str) (v : AV) : List (Str × AV) → List (Str × AV)
  | [] => [(f, v)]
  | (g, x) :: r => if g = f then (g, v) :: r else (g, x) :: putA f v r
theorem put_rl {f : Str} {v : V} {x : AV} (rv : RVw K W v x) : ∀ {fs : List (Str × V)} {gs : List (Str × AV)}, fs.map Prod.fst = gs.map Prod.fst → RLw K W (fs.map Prod.snd) (gs.map Prod.snd) → (putF f v fs).map Prod.fst = (putA f x gs).map Prod.fst ∧ RLw K W ((putF f v fs).map Prod.snd) ((putA f x gs).map Prod.snd)
  | [], [], _, _ => ⟨rfl, .cons rv .nil⟩
  | (k, u) :: r, (k', y) :: t, e, q => by
    simp only [List.map_cons, List.cons.injEq] at e
    obtain ⟨rfl, e⟩ := e
    cases q with
    | cons a q =>
      unfold putF putA
      by_cases hk : k = f
      · rw [if_pos hk, if_pos hk]
        exact ⟨by simp [e], .cons rv q⟩
      · rw [if_neg hk, if_neg hk]
        obtain ⟨h1, h2⟩ := put_rl rv e q
        exact ⟨by simp [h1], .cons a h2⟩
  | [], _ :: _, e, _ => by cases e
  | _ :: _, [], e, _ => by cases e
def dFs (cs : List Addr) (da : EV) (f : Str) (dv : EV) : SV := fun ρ S => (dv ρ S).out fun y S1 => (da ρ S1).out fun o S2 => match objAt S2 o with
  | some (n, C, gs) => if C ∈ cs ∧ gs.length < 900 then .nx ρ (S2.set n (.obj C (putA f y gs))) else .no
  | none => .no
theorem rs_fld {cs : List Addr} {f : Str} (hc : ∀ C ∈ cs, Cls K C ∧ NoAttr K C f) (ha : RE K E ta da) (hb : RE K E tb db) : RS K E (sFld K ta tb f) (dFs cs da f db) := by
  intro W S σ ρ D w r p
  refine hb.stepS w r p fun v y W1 S1 e1 w1 r1 v1 p1 => ?_
  refine ha.stepS w1 r1 p1 fun o x W2 S2 e2 w2 r2 v2 p2 => ?_
  cases e : objAt S2 x with
  | none => rw [e] at p2; exact p2.elim
  | some q =>
    obtain ⟨n, C, gs⟩ := q
    simp only [e] at p2
    by_cases h : C ∈ cs ∧ gs.length < 900
    · rw [if_pos h] at p2
      obtain ⟨q, dx, fs, rfl, rfl, h1, h2, h3, h4, h5⟩ := obj_ok w2 v2 e
      obtain ⟨g1, g2⟩ := put_rl (f := f) (e2.rv v1) h4 h5
      have hl : fs.length = gs.length := by simpa using congrArg List.length h4
      refine ⟨q, C, dx, fs, rfl, h3, (hc C h.1).1, (hc C h.1).2, by omega, ?_⟩
      exact p2 σ (W2.wr q _) (ext_wr (List.mem_of_getElem? h1)) (wd_wr w2 h1 (.obj g1 g2)) (r2.ext (ext_wr (List.mem_of_getElem? h1)))
    · rw [if_neg h] at p2
      exact p2.elim
/-- o.f op= v -/
def dFa (cs : List Addr) (da : EV) (f : Str) (g : AV → AV → Sto → Res AV) (dv : EV) : SV := fun ρ S => (da ρ S).out fun o S1 => match objAt S1 o with
  | some (n, C, gs) => if C ∈ cs then (match gs.lookup f with
    | some x => (dv ρ S1).out fun y S2 => (g x y S2).out fun z S3 => (match objAt S3 o with
      | some (n, C', gs') => if C' = C ∧ gs'.length < 900 then .nx ρ (S3.set n (.obj C (putA f z gs'))) else .no
      | none => .no)
    | none => .no) else .no
  | none => .no
theorem rs_faug {cs : List Addr} {f : Str} {r2 : V → V → Hp → VK → Prop} {g : AV → AV → Sto → Res AV} (hc : ∀ C ∈ cs, Cls K C ∧ NoAttr K C f) (h : R2R K E r2 g) (ha : RE K E ta da) (hb : RE K E tb db) : RS K E (sFldAug K ta tb r2 f) (dFa cs da f g db) := by
  intro W S σ ρ D w r p
  refine ha.stepS w r p fun o x W1 S1 e1 w1 r1 v1 p1 => ?_
  cases e : objAt S1 x with
  | none => rw [e] at p1; exact p1.elim
  | some q =>
    obtain ⟨n, C, gs⟩ := q
    simp only [e] at p1
    by_cases h : C ∈ cs
    · rw [if_pos h] at p1
      obtain ⟨q, dx, fs, rfl, rfl, h1, h2, h3, h4, h5⟩ := obj_ok w1 v1 e
      cases e2 : gs.lookup f with
      | none => rw [e2] at p1; exact p1.elim
      | some y =>
        simp only [e2] at p1
        obtain ⟨u, g1, g2⟩ := lookup_rl h4 h5 e2
        refine ⟨q, C, dx, fs, u, rfl, h3, (hc C h).1, (hc C h).2, g1, ?_⟩
        refine hb.stepS w1 r1 p1 fun z zz W2 S2 e3 w2 r2' v2 p2 => ?_
        rename_i hr
        refine hr W2 S2 u z y zz _ w2 (e3.rv g2) v2 ?_
        cases e4 : g y zz S2 with
        | no => rw [e4] at p2; exact p2.elim
        | ex C z T => rw [e4] at p2; exact p2
        | ok k S3 =>
          rw [e4] at p2
          intro kv W3 e5 w3 rk
          simp only [out_ok] at p2
          cases e6 : objAt S3 (.c n) with
          | none => rw [e6] at p2; exact p2.elim
          | some q' =>
            obtain ⟨n', C', gs'⟩ := q'
            simp only [e6] at p2
            by_cases hh : C' = C ∧ gs'.length < 900
            · rw [if_pos hh] at p2
              obtain ⟨q2, dx2, fs2, ec, er, k1, k2, k3, k4, k5⟩ := obj_ok w3 (e5.rv (e3.rv v1)) e6
              cases ec
              cases er
              obtain ⟨rfl, hl⟩ := hh
              obtain ⟨m1, m2⟩ := put_rl (f := f) rk k4 k5
              have hl' : fs2.length = gs'.length := by simpa using congrArg List.length k4
              refine ⟨dx2, fs2, k3, by omega, ?_⟩
              exact p2 σ (W3.wr q _) (e5.trans (ext_wr (List.mem_of_getElem? k1))) (wd_wr w3 k1 (.obj m1 m2)) ((r2'.ext e5).ext (ext_wr (List.mem_of_getElem? k1)))
            · rw [if_neg hh] at p2
              exact p2.elim
    · rw [if_neg h] at p1
      exact p1.elim
end
/-! ### a def -/
def fnD (n : Nat) (body : SV) : List AV → Sto → Res AV := fun xs S => match body (xs.map some ++ List.replicate (n - xs.length) none) S with
  | .nx _ T => .ok nA T
  | .rt x T => .ok x T
  | .ex C x T => .ex C x T
  | _ => .no
section
variable {P : Program} {w : World} {K : PySem.W.Frag} {mg : Str → Option Value} {base : Heap}
theorem fnOkD {x qual : Str} {st : Stmt} {f : Addr} {fd : FuncData} {N ps : List Str} {k : Nat} {n m : Nat} {body : SV} (F : Fun K x qual st f fd) (S : FnScope N ps (defScope st)) (hn : n = N.length) (hm : m = ps.length)
    (hbody : ∀ (cdv : Value) (A : Around) (outer : List Env) (s : Shared) (H : Hp) (E : L2.XK), Room k (A.deeper (envOfC qual (defScope st) s.heap.objs.size f cdv)) →
      ∃ t, PSs (cxOf (L2.CX P w) P w K mg base N qual (defScope st) f cdv A outer s H E).nox (defBody st) t ∧ RS K E0 t body) : FnOk P w K mg base (L2.CX P w) (k + 1) f fd ps (sp_d K m (fnD n body)) := by
  refine okN F S (fun vs H Q E h => by rw [← hm]; exact h.1) fun cdv A outer s H vs Q E hr h => ?_
  obtain ⟨hl, W, T, xs, rfl, wd, rl, p⟩ := h
  obtain ⟨t, h1, h2⟩ := hbody cdv A outer s W.H E hr
  refine ⟨t, h1, ?_⟩
  refine h2 W T (start N vs) (xs.map some ++ List.replicate (n - xs.length) none) _ wd (by rw [hn]; exact er_start rl) ?_
  unfold fnD at p
  cases e : body (xs.map some ++ List.replicate (n - xs.length) none) T with
  | nx ρ U => rw [e] at p; exact fun σ W' e' w' r' => p .non W' e' w' (.d .non)
  | rt x U => rw [e] at p; exact p
  | bk ρ U => rw [e] at p; exact p.elim
  | ct ρ U => rw [e] at p; exact p.elim
  | ex C x U => rw [e] at p; exact p
  | no => rw [e] at p; exact p.elim
end
end My

namespace My
open PySem PySem.Spec L2
open Classical
/-! ### what is walked -/
inductive ItA where
  | seq (x : AV) | tup (x : AV) | rng (lo : Int) (n : Nat) | enum (x : AV) | zip (x y : AV) | zipT (x y : AV) | rev (x : AV) (n : Nat)
  | rngc (lo c : Int) (n : Nat)
def ItA.at_ (S : Sto) (i : Nat) : ItA → Option (Option AV)
  | .seq x => (look S x).map (·[i]?)
  | .tup x => (lookT x).map (·[i]?)
  | .rng lo n => some (if i < n then some (iA (lo + i)) else none)
  | .rngc lo c n => some (if i < n then some (iA (lo + (i : Nat) * c)) else none)
  | .enum x => (look S x).map fun xs => (xs[i]?).map fun y => mkT [iA i, y]
  | .zip x y => match look S x, look S y with
    | some xs, some ys => some (match xs[i]?, ys[i]? with
      | some a, some b => some (mkT [a, b])
      | _, _ => none)
    | _, _ => none
  | .zipT x y => match lookT x, lookT y with
    | some xs, some ys => some (match xs[i]?, ys[i]? with
      | some a, some b => some (mkT [a, b])
      | _, _ => none)
    | _, _ => none
  | .rev x n => if i < n then (match look S x with
    | some xs => (match xs[n - 1 - i]? with
      | some y => some (some y)
      | none => none)
    | none => none) else some none
def RItem (K : PySem.W.Frag) (J : L2.It) (j : ItA) (W : Wo) : Prop := ∀ (W' : Wo) (S : Sto) (i : Nat), Ext W W' → Wd K W' S →
  match j.at_ S i with
  | none => True
  | some none => J.stop i W'.H
  | some (some x) => J.go i W'.H ∧ ∀ v H', J.yld i W'.H v H' → ∃ W2 : Wo, W2.H = H' ∧ Ext W' W2 ∧ Wd K W2 S ∧ RVw K W2 v x
abbrev IV := En → Sto → Res ItA
def PostI (K : PySem.W.Frag) (E : L2.XK) (W : Wo) (m : Res ItA) (Q : L2.It → Hp → Prop) : Prop := match m with
  | .ok j S => ∀ J W', Ext W W' → Wd K W' S → RItem K J j W' → Q J W'.H
  | .ex C x S => ∀ v dx W', Ext W W' → Wd K W' S → RVw K W' v x → XD W'.H dx v → E (.ref C) (some dx) W'.H
  | .no => False
def RI (K : PySem.W.Frag) (E : L2.XK) (t : TI) (den : IV) : Prop := ∀ (W : Wo) (S : Sto) (σ : L2.St) (ρ : En) (Q : L2.It → Hp → Prop), Wd K W S → ER K W σ ρ → PostI K E W (den ρ S) Q → t σ W.H Q
section
variable {K : PySem.W.Frag} {E : L2.XK} {W W1 : Wo} {S : Sto} {σ : L2.St} {ρ : En} {ta tb tc : TE} {da db dc : EV} {al : TA} {dl : LV}
theorem PostI.ext {m : Res ItA} {Q : L2.It → Hp → Prop} (e : Ext W W1) (h : PostI K E W m Q) : PostI K E W1 m Q := by
  cases m with
  | ok j S => exact fun J W' e' => h J W' (e.trans e')
  | ex C x S => exact fun v dx W' e' => h v dx W' (e.trans e')
  | no => exact h
theorem RE.stepI {t : TE} {den : EV} (h : RE K E t den) {k : AV → Sto → Res ItA} {Q : L2.It → Hp → Prop} {R : VK} (w : Wd K W S) (r : ER K W σ ρ) (p : PostI K E W ((den ρ S).bind k) Q)
    (q : ∀ v x W1 S1, Ext W W1 → Wd K W1 S1 → ER K W1 σ ρ → RVw K W1 v x → PostI K E W1 (k x S1) Q → R v W1.H) : t σ W.H R := by
  refine h W S σ ρ R w r ?_
  cases e : den ρ S with
  | ok x S1 =>
    rw [e] at p
    exact fun v W1 e1 w1 r1 => q v x W1 S1 e1 w1 (r.ext e1) r1 (p.ext e1)
  | ex C x S1 => rw [e] at p; exact p
  | no => rw [e] at p; exact p
theorem RA.stepI {t : TA} {den : LV} (h : RA K E t den) {k : List AV → Sto → Res ItA} {Q : L2.It → Hp → Prop} {R : List V → Hp → Prop} (w : Wd K W S) (r : ER K W σ ρ) (p : PostI K E W ((den ρ S).bind k) Q)
    (q : ∀ v x W1 S1, Ext W W1 → Wd K W1 S1 → ER K W1 σ ρ → RLw K W1 v x → PostI K E W1 (k x S1) Q → R v W1.H) : t σ W.H R := by
  refine h W S σ ρ R w r ?_
  cases e : den ρ S with
  | ok x S1 =>
    rw [e] at p
    exact fun v W1 e1 w1 r1 => q v x W1 S1 e1 w1 (r.ext e1) r1 (p.ext e1)
  | ex C x S1 => rw [e] at p; exact p
  | no => rw [e] at p; exact p
def jSeq (da : EV) : IV := fun ρ S => (da ρ S).bind fun x S1 => match look S1 x with
  | some _ => .ok (.seq x) S1
  | none => .no
/-- one list at its address -/
theorem sq_one (w : Wd K W S) {a : Addr} {x : AV} (r : RVw K W (.ref a) x) {xs : List AV} (h : look S x = some xs) : ∃ vs, SqL K W.H a vs ∧ RLw K W vs xs := by
  obtain ⟨b, vs, e, h1, h2⟩ := look_ok w r h
  cases e
  exact ⟨vs, h1, h2⟩
theorem sqT_one (w : Wd K W S) {a : Addr} {x : AV} (r : RVw K W (.ref a) x) {xs : List AV} (h : lookT x = some xs) : ∃ vs, SqT K W.H a vs ∧ RLw K W vs xs := by
  obtain ⟨b, vs, e, h1, h2⟩ := lookT_ok w r h
  cases e
  exact ⟨vs, h1, h2⟩
theorem ri_list (ha : RE K E ta da) : RI K E (iList K ta) (jSeq da) := by
  intro W S σ ρ Q w r p
  refine ha.stepI w r p fun v x W1 S1 e1 w1 r1 v1 p1 => ?_
  cases e : look S1 x with
  | none => simp only [e] at p1; exact p1.elim
  | some xs =>
    simp only [e] at p1
    obtain ⟨a, vs, rfl, h1, h2⟩ := look_ok w1 v1 e
    refine ⟨a, rfl, ⟨vs, h1⟩, p1 _ W1 Ext.refl w1 fun W' S' i e' w' => ?_⟩
    simp only [ItA.at_]
    cases q : look S' x with
    | none => trivial
    | some ys =>
      obtain ⟨us, g1, g2⟩ := sq_one w' (e'.rv v1) q
      simp only [Option.map_some]
      cases q2 : ys[i]? with
      | none => exact ⟨us, g1, by rw [g2.len]; exact List.getElem?_eq_none_iff.mp q2⟩
      | some y =>
        obtain ⟨u, k1, k2⟩ := g2.get q2
        exact ⟨⟨us, u, g1, k1⟩, fun v H' ⟨eh, hv⟩ => ⟨W', eh.symm, Ext.refl, w', by
          have := hv us g1
          rw [k1] at this
          cases this
          exact k2⟩⟩
def jTup (da : EV) : IV := fun ρ S => (da ρ S).bind fun x S1 => match lookT x with
  | some _ => .ok (.tup x) S1
  | none => .no
theorem ri_tup (ha : RE K E ta da) : RI K E (iTup K ta) (jTup da) := by
  intro W S σ ρ Q w r p
  refine ha.stepI w r p fun v x W1 S1 e1 w1 r1 v1 p1 => ?_
  cases e : lookT x with
  | none => simp only [e] at p1; exact p1.elim
  | some xs =>
    simp only [e] at p1
    obtain ⟨a, vs, rfl, h1, h2⟩ := lookT_ok w1 v1 e
    refine ⟨a, rfl, ⟨vs, h1⟩, p1 _ W1 Ext.refl w1 fun W' S' i e' w' => ?_⟩
    simp only [ItA.at_, e, Option.map_some]
    obtain ⟨us, g1, g2⟩ := sqT_one w' (e'.rv v1) e
    cases q2 : xs[i]? with
    | none => exact ⟨us, g1, by rw [g2.len]; exact List.getElem?_eq_none_iff.mp q2⟩
    | some y =>
      obtain ⟨u, k1, k2⟩ := g2.get q2
      exact ⟨⟨us, u, g1, k1⟩, fun v H' ⟨eh, hv⟩ => ⟨W', eh.symm, Ext.refl, w', by
        have := hv us g1
        rw [k1] at this
        cases this
        exact k2⟩⟩
def jR1 (dl : LV) : IV := fun ρ S => (dl ρ S).bind fun xs S1 => match xs with
  | [.d (.int n)] => if rgOk 0 n then .ok (.rng 0 n.toNat) S1 else .no
  | _ => .no
def jR2 (dl : LV) : IV := fun ρ S => (dl ρ S).bind fun xs S1 => match xs with
  | [.d (.int m), .d (.int n)] => if rgOk m n then .ok (.rng m (n - m).toNat) S1 else .no
  | _ => .no
theorem item_rng {lo : Int} {n : Nat} : RItem K (Itr lo n) (.rng lo n) W := by
  intro W' S' i e' w'
  show match (some (if i < n then some (iA (lo + i)) else none) : Option (Option AV)) with | none => True | some none => _ | some (some y) => _
  by_cases h : i < n
  · rw [if_pos h]
    exact ⟨h, fun v H' ⟨eh, hv⟩ => ⟨W', eh.symm, Ext.refl, w', by rw [hv]; exact .d (.int _)⟩⟩
  · rw [if_neg h]
    exact Nat.le_of_not_lt h
theorem ri_r1 (h : RA K E al dl) : RI K E (iRng1 al) (jR1 dl) := by
  intro W S σ ρ Q w r p
  refine h.stepI w r p fun vs xs W1 S1 e1 w1 r1 v1 p1 => ?_
  split at p1
  · rename_i n
    obtain ⟨v, rfl, rv⟩ := rl1 v1
    split at p1
    · rename_i hr
      obtain ⟨h1, h2, h3, h4⟩ := hr
      cases rv with
      | d rv => cases rv; exact ⟨n, rfl, by omega, by omega, p1 _ W1 Ext.refl w1 item_rng⟩
    · exact p1.elim
  · exact p1.elim
theorem ri_r2 (h : RA K E al dl) : RI K E (iRng2 al) (jR2 dl) := by
  intro W S σ ρ Q w r p
  refine h.stepI w r p fun vs xs W1 S1 e1 w1 r1 v1 p1 => ?_
  split at p1
  · rename_i m n
    obtain ⟨v, u, rfl, rv, ru⟩ := rl2 v1
    split at p1
    · rename_i hr
      obtain ⟨h1, h2, h3, h4⟩ := hr
      cases rv with
      | d rv => cases ru with
        | d ru => cases rv; cases ru; exact ⟨m, n, rfl, ⟨by omega, by omega, by omega, by omega⟩, p1 _ W1 Ext.refl w1 item_rng⟩
    · exact p1.elim
  · exact p1.elim
/-- a new pair -/
theorem pair_new (w : Wd K W S) {T : Addr} {u v : V} {x y : AV} (h : W.H T = none) (rx : RVw K W u x) (ry : RVw K W v y) : ∃ W2 : Wo, W2.H = upd W.H T (.tup [u, v]) ∧ Ext W W2 ∧ Wd K W2 S ∧ RVw K W2 (.ref T) (mkT [x, y]) :=
  ⟨W.frz T (.tup [u, v]), rfl, ext_frz w h, wd_frz w h, tup_rv w h (.cons rx (.cons ry .nil))⟩
def jEn (dl : LV) : IV := fun ρ S => (dl ρ S).bind fun xs S1 => match xs with
  | [x] => (match look S1 x with
    | some _ => .ok (.enum x) S1
    | none => .no)
  | _ => .no
theorem ri_enum (h : RA K E al dl) : RI K E (iEnum K al) (jEn dl) := by
  intro W S σ ρ Q w r p
  refine h.stepI w r p fun vs xs W1 S1 e1 w1 r1 v1 p1 => ?_
  split at p1
  · rename_i x
    obtain ⟨v, rfl, rv⟩ := rl1 v1
    cases e : look S1 x with
    | none => simp only [e] at p1; exact p1.elim
    | some ys =>
      simp only [e] at p1
      obtain ⟨a, us, rfl, h1, h2⟩ := look_ok w1 rv e
      refine ⟨a, us, rfl, h1, p1 _ W1 Ext.refl w1 fun W' S' i e' w' => ?_⟩
      simp only [ItA.at_]
      cases q : look S' x with
      | none => trivial
      | some zs =>
        obtain ⟨us, g1, g2⟩ := sq_one w' (e'.rv rv) q
        simp only [Option.map_some]
        cases q2 : zs[i]? with
        | none => exact ⟨us, g1, by rw [g2.len]; exact List.getElem?_eq_none_iff.mp q2⟩
        | some y =>
          obtain ⟨u, k1, k2⟩ := g2.get q2
          refine ⟨⟨us, u, g1, k1⟩, fun v H' hy => ?_⟩
          obtain ⟨T, x', rfl, hT, rfl, hx⟩ := hy
          have := hx us g1
          rw [k1] at this
          cases this
          exact pair_new w' hT (.d (.int _)) k2
  · exact p1.elim
def jZp (dl : LV) : IV := fun ρ S => (dl ρ S).bind fun xs S1 => match xs with
  | [x, y] => (match look S1 x, look S1 y with
    | some _, some _ => .ok (.zip x y) S1
    | _, _ => .no)
  | _ => .no
theorem ri_zip (h : RA K E al dl) : RI K E (iZip K al) (jZp dl) := by
  intro W S σ ρ Q w r p
  refine h.stepI w r p fun vs xs W1 S1 e1 w1 r1 v1 p1 => ?_
  split at p1
  · rename_i x y
    obtain ⟨v, u, rfl, rv, ru⟩ := rl2 v1
    cases e : look S1 x with
    | none => simp only [e] at p1; exact p1.elim
    | some xs =>
      cases e2 : look S1 y with
      | none => simp only [e, e2] at p1; exact p1.elim
      | some ys =>
        simp only [e, e2] at p1
        obtain ⟨a, us, rfl, h1, h2⟩ := look_ok w1 rv e
        obtain ⟨b, ws, rfl, h3, h4⟩ := look_ok w1 ru e2
        refine ⟨a, b, us, ws, rfl, h1, h3, p1 _ W1 Ext.refl w1 fun W' S' i e' w' => ?_⟩
        simp only [ItA.at_]
        cases q : look S' x with
        | none => trivial
        | some zs =>
          cases q' : look S' y with
          | none => trivial
          | some zs' =>
            simp only
            obtain ⟨us, g1, g2⟩ := sq_one w' (e'.rv rv) q
            obtain ⟨ws, g3, g4⟩ := sq_one w' (e'.rv ru) q'
            cases q2 : zs[i]? with
            | none => exact ⟨us, ws, g1, g3, .inl (by rw [g2.len]; exact List.getElem?_eq_none_iff.mp q2)⟩
            | some c =>
              cases q3 : zs'[i]? with
              | none => exact ⟨us, ws, g1, g3, .inr (by rw [g4.len]; exact List.getElem?_eq_none_iff.mp q3)⟩
              | some c' =>
                obtain ⟨u1, k1, k2⟩ := g2.get q2
                obtain ⟨u2, k3, k4⟩ := g4.get q3
                refine ⟨⟨us, ws, u1, u2, g1, g3, k1, k3⟩, fun v H' hy => ?_⟩
                obtain ⟨T, x', y', rfl, hT, rfl, hx, hy⟩ := hy
                have t1 := hx us g1
                have t2 := hy ws g3
                rw [k1] at t1
                rw [k3] at t2
                cases t1
                cases t2
                exact pair_new w' hT k2 k4
  · exact p1.elim
def jRev (dl : LV) : IV := fun ρ S => (dl ρ S).bind fun xs S1 => match xs with
  | [x] => (match look S1 x with
    | some ys => .ok (.rev x ys.length) S1
    | none => .no)
  | _ => .no
theorem ri_rev (h : RA K E al dl) : RI K E (iRev K al) (jRev dl) := by
  intro W S σ ρ Q w r p
  refine h.stepI w r p fun vs xs W1 S1 e1 w1 r1 v1 p1 => ?_
  split at p1
  · rename_i x
    obtain ⟨v, rfl, rv⟩ := rl1 v1
    cases e : look S1 x with
    | none => simp only [e] at p1; exact p1.elim
    | some ys =>
      simp only [e] at p1
      obtain ⟨a, us, rfl, h1, h2⟩ := look_ok w1 rv e
      refine ⟨a, us, rfl, h1, ?_⟩
      rw [h2.len]
      refine p1 _ W1 Ext.refl w1 fun W' S' i e' w' => ?_
      simp only [ItA.at_]
      by_cases hi : i < ys.length
      · simp only [if_pos hi]
        cases q : look S' x with
        | none => trivial
        | some zs =>
          obtain ⟨us, g1, g2⟩ := sq_one w' (e'.rv rv) q
          simp only
          cases q2 : zs[ys.length - 1 - i]? with
          | none => trivial
          | some y =>
            obtain ⟨u, k1, k2⟩ := g2.get q2
            exact ⟨⟨hi, us, u, g1, k1⟩, fun v H' ⟨eh, hv⟩ => ⟨W', eh.symm, Ext.refl, w', by
              have := hv us g1
              rw [k1] at this
              cases this
              exact k2⟩⟩
      · simp only [if_neg hi]
        exact Nat.le_of_not_lt hi
  · exact p1.elim
/-! ### loops -/
def dLoop (j : ItA) (g : GV) (b : SV) : Nat → Nat → En → Sto → Out
  | 0, _, _, _ => .no
  | k + 1, i, ρ, S => match j.at_ S i with
    | none => .no
    | some none => .nx ρ S
    | some (some x) => (g x ρ S).out fun ρ1 S1 => match b ρ1 S1 with
      | .nx ρ2 S2 => dLoop j g b k (i + 1) ρ2 S2
      | .ct ρ2 S2 => dLoop j g b k (i + 1) ρ2 S2
      | .bk ρ2 S2 => .nx ρ2 S2
      | o => o
def bigN : Nat := 100001
@[irreducible] def dFor (it : IV) (g : GV) (b : SV) : SV := fun ρ S => (it ρ S).out fun j S1 => dLoop j g b bigN 0 ρ S1
variable {t : TS} {b : SV}
theorem rs_for {vs : List Nat} {wi : TI} {it : IV} {g : TG} {dg : GV} (hi : RI K E wi it) (hg : RG K E vs g dg) (hb : RS K E t b) : RS K E (tFor wi g t) (dFor it dg b) := by
  intro W S σ ρ D w r p
  refine hi W S σ ρ _ w r ?_
  unfold dFor at p
  cases e : it ρ S with
  | no => rw [e] at p; exact p
  | ex C x T => rw [e] at p; exact p
  | ok j S1 =>
    rw [e] at p
    intro J W1 e1 w1 hJ
    refine ⟨fun i m σ' H' => ∃ (ρ' : En) (S' : Sto) (W' : Wo), W'.H = H' ∧ Ext W1 W' ∧ Wd K W' S' ∧ ER K W' σ' ρ' ∧ PostS K E W' (dLoop j dg b m i ρ' S') D, ⟨bigN, ρ, S1, W1, rfl, Ext.refl, w1, r.ext e1, p.ext e1⟩, ?_⟩
    rintro i m σ' H' ⟨ρ', S', W', rfl, e', w', r', p'⟩
    cases m with
    | zero => exact p'.elim
    | succ m =>
      unfold dLoop at p'
      have q := hJ W' S' i e' w'
      cases e2 : j.at_ S' i with
      | none => rw [e2] at p'; exact p'.elim
      | some o =>
        rw [e2] at p' q
        cases o with
        | none => exact .inl ⟨q, p' σ' W' Ext.refl w' r'⟩
        | some x =>
          refine .inr ⟨q.1, fun σ2 H2 => ∃ (ρ' : En) (S' : Sto) (W' : Wo), W'.H = H2 ∧ Ext W1 W' ∧ Wd K W' S' ∧ ER K W' σ2 ρ' ∧ PostS K E W' (dLoop j dg b m (i + 1) ρ' S') D, fun σ2 H2 h => ⟨m, Nat.lt_succ_self m, h⟩, fun v H2 hy => ?_⟩
          obtain ⟨W2, rfl, e2', w2, rv⟩ := q.2 v H2 hy
          refine hg.stepS w2 (r'.ext e2') rv (p'.ext e2') fun σ3 ρ3 W3 S3 ag e3 w3 r3 p3 => ?_
          refine hb W3 S3 σ3 ρ3 _ w3 r3 ?_
          cases e4 : b ρ3 S3 with
          | nx ρ4 S4 => rw [e4] at p3; exact fun σ4 W4 e5 w4 r4 => ⟨ρ4, S4, W4, rfl, ((e'.trans e2').trans e3).trans e5, w4, r4, p3.ext e5⟩
          | ct ρ4 S4 => rw [e4] at p3; exact fun σ4 W4 e5 w4 r4 => ⟨ρ4, S4, W4, rfl, ((e'.trans e2').trans e3).trans e5, w4, r4, p3.ext e5⟩
          | bk ρ4 S4 => rw [e4] at p3; exact p3
          | rt x S4 => rw [e4] at p3; exact p3
          | ex C x S4 => rw [e4] at p3; exact p3
          | no => rw [e4] at p3; exact p3
def dWh (c : TV) (b : SV) : Nat → En → Sto → Out
  | 0, _, _ => .no
  | k + 1, ρ, S => (c ρ S).out fun q S1 => if q = true then (match b ρ S1 with
      | .nx ρ2 S2 => dWh c b k ρ2 S2
      | .ct ρ2 S2 => dWh c b k ρ2 S2
      | .bk ρ2 S2 => .nx ρ2 S2
      | o => o) else .nx ρ S1
@[irreducible] def dWhile (c : TV) (b : SV) : SV := fun ρ S => dWh c b bigN ρ S
theorem rs_while {c : TT} {dc : TV} (hc : RT K E c dc) (hb : RS K E t b) : RS K E (tWhile c t) (dWhile dc b) := by
  intro W S σ ρ D w r p
  unfold dWhile at p
  refine ⟨fun m σ' H' => ∃ (ρ' : En) (S' : Sto) (W' : Wo), W'.H = H' ∧ Wd K W' S' ∧ ER K W' σ' ρ' ∧ PostS K E W' (dWh dc b m ρ' S') D, ⟨bigN, ρ, S, W, rfl, w, r, p⟩, ?_⟩
  rintro m σ' H' ⟨ρ', S', W', rfl, w', r', p'⟩
  cases m with
  | zero => exact p'.elim
  | succ m =>
    unfold dWh at p'
    refine hc.stepS w' r' p' fun q W1 S1 e1 w1 r1 p1 => ?_
    cases q with
    | false => rw [if_neg nofun] at *; exact p1 σ' W1 Ext.refl w1 r1
    | true =>
      rw [if_pos rfl] at *
      refine ⟨fun σ2 H2 => ∃ (ρ' : En) (S' : Sto) (W' : Wo), W'.H = H2 ∧ Wd K W' S' ∧ ER K W' σ2 ρ' ∧ PostS K E W' (dWh dc b m ρ' S') D, fun σ2 H2 h => ⟨m, Nat.lt_succ_self m, h⟩, ?_⟩
      refine hb W1 S1 σ' ρ' _ w1 r1 ?_
      cases e4 : b ρ' S1 with
      | nx ρ4 S4 => rw [e4] at p1; exact fun σ4 W4 e5 w4 r4 => ⟨ρ4, S4, W4, rfl, w4, r4, p1.ext e5⟩
      | ct ρ4 S4 => rw [e4] at p1; exact fun σ4 W4 e5 w4 r4 => ⟨ρ4, S4, W4, rfl, w4, r4, p1.ext e5⟩
      | bk ρ4 S4 => rw [e4] at p1; exact p1
      | rt x S4 => rw [e4] at p1; exact p1
      | ex C x S4 => rw [e4] at p1; exact p1
      | no => rw [e4] at p1; exact p1
/-! ### comprehensions -/
def wipeA (ρ : En) : List Nat → En
  | [] => ρ
  | v :: vs => (wipeA ρ vs).set v none
theorem wipeA_len (ρ : En) : ∀ vs, (wipeA ρ vs).length = ρ.length
  | [] => rfl
  | v :: vs => by unfold wipeA; rw [List.length_set, wipeA_len ρ vs]
theorem wipe_get {σ : L2.St} : ∀ {vs : List Nat} {i : Nat}, i ∉ vs → (wipe σ vs)[i]? = σ[i]?
  | [], _, _ => rfl
  | v :: vs, i, h => by
    simp only [List.mem_cons, not_or] at h
    unfold wipe
    rw [List.getElem?_set_ne (Ne.symm h.1)]
    exact wipe_get h.2
theorem wipe_in {σ : L2.St} : ∀ {vs : List Nat} {i : Nat}, i ∈ vs → i < σ.length → (wipe σ vs)[i]? = some none
  | v :: vs, i, h, hl => by
    unfold wipe
    by_cases e : v = i
    · subst e
      rw [List.getElem?_set_self (by rw [wipe_length]; exact hl)]
    · rw [List.getElem?_set_ne e]
      rcases List.mem_cons.mp h with h | h
      · exact absurd h.symm e
      · exact wipe_in h hl
theorem wipe_agree {σ σ' : L2.St} {vs : List Nat} (h : Agree vs σ σ') : wipe σ' vs = wipe σ vs := by
  refine List.ext_getElem? fun i => ?_
  by_cases hi : i ∈ vs
  · by_cases hl : i < σ.length
    · rw [wipe_in hi hl, wipe_in hi (by rw [h.1]; exact hl)]
    · rw [List.getElem?_eq_none_iff.mpr (by rw [wipe_length, h.1]; omega), List.getElem?_eq_none_iff.mpr (by rw [wipe_length]; omega)]
  · rw [wipe_get hi, wipe_get hi, h.2 i hi]
theorem wipe_idem {σ : L2.St} {vs : List Nat} : wipe (wipe σ vs) vs = wipe σ vs := wipe_agree ⟨wipe_length σ vs, fun i h => wipe_get h⟩
theorem wipeA_some {ρ : En} : ∀ {vs : List Nat} {i : Nat} {x : AV}, (wipeA ρ vs)[i]? = some (some x) → ρ[i]? = some (some x) ∧ i ∉ vs
  | [], _, _, h => ⟨h, by simp⟩
  | v :: vs, i, x, h => by
    unfold wipeA at h
    by_cases e : v = i
    · subst e
      have hl := (List.getElem?_eq_some_iff.mp h).1
      rw [List.length_set] at hl
      rw [List.getElem?_set_self hl] at h
      cases h
    · rw [List.getElem?_set_ne e] at h
      obtain ⟨h1, h2⟩ := wipeA_some h
      exact ⟨h1, by simp only [List.mem_cons, not_or]; exact ⟨Ne.symm e, h2⟩⟩
theorem ER.wipe (r : ER K W σ ρ) (vs : List Nat) : ER K W (L2.wipe σ vs) (wipeA ρ vs) := ⟨by rw [wipe_length, wipeA_len]; exact r.ln, fun i x h => by
  obtain ⟨h1, h2⟩ := wipeA_some h
  obtain ⟨v, h3, h4⟩ := r.at_ i x h1
  exact ⟨v, by rw [wipe_get h2]; exact h3, h4⟩⟩
def lcL (j : ItA) (g : GV) (c : TV) (d : EV) (n : Nat) (ρ : En) : Nat → Nat → Sto → Res AV
  | 0, _, _ => .no
  | k + 1, i, S => match j.at_ S i with
    | none => .no
    | some none => .ok (.c n) S
    | some (some x) => (g x ρ S).bind fun ρ1 S1 => (c ρ1 S1).bind fun q S2 => if q = true then (d ρ1 S2).bind fun y S3 => (match S3[n]? with
      | some (.lst acc) => if acc.length < 1000 then lcL j g c d n ρ k (i + 1) (S3.set n (.lst (acc ++ [y]))) else .no
      | _ => .no) else lcL j g c d n ρ k (i + 1) S2
def bYes : TV := fun _ S => .ok true S
theorem rt_yes : RT K E tYes bYes := fun W S σ ρ Q w r p => p W Ext.refl w
@[irreducible] def eLc (it : IV) (g : GV) (c : TV) (d : EV) (vs : List Nat) : EV := fun ρ S => (it ρ S).bind fun j S1 => lcL j g c d S1.length (wipeA ρ vs) bigN 0 (S1 ++ [.lst []])
theorem re_lc {vs : List Nat} {wi : TI} {it : IV} {g : TG} {dg : GV} {tt : TT} {dt : TV} (hi : RI K E wi it) (hg : RG K E vs g dg) (ht : RT K E tt dt) (he : RE K E ta da) : RE K E (tLc wi g tt ta vs) (eLc it dg dt da vs) := by
  intro W S σ ρ Q w r p
  refine hi W S σ ρ _ w r ?_
  unfold eLc at p
  cases e : it ρ S with
  | no => rw [e] at p; exact p
  | ex C x T => rw [e] at p; exact p
  | ok j S1 =>
    rw [e] at p
    simp only [bind_ok] at p
    intro J W1 e1 w1 hJ D hD
    have en := ext_new (o := .lst []) w1 hD
    have wn := wd_new (oc := .lst []) (o := .lst []) w1 hD (.lst .nil)
    have hn : (W1.new D (.lst [])).ι[S1.length]? = some D := by
      show (W1.ι ++ [D])[S1.length]? = some D
      rw [← w1.ln]
      simp
    refine ⟨fun i m H' => ∃ (S' : Sto) (W' : Wo), W'.H = H' ∧ Ext (W1.new D (.lst [])) W' ∧ Wd K W' S' ∧ PostE K E W' (lcL j dg dt da S1.length (wipeA ρ vs) m i S') Q, ⟨bigN, S1 ++ [.lst []], W1.new D (.lst []), rfl, Ext.refl, wn, PostE.ext (e1.trans en) p⟩, ?_⟩
    rintro i m H' ⟨S', W', rfl, e', w', p'⟩
    have hn' : W'.ι[S1.length]? = some D := by
      obtain ⟨t, ht⟩ := e'.pi
      rw [ht]
      exact pre_get hn
    have r' : ER K W' (wipe σ vs) (wipeA ρ vs) := (r.ext ((e1.trans en).trans e')).wipe vs
    cases m with
    | zero => exact p'.elim
    | succ m =>
      unfold lcL at p'
      have q := hJ W' S' i (en.trans e') w'
      cases e2 : j.at_ S' i with
      | none => rw [e2] at p'; exact p'.elim
      | some o =>
        rw [e2] at p' q
        cases o with
        | none => exact .inl ⟨q, p' (.ref D) W' Ext.refl w' (.c hn')⟩
        | some x =>
          refine .inr ⟨q.1, fun H2 => ∃ (S' : Sto) (W' : Wo), W'.H = H2 ∧ Ext (W1.new D (.lst [])) W' ∧ Wd K W' S' ∧ PostE K E W' (lcL j dg dt da S1.length (wipeA ρ vs) m (i + 1) S') Q, fun H2 h => ⟨m, Nat.lt_succ_self m, h⟩, fun v H2 hy => ?_⟩
          obtain ⟨W2, rfl, e2', w2, rv⟩ := q.2 v H2 hy
          refine hg W2 S' (wipe σ vs) (wipeA ρ vs) v x _ w2 (r'.ext e2') rv ?_
          have p'' := PostE.ext e2' p'
          simp only at p''
          cases e3 : dg x (wipeA ρ vs) S' with
          | no => rw [e3] at p''; exact p''.elim
          | ex C z T => rw [e3] at p''; exact p''
          | ok ρ3 S3 =>
            rw [e3] at p''
            intro σ3 W3 ag e3' w3 r3
            refine ⟨by rw [wipe_agree ag, wipe_idem], ?_⟩
            have ex3 := (e'.trans e2').trans e3'
            refine ht W3 S3 σ3 ρ3 _ w3 r3 ?_
            have p3 := PostE.ext e3' p''
            simp only [bind_ok] at p3
            cases e4 : dt ρ3 S3 with
            | no => rw [e4] at p3; exact p3.elim
            | ex C z T => rw [e4] at p3; exact p3
            | ok c S4 =>
              rw [e4] at p3
              intro W4 e4' w4
              have p4 := PostE.ext e4' p3
              simp only [bind_ok] at p4
              cases c with
              | false =>
                rw [if_neg nofun] at p4 ⊢
                exact ⟨S4, W4, rfl, ex3.trans e4', w4, p4⟩
              | true =>
                rw [if_pos rfl] at p4 ⊢
                refine he.step w4 (r3.ext e4') p4 fun y z W5 S5 e5 w5 r5 v5 p5 => ?_
                have hn5 : W5.ι[S1.length]? = some D := by
                  obtain ⟨t, ht⟩ := ((ex3.trans e4').trans e5).pi
                  rw [ht]
                  exact pre_get hn
                split at p5
                · rename_i acc e6
                  split at p5
                  · rename_i hl
                    obtain ⟨us, g1, g2⟩ := cell_lst w5 hn5 e6
                    have hm := List.mem_of_getElem? hn5
                    exact ⟨us, g1, by rw [g2.len]; exact small1000 (by omega), _, W5.wr D _, rfl, ((ex3.trans e4').trans e5).trans (ext_wr hm), wd_wr w5 hn5 (.lst (g2.append (.cons v5 .nil))), PostE.ext (ext_wr hm) p5⟩
                  · exact p5.elim
                · exact p5.elim
end
end My

namespace My
open PySem PySem.Spec L2
open Classical
theorem call_listSK {X : Cx} {K : PySem.W.Frag} (hK : X.K = K := by rfl) : CallR X (.type "list") (fun xs H Q => ∃ p ys, xs = [.ref p] ∧ (SqL K H p ys ∨ SqT K H p ys) ∧ ∀ l, H l = none → Q (.ref l) (upd H l (.lst ys))) := by subst hK; exact call_list_of
section
variable {K : PySem.W.Frag} {E : L2.XK} {ta tb tc : TE} {da db dc : EV} {al : TA} {dl : LV}
theorem rt_test (ha : RE K E ta da) : RT K E (tTest ta) (bE da) := rt_b ha
theorem rr_isB : R2R K E rIsB (fIsB false) := by
  intro W S x y a b Q w ra rb p
  unfold fIsB at p
  cases e1 : asB a with
  | none => rw [e1] at p; exact p.elim
  | some i =>
    cases e2 : asB b with
    | none => rw [e1, e2] at p; exact p.elim
    | some j =>
      rw [e1, e2] at p
      exact (show ∃ a b : Bool, x = .bl a ∧ y = .bl b ∧ _ from ⟨i, j, asB_ok ra e1, asB_ok rb e2, post_val w p (.d (.bl _))⟩)
theorem rr_notB : R2R K E rNotB (fIsB true) := by
  intro W S x y a b Q w ra rb p
  unfold fIsB at p
  cases e1 : asB a with
  | none => rw [e1] at p; exact p.elim
  | some i =>
    cases e2 : asB b with
    | none => rw [e1, e2] at p; exact p.elim
    | some j =>
      rw [e1, e2] at p
      exact (show ∃ a b : Bool, x = .bl a ∧ y = .bl b ∧ _ from ⟨i, j, asB_ok ra e1, asB_ok rb e2, post_val w p (.d (.bl _))⟩)
/-- < of tuples of ints -/
def asTup (x : AV) : Option (List Int) := (lookT x).bind asInts
theorem asTup_ok {W : Wo} {S : Sto} {v : V} {x : AV} (w : Wd K W S) (r : RVw K W v x) {ns : List Int} (h : asTup x = some ns) : ∃ a, v = .ref a ∧ SqT K W.H a (ns.map V.int) := by
  obtain ⟨xs, e1, e2⟩ := Option.bind_eq_some_iff.mp h
  obtain ⟨a, vs, rfl, h3, h4⟩ := lookT_ok w r e1
  have := asInts_ok h4 e2
  subst this
  exact ⟨a, rfl, h3⟩
def fLtT : AV → AV → Sto → Res AV := fun a b S => match asTup a, asTup b with
  | some ns, some ms => .ok (bA (HT.lexLt ns ms)) S
  | _, _ => .no
theorem rr_ltT : R2R K E (rLtT K) fLtT := by
  intro W S x y a b Q w ra rb p
  unfold fLtT at p
  cases e1 : asTup a with
  | none => rw [e1] at p; exact p.elim
  | some ns =>
    cases e2 : asTup b with
    | none => rw [e1, e2] at p; exact p.elim
    | some ms =>
      rw [e1, e2] at p
      obtain ⟨q, rfl, h1⟩ := asTup_ok w ra e1
      obtain ⟨q2, rfl, h2⟩ := asTup_ok w rb e2
      exact ⟨q, q2, ns, ms, rfl, rfl, h1, h2, post_val w p (.d (.bl _))⟩
/-- min of tuples of ints -/
def tupA (k : List Int) : AV := .d (tupD k)
def asTups : List AV → Option (List (List Int))
  | [] => some []
  | x :: r => match asTup x, asTups r with
    | some k, some ks => some (k :: ks)
    | _, _ => none
def minL : List (List Int) → Option (List Int)
  | [] => none
  | k :: r => match minL r with
    | none => some k
    | some m => some (if m < k then m else k)
theorem minL_spec : ∀ {ks : List (List Int)} {m : List Int}, minL ks = some m → m ∈ ks ∧ ∀ j ∈ ks, ¬ j < m
  | k :: r, m, h => by
    unfold minL at h
    cases e : minL r with
    | none =>
      rw [e] at h
      cases h
      cases r with
      | nil => exact ⟨by simp, fun j hj => by rw [List.mem_singleton.mp hj]; exact List.lt_irrefl _⟩
      | cons a t => unfold minL at e; split at e <;> cases e
    | some m' =>
      rw [e] at h
      obtain ⟨h1, h2⟩ := minL_spec e
      simp only at h
      by_cases hl : m' < k
      · rw [if_pos hl] at h
        cases h
        refine ⟨List.mem_cons_of_mem _ h1, fun j hj => ?_⟩
        rcases List.mem_cons.mp hj with rfl | hj
        · exact listInt_asymm hl
        · exact h2 j hj
      · rw [if_neg hl] at h
        cases h
        refine ⟨by simp, fun j hj => ?_⟩
        rcases List.mem_cons.mp hj with rfl | hj
        · exact List.lt_irrefl _
        · intro hk
          exact hl (List.lt_of_le_of_lt (List.not_lt.mp (h2 j hj)) hk)
theorem minL_some {ks : List (List Int)} (h : ks ≠ []) : ∃ m, minL ks = some m := by
  cases ks with
  | nil => exact absurd rfl h
  | cons k r =>
    unfold minL
    cases minL r with
    | none => exact ⟨_, rfl⟩
    | some m => exact ⟨_, rfl⟩
def asTupsD : List AV → Option (List (List Int))
  | [] => some []
  | .d x :: r => match asTup (.d x), asTupsD r with
    | some k, some ks => some (k :: ks)
    | _, _ => none
  | _ => none
theorem asTup_d {x : PyData} {k : List Int} (h : asTup (.d x) = some k) : x = tupD k := by
  obtain ⟨xs, e1, e2⟩ := Option.bind_eq_some_iff.mp h
  cases x with
  | tuple ds =>
    cases e1
    have : ∀ (ds : List PyData) (k : List Int), asInts (ds.map .d) = some k → ds = k.map .int := by
      intro ds
      induction ds with
      | nil => intro k h; cases h; rfl
      | cons d r ih =>
        intro k h
        unfold asInts at h
        rw [List.map_cons] at h
        cases d with
        | int i =>
          simp only [asI] at h
          cases e : asInts (r.map .d) with
          | none => rw [e] at h; cases h
          | some is => rw [e] at h; cases h; rw [ih is e]; rfl
        | _ => simp [asI] at h
    rw [this ds k e2]
  | _ => cases e1
theorem asTupsD_ok {F B : Hp} {ι : List Addr} : ∀ {vs : List V} {xs : List AV} {ks : List (List Int)}, RVL K F B ι vs xs → asTupsD xs = some ks → DpAll K F vs (ks.map tupD)
  | _, _, _, .nil, h => by cases h; exact .nil
  | _, _, _, .cons (x := x) (xs := xs) a r, h => by
    cases x with
    | d x =>
      unfold asTupsD at h
      cases e1 : asTup (.d x) with
      | none => rw [e1] at h; cases h
      | some k =>
        cases e2 : asTupsD xs with
        | none => rw [e1, e2] at h; cases h
        | some ks =>
          rw [e1, e2] at h
          cases h
          have := asTup_d e1
          subst this
          cases a with
          | d a => exact .cons a (asTupsD_ok r e2)
    | _ => cases h
def fMinT : List AV → Sto → Res AV := fun xs S => match xs with
  | [x] => match (look S x).bind asTupsD with
    | some ks => match minL ks with
      | some k => .ok (tupA k) S
      | none => .no
    | none => .no
  | _ => .no
theorem listInt_eq {a b : List Int} (h1 : ¬ a < b) (h2 : ¬ b < a) : a = b := List.le_antisymm (List.not_lt.mp h2) (List.not_lt.mp h1)
/-- what min asks of a list of tuples of ints: Q of an item with a least one -/
def rMinU (K : PySem.W.Frag) : List V → Hp → VK → Prop := fun vs H Q => ∃ (a : Addr) (xs : List V) (kz : List (List Int)), vs = [V.ref a] ∧ SqL K H a xs ∧ DpAll K H xs (kz.map tupD) ∧ kz ≠ [] ∧
  ∀ (i : Nat) x k, xs[i]? = some x → kz[i]? = some k → (∀ j ∈ kz, ¬ j < k) → Q x H
theorem cr_minU {X : Cx} (hc : X.calm = true) (hu : X.A.units + 8 < cLine) : CallR X (.builtin "min") (rMinU X.K) := by
  intro pins s σ H vs us Q I r h
  obtain ⟨a, xs, kz, rfl, hs, hd, hne, q⟩ := h
  obtain ⟨its, rv, hl, hz⟩ := I.list hs
  rw [Vals.ref1 r]
  obtain ⟨as, rd⟩ := Dp.readsAll I _ _ _ hd rv
  cases kz with
  | nil => exact absurd rfl hne
  | cons k kz =>
    have dp := depthTups (k :: kz)
    refine min_data (x := tupD k) (xs := kz.map tupD) (I.ok.hd hc) hl.isList rd (alikeTups (k :: kz)) (by
      show X.A.units + 1 + PyData.depthAll ((k :: kz).map tupD) < cLine
      omega) fun i v h' tk hv hm hk => ?_
    obtain ⟨m, e1, e2, e3⟩ := minD_tups kz k
    have hi : its[i]? = some v := by simpa using hv
    cases hx : xs[i]? with
    | none => rw [Vals.none_of rv hx] at hi; cases hi
    | some x =>
      obtain ⟨u, h1, h2⟩ := Vals.get rv hx
      rw [hi] at h1
      cases h1
      rw [e1] at hm
      refine ⟨x, H, I.kept hk, h2, q i x m hx ?_ e3⟩
      have hm : ((k :: kz).map tupD)[i]? = some (tupD m) := hm
      rw [List.getElem?_map] at hm
      cases e : (k :: kz)[i]? with
      | none => rw [e] at hm; cases hm
      | some m' => rw [e] at hm; rw [tupD_inj (Option.some.inj hm)]
theorem cr_minUK {X : Cx} (hc : X.calm = true) (hu : X.A.units + 8 < cLine) (hK : X.K = K := by rfl) : CallR X (.builtin "min") (rMinU K) := by subst hK; exact cr_minU hc hu
theorem cr_minT2 : CRR K E (rMinU K) fMinT := by
  intro W S x a Q w r p
  unfold fMinT at p
  split at p
  · obtain ⟨v, rfl, rv⟩ := rl1 r
    split at p
    · rename_i ks e
      obtain ⟨ys, e1, e2⟩ := Option.bind_eq_some_iff.mp e
      obtain ⟨q, us, rfl, h3, h4⟩ := look_ok w rv e1
      have dF := asTupsD_ok h4 e2
      cases e3 : minL ks with
      | none => rw [e3] at p; exact p.elim
      | some m =>
        rw [e3] at p
        obtain ⟨m1, m2⟩ := minL_spec e3
        refine ⟨q, us, ks, rfl, h3, DpAll.same w.fr dF, (by rintro rfl; cases m1), fun i x k hx hk hmin => ?_⟩
        have : k = m := listInt_eq (m2 k (List.mem_of_getElem? hk)) (hmin m m1)
        subst this
        exact post_val w p (.d (dpAll_get dF hx (by rw [List.getElem?_map, hk]; rfl)))
    · exact p.elim
  · exact p.elim
end
end My

namespace My
open PySem PySem.Spec L2
open Classical
noncomputable def den__law_same : List AV → Sto → Res AV := fun xs S => match xs with
  | [a, b] => (match rb true 8 S a, rb true 8 S b with
    | some x, some y => if x = y ∧ x.depth ≤ 4 ∧ okS x then .ok (bA true) S else .no
    | _, _ => .no)
  | _ => .no
theorem ext_grow {W : Wo} {H' : Hp} (s : Same W.H H') : Ext W ⟨H', W.F, W.B, W.ι⟩ := ⟨fun _ _ h => h, fun _ _ h => h, ⟨[], by simp⟩, fun b o h _ => s b o h, fun b h => by
  obtain ⟨o, e⟩ := some_of h
  show H' b ≠ none
  rw [s b o e]
  exact nofun, fun _ h1 h2 => absurd h1 h2, fun _ h1 h2 => absurd h1 h2, fun b i n => absurd i n⟩
theorem wd_grow {K : PySem.W.Frag} {W : Wo} {S : Sto} {H' : Hp} (w : Wd K W S) (s : Same W.H H') : Wd K ⟨H', W.F, W.B, W.ι⟩ S := by
  refine ⟨fun b o h => s b o (w.br b o h), w.fb, w.nd, w.dB, w.ln, fun n oc hn => ?_⟩
  obtain ⟨a, o, e1, e2, e3⟩ := w.cl n oc hn
  exact ⟨a, o, e1, s a o e2, (ext_grow s).roc e3⟩
theorem same_imp {K : PySem.W.Frag} {vs : List V} {H : Hp} {Q : VK} {E : L2.XK} (h : sp_d K 2 den__law_same vs H Q E) : ∃ (v u : V) (d : PyData), vs = [v, u] ∧ Dp K H v d ∧ Dp K H u d ∧ d.depth ≤ 4 ∧ okS d ∧ ∀ H', Same H H' → Q (.bl true) H' := by
  obtain ⟨hl, W, S, xs, rfl, w, r, p⟩ := h
  unfold den__law_same at p
  split at p
  · rename_i a b
    obtain ⟨v, u, rfl, rv, ru⟩ := rl2 r
    cases e1 : rb true 8 S a with
    | none => rw [e1] at p; exact p.elim
    | some x =>
      cases e2 : rb true 8 S b with
      | none => rw [e1, e2] at p; exact p.elim
      | some y =>
        simp only [e1, e2] at p
        split at p
        · rename_i hc
          obtain ⟨rfl, h1, h2⟩ := hc
          exact ⟨v, u, x, rfl, rb_now w rv e1, rb_now w ru e2, h1, h2, fun H' s => p (.bl true) ⟨H', W.F, W.B, W.ι⟩ (ext_grow s) (wd_grow w s) (.d (.bl true))⟩
        · exact p.elim
  · exact p.elim
end My

namespace My
open PySem PySem.Spec L2
open Classical
/-! ### cells that nobody needs any more -/
mutual
def refOk (n : Nat) : AV → Prop
  | .c k => k < n
  | .t xs => refsOk n xs
  | .d _ => True
  | .r _ => True
  | .g _ => True
def refsOk (n : Nat) : List AV → Prop
  | [] => True
  | x :: xs => refOk n x ∧ refsOk n xs
end
def ocOk (n : Nat) : OC → Prop
  | .lst xs => ∀ x ∈ xs, refOk n x
  | .obj _ gs => ∀ p ∈ gs, refOk n p.2
  | .dk kvs => ∀ p ∈ kvs, refOk n p.2
def closed (n : Nat) (S : Sto) : Prop := ∀ oc ∈ S.take n, ocOk n oc
section
variable {K : PySem.W.Frag} {E : L2.XK} {W W1 : Wo} {S T : Sto} {n : Nat}
theorem refsOk_iff {n : Nat} : ∀ {xs : List AV}, refsOk n xs ↔ ∀ x ∈ xs, refOk n x
  | [] => ⟨fun _ x h => (nomatch h), fun _ => trivial⟩
  | x :: xs => ⟨fun h y hy => by
      have h : refOk n x ∧ refsOk n xs := h
      rcases List.mem_cons.mp hy with rfl | m
      · exact h.1
      · exact refsOk_iff.mp h.2 y m, fun h => show refOk n x ∧ refsOk n xs from ⟨h x (by simp), refsOk_iff.mpr fun y hy => h y (List.mem_cons_of_mem _ hy)⟩⟩
mutual
theorem refOk_le {n m : Nat} (l : n ≤ m) : ∀ {x : AV}, refOk n x → refOk m x
  | .c _, h => Nat.lt_of_lt_of_le h l
  | .t _, h => refsOk_le l h
  | .d _, _ => trivial
  | .r _, _ => trivial
  | .g _, _ => trivial
theorem refsOk_le {n m : Nat} (l : n ≤ m) : ∀ {xs : List AV}, refsOk n xs → refsOk m xs
  | [], _ => trivial
  | _ :: _, h => ⟨refOk_le l h.1, refsOk_le l h.2⟩
end
mutual
theorem RV.cut {F B : Hp} {ι : List Addr} : ∀ {v : V} {x : AV}, RV K F B ι v x → refOk n x → RV K F B (ι.take n) v x
  | _, _, .d h, _ => .d h
  | _, _, .r h, _ => .r h
  | _, _, .g, _ => .g
  | _, _, .c h, ok => .c (by rw [List.getElem?_take_of_lt ok]; exact h)
  | _, _, .t h hs, ok => .t h (RVL.cutS hs ok)
theorem RVL.cutS {F B : Hp} {ι : List Addr} : ∀ {vs : List V} {xs : List AV}, RVL K F B ι vs xs → refsOk n xs → RVL K F B (ι.take n) vs xs
  | _, _, .nil, _ => .nil
  | _, _, .cons a r, h => .cons (RV.cut a h.1) (RVL.cutS r h.2)
end
theorem RVL.cut {F B : Hp} {ι : List Addr} {vs : List V} {xs : List AV} (h : RVL K F B ι vs xs) (ok : ∀ x ∈ xs, refOk n x) : RVL K F B (ι.take n) vs xs := h.cutS (refsOk_iff.mpr ok)
def Wo.cut (W1 : Wo) (n : Nat) : Wo := ⟨W1.H, W1.F, W1.B, W1.ι.take n⟩
theorem ROC.cut {o : HO} {oc : OC} (h : ROC K W1 o oc) (ok : ocOk n oc) : ROC K (W1.cut n) o oc := by
  cases h with
  | lst h => exact .lst (RVL.cut h ok)
  | obj h1 h2 => exact .obj h1 (RVL.cut h2 fun x hx => by obtain ⟨p, hp, rfl⟩ := List.mem_map.mp hx; exact ok p hp)
  | dk h1 h2 => exact .dk h1 (RVL.cut h2 fun x hx => by obtain ⟨p, hp, rfl⟩ := List.mem_map.mp hx; exact ok p hp)
theorem pre_take (w : Wd K W S) (e : Ext W W1) : W1.ι.take S.length = W.ι := by
  obtain ⟨t, ht⟩ := e.pi
  rw [ht, ← w.ln, List.take_left']
  rfl
theorem ext_cut (w : Wd K W S) (e : Ext W W1) : Ext W (W1.cut S.length) := by
  have hp := pre_take w e
  refine ⟨e.sF, e.sB, ⟨[], by show W1.ι.take S.length = _; rw [hp]; simp⟩, e.keep, e.dom, e.nF, e.nB, fun b hb hn => ?_⟩
  have hb : b ∈ W1.ι.take S.length := hb
  rw [hp] at hb
  exact absurd hb hn
theorem wd_cut (w1 : Wd K W1 T) (h : closed n T) : Wd K (W1.cut n) (T.take n) := by
  refine ⟨w1.br, w1.fb, w1.nd.sublist (List.take_sublist _ _), fun a ha => w1.dB a (List.mem_of_mem_take ha), ?_, fun m oc hm => ?_⟩
  · show (W1.ι.take n).length = _
    rw [List.length_take, List.length_take, w1.ln]
  · have hlt : m < n := by
      have := (List.getElem?_eq_some_iff.mp hm).1
      rw [List.length_take] at this
      omega
    have hm' := hm
    rw [List.getElem?_take_of_lt hlt] at hm'
    obtain ⟨a, o, h1, h2, h3⟩ := w1.cl m oc hm'
    exact ⟨a, o, by show (W1.ι.take n)[m]? = _; rw [List.getElem?_take_of_lt hlt]; exact h1, h2, h3.cut (h oc (List.mem_of_getElem? hm))⟩
/-- only what is new -/
def newS (n : Nat) (T : Sto) : Sto := List.replicate n (.obj 0 []) ++ T.drop n
def frzR (n : Nat) (x : AV) (T : Sto) : Option AV := match x with
  | .d y => some (.d y)
  | .r y => some (.r y)
  | .g v => some (.g v)
  | x => match rb false 8 (newS n T) x with
    | some d => some (.d d)
    | none => (rb true 8 (newS n T) x).map .r
/-- what is new is never changed again -/
def Wo.fz (W W1 : Wo) (n : Nat) : Wo := ⟨W1.H, fun b => if b ∈ W1.ι.drop n then W1.H b else W1.F b, fun b => if b ∈ W1.ι.drop n then W1.H b else W1.B b, W1.ι.take n⟩
theorem drop_not (w1 : Wd K W1 T) {b : Addr} (h : b ∈ W1.ι.take n) : b ∉ W1.ι.drop n := fun hd => by
  have := w1.nd
  rw [← List.take_append_drop n W1.ι] at this
  exact (List.nodup_append.mp this).2.2 b h b hd rfl
theorem ext_fz (w : Wd K W S) (w1 : Wd K W1 T) (e : Ext W W1) : Ext W (W.fz W1 S.length) := by
  have hp := pre_take w e
  have hd : ∀ b, b ∈ W1.ι.drop S.length → W.H b = none := fun b hb => by
    refine e.nI b (List.mem_of_mem_drop hb) fun hi => ?_
    rw [← hp] at hi
    exact drop_not w1 hi hb
  refine ⟨fun b o h => ?_, fun b o h => ?_, ⟨[], by show W1.ι.take S.length = _; rw [hp]; simp⟩, e.keep, e.dom, fun b h h2 => ?_, fun b h h2 => ?_, fun b hb hn => ?_⟩
  · show (if b ∈ W1.ι.drop S.length then W1.H b else W1.F b) = some o
    have := e.sF b o h
    split
    · exact w1.fr b o this
    · exact this
  · show (if b ∈ W1.ι.drop S.length then W1.H b else W1.B b) = some o
    have := e.sB b o h
    split
    · exact w1.br b o this
    · exact this
  · have h2 : (if b ∈ W1.ι.drop S.length then W1.H b else W1.F b) ≠ none := h2
    split at h2
    · rename_i hb; exact hd b hb
    · exact e.nF b h h2
  · have h2 : (if b ∈ W1.ι.drop S.length then W1.H b else W1.B b) ≠ none := h2
    split at h2
    · rename_i hb; exact hd b hb
    · exact e.nB b h h2
  · have hb : b ∈ W1.ι.take S.length := hb
    rw [hp] at hb
    exact absurd hb hn
theorem fz_F (w1 : Wd K W1 T) : Same W1.F (W.fz W1 n).F := fun b o h => by
  show (if b ∈ W1.ι.drop n then W1.H b else W1.F b) = some o
  split
  · exact w1.fr b o h
  · exact h
theorem fz_B (w1 : Wd K W1 T) : Same W1.B (W.fz W1 n).B := fun b o h => by
  show (if b ∈ W1.ι.drop n then W1.H b else W1.B b) = some o
  split
  · exact w1.br b o h
  · exact h
theorem ROC.fz (w1 : Wd K W1 T) {o : HO} {oc : OC} (h : ROC K W1 o oc) (ok : ocOk n oc) : ROC K (W.fz W1 n) o oc := by
  have hr : ∀ {vs : List V} {xs : List AV}, RVL K W1.F W1.B (W1.ι.take n) vs xs → RVL K (W.fz W1 n).F (W.fz W1 n).B (W1.ι.take n) vs xs := fun h => by
    have := h.mono (t := []) (fz_F (W := W) (n := n) w1) (fz_B (W := W) (n := n) w1)
    rwa [List.append_nil] at this
  cases h with
  | lst h => exact .lst (hr (RVL.cut h ok))
  | obj h1 h2 => exact .obj h1 (hr (RVL.cut h2 fun x hx => by obtain ⟨p, hp, rfl⟩ := List.mem_map.mp hx; exact ok p hp))
  | dk h1 h2 => exact .dk h1 (hr (RVL.cut h2 fun x hx => by obtain ⟨p, hp, rfl⟩ := List.mem_map.mp hx; exact ok p hp))
theorem wd_fz (w1 : Wd K W1 T) (h : closed n T) : Wd K (W.fz W1 n) (T.take n) := by
  refine ⟨fun b o e => ?_, fun b o e => ?_, w1.nd.sublist (List.take_sublist _ _), fun a ha => ?_, ?_, fun m oc hm => ?_⟩
  · have e : (if b ∈ W1.ι.drop n then W1.H b else W1.B b) = some o := e
    split at e
    · exact e
    · exact w1.br b o e
  · have e : (if b ∈ W1.ι.drop n then W1.H b else W1.F b) = some o := e
    show (if b ∈ W1.ι.drop n then W1.H b else W1.B b) = some o
    split at e
    · rename_i hb; rw [if_pos hb]; exact e
    · rename_i hb; rw [if_neg hb]; exact w1.fb b o e
  · show (if a ∈ W1.ι.drop n then W1.H a else W1.B a) = none
    rw [if_neg (drop_not w1 ha)]
    exact w1.dB a (List.mem_of_mem_take ha)
  · show (W1.ι.take n).length = _
    rw [List.length_take, List.length_take, w1.ln]
  · have hlt : m < n := by
      have := (List.getElem?_eq_some_iff.mp hm).1
      rw [List.length_take] at this
      omega
    have hm' := hm
    rw [List.getElem?_take_of_lt hlt] at hm'
    obtain ⟨a, o, h1, h2, h3⟩ := w1.cl m oc hm'
    exact ⟨a, o, by show (W1.ι.take n)[m]? = _; rw [List.getElem?_take_of_lt hlt]; exact h1, h2, h3.fz w1 (h oc (List.mem_of_getElem? hm))⟩
theorem fz_rv (w1 : Wd K W1 T) (hn : n ≤ T.length) {v : V} {x y : AV} (r : RVw K W1 v x) (h : frzR n x T = some y) : RVw K (W.fz W1 n) v y := by
  have cell : ∀ (f : Hp) (m : Nat) (xs : List AV), (newS n T)[m]? = some (OC.lst xs) → ∀ a, W1.ι[m]? = some a → ∃ vs, (if a ∈ W1.ι.drop n then W1.H a else f a) = some (HO.lst vs) ∧ RLw K W1 vs xs := by
    intro f m xs hm a ha
    unfold newS at hm
    by_cases hl : m < n
    · rw [List.getElem?_append_left (by simpa using hl), List.getElem?_replicate, if_pos hl] at hm
      cases hm
    · rw [List.getElem?_append_right (by simpa using hl), List.length_replicate, List.getElem?_drop, show n + (m - n) = m by omega] at hm
      obtain ⟨vs, g1, g2⟩ := cell_lst w1 ha hm
      refine ⟨vs, ?_, g2⟩
      have : a ∈ W1.ι.drop n := by
        refine List.mem_of_getElem? (i := m - n) ?_
        rw [List.getElem?_drop, show n + (m - n) = m by omega]
        exact ha
      rw [if_pos this]
      exact g1
  have rest : ∀ d, rb false 8 (newS n T) x = some d → Dp K (W.fz W1 n).F v d := fun d hd => (rbs_dp2 (T := newS n T) (fz_F w1) (fun m xs hm a ha => cell W1.F m xs hm a ha) 8).1 r hd
  have rest2 : ∀ d, rb true 8 (newS n T) x = some d → Dp K (W.fz W1 n).B v d := fun d hd => (rbs_dp3 (T := newS n T) (fun b o h => fz_B w1 b o (w1.fb b o h)) (fz_B w1) (fun m xs hm a ha => cell W1.B m xs hm a ha) 8).1 r hd
  unfold frzR at h
  split at h
  · cases h
    cases r with
    | d r => exact .d (Dp.same (fz_F w1) r)
  · cases h
    cases r with
    | r r => exact .r (Dp.same (fz_B w1) r)
  · cases h; cases r; exact .g
  · cases e : rb false 8 (newS n T) x with
    | none =>
      rw [e] at h
      cases e2 : rb true 8 (newS n T) x with
      | none => rw [e2] at h; cases h
      | some d => rw [e2] at h; cases h; exact .r (rest2 d e2)
    | some d => rw [e] at h; cases h; exact .d (rest d e)
/-- the value as data; all new cells are gone -/
noncomputable def eFz (da : EV) : EV := fun ρ S => match da ρ S with
  | .ok x T => if closed S.length T ∧ S.length ≤ T.length then (match frzR S.length x T with
    | some y => .ok y (T.take S.length)
    | none => .no) else .no
  | o => o
theorem re_fz {t : TE} {da : EV} (ha : RE K E t da) : RE K E t (eFz da) := by
  intro W S σ ρ Q w r p
  refine ha W S σ ρ Q w r ?_
  unfold eFz at p
  cases e : da ρ S with
  | no => rw [e] at p; exact p
  | ex C x T => rw [e] at p; exact p
  | ok x T =>
    simp only [e] at p
    split at p
    · rename_i hc
      cases e2 : frzR S.length x T with
      | none => rw [e2] at p; exact p.elim
      | some y =>
        rw [e2] at p
        exact fun v W1 e1 w1 r1 => p v (W.fz W1 S.length) (ext_fz w w1 e1) (wd_fz w1 hc.1) (fz_rv w1 hc.2 r1 e2)
    · exact p.elim
/-- the value as it is; a new list of data stays as the one new cell -/
noncomputable def gcR (n : Nat) (x : AV) (T : Sto) : Res AV := match x with
  | .c k => if k < n then (if closed n T then .ok (.c k) (T.take n) else .no) else (match T[k]? with
    | some oc => if closed n T ∧ ocOk n oc ∧ n ≤ T.length then .ok (.c n) (T.take n ++ [oc]) else .no
    | none => .no)
  | .t _ => .no
  | x => if closed n T then .ok x (T.take n) else .no
noncomputable def eGc (da : EV) : EV := fun ρ S => match da ρ S with
  | .ok x T => gcR S.length x T
  | o => o
theorem RVL.same {F B F' B' : Hp} {ι t : List Addr} (sF : Same F F') (sB : Same B B') {vs : List V} {xs : List AV} (h : RVL K F B ι vs xs) : RVL K F' B' (ι ++ t) vs xs := h.mono sF sB
theorem ROC.iota {W1 : Wo} {ι' : List Addr} {t : List Addr} {o : HO} {oc : OC} (h : ROC K W1 o oc) (e : ι' = W1.ι ++ t) : ROC K ⟨W1.H, W1.F, W1.B, ι'⟩ o oc := by
  subst e
  cases h with
  | lst h => exact .lst (RVL.mono (fun _ _ h => h) (fun _ _ h => h) h)
  | obj h1 h2 => exact .obj h1 (RVL.mono (fun _ _ h => h) (fun _ _ h => h) h2)
  | dk h1 h2 => exact .dk h1 (RVL.mono (fun _ _ h => h) (fun _ _ h => h) h2)
theorem re_gc {t : TE} {da : EV} (ha : RE K E t da) : RE K E t (eGc da) := by
  intro W S σ ρ Q w r p
  refine ha W S σ ρ Q w r ?_
  unfold eGc at p
  cases e : da ρ S with
  | no => rw [e] at p; exact p
  | ex C x T => rw [e] at p; exact p
  | ok x T =>
    simp only [e] at p
    intro v W1 e1 w1 r1
    unfold gcR at p
    split at p
    · rename_i k
      split at p
      · rename_i hk
        split at p
        · rename_i hc
          exact p v (W1.cut S.length) (ext_cut w e1) (wd_cut w1 hc) (r1.cut hk)
        · exact p.elim
      · rename_i hk
        cases e2 : T[k]? with
        | none => rw [e2] at p; exact p.elim
        | some oc =>
          simp only [e2] at p
          split at p
          · rename_i hc
            obtain ⟨h1, h2, h3⟩ := hc
            obtain ⟨a, o, g1, g2, g3⟩ := w1.cl k oc e2
            have xc := ext_cut w e1
            have wc := wd_cut w1 h1
            have hp := pre_take w e1
            cases r1 with
            | c hn =>
              rw [g1] at hn
              cases hn
              have hai : a ∉ W1.ι.take S.length := fun hm => by
                have : a ∈ W1.ι.drop S.length := List.mem_of_getElem? (i := k - S.length) (by rw [List.getElem?_drop, show S.length + (k - S.length) = k by omega]; exact g1)
                exact drop_not w1 hm this
              have hH : W.H a = none := e1.nI a (List.mem_of_getElem? g1) (by rw [← hp]; exact hai)
              refine p (.ref a) ⟨W1.H, W1.F, W1.B, W1.ι.take S.length ++ [a]⟩ ?_ ?_ (.c ?_)
              · refine ⟨e1.sF, e1.sB, ⟨[a], by rw [hp]⟩, e1.keep, e1.dom, e1.nF, e1.nB, fun b hb hbn => ?_⟩
                rcases List.mem_append.mp hb with hb | hb
                · rw [hp] at hb; exact absurd hb hbn
                · rw [List.mem_singleton.mp hb]; exact hH
              · refine ⟨w1.br, w1.fb, ?_, fun b hb => ?_, ?_, fun m q hm => ?_⟩
                · refine List.nodup_append.mpr ⟨wc.nd, by simp, fun x hx y hy => ?_⟩
                  rw [List.mem_singleton.mp hy]
                  rintro rfl
                  exact hai hx
                · rcases List.mem_append.mp hb with hb | hb
                  · exact wc.dB b hb
                  · rw [List.mem_singleton.mp hb]; exact w1.dB a (List.mem_of_getElem? g1)
                · show (W1.ι.take S.length ++ [a]).length = _
                  rw [List.length_append, List.length_append, List.length_take, List.length_take, w1.ln]; rfl
                · have hl : (T.take S.length).length = S.length := by rw [List.length_take]; omega
                  by_cases hm2 : m < S.length
                  · rw [List.getElem?_append_left (by rw [hl]; exact hm2)] at hm
                    obtain ⟨b, o', k1, k2, k3⟩ := wc.cl m q hm
                    exact ⟨b, o', pre_get k1, k2, k3.iota rfl⟩
                  · have : m = S.length := by
                      have := (List.getElem?_eq_some_iff.mp hm).1
                      rw [List.length_append, hl] at this
                      simp at this
                      omega
                    subst this
                    rw [List.getElem?_append_right (by rw [hl]; exact Nat.le_refl _), hl] at hm
                    simp at hm
                    subst hm
                    refine ⟨a, o, ?_, g2, (g3.cut h2).iota rfl⟩
                    rw [List.getElem?_append_right (by rw [List.length_take, w1.ln]; omega), List.length_take, w1.ln, show S.length - min S.length T.length = 0 by omega]
                    rfl
              · rw [List.getElem?_append_right (by rw [List.length_take, w1.ln]; omega), List.length_take, w1.ln, show S.length - min S.length T.length = 0 by omega]
                rfl
          · exact p.elim
    · exact p.elim
    · rename_i hx1 hx2
      split at p
      · rename_i hc
        refine p v (W1.cut S.length) (ext_cut w e1) (wd_cut w1 hc) (r1.cut ?_)
        cases x with
        | c k => exact absurd rfl (hx1 k)
        | t xs => exact absurd rfl (hx2 xs)
        | d x => trivial
        | r x => trivial
        | g v => trivial
      · exact p.elim
/-- a test -/
noncomputable def bGc (ga : TV) : TV := fun ρ S => match ga ρ S with
  | .ok b T => if closed S.length T then .ok b (T.take S.length) else .no
  | o => o
theorem rt_gc {t : TT} {ga : TV} (ha : RT K E t ga) : RT K E t (bGc ga) := by
  intro W S σ ρ Q w r p
  refine ha W S σ ρ Q w r ?_
  unfold bGc at p
  cases e : ga ρ S with
  | no => rw [e] at p; exact p
  | ex C x T => rw [e] at p; exact p
  | ok b T =>
    simp only [e] at p
    split at p
    · rename_i hc
      exact fun W1 e1 w1 => p (W1.cut S.length) (ext_cut w e1) (wd_cut w1 hc)
    · exact p.elim
/-- a block: behind it the slots ks and the new cells are gone -/
def envOk (n : Nat) (ρ : En) : Prop := ∀ x, some x ∈ ρ → refOk n x
theorem ER.cut {σ : L2.St} {ρ : En} (r : ER K W1 σ ρ) (ks : List Nat) (h : envOk n (wipeA ρ ks)) : ER K (W1.cut n) σ (wipeA ρ ks) := ⟨by rw [wipeA_len]; exact r.ln, fun i x hi => by
  obtain ⟨h1, h2⟩ := wipeA_some hi
  obtain ⟨v, h3, h4⟩ := r.at_ i x h1
  exact ⟨v, h3, h4.cut (h x (List.mem_of_getElem? hi))⟩⟩
noncomputable def dSc (ks : List Nat) (b : SV) : SV := fun ρ S => match b ρ S with
  | .nx ρ' T => if closed S.length T ∧ envOk S.length (wipeA ρ' ks) then .nx (wipeA ρ' ks) (T.take S.length) else .no
  | .ct ρ' T => if closed S.length T ∧ envOk S.length (wipeA ρ' ks) then .ct (wipeA ρ' ks) (T.take S.length) else .no
  | o => o
theorem rs_sc {t : TS} {b : SV} {ks : List Nat} (hb : RS K E t b) : RS K E t (dSc ks b) := by
  intro W S σ ρ D w r p
  refine hb W S σ ρ D w r ?_
  unfold dSc at p
  cases e : b ρ S with
  | nx ρ' T =>
    simp only [e] at p
    split at p
    · rename_i hc
      exact fun σ' W1 e1 w1 r1 => p σ' (W1.cut S.length) (ext_cut w e1) (wd_cut w1 hc.1) (r1.cut ks hc.2)
    · exact p.elim
  | ct ρ' T =>
    simp only [e] at p
    split at p
    · rename_i hc
      exact fun σ' W1 e1 w1 r1 => p σ' (W1.cut S.length) (ext_cut w e1) (wd_cut w1 hc.1) (r1.cut ks hc.2)
    · exact p.elim
  | bk ρ' T => rw [e] at p; exact p
  | rt x T => rw [e] at p; exact p
  | ex C x T => rw [e] at p; exact p
  | no => rw [e] at p; exact p
/-- slots forgotten ahead of a statement -/
def dFg (ks : List Nat) (b : SV) : SV := fun ρ S => b (wipeA ρ ks) S
theorem rs_fg {t : TS} {b : SV} {ks : List Nat} (hb : RS K E t b) : RS K E t (dFg ks b) := by
  intro W S σ ρ D w r p
  exact hb W S σ (wipeA ρ ks) D w (r.forget (wipeA_len ρ ks) fun i x h => (wipeA_some h).1) p
end
end My

namespace My
open PySem PySem.Spec L2
open Classical
/-! ### isinstance -/
def tyA (S : Sto) : AV → Option String
  | .d x => some (tyD x)
  | .r x => some (tyD x)
  | .c n => match S[n]? with
    | some (.lst _) => some "list"
    | some (.dk _) => some "dict"
    | _ => none
  | .t _ => some "tuple"
  | .g _ => none
def fIsi : List AV → Sto → Res AV := fun xs S => match xs with
  | [x, .g (.ty n)] => match tyA S x with
    | some t => (match kitB t n with
      | some b => .ok (bA b) S
      | none => .no)
    | none => .no
  | _ => .no
section
variable {K : PySem.W.Frag} {E : L2.XK} {W : Wo} {S : Sto} {v : V} {x : AV}
theorem tyA_ok (w : Wd K W S) (r : RVw K W v x) {t : String} (h : tyA S x = some t) : TyX K W.H v (.type t) := by
  cases r with
  | d r => cases h; exact tyX_of (Dp.same w.fr r)
  | r r => cases h; exact tyX_of (Dp.same w.br r)
  | g => cases h
  | t h1 _ => cases h; exact tyX_tuple (sqT_same w.fr h1)
  | @c a n hn =>
    simp only [tyA] at h
    cases e : S[n]? with
    | none => rw [e] at h; cases h
    | some oc =>
      rw [e] at h
      obtain ⟨a', o, h1, h2, h3⟩ := w.cl n oc e
      rw [hn] at h1
      cases h1
      cases h3 with
      | lst _ => cases h; exact .base (.lst h2)
      | dk _ _ => cases h; exact .base (.dK h2)
      | obj _ _ => cases h
theorem cr_isi : CRR K E (rIsi K) fIsi := by
  intro W S x a Q w r p
  unfold fIsi at p
  split at p
  · rename_i z n
    obtain ⟨v, u, rfl, rv, ru⟩ := rl2 r
    cases ru
    cases e : tyA S z with
    | none => rw [e] at p; exact p.elim
    | some t =>
      simp only [e] at p
      cases e2 : kitB t n with
      | none => rw [e2] at p; exact p.elim
      | some b =>
        rw [e2] at p
        exact ⟨v, _, _, _, b, rfl, .ty n, tyA_ok w rv e, kit_ty e2, p _ W Ext.refl w (.d (.bl b))⟩
  · exact p.elim
end
/-! ### sorted, ints -/
def insI (i : Int) : List Int → List Int
  | [] => [i]
  | j :: r => if i ≤ j then i :: j :: r else j :: insI i r
def sortI : List Int → List Int
  | [] => []
  | i :: r => insI i (sortI r)
theorem insI_perm (i : Int) : ∀ l : List Int, (insI i l).Perm (i :: l)
  | [] => .refl _
  | j :: r => by
    unfold insI
    split
    · exact .refl _
    · exact ((insI_perm i r).cons j).trans (.swap i j r)
theorem sortI_perm : ∀ l : List Int, (sortI l).Perm l
  | [] => .refl _
  | i :: r => (insI_perm i (sortI r)).trans ((sortI_perm r).cons i)
theorem insI_sorted (i : Int) : ∀ l : List Int, l.Pairwise (· ≤ ·) → (insI i l).Pairwise (· ≤ ·)
  | [], _ => by simp [insI]
  | j :: r, h => by
    unfold insI
    have h0 := List.pairwise_cons.mp h
    split
    · rename_i hi
      refine List.pairwise_cons.mpr ⟨fun k hk => ?_, h⟩
      rcases List.mem_cons.mp hk with rfl | hk
      · exact hi
      · exact Int.le_trans hi (h0.1 k hk)
    · rename_i hi
      refine List.pairwise_cons.mpr ⟨fun k hk => ?_, insI_sorted i r h0.2⟩
      rcases List.mem_cons.mp ((insI_perm i r).mem_iff.mp hk) with rfl | hk
      · omega
      · exact h0.1 k hk
theorem sortI_sorted : ∀ l : List Int, (sortI l).Pairwise (· ≤ ·)
  | [] => .nil
  | i :: r => insI_sorted i _ (sortI_sorted r)
theorem sorted_unique : ∀ {xs ys : List Int}, xs.Perm ys → xs.Pairwise (· ≤ ·) → ys.Pairwise (· ≤ ·) → xs = ys
  | [], ys, p, _, _ => by rw [List.Perm.nil_eq p]
  | x :: xs, [], p, _, _ => by have := p.length_eq; simp at this
  | x :: xs, y :: ys, p, hx, hy => by
    have h1 := List.pairwise_cons.mp hx
    have h2 := List.pairwise_cons.mp hy
    have e : x = y := by
      have a1 : x ∈ y :: ys := p.mem_iff.mp List.mem_cons_self
      have a2 : y ∈ x :: xs := p.mem_iff.mpr List.mem_cons_self
      rcases List.mem_cons.mp a1 with e | a1
      · exact e
      · rcases List.mem_cons.mp a2 with e | a2
        · exact e.symm
        · have := h1.1 y a2; have := h2.1 x a1; omega
    subst e
    rw [sorted_unique (List.Perm.cons_inv p) h1.2 h2.2]
theorem sortI_of {ns ns' : List Int} (p : ns'.Perm ns) (h : ns'.Pairwise (· ≤ ·)) : ns' = sortI ns := sorted_unique (p.trans (sortI_perm ns).symm) h (sortI_sorted ns)
theorem sortI_rev {ns ns' : List Int} (p : ns'.Perm ns) (h : ns'.Pairwise (· ≥ ·)) : ns' = (sortI ns).reverse := by
  have : ns'.reverse = sortI ns := sortI_of ((List.reverse_perm ns').trans p) (List.pairwise_reverse.mpr h)
  rw [← this, List.reverse_reverse]
def fSort (rev : Bool) : List AV → Sto → Res AV := fun xs S => match xs with
  | [x] => match (look S x).bind asInts with
    | some ns => if ns.length ≤ 1000 then newL ((if rev = true then (sortI ns).reverse else sortI ns).map fun i => iA i) S else .no
    | none => .no
  | _ => .no
section
variable {K : PySem.W.Frag} {E : L2.XK} {W : Wo} {S : Sto}
theorem sort_ok {x : V} {a : AV} {Q : VK} {rev : Bool} (w : Wd K W S) (r : RVw K W x a) (p : PostE K E W (fSort rev [a] S) Q) : ∃ (q : Addr) (ns : List Int), x = .ref q ∧ SqL K W.H q (ns.map V.int) ∧ ∀ l, W.H l = none → Q (.ref l) (upd W.H l (.lst ((if rev = true then (sortI ns).reverse else sortI ns).map V.int))) := by
  unfold fSort at p
  simp only at p
  cases e : look S a with
  | none => rw [e] at p; exact p.elim
  | some ys =>
    rw [e] at p
    simp only [Option.bind_some] at p
    cases e2 : asInts ys with
    | none => rw [e2] at p; exact p.elim
    | some ns =>
      simp only [e2] at p
      obtain ⟨q, vs, rfl, h3, h4⟩ := look_ok w r e
      have ev := asInts_ok h4 e2
      subst ev
      split at p
      · exact ⟨q, ns, rfl, h3, post_lst w (rl_ints _) p⟩
      · exact p.elim
theorem cr_sort : CRR K E (rSortedI K) (fSort false) := by
  intro W S x a Q w r p
  have hx : ∃ z, a = [z] := by
    match a, p with
    | [z], _ => exact ⟨z, rfl⟩
    | [], p => exact p.elim
    | _ :: _ :: _, p => exact p.elim
  obtain ⟨z, rfl⟩ := hx
  obtain ⟨v, rfl, rv⟩ := rl1 r
  obtain ⟨q, ns, rfl, h1, h2⟩ := sort_ok w rv p
  refine ⟨q, ns, rfl, h1, fun ns' l hp hs hl => ?_⟩
  rw [sortI_of hp hs]
  exact h2 l hl
/-- sorted(xs, reverse=True) -/
def fSortK : List AV → List AV → Sto → Res AV := fun xs ys S => match ys with
  | [.d (.bool true)] => fSort true xs S
  | _ => .no
def CRK (K : PySem.W.Frag) (E : L2.XK) (r : List V → List V → Hp → VK → Prop) (f : List AV → List AV → Sto → Res AV) : Prop := ∀ (W : Wo) (S : Sto) (x z : List V) (a b : List AV) (Q : VK), Wd K W S → RLw K W x a → RLw K W z b → PostE K E W (f a b S) Q → r x z W.H Q
theorem cr_sortR : CRK K E (rSortedKw K true [.bl true]) fSortK := by
  intro W S x z a b Q w r rz p
  unfold fSortK at p
  split at p
  · obtain ⟨u, rfl, ru⟩ := rl1 rz
    cases ru with
    | d ru =>
      cases ru
      have hx : ∃ z, a = [z] := by
        match a, p with
        | [z], _ => exact ⟨z, rfl⟩
        | [], p => exact p.elim
        | _ :: _ :: _, p => exact p.elim
      obtain ⟨z, rfl⟩ := hx
      obtain ⟨v, rfl, rv⟩ := rl1 r
      obtain ⟨q, ns, rfl, h1, h2⟩ := sort_ok w rv p
      refine ⟨q, ns, rfl, rfl, h1, fun ns' l hp hs hl => ?_⟩
      rw [sortI_rev hp hs]
      exact h2 l hl
  · exact p.elim
def eCK (f : List AV → List AV → Sto → Res AV) (dl dk : LV) : EV := fun ρ S => (dl ρ S).bind fun xs S1 => (dk ρ S1).bind fun ys S2 => f xs ys S2
theorem re_ck {r : List V → List V → Hp → VK → Prop} {f : List AV → List AV → Sto → Res AV} {al ak : TA} {dl dk : LV} (h : CRK K E r f) (ha : RA K E al dl) (hk : RA K E ak dk) : RE K E (tCKw r al ak) (eCK f dl dk) := by
  intro W S σ ρ Q w r p
  refine ha.step w r p fun vs xs W1 S1 e1 w1 r1 v1 p1 => ?_
  refine hk.step w1 r1 p1 fun zs ys W2 S2 e2 w2 r2 v2 p2 => ?_
  exact h W2 S2 vs zs xs ys Q w2 (e2.rl v1) v2 p2
/-! ### range with a step -/
noncomputable def jR3 (dl : LV) : IV := fun ρ S => (dl ρ S).bind fun xs S1 => match xs with
  | [.d (.int i), .d (.int j), .d (.int c)] => if RgC i j c (Builtin.Range.rangeSize i j c).toNat then .ok (.rngc i c (Builtin.Range.rangeSize i j c).toNat) S1 else .no
  | _ => .no
theorem item_rngc {lo c : Int} {n : Nat} : RItem K (Itc lo c n) (.rngc lo c n) W := by
  intro W' S' i e' w'
  show match (some (if i < n then some (iA (lo + (i : Nat) * c)) else none) : Option (Option AV)) with | none => True | some none => _ | some (some y) => _
  by_cases h : i < n
  · rw [if_pos h]
    exact ⟨h, fun v H' ⟨eh, hv⟩ => ⟨W', eh.symm, Ext.refl, w', by rw [hv]; exact .d (.int _)⟩⟩
  · rw [if_neg h]
    exact Nat.le_of_not_lt h
theorem ri_r3 {al : TA} {dl : LV} (h : RA K E al dl) : RI K E (iRng3 al) (jR3 dl) := by
  intro W S σ ρ Q w r p
  refine h.stepI w r p fun vs xs W1 S1 e1 w1 r1 v1 p1 => ?_
  split at p1
  · rename_i i j c
    cases v1 with
    | cons a v1 => cases v1 with
      | cons b v1 => cases v1 with
        | cons d v1 =>
          cases v1
          split at p1
          · rename_i hr
            cases a with
            | d a => cases b with
              | d b => cases d with
                | d d =>
                  cases a; cases b; cases d
                  exact ⟨i, j, c, _, rfl, hr, p1 _ W1 Ext.refl w1 item_rngc⟩
          · exact p1.elim
  · exact p1.elim
end
theorem call_isiR {K : PySem.W.Frag} {X : Cx} (hK : X.K = K := by rfl) : CallR X (.builtin "isinstance") (rIsi K) := by subst hK; exact call_isi
theorem cr_sortedRR {K : PySem.W.Frag} {X : Cx} (hK : X.K = K := by rfl) : CallR X (.builtin "sorted") (rSortedI K) := by subst hK; exact cr_sortedI
theorem cr_sortedRevR {K : PySem.W.Frag} {X : Cx} (hK : X.K = K := by rfl) : CallRK X (.builtin "sorted") [Str.ofString "reverse"] (rSortedKw K true [.bl true]) := by subst hK; exact cr_sortedRev
mutual
theorem okS_okD : ∀ (d : PyData), okS d → okD d
  | .none, _ => trivial
  | .bool _, _ => trivial
  | .int _, _ => trivial
  | .str _, h => h.elim
  | .dict _, h => h.elim
  | .list xs, h => ⟨h.1, okSs_okDs xs h.2⟩
  | .tuple xs, h => ⟨h.1, okSs_okDs xs h.2⟩
theorem okSs_okDs : ∀ (ds : List PyData), okSs ds → okDs ds
  | [], _ => trivial
  | d :: ds, h => ⟨okS_okD d h.1, okSs_okDs ds h.2⟩
end
theorem same_imp2 {K : PySem.W.Frag} {vs : List V} {H : Hp} {Q : VK} {E : L2.XK} (h : sp_d K 2 den__law_same vs H Q E) : ∃ (v u : V) (d : PyData), vs = [v, u] ∧ Dp K H v d ∧ Dp K H u d ∧ d.depth ≤ 4 ∧ okD d ∧ ∀ H', Same H H' → Q (.bl true) H' := by
  obtain ⟨v, u, d, e, h1, h2, h3, h4, h5⟩ := same_imp h
  exact ⟨v, u, d, e, h1, h2, h3, okS_okD d h4, h5⟩
end My

namespace My
open PySem PySem.Spec L2
open PySem.W (EachIs dataLe dataLt AllAlike Sortable alike alikeAll sorted_data)
open Classical
/-! ### sorted, tuples and rows of ints -/
def insT (k : List Int) : List (List Int) → List (List Int)
  | [] => [k]
  | j :: r => if k ≤ j then k :: j :: r else j :: insT k r
def sortT : List (List Int) → List (List Int)
  | [] => []
  | k :: r => insT k (sortT r)
theorem insT_perm (k : List Int) : ∀ l, (insT k l).Perm (k :: l)
  | [] => .refl _
  | j :: r => by
    unfold insT
    split
    · exact .refl _
    · exact ((insT_perm k r).cons j).trans (.swap k j r)
theorem sortT_perm : ∀ l, (sortT l).Perm l
  | [] => .refl _
  | k :: r => (insT_perm k _).trans ((sortT_perm r).cons k)
theorem leT_total (a b : List Int) : a ≤ b ∨ b ≤ a := List.le_total a b
theorem leT_trans {a b c : List Int} (h : a ≤ b) (h2 : b ≤ c) : a ≤ c := List.le_trans h h2
theorem insT_sorted (k : List Int) : ∀ l : List (List Int), l.Pairwise (· ≤ ·) → (insT k l).Pairwise (· ≤ ·)
  | [], _ => List.pairwise_singleton _ _
  | j :: r, h => by
    unfold insT
    have h1 := List.pairwise_cons.mp h
    split
    · rename_i hk
      refine List.pairwise_cons.mpr ⟨fun z hz => ?_, h⟩
      rcases List.mem_cons.mp hz with rfl | hz
      · exact hk
      · exact leT_trans hk (h1.1 z hz)
    · rename_i hk
      have hj : j ≤ k := (leT_total k j).resolve_left hk
      refine List.pairwise_cons.mpr ⟨fun z hz => ?_, insT_sorted k r h1.2⟩
      rcases List.mem_cons.mp ((insT_perm k r).mem_iff.mp hz) with rfl | hz
      · exact hj
      · exact h1.1 z hz
theorem sortT_sorted : ∀ l : List (List Int), (sortT l).Pairwise (· ≤ ·)
  | [] => .nil
  | k :: r => insT_sorted k _ (sortT_sorted r)
theorem sortedT_unique : ∀ {xs ys : List (List Int)}, xs.Perm ys → xs.Pairwise (· ≤ ·) → ys.Pairwise (· ≤ ·) → xs = ys
  | [], ys, p, _, _ => by rw [List.nil_perm.mp p]
  | x :: xs, [], p, _, _ => absurd p.length_eq (by simp)
  | x :: xs, y :: ys, p, h1, h2 => by
    have h1' := List.pairwise_cons.mp h1
    have h2' := List.pairwise_cons.mp h2
    have e : x = y := by
      refine List.le_antisymm ?_ ?_
      · rcases List.mem_cons.mp (p.mem_iff.mpr List.mem_cons_self) with e | m
        · rw [e]; exact List.le_refl _
        · exact h1'.1 y m
      · rcases List.mem_cons.mp (p.mem_iff.mp List.mem_cons_self) with e | m
        · rw [e]; exact List.le_refl _
        · exact h2'.1 x m
    subst e
    rw [sortedT_unique (List.Perm.cons_inv p) h1'.2 h2'.2]
theorem sortT_of {l l' : List (List Int)} (p : l'.Perm l) (h : l'.Pairwise (· ≤ ·)) : l' = sortT l := sortedT_unique (p.trans (sortT_perm l).symm) h (sortT_sorted l)
def wrT : Bool → List Int → PyData
  | true, k => tupD k
  | false, k => .list (k.map .int)
theorem dataLe_wr (b : Bool) : dataLe false (wrT b) = fun p q => decide (p ≤ q) := by
  funext p q
  show (!dataLt (wrT b q) (wrT b p)) = _
  have e : dataLt (wrT b q) (wrT b p) = decide (q < p) := by
    cases b with
    | true => exact lt_tupD q p
    | false => exact (PySem.W.dataLt_list _ _).trans (PySem.W.dataLt_ints q p)
  rw [e]
  by_cases h : q < p
  · have h' : ¬ p ≤ q := fun r => List.not_lt.mpr r h
    simp [h, h']
  · have h' : p ≤ q := List.not_lt.mp h
    simp [h, h']
theorem merge_sortT (b : Bool) (kz : List (List Int)) : kz.mergeSort (dataLe false (wrT b)) = sortT kz := by
  rw [dataLe_wr]
  refine sortT_of (List.mergeSort_perm _ _) ?_
  have := List.pairwise_mergeSort (le := fun p q : List Int => decide (p ≤ q)) (fun a b c h1 h2 => by
    simp only [decide_eq_true_eq] at *
    exact leT_trans h1 h2) (fun a b => by
    simp only [Bool.or_eq_true, decide_eq_true_eq]
    exact leT_total a b) kz
  exact this.imp fun h => of_decide_eq_true h
theorem alike_wr (b : Bool) (k k' : List Int) : alike (wrT b k) (wrT b k') = true := by
  have go : ∀ k k' : List Int, alikeAll (k.map .int) (k'.map .int) = true := by
    intro k
    induction k with
    | nil => intro k'; unfold alikeAll; rfl
    | cons a r ih =>
      intro k'
      cases k' with
      | nil => unfold alikeAll; rfl
      | cons c t =>
        show alikeAll (.int a :: r.map .int) (.int c :: t.map .int) = true
        unfold alikeAll
        rw [ih t]
        unfold alike
        rfl
  cases b with
  | true => show alike (.tuple (k.map .int)) (.tuple (k'.map .int)) = true; unfold alike; exact go k k'
  | false => show alike (.list (k.map .int)) (.list (k'.map .int)) = true; unfold alike; exact go k k'
theorem depth_wr (b : Bool) (k : List Int) : (wrT b k).depth ≤ 1 := by
  have := depthInts k
  cases b with
  | true => show PyData.depthAll (k.map .int) + 1 ≤ 1; omega
  | false => show PyData.depthAll (k.map .int) + 1 ≤ 1; omega
theorem each_of {K : PySem.W.Frag} {H : Hp} {P : PyData → PyData} {b : Bool} : ∀ {vs : List V} {us : List Value} {kz : List (List Int)}, Vals vs us → DpAll K H vs (kz.map (wrT b)) → EachIs (fun u k => ∃ x, RelV x u ∧ Dp K H x (wrT b k)) us kz
  | _, _, [], r, h => by cases h; cases r; exact .nil
  | _, _, k :: kz, r, h => by
    cases h with
    | cons h1 h2 =>
      cases r with
      | cons r1 r2 => exact .cons ⟨_, r1, h1⟩ (each_of (P := P) r2 h2)
theorem of_each {K : PySem.W.Frag} {H : Hp} {b : Bool} : ∀ {us : List Value} {kz : List (List Int)}, EachIs (fun u k => ∃ x, RelV x u ∧ Dp K H x (wrT b k)) us kz → ∃ vs, Vals vs us ∧ DpAll K H vs (kz.map (wrT b))
  | _, _, .nil => ⟨[], .nil, .nil⟩
  | _, _, .cons ⟨x, h1, h2⟩ t => by
    obtain ⟨vs, a, c⟩ := of_each t
    exact ⟨x :: vs, .cons h1 a, .cons h2 c⟩
def rSortW (K : PySem.W.Frag) (b : Bool) : List V → Hp → VK → Prop := fun vs H Q => ∃ (a : Addr) (xs : List V) (kz : List (List Int)) (G : Hp), Same G H ∧ vs = [V.ref a] ∧ SqL K H a xs ∧ DpAll K G xs (kz.map (wrT b)) ∧ (b = true → ∀ k ∈ kz, k ≠ []) ∧
  ∀ ys p, DpAll K G ys ((sortT kz).map (wrT b)) → H p = none → Q (.ref p) (upd H p (.lst ys))
theorem cr_sortW {X : Cx} {b : Bool} (hu : X.A.units + 8 < cLine) : CallR X (.builtin "sorted") (rSortW X.K b) := by
  intro pins s σ H vs us Q I r h
  obtain ⟨a, xs, kz, G, sG, rfl, hs, hd, hne, q⟩ := h
  obtain ⟨its, rv, hl, hz⟩ := I.list hs
  rw [Vals.ref1 r]
  have lk : its.length = kz.length := by
    have : ∀ {vs : List V} {ds : List PyData}, DpAll X.K G vs ds → vs.length = ds.length := by
      intro vs
      induction vs with
      | nil => intro ds h; cases h; rfl
      | cons v r ih => intro ds h; cases h with | cons h1 h2 => simp [ih h2]
    have := this hd
    rw [List.length_map] at this
    rw [← this, rv.length]
  have ee := each_of (P := id) rv hd
  refine sorted_data (R := fun u k => ∃ x, RelV x u ∧ Dp X.K G x (wrT b k)) (enc := wrT b) (vs := its) (bs := kz) hl.isList ee (ee.mono fun u k ⟨x, r1, d1⟩ => Dp.reads I _ _ _ (Dp.same sG d1) r1) ?_ ?_ (by rw [← lk, ← rv.length]; exact hz) (fun k _ => by have := depth_wr b k; omega) fun out ho eo => ?_
  · intro d h1 d' h2
    obtain ⟨k, _, rfl⟩ := List.mem_map.mp h1
    obtain ⟨k', _, rfl⟩ := List.mem_map.mp h2
    exact alike_wr b k k'
  · cases b with
    | true =>
      refine .inl fun d h1 => ?_
      obtain ⟨k, hk, rfl⟩ := List.mem_map.mp h1
      cases k with
      | nil => exact absurd rfl (hne rfl _ hk)
      | cons c r => exact ⟨_, _, rfl⟩
    | false =>
      refine .inr fun d h1 => ?_
      obtain ⟨k, hk, rfl⟩ := List.mem_map.mp h1
      exact ⟨(fun e => (by cases e)), fun xs e => (by cases e)⟩
  · rw [merge_sortT] at eo
    obtain ⟨ys, v1, d1⟩ := of_each eo
    obtain ⟨n, hn⟩ := PyProof.Rows.sortedAll_at s.heap its out.toArray
    refine ⟨.ref (s.heap.objs.size + 1), upd H (s.heap.objs.size + 1) (.lst ys), I.laid (t' := s.toks) (fun _ _ => PyProof.Rows.sortedAll_old) (Nat.le_succ _) ⟨?_, out, n, v1, hn⟩, rfl, q ys _ d1 (I.hok.fresh (Nat.le_succ _))⟩
    rw [v1.length, ho, ← lk, ← rv.length]
    exact hz
theorem cr_sortWK {X : Cx} {K : PySem.W.Frag} {b : Bool} (hu : X.A.units + 8 < cLine) (hK : X.K = K := by rfl) : CallR X (.builtin "sorted") (rSortW K b) := by subst hK; exact cr_sortW hu

def asIs : List PyData → Option (List Int)
  | [] => some []
  | .int i :: r => (asIs r).map (i :: ·)
  | _ => none
theorem asIs_eq : ∀ {ds : List PyData} {k : List Int}, asIs ds = some k → ds = k.map .int
  | [], k, h => by cases h; rfl
  | .int i :: r, k, h => by
    unfold asIs at h
    cases e : asIs r with
    | none => rw [e] at h; cases h
    | some k' => rw [e] at h; cases h; rw [asIs_eq e]; rfl
  | .none :: _, _, h => by cases h
  | .bool _ :: _, _, h => by cases h
  | .str _ :: _, _, h => by cases h
  | .list _ :: _, _, h => by cases h
  | .tuple _ :: _, _, h => by cases h
  | .dict _ :: _, _, h => by cases h
theorem asIs_ints : ∀ k : List Int, asIs (k.map .int) = some k
  | [] => rfl
  | i :: r => by show (asIs (r.map .int)).map (i :: ·) = _; rw [asIs_ints r]; rfl
def asW : Bool → PyData → Option (List Int)
  | true, .tuple ds => asIs ds
  | false, .list ds => asIs ds
  | _, _ => none
theorem asW_eq {b : Bool} {d : PyData} {k : List Int} (h : asW b d = some k) : d = wrT b k := by
  cases b with
  | true => cases d with
    | tuple ds => rw [asIs_eq (show asIs ds = some k from h)]; rfl
    | _ => cases h
  | false => cases d with
    | list ds => rw [asIs_eq (show asIs ds = some k from h)]; rfl
    | _ => cases h
theorem asW_wr (b : Bool) (k : List Int) : asW b (wrT b k) = some k := by cases b <;> exact asIs_ints k
def unA : Bool → AV → Option PyData
  | false, .d x => some x
  | true, .r x => some x
  | _, _ => none
def toA : Bool → PyData → AV
  | false => .d
  | true => .r
def asWs (b rr : Bool) : List AV → Option (List (List Int))
  | [] => some []
  | x :: r => match (unA rr x).bind (asW b), asWs b rr r with
    | some k, some ks => some (k :: ks)
    | _, _ => none
theorem asWs_map (b rr : Bool) : ∀ ks : List (List Int), asWs b rr (ks.map fun k => toA rr (wrT b k)) = some ks
  | [] => rfl
  | k :: r => by
    show (match (unA rr (toA rr (wrT b k))).bind (asW b), asWs b rr (r.map fun k => toA rr (wrT b k)) with | some k, some ks => some (k :: ks) | _, _ => none) = _
    rw [asWs_map b rr r, show (unA rr (toA rr (wrT b k))).bind (asW b) = some k by cases rr <;> exact asW_wr b k]
def heapA (rr : Bool) (F B : Hp) : Hp := if rr = true then B else F
theorem asWs_ok {K : PySem.W.Frag} {F B : Hp} {ι : List Addr} {b rr : Bool} : ∀ {vs : List V} {xs : List AV} {ks : List (List Int)}, RVL K F B ι vs xs → asWs b rr xs = some ks → DpAll K (heapA rr F B) vs (ks.map (wrT b))
  | _, _, _, .nil, h => by cases h; exact .nil
  | _, _, _, .cons (x := x) (xs := xs) a r, h => by
    unfold asWs at h
    cases e0 : unA rr x with
    | none => rw [e0] at h; cases h
    | some d =>
      cases e1 : asW b d with
      | none => rw [e0] at h; simp only [Option.bind_some, e1] at h; cases h
      | some k =>
        cases e2 : asWs b rr xs with
        | none => rw [e0] at h; simp only [Option.bind_some, e1, e2] at h; cases h
        | some ks' =>
          rw [e0] at h; simp only [Option.bind_some, e1, e2] at h
          cases h
          have := asW_eq e1
          subst this
          refine .cons ?_ (asWs_ok r e2)
          cases rr with
          | false => cases x with
            | d y => cases e0; cases a with | d a => exact a
            | _ => cases e0
          | true => cases x with
            | r y => cases e0; cases a with | r a => exact a
            | _ => cases e0
theorem rl_wr {K : PySem.W.Frag} {F B : Hp} {ι : List Addr} {b rr : Bool} : ∀ {vs : List V} {ks : List (List Int)}, DpAll K (heapA rr F B) vs (ks.map (wrT b)) → RVL K F B ι vs (ks.map fun k => toA rr (wrT b k))
  | _, [], h => by cases h; exact .nil
  | _, k :: ks, h => by
    cases h with
    | cons h1 h2 =>
      refine .cons ?_ (rl_wr h2)
      cases rr with
      | false => exact .d h1
      | true => exact .r h1
def sortK (b rr : Bool) (S : Sto) : Option (List (List Int)) → Option (Res AV)
  | some kz => if b = true → ∀ k ∈ kz, k ≠ [] then some (newL ((sortT kz).map fun k => toA rr (wrT b k)) S) else none
  | none => none
/-- sorted, of tuples (true) or lists (false) of ints -/
noncomputable def fSortW (b : Bool) : List AV → Sto → Res AV := fun xs S => match xs with
  | [x] => match look S x with
    | some ys => (match sortK b false S (asWs b false ys) with
      | some r => r
      | none => (match sortK b true S (asWs b true ys) with
        | some r => r
        | none => .no))
    | none => .no
  | _ => .no
section
variable {K : PySem.W.Frag} {E : L2.XK} {W : Wo} {S : Sto}
theorem sortK_ok {b rr : Bool} {Q : VK} {q : Addr} {vs : List V} {ys : List AV} {m : Res AV} (w : Wd K W S) (h1 : SqL K W.H q vs) (h2 : RLw K W vs ys) (e : sortK b rr S (asWs b rr ys) = some m) (p : PostE K E W m Q) : rSortW K b [.ref q] W.H Q := by
  cases e2 : asWs b rr ys with
  | none => rw [e2] at e; cases e
  | some kz =>
    rw [e2] at e
    have e : (if b = true → ∀ k ∈ kz, k ≠ [] then some (newL ((sortT kz).map fun k => toA rr (wrT b k)) S) else none) = some m := e
    split at e
    · rename_i hne
      cases e
      refine ⟨q, vs, kz, heapA rr W.F W.B, ?_, rfl, h1, asWs_ok h2 e2, hne, fun zs l dz hl => post_lst w (rl_wr dz) p l hl⟩
      cases rr with
      | false => exact w.fr
      | true => exact w.br
    · cases e
theorem cr_sortW2 {b : Bool} : CRR K E (rSortW K b) (fSortW b) := by
  intro W S x a Q w r p
  unfold fSortW at p
  split at p
  · obtain ⟨v, rfl, rv⟩ := rl1 r
    split at p
    · rename_i ys e
      obtain ⟨q, us, rfl, h3, h4⟩ := look_ok w rv e
      split at p
      · rename_i m e1
        exact sortK_ok w h3 h4 e1 p
      · split at p
        · rename_i m e1
          exact sortK_ok w h3 h4 e1 p
        · exact p.elim
    · exact p.elim
  · exact p.elim
end
end My

namespace My
open PySem PySem.Spec L2
open Classical
section
variable {K : PySem.W.Frag} {E : L2.XK} {W W1 : Wo} {S : Sto} {σ : L2.St} {ρ : En} {ta tb tc : TE} {da db dc : EV} {al : TA} {dl : LV}
/-! ### lists: pop(i), insert, extend, index, times -/
def fPopAt : AV → List AV → Sto → Res AV := fun o xs S => match o, xs, cellL S o with
  | .c n, [.d (.int i)], some ys => if 0 ≤ i ∧ i < 1000000 then (match ys[i.toNat]? with
    | some y => .ok y (S.set n (.lst (ys.eraseIdx i.toNat)))
    | none => .no) else .no
  | _, _, _ => .no
theorem RVL.eraseIdx {F B : Hp} {ι : List Addr} : ∀ {vs : List V} {xs : List AV} (i : Nat), RVL K F B ι vs xs → RVL K F B ι (vs.eraseIdx i) (xs.eraseIdx i)
  | _, _, _, .nil => .nil
  | _, _, 0, .cons _ r => r
  | _, _, i + 1, .cons a r => .cons a (RVL.eraseIdx i r)
theorem mr_popAt : MRR K E rPopAt fPopAt := by
  intro W S o b x a Q w ro rx p
  unfold fPopAt at p
  split at p
  · rename_i n i ys e
    split at p
    · rename_i hb
      obtain ⟨m, q, vs, em, rfl, h1, h2, h3, h4⟩ := cellL_ok w ro e
      cases em
      obtain ⟨v, rfl, rv⟩ := rl1 rx
      cases rv with
      | d rv =>
        cases rv
        cases e5 : ys[i.toNat]? with
        | none => rw [e5] at p; exact p.elim
        | some y =>
          rw [e5] at p
          obtain ⟨v, h5, h6⟩ := h4.get e5
          have hl := (List.getElem?_eq_some_iff.mp e5).1
          have hi : ixN vs.length i = some i.toNat := by
            have := ixN_ok (n := vs.length) (k := i.toNat) (by rw [h4.len]; exact hl)
            rwa [show ((i.toNat : Nat) : Int) = i by omega] at this
          refine ⟨q, vs, i, i.toNat, v, rfl, rfl, h3, by omega, by omega, (ixN_seq hi).1, h5, ?_⟩
          exact post_wr w h1 (.lst (RVL.eraseIdx _ h4)) p fun W' e' => e'.rv h6
    · exact p.elim
  · exact p.elim
def fInsert : AV → List AV → Sto → Res AV := fun o xs S => match o, xs, cellL S o with
  | .c n, [.d (.int i), y], some ys => if 0 ≤ i ∧ i < 1000000 ∧ ys.length < 1000 then .ok nA (S.set n (.lst (ys.take i.toNat ++ [y] ++ ys.drop i.toNat))) else .no
  | _, _, _ => .no
theorem mr_insert : MRR K E (fun x vs H Q => ∃ (l : Addr) (xs : List V) (i : Int) (y : V), x = .ref l ∧ vs = [.int i, y] ∧ H l = some (.lst xs) ∧ xs.length < sizeLine ∧ 0 ≤ i ∧ i < 2 ^ 63 ∧
    Q .non (upd H l (.lst (xs.take i.toNat ++ [y] ++ xs.drop i.toNat)))) fInsert := by
  intro W S o b x a Q w ro rx p
  unfold fInsert at p
  split at p
  · rename_i n i y ys e
    split at p
    · rename_i hb
      obtain ⟨m, q, vs, em, rfl, h1, h2, h3, h4⟩ := cellL_ok w ro e
      cases em
      obtain ⟨v, u, rfl, rv, ru⟩ := rl2 rx
      cases rv with
      | d rv =>
        cases rv
        refine ⟨q, vs, i, u, rfl, rfl, h3, by rw [h4.len]; exact small1000 (by omega), by omega, by omega, ?_⟩
        exact post_wr w h1 (.lst (((h4.take _).append (.cons ru .nil)).append (h4.drop _))) p fun _ _ => .d .non
    · exact p.elim
  · exact p.elim
/-- xs.extend(zs), zs any list -/
theorem list_extendW (l : Addr) (items : Array Value) (n : Nat) (b : Addr) (items2 : Array Value) (n2 : Nat) (sl2 : Array (Option Value)) (hc0 : ¬(!items.isEmpty && Builtin.List.listTooLong (items.size + items2.size)) = true) (hc1 : items.size ≤ sizeLine) (hs2 : items.size + items2.size ≤ sizeLine + 1) :
    Meets (Builtin.«list.extend» ⟨[.ref l, .ref b], []⟩) (fun _ R s => s.heap.get? l = some { cls := .type "list", dict := none, data := .seq items n, slots := #[] } ∧ s.heap.get? b = some { cls := .type "list", dict := none, data := .seq items2 n2, slots := sl2 } ∧ R (.ok (.ret Value.none)) { s with heap := s.heap.update l (Obj.mapSeq fun x => x ++ items2), toks := s.toks }) :=
  .of_wp fun prog w A R s h => by
    obtain ⟨hp, g, d, tk, os⟩ := s; obtain ⟨hl, hb, h⟩ := h; have f1 := AutoSeq1.idx_int; have f2 := AutoSeq1.sub_tuple_tuple; have f3 := AutoSeq1.sub_list_list; have f4 := AutoSeq1.sub_tuple_list; have f5 := AutoSeq1.sub_list_tuple;
    have hz' : (items ++ items2).size ≤ sizeLine + 1 := by rw [Array.size_append]; exact hs2
    wp_walk using (wpAny_updateSeq hl rfl (hz := hc1) (_hz' := hz')), AutoSeq1.wpAny_loadPart' hl, AutoSeq1.wpAny_loadPart' hb; exact ⟨_, rfl, h⟩
def rExtendS (K : PySem.W.Frag) : V → List V → Hp → VK → Prop := fun x vs H Q => ∃ l b xs zs, x = .ref l ∧ vs = [.ref b] ∧ H l = some (.lst xs) ∧ SqL K H b zs ∧ xs.length + zs.length ≤ sizeLine ∧ Q .non (upd H l (.lst (xs ++ zs)))
theorem mt_extendS {X : Cx} : MtR X "list.extend" (rExtendS X.K) := by
  intro pins s σ H x vs v us Q I rx rv h
  obtain ⟨l, b, xs, zs, rfl, rfl, hH, hB, hz, q⟩ := h
  cases rx
  obtain ⟨u, rfl, ru⟩ := rv.one
  cases ru
  obtain ⟨z, its, n, r, hl, e⟩ := I.lstM hH
  obtain ⟨its2, r2, p2, _⟩ := I.list hB
  obtain ⟨⟨cls2, dd2, data2, sl2⟩, n2, ho2, hc2, hdd2, hd2⟩ := p2
  simp only at hc2 hd2 hdd2
  subst hc2 hd2 hdd2
  have hl2 := r2.length
  have hsz : its.toArray.size + its2.toArray.size ≤ sizeLine := by rw [List.size_toArray, List.size_toArray]; omega
  have hlong : ¬ (!its.toArray.isEmpty && Builtin.List.listTooLong (its.toArray.size + its2.toArray.size)) = true := by
    rw [notLongL hsz, Bool.and_false]
    exact Bool.false_ne_true
  refine call_meets F.slot_list_extend ⟨_, e, rfl⟩ F.entry_list_extend (F.args_list_extend_2 _ _)
    (list_extendW l its.toArray n b its2.toArray n2 sl2 hlong (by rw [List.size_toArray]; omega) (by omega)) ⟨e, ho2, ?_⟩
  refine ⟨.non, _, I.lset (its' := its ++ its2) hH e (by simp) (r.append r2) ?_, rfl, q⟩
  rw [List.length_append]
  omega
def fExtend : AV → List AV → Sto → Res AV := fun o xs S => match o, xs, cellL S o with
  | .c n, [y], some ys => (match look S y with
    | some zs => if ys.length + zs.length ≤ 1000 then .ok nA (S.set n (.lst (ys ++ zs))) else .no
    | none => .no)
  | _, _, _ => .no
theorem mr_extend : MRR K E (rExtendS K) fExtend := by
  intro W S o b x a Q w ro rx p
  unfold fExtend at p
  split at p
  · rename_i n y ys e
    split at p
    · rename_i zs e1
      split at p
      · rename_i hb
        obtain ⟨m, q, vs, em, rfl, h1, h2, h3, h4⟩ := cellL_ok w ro e
        cases em
        obtain ⟨v, rfl, rv⟩ := rl1 rx
        obtain ⟨q2, us, rfl, g1, g2⟩ := look_ok w rv e1
        refine ⟨q, q2, vs, us, rfl, rfl, h3, g1, by rw [h4.len, g2.len]; exact line_small hb, ?_⟩
        exact post_wr w h1 (.lst (h4.append g2)) p fun _ _ => .d .non
      · exact p.elim
    · exact p.elim
  · exact p.elim
/-- xs.index(y), flat things -/
def findV (y : V) : List V → Option Nat
  | [] => none
  | z :: r => if eqV z y = true then some 0 else (findV y r).map (· + 1)
theorem findV_ok {y : V} : ∀ {ys : List V} {j : Nat}, findV y ys = some j → (∃ z, ys[j]? = some z ∧ eqV z y = true) ∧ ∀ (m : Nat) (z' : V), m < j → ys[m]? = some z' → eqV z' y = false
  | [], j, h => by cases h
  | z :: r, j, h => by
    unfold findV at h
    split at h
    · rename_i hz
      cases h
      exact ⟨⟨z, rfl, hz⟩, fun m z' hm => by omega⟩
    · rename_i hz
      cases e : findV y r with
      | none => rw [e] at h; cases h
      | some j' =>
        rw [e] at h
        cases h
        obtain ⟨⟨u, h1, h2⟩, h3⟩ := findV_ok e
        refine ⟨⟨u, h1, h2⟩, fun m z' hm hz' => ?_⟩
        cases m with
        | zero => cases hz'; simpa using hz
        | succ m => exact h3 m z' (by simp at hm; omega) hz'
def fIndex : AV → List AV → Sto → Res AV := fun o xs S => match xs with
  | [y] => (match flatA y, (look S o).bind flatAs with
    | some v, some vs => (match findV v vs with
      | some j => .ok (iA (j : Nat)) S
      | none => .no)
    | _, _ => .no)
  | _ => .no
theorem mr_index : MRR K E (rIndex K) fIndex := by
  intro W S o b x a Q w ro rx p
  unfold fIndex at p
  split at p
  · rename_i y
    cases e1 : flatA y with
    | none => simp only [e1] at p; exact p.elim
    | some v =>
      cases e2 : (look S b).bind flatAs with
      | none => simp only [e1, e2] at p; exact p.elim
      | some vs =>
        simp only [e1, e2] at p
        obtain ⟨zs, e3, e4⟩ := Option.bind_eq_some_iff.mp e2
        obtain ⟨u, rfl, ru⟩ := rl1 rx
        obtain ⟨q, us, rfl, h3, h4⟩ := look_ok w ro e3
        obtain ⟨rfl, f1⟩ := flatA_ok ru e1
        obtain ⟨rfl, f2⟩ := flatAs_ok h4 e4
        cases e5 : findV u us with
        | none => rw [e5] at p; exact p.elim
        | some j =>
          rw [e5] at p
          obtain ⟨⟨z, g1, g2⟩, g3⟩ := findV_ok e5
          exact ⟨q, us, u, j, z, rfl, rfl, h3, f1, f2, g1, g2, g3, post_val w p (.d (.int _))⟩
  · exact p.elim
/-- tuple(xs) -/
def fTupleOf : List AV → Sto → Res AV := fun xs S => match xs with
  | [x] => (match look S x with
    | some ys => .ok (mkT ys) S
    | none => (match lookT x with
      | some _ => .ok x S
      | none => .no))
  | _ => .no
theorem cr_tupleOf : CRR K E (fun xs H Q => ∃ p ys, xs = [.ref p] ∧ ((SqL K H p ys ∧ ∀ l, H l = none → Q (.ref l) (upd H l (.tup ys))) ∨ (SqT K H p ys ∧ Q (.ref p) H))) fTupleOf := by
  intro W S x a Q w r p
  unfold fTupleOf at p
  split at p
  · rename_i z
    obtain ⟨v, rfl, rv⟩ := rl1 r
    cases e : look S z with
    | some ys =>
      simp only [e] at p
      obtain ⟨q, vs, rfl, h3, h4⟩ := look_ok w rv e
      exact ⟨q, vs, rfl, .inl ⟨h3, post_tup w h4 p⟩⟩
    | none =>
      simp only [e] at p
      cases e2 : lookT z with
      | none => rw [e2] at p; exact p.elim
      | some ys =>
        simp only [e2] at p
        obtain ⟨q, vs, rfl, h3, h4⟩ := lookT_ok w rv e2
        exact ⟨q, vs, rfl, .inr ⟨h3, post_val w p rv⟩⟩
  · exact p.elim
theorem call_tupleK {X : Cx} (hK : X.K = K := by rfl) : CallR X (.type "tuple") (fun xs H Q => ∃ p ys, xs = [.ref p] ∧ ((SqL K H p ys ∧ ∀ l, H l = none → Q (.ref l) (upd H l (.tup ys))) ∨ (SqT K H p ys ∧ Q (.ref p) H))) := by subst hK; exact call_tuple_of
theorem mt_extendK {X : Cx} (hK : X.K = K := by rfl) : MtR X "list.extend" (rExtendS K) := by subst hK; exact mt_extendS
theorem mt_indexK {X : Cx} (hK : X.K = K := by rfl) : MtR X "list.index" (rIndex K) := by subst hK; exact mt_index
/-- [x] * k -/
def fRep : AV → AV → Sto → Res AV := fun a b S => match cellL S a, asI b with
  | some xs, some k => if xs.length * k.toNat ≤ 1000 ∧ k < 1000000 ∧ -1000000 < k then newL (List.replicate k.toNat xs).flatten S else .no
  | _, _ => .no
theorem rl_flat {F B : Hp} {ι : List Addr} {vs : List V} {xs : List AV} (h : RVL K F B ι vs xs) : ∀ k, RVL K F B ι (List.replicate k vs).flatten (List.replicate k xs).flatten
  | 0 => .nil
  | k + 1 => by
    rw [List.replicate_succ, List.replicate_succ, List.flatten_cons, List.flatten_cons]
    exact h.append (rl_flat h k)
theorem rr_rep : R2R K E rRep fRep := by
  intro W S x y a b Q w ra rb p
  unfold fRep at p
  cases e1 : cellL S a with
  | none => rw [e1] at p; exact p.elim
  | some xs =>
    cases e2 : asI b with
    | none => rw [e1, e2] at p; exact p.elim
    | some k =>
      simp only [e1, e2] at p
      split at p
      · rename_i h
        obtain ⟨n, q, vs, rfl, rfl, h1, h2, h3, h4⟩ := cellL_ok w ra e1
        refine ⟨q, k, vs, rfl, asI_ok rb e2, h3, by omega, by omega, ?_, post_lst w (rl_flat h4 _) p⟩
        rw [h4.len]
        exact line_small h.1
      · exact p.elim
/-- a < b < c -/
def eChain (f g : AV → AV → Sto → Res AV) (da db dc : EV) : EV := fun ρ S => (da ρ S).bind fun x S1 => (db ρ S1).bind fun y S2 => (f x y S2).bind fun z S3 => match asB z with
  | some true => (dc ρ S3).bind fun u S4 => g y u S4
  | some false => .ok (bA false) S3
  | none => .no
theorem re_chain {r r' : R2} {f g : AV → AV → Sto → Res AV} (hf : R2R K E r f) (hg : R2R K E r' g) (ha : RE K E ta da) (hb : RE K E tb db) (hc : RE K E tc dc) : RE K E (tChain r r' ta tb tc) (eChain f g da db dc) := by
  intro W S σ ρ Q w r p
  refine ha.step w r p fun x a W1 S1 e1 w1 r1 v1 p1 => ?_
  refine hb.step w1 r1 p1 fun y b W2 S2 e2 w2 r2 v2 p2 => ?_
  refine hf W2 S2 x y a b _ w2 (e2.rv v1) v2 ?_
  cases e : f a b S2 with
  | no => rw [e] at p2; exact p2.elim
  | ex C z T => rw [e] at p2; exact p2
  | ok z S3 =>
    rw [e] at p2
    intro zv W3 e3 w3 rz
    simp only [bind_ok] at p2
    cases e4 : asB z with
    | none => rw [e4] at p2; exact p2.elim
    | some c =>
      rw [e4] at p2
      refine ⟨c, asB_ok rz e4, ?_⟩
      cases c with
      | false => rw [if_neg nofun]; exact PostE.ext e3 p2 _ W3 Ext.refl w3 (.d (.bl _))
      | true =>
        rw [if_pos rfl]
        refine hc.step w3 (r2.ext e3) (PostE.ext e3 p2) fun u cc W4 S4 e4 w4 r4 v4 p4 => ?_
        exact hg W4 S4 y u b cc Q w4 (e4.rv (e3.rv v2)) v4 p4
end
open PySem.W (EachIs dataLe dataLt AllAlike Sortable alike alikeAll sorted_rev_data sorted_data) in
theorem merge_sortTR (b : Bool) (kz : List (List Int)) : kz.mergeSort (dataLe true (wrT b)) = (sortT kz).reverse := by
  have e : dataLe true (wrT b) = fun p q => decide (q ≤ p) := by
    funext p q
    have := congrFun (congrFun (dataLe_wr b) q) p
    rw [show dataLe false (wrT b) q p = !dataLt (wrT b p) (wrT b q) from rfl] at this
    show (!dataLt (wrT b p) (wrT b q)) = _
    exact this
  rw [e]
  have p : (kz.mergeSort fun p q : List Int => decide (q ≤ p)).Perm kz := List.mergeSort_perm _ _
  have s := List.pairwise_mergeSort (le := fun p q : List Int => decide (q ≤ p)) (fun a b c h1 h2 => by
    simp only [decide_eq_true_eq] at *
    exact leT_trans h2 h1) (fun a b => by
    simp only [Bool.or_eq_true, decide_eq_true_eq]
    exact leT_total b a) kz
  have : (kz.mergeSort fun p q : List Int => decide (q ≤ p)).reverse = sortT kz := sortT_of ((List.reverse_perm _).trans p) (List.pairwise_reverse.mpr (s.imp fun h => of_decide_eq_true h))
  rw [← this, List.reverse_reverse]
open PySem.W (EachIs dataLe dataLt AllAlike Sortable alike alikeAll sorted_rev_data sorted_data)
def rSortWR (K : PySem.W.Frag) (b : Bool) : List V → List V → Hp → VK → Prop := fun vs zs H Q => ∃ (a : Addr) (xs : List V) (kz : List (List Int)) (G : Hp), Same G H ∧ vs = [V.ref a] ∧ zs = [.bl true] ∧ SqL K H a xs ∧ DpAll K G xs (kz.map (wrT b)) ∧ (b = true → ∀ k ∈ kz, k ≠ []) ∧
  ∀ ys p, DpAll K G ys ((sortT kz).reverse.map (wrT b)) → H p = none → Q (.ref p) (upd H p (.lst ys))
theorem cr_sortWR {X : Cx} {b : Bool} (hu : X.A.units + 8 < cLine) : CallRK X (.builtin "sorted") [Str.ofString "reverse"] (rSortWR X.K b) := by
  intro pins s σ H vs zs us ws Q I r rz h
  obtain ⟨a, xs, kz, G, sG, rfl, rfl, hs, hd, hne, q⟩ := h
  obtain ⟨its, rv, hl, hz⟩ := I.list hs
  rw [Vals.ref1 r]
  obtain ⟨w1, rfl, e1⟩ := vals1 rz
  obtain rfl : w1 = Value.bool true := e1
  have lk : its.length = kz.length := by
    have := DpAll.len hd
    rw [List.length_map] at this
    rw [← this, rv.length]
  have ee := each_of (P := id) rv hd
  refine sorted_rev_data (R := fun u k => ∃ x, RelV x u ∧ Dp X.K G x (wrT b k)) (enc := wrT b) (vs := its) (bs := kz) hl.isList ee (ee.mono fun u k ⟨x, r1, d1⟩ => Dp.reads I _ _ _ (Dp.same sG d1) r1) ?_ ?_ (by rw [← lk, ← rv.length]; exact hz) (fun k _ => by have := depth_wr b k; omega) fun out ho eo => ?_
  · intro d h1 d' h2
    obtain ⟨k, _, rfl⟩ := List.mem_map.mp h1
    obtain ⟨k', _, rfl⟩ := List.mem_map.mp h2
    exact alike_wr b k k'
  · cases b with
    | true =>
      refine .inl fun d h1 => ?_
      obtain ⟨k, hk, rfl⟩ := List.mem_map.mp h1
      cases k with
      | nil => exact absurd rfl (hne rfl _ hk)
      | cons c r => exact ⟨_, _, rfl⟩
    | false =>
      refine .inr fun d h1 => ?_
      obtain ⟨k, hk, rfl⟩ := List.mem_map.mp h1
      exact ⟨(fun e => (by cases e)), fun xs e => (by cases e)⟩
  · rw [merge_sortTR] at eo
    obtain ⟨ys, v1, d1⟩ := of_each eo
    obtain ⟨n, hn⟩ := PyProof.Rows.sortedAll_at s.heap its out.toArray
    refine ⟨.ref (s.heap.objs.size + 1), upd H (s.heap.objs.size + 1) (.lst ys), I.laid (t' := s.toks) (fun _ _ => PyProof.Rows.sortedAll_old) (Nat.le_succ _) ⟨?_, out, n, v1, hn⟩, rfl, q ys _ d1 (I.hok.fresh (Nat.le_succ _))⟩
    rw [v1.length, ho, ← lk, ← rv.length]
    exact hz
theorem cr_sortWRK {X : Cx} {K : PySem.W.Frag} {b : Bool} (hu : X.A.units + 8 < cLine) (hK : X.K = K := by rfl) : CallRK X (.builtin "sorted") [Str.ofString "reverse"] (rSortWR K b) := by subst hK; exact cr_sortWR hu
def sortKR (b rr : Bool) (S : Sto) : Option (List (List Int)) → Option (Res AV)
  | some kz => if b = true → ∀ k ∈ kz, k ≠ [] then some (newL ((sortT kz).reverse.map fun k => toA rr (wrT b k)) S) else none
  | none => none
noncomputable def fSortWR (b : Bool) : List AV → List AV → Sto → Res AV := fun xs zs S => match xs, zs with
  | [x], [.d (.bool true)] => match look S x with
    | some ys => (match sortKR b false S (asWs b false ys) with
      | some r => r
      | none => (match sortKR b true S (asWs b true ys) with
        | some r => r
        | none => .no))
    | none => .no
  | _, _ => .no
section
variable {K : PySem.W.Frag} {E : L2.XK} {W : Wo} {S : Sto}
theorem sortKR_ok {b rr : Bool} {Q : VK} {q : Addr} {vs : List V} {ys : List AV} {m : Res AV} (w : Wd K W S) (h1 : SqL K W.H q vs) (h2 : RLw K W vs ys) (e : sortKR b rr S (asWs b rr ys) = some m) (p : PostE K E W m Q) : rSortWR K b [.ref q] [.bl true] W.H Q := by
  cases e2 : asWs b rr ys with
  | none => rw [e2] at e; cases e
  | some kz =>
    rw [e2] at e
    have e : (if b = true → ∀ k ∈ kz, k ≠ [] then some (newL ((sortT kz).reverse.map fun k => toA rr (wrT b k)) S) else none) = some m := e
    split at e
    · rename_i hne
      cases e
      refine ⟨q, vs, kz, heapA rr W.F W.B, ?_, rfl, rfl, h1, asWs_ok h2 e2, hne, fun zs l dz hl => post_lst w (rl_wr dz) p l hl⟩
      cases rr with
      | false => exact w.fr
      | true => exact w.br
    · cases e
theorem cr_sortWR2 {b : Bool} : CRK K E (rSortWR K b) (fSortWR b) := by
  intro W S x z a c Q w r rz p
  unfold fSortWR at p
  split at p
  · obtain ⟨v, rfl, rv⟩ := rl1 r
    obtain ⟨u, rfl, ru⟩ := rl1 rz
    cases ru with
    | d ru =>
      cases ru
      split at p
      · rename_i ys e
        obtain ⟨q, us, rfl, h3, h4⟩ := look_ok w rv e
        split at p
        · rename_i m e1
          exact sortKR_ok w h3 h4 e1 p
        · split at p
          · rename_i m e1
            exact sortKR_ok w h3 h4 e1 p
          · exact p.elim
      · exact p.elim
  · exact p.elim
end
end My
namespace My
open PySem PySem.Spec L2
section
variable {K : PySem.W.Frag} {E : L2.XK}
/-- a, b = x, y -/
def dPar (i j : Nat) (dl : LV) : SV := fun ρ S => (dl ρ S).out fun xs S1 => match xs with
  | [x, y] => .nx ((ρ.set i (some x)).set j (some y)) S1
  | _ => .no
theorem rs_par {i j : Nat} {al : TA} {dl : LV} (h : RA K E al dl) : RS K E (tPar i j al) (dPar i j dl) := by
  intro W S σ ρ D w r p
  refine h W S σ ρ _ w r ?_
  unfold dPar at p
  cases e : dl ρ S with
  | no => rw [e] at p; exact p.elim
  | ex C z T => rw [e] at p; exact p
  | ok xs S1 =>
    rw [e] at p
    intro vs W1 e1 w1 r1
    simp only [out_ok] at p
    split at p
    · obtain ⟨v, u, rfl, rv, ru⟩ := rl2 r1
      exact ⟨v, u, rfl, p _ W1 e1 w1 (((r.ext e1).set rv i).set ru j)⟩
    · exact p.elim
end
end My

namespace My
open PySem PySem.Spec L2
open Classical
/-! ### max(xs, default=d) of ints -/
def rMaxDf (K : PySem.W.Frag) : List V → List V → Hp → VK → Prop := fun vs zs H Q => ∃ (a : Addr) (ns : List Int) (d : V), vs = [V.ref a] ∧ zs = [d] ∧ SqL K H a (ns.map V.int) ∧ (ns = [] → Q d H) ∧ (∀ m, m ∈ ns → (∀ y ∈ ns, y ≤ m) → Q (.int m) H)
theorem maxOf_spec (y : Int) (ys : List Int) : PySem.W.maxOf y ys ∈ y :: ys ∧ ∀ z ∈ y :: ys, z ≤ PySem.W.maxOf y ys := by
  unfold PySem.W.maxOf
  induction ys generalizing y with
  | nil => exact ⟨by simp, fun z hz => by simp at hz; simp [hz]⟩
  | cons c r ih =>
    rw [List.foldl_cons]
    have e : (if PySem.W.DatumOrd.lt y c = true then c else y) = if y < c then c else y := by
      show (if decide (y < c) = true then c else y) = _
      simp
    rw [e]
    obtain ⟨h1, h2⟩ := ih (if y < c then c else y)
    generalize List.foldl (fun a y => if PySem.W.DatumOrd.lt a y = true then y else a) (if y < c then c else y) r = m at *
    refine ⟨?_, fun z hz => ?_⟩
    · rcases List.mem_cons.mp h1 with e | e
      · rw [e]; split <;> simp
      · simp [e]
    · have h0 := h2 _ List.mem_cons_self
      simp only [List.mem_cons] at hz
      rcases hz with rfl | rfl | hz
      · split at h0 <;> omega
      · split at h0 <;> omega
      · exact h2 z (List.mem_cons_of_mem _ hz)
theorem cr_maxDf {X : Cx} (hc : X.calm = true) (hu : X.A.units + 8 < cLine) : CallRK X (.builtin "max") [Str.ofString "default"] (rMaxDf X.K) := by
  intro pins s σ H vs zs us ws Q I r rz h
  obtain ⟨a, ns, d, rfl, rfl, hs, q0, q⟩ := h
  obtain ⟨its, rv, hl, _⟩ := I.list hs
  rw [Vals.ref1 r]
  obtain ⟨w1, rfl, e1⟩ := vals1 rz
  have hA : PySem.W.HoldAll s.heap its ns := Dp.readsAll I (ns.map .int) (ns.map V.int) its (dpInts ns H) rv
  refine PySem.W.max_list_datum_default (I.ok.hd hc) hl.isList hA (by show X.A.units + 1 + 0 < cLine; omega) (fun e h' tk k => ⟨d, H, I.kept k, e1, q0 e⟩) fun y ys i v h' tk e hi hh k => ?_
  obtain ⟨t, rfl⟩ := PySem.W.int_of_holds hh
  obtain ⟨m1, m2⟩ := maxOf_spec y ys
  exact ⟨.int _, H, I.kept k, ⟨t, rfl⟩, q _ (e ▸ m1) (e ▸ m2)⟩
theorem cr_maxDfK {X : Cx} {K : PySem.W.Frag} (hc : X.calm = true) (hu : X.A.units + 8 < cLine) (hK : X.K = K := by rfl) : CallRK X (.builtin "max") [Str.ofString "default"] (rMaxDf K) := by subst hK; exact cr_maxDf hc hu
def fMaxDf : List AV → List AV → Sto → Res AV := fun xs zs S => match xs, zs with
  | [x], [d] => match (look S x).bind asInts with
    | some ns => (match ns.max? with
      | some m => .ok (iA m) S
      | none => .ok d S)
    | none => .no
  | _, _ => .no
section
variable {K : PySem.W.Frag} {E : L2.XK}
theorem cr_maxDf2 : CRK K E (rMaxDf K) fMaxDf := by
  intro W S x z a c Q w r rz p
  unfold fMaxDf at p
  split at p
  · obtain ⟨v, rfl, rv⟩ := rl1 r
    obtain ⟨u, rfl, ru⟩ := rl1 rz
    split at p
    · rename_i ns e
      obtain ⟨ys, e1, e2⟩ := Option.bind_eq_some_iff.mp e
      obtain ⟨q, us, rfl, h3, h4⟩ := look_ok w rv e1
      have := asInts_ok h4 e2
      subst this
      refine ⟨q, ns, u, rfl, rfl, h3, fun e0 => ?_, fun m hm hy => ?_⟩
      · subst e0; exact post_val w p ru
      · cases e3 : ns.max? with
        | none => rw [List.max?_eq_none_iff.mp e3] at hm; cases hm
        | some m' =>
          rw [e3] at p
          have h5 := List.max?_eq_some_iff.mp e3
          have : m = m' := Int.le_antisymm (h5.2 m hm) (hy m' h5.1)
          subst this
          exact post_val w p (.d (.int _))
    · exact p.elim
  · exact p.elim
end
end My

namespace My
open PySem PySem.Spec L2
open Classical
/-! ### a call on data alone whose list holds new lists -/
def cellNs : List AV → Option (List Nat)
  | [] => some []
  | .c n :: r => (cellNs r).map (n :: ·)
  | _ => none
def deadAll (T : Sto) : List Nat → Sto
  | [] => T
  | k :: ks => (deadAll T ks).set k (.obj 0 [])
def innerD (T T0 : Sto) : List Nat → Option (List (List PyData))
  | [] => some []
  | k :: ks => match T[k]?, innerD T T0 ks with
    | some (.lst ys), some r => (match rbs (rb false 8 T0) ys with
      | some ds => some (ds :: r)
      | none => none)
    | _, _ => none
def thawD (r : AV) (T : Sto) : Option (List (List PyData)) := match r with
  | .c m => match T[m]? with
    | some (.lst xs) => (match cellNs xs with
      | some ks => if (m :: ks).Nodup then innerD T (deadAll T (m :: ks)) ks else none
      | none => none)
    | _ => none
  | _ => none
def runD (den : List AV → Sto → Res AV) (ds : List PyData) : Option (List (List PyData)) := match den (ds.map rel) [] with
  | .ok r T => thawD r T
  | _ => none
def rowsS (n : Nat) (dss : List (List PyData)) : Sto := .lst ((List.range dss.length).map fun i => AV.c (n + 1 + i)) :: dss.map fun ds => .lst (ds.map .d)
def fCallD (n : Nat) (den : List AV → Sto → Res AV) : List AV → Sto → Res AV := fun xs S => if xs.length = n then (match rbs (rb true 8 S) xs with
  | some ds => (match runD den ds with
    | some dss => .ok (.c S.length) (S ++ rowsS S.length dss)
    | none => .no)
  | none => .no) else .no
theorem cellNs_eq : ∀ {xs : List AV} {ks : List Nat}, cellNs xs = some ks → xs = ks.map .c
  | [], ks, h => by cases h; rfl
  | .c n :: r, ks, h => by
    unfold cellNs at h
    cases e : cellNs r with
    | none => rw [e] at h; cases h
    | some ks' => rw [e] at h; cases h; rw [cellNs_eq e]; rfl
  | .d _ :: _, _, h => by cases h
  | .r _ :: _, _, h => by cases h
  | .g _ :: _, _, h => by cases h
  | .t _ :: _, _, h => by cases h
theorem deadAll_len (T : Sto) : ∀ ks, (deadAll T ks).length = T.length
  | [] => rfl
  | k :: ks => by unfold deadAll; rw [List.length_set, deadAll_len T ks]
theorem deadAll_get {T : Sto} {n : Nat} {xs : List AV} : ∀ {ks : List Nat}, (deadAll T ks)[n]? = some (OC.lst xs) → n ∉ ks ∧ T[n]? = some (OC.lst xs)
  | [], h => ⟨by simp, h⟩
  | k :: ks, h => by
    unfold deadAll at h
    by_cases e : k = n
    · subst e
      have hl : k < (deadAll T ks).length := by
        have := (List.getElem?_eq_some_iff.mp h).1
        rwa [List.length_set] at this
      rw [List.getElem?_set_self hl] at h
      cases h
    · rw [List.getElem?_set_ne e] at h
      obtain ⟨h1, h2⟩ := deadAll_get h
      exact ⟨by simp only [List.mem_cons, not_or]; exact ⟨fun q => e q.symm, h1⟩, h2⟩
theorem innerD_get {T T0 : Sto} : ∀ {ks : List Nat} {dss : List (List PyData)}, innerD T T0 ks = some dss → ks.length = dss.length ∧ ∀ (i k : Nat) (ds : List PyData), ks[i]? = some k → dss[i]? = some ds → ∃ ys, T[k]? = some (.lst ys) ∧ rbs (rb false 8 T0) ys = some ds
  | [], dss, h => by cases h; exact ⟨rfl, fun i k ds h => by simp at h⟩
  | k :: ks, dss, h => by
    unfold innerD at h
    split at h
    · rename_i ys r e1 e2
      split at h
      · rename_i ds e3
        cases h
        obtain ⟨h1, h2⟩ := innerD_get e2
        refine ⟨by simp [h1], fun i k' ds' g1 g2 => ?_⟩
        cases i with
        | zero => cases g1; cases g2; exact ⟨ys, e1, e3⟩
        | succ i => exact h2 i k' ds' (by simpa using g1) (by simpa using g2)
      · cases h
    · cases h
section
variable {K : PySem.W.Frag} {E : L2.XK} {al : TA} {dl : LV}
theorem RVL.ofCells {F B : Hp} {ι : List Addr} : ∀ {vs : List V} {ks : List Nat}, RVL K F B ι vs (ks.map .c) → ∃ as : List Addr, vs = as.map V.ref ∧ as.length = ks.length ∧ ∀ (i k : Nat) (a : Addr), ks[i]? = some k → as[i]? = some a → ι[k]? = some a
  | _, [], h => by cases h; exact ⟨[], rfl, rfl, fun i k a h => by simp at h⟩
  | _, k :: ks, h => by
    cases h with
    | cons h1 h2 =>
      cases h1 with
      | c h1 =>
        obtain ⟨as, rfl, hl, hg⟩ := RVL.ofCells h2
        refine ⟨_ :: as, rfl, by simp [hl], fun i k' a g1 g2 => ?_⟩
        cases i with
        | zero => cases g1; cases g2; exact h1
        | succ i => exact hg i k' a (by simpa using g1) (by simpa using g2)
theorem refs_rl {F B : Hp} {ι : List Addr} {as : List Addr} {n : Nat} (h : ∀ i a, as[i]? = some a → ι[n + i]? = some a) : RVL K F B ι (as.map V.ref) ((List.range as.length).map fun i => AV.c (n + i)) := by
  induction as generalizing n with
  | nil => exact .nil
  | cons a r ih =>
    rw [List.length_cons, List.range_succ_eq_map, List.map_cons, List.map_cons, List.map_map]
    refine .cons (.c (by simpa using h 0 a rfl)) ?_
    have := ih (n := n + 1) (fun i b hb => by
      have := h (i + 1) b (by simpa using hb)
      rwa [show n + 1 + i = n + (i + 1) by omega])
    have e : ((fun i => AV.c (n + i)) ∘ Nat.succ) = fun i => AV.c (n + 1 + i) := by
      funext i; show AV.c (n + (i + 1)) = _; congr 1; omega
    rw [e]
    exact this
theorem sp_callD {n : Nat} {den : List AV → Sto → Res AV} {E' : L2.XK} {W : Wo} {S : Sto} {vs : List V} {xs : List AV} {Q : VK} (w : Wd K W S) (r : RLw K W vs xs) (p : PostE K E W (fCallD n den xs S) Q) : sp_d K n den vs W.H Q E' := by
  unfold fCallD at p
  split at p
  · rename_i h
    cases e : rbs (rb true 8 S) xs with
    | none => rw [e] at p; exact p.elim
    | some ds =>
      cases e2 : runD den ds with
      | none => simp only [e, e2] at p; exact p.elim
      | some dss =>
        simp only [e, e2] at p
        refine ⟨by rw [r.len]; exact h, W.still, [], ds.map rel, rfl, wd_still w, still_rl w r e, ?_⟩
        unfold runD at e2
        cases e3 : den (ds.map rel) [] with
        | no => rw [e3] at e2; cases e2
        | ex C x S => rw [e3] at e2; cases e2
        | ok y T =>
          rw [e3] at e2
          intro v W1 ex w1 r1
          simp only at e2
          unfold thawD at e2
          split at e2
          · rename_i m
            split at e2
            · rename_i zs e4
              split at e2
              · rename_i ks e5
                split at e2
                · rename_i hnd
                  cases r1 with
                  | @c a _ hn =>
                    obtain ⟨us, q1, q2⟩ := cell_lst w1 hn e4
                    have := cellNs_eq e5
                    subst this
                    obtain ⟨as, rfl, hal, hag⟩ := RVL.ofCells q2
                    obtain ⟨hkl, hin⟩ := innerD_get e2
                    -- the addresses of the result's own lists
                    have hmem : ∀ b ∈ a :: as, ∃ k, k ∈ m :: ks ∧ W1.ι[k]? = some b := fun b hb => by
                      rcases List.mem_cons.mp hb with rfl | hb
                      · exact ⟨m, List.mem_cons_self, hn⟩
                      · obtain ⟨i, hi, rfl⟩ := List.mem_iff_getElem.mp hb
                        exact ⟨ks[i]'(by omega), List.mem_cons_of_mem _ (List.getElem_mem _), hag i _ _ (List.getElem?_eq_getElem _) (List.getElem?_eq_getElem hi)⟩
                    have inj : ∀ (k k' : Nat) (b : Addr), W1.ι[k]? = some b → W1.ι[k']? = some b → k = k' := fun k k' b h1 h2 => by
                      have l1 := List.getElem?_eq_some_iff.mp h1
                      have l2 := List.getElem?_eq_some_iff.mp h2
                      exact (List.getElem_inj w1.nd).mp (l1.2.trans l2.2.symm)
                    have ndA : (a :: as).Nodup := by
                      refine List.nodup_cons.mpr ⟨fun hm => ?_, ?_⟩
                      · obtain ⟨i, hi, e⟩ := List.mem_iff_getElem.mp hm
                        have := inj _ _ a hn (by rw [hag i _ _ (List.getElem?_eq_getElem (show i < ks.length by omega)) (List.getElem?_eq_getElem hi), e])
                        exact (List.nodup_cons.mp hnd).1 (this ▸ List.getElem_mem _)
                      · refine List.pairwise_iff_getElem.mpr fun i j hi hj hij heq => ?_
                        have g1 := hag i _ _ (List.getElem?_eq_getElem (show i < ks.length by omega)) (List.getElem?_eq_getElem hi)
                        have g2 := hag j _ _ (List.getElem?_eq_getElem (show j < ks.length by omega)) (List.getElem?_eq_getElem hj)
                        rw [heq] at g1
                        have := inj _ _ _ g1 g2
                        have := (List.getElem_inj (List.nodup_cons.mp hnd).2).mp this
                        omega
                    have hown : ∀ b ∈ W1.ι.filter (fun b => decide (b ∉ a :: as)), b ∈ W1.ι := fun b hb => (List.mem_filter.mp hb).1
                    have xb := ext_back (own := W1.ι.filter (fun b => decide (b ∉ a :: as))) w w1 ex hown
                    have wb := wd_back (own := W1.ι.filter (fun b => decide (b ∉ a :: as))) w w1 ex hown
                    have hnew : ∀ b ∈ a :: as, W.H b = none := fun b hb => by
                      obtain ⟨k, _, hk⟩ := hmem b hb
                      exact ex.nI b (List.mem_of_getElem? hk) (by simp [Wo.still])
                    have hFa : ∀ b ∈ a :: as, (W.back W1 (W1.ι.filter (fun b => decide (b ∉ a :: as)))).F b = none := fun b hb => by
                      show (if b ∈ W1.ι.filter (fun b => decide (b ∉ a :: as)) then W1.H b else W1.F b) = none
                      rw [if_neg (by simp only [List.mem_filter, decide_eq_true_eq, not_and, Classical.not_not]; exact fun _ => hb)]
                      obtain ⟨k, _, hk⟩ := hmem b hb
                      exact w1.dF (List.mem_of_getElem? hk)
                    have hBa : ∀ b ∈ a :: as, (W.back W1 (W1.ι.filter (fun b => decide (b ∉ a :: as)))).B b = none := fun b hb => by
                      show (match (W.back W1 (W1.ι.filter (fun b => decide (b ∉ a :: as)))).F b with | some o => some o | none => W.B b) = none
                      rw [hFa b hb]
                      exact B_none w (hnew b hb)
                    have dz : ∀ (i : Nat) (b : Addr) (dd : List PyData), as[i]? = some b → dss[i]? = some dd → ∃ us, W1.H b = some (.lst us) ∧ DpAll K (W.back W1 (W1.ι.filter (fun b => decide (b ∉ a :: as)))).F us dd := by
                      intro i b dd h1 h2
                      have hi := (List.getElem?_eq_some_iff.mp h1).1
                      have hk := List.getElem?_eq_getElem (show i < ks.length by omega)
                      obtain ⟨ys, g1, g2⟩ := hin i _ dd hk h2
                      obtain ⟨us, g3, g4⟩ := cell_lst w1 (hag i _ _ hk h1) g1
                      refine ⟨us, g3, (rbs_dp2 (T := deadAll T (m :: ks)) (fun b o h => ?_) (fun n xs hx b hb => ?_) 8).2 g4 g2⟩
                      · show (if b ∈ W1.ι.filter (fun b => decide (b ∉ a :: as)) then W1.H b else W1.F b) = some o
                        split
                        · exact w1.fr b o h
                        · exact h
                      · obtain ⟨hnk, hx'⟩ := deadAll_get hx
                        obtain ⟨vs', k1, k2⟩ := cell_lst w1 hb hx'
                        have hba : b ∉ a :: as := fun hm => by
                          obtain ⟨k, hk1, hk2⟩ := hmem b hm
                          exact hnk (inj _ _ _ hb hk2 ▸ hk1)
                        refine ⟨vs', ?_, k2⟩
                        show (if b ∈ W1.ι.filter (fun b => decide (b ∉ a :: as)) then W1.H b else W1.F b) = _
                        rw [if_pos (List.mem_filter.mpr ⟨List.mem_of_getElem? hb, by simpa using hba⟩)]
                        exact k1
                    generalize W1.ι.filter (fun b => decide (b ∉ a :: as)) = own at *
                    refine p (.ref a) ⟨W1.H, (W.back W1 own).F, (W.back W1 own).B, W.ι ++ (a :: as)⟩ ?_ ?_ (.c ?_)
                    · refine ⟨xb.sF, xb.sB, ⟨a :: as, rfl⟩, xb.keep, xb.dom, xb.nF, xb.nB, fun b hb hbn => ?_⟩
                      rcases List.mem_append.mp hb with hb | hb
                      · exact absurd hb hbn
                      · exact hnew b hb
                    · have hi0 : ∀ (i : Nat) (b : Addr), (a :: as)[i]? = some b → (W.ι ++ a :: as)[S.length + i]? = some b := fun i b hb => by
                        rw [← w.ln, List.getElem?_append_right (by omega), show W.ι.length + i - W.ι.length = i by omega]
                        exact hb
                      refine ⟨wb.br, wb.fb, ?_, fun b hb => ?_, ?_, fun n oc hx => ?_⟩
                      · refine List.nodup_append.mpr ⟨w.nd, ndA, fun x hx y hy => ?_⟩
                        rintro rfl
                        exact nin_of_none w (hnew x hy) hx
                      · rcases List.mem_append.mp hb with hb | hb
                        · exact wb.dB b hb
                        · exact hBa b hb
                      · show (W.ι ++ (a :: as)).length = _
                        unfold rowsS
                        simp only [List.length_append, List.length_cons, List.length_map]
                        rw [w.ln]; omega
                      · by_cases hl : n < S.length
                        · rw [List.getElem?_append_left hl] at hx
                          obtain ⟨b, o, g1, g2, g3⟩ := wb.cl n oc hx
                          refine ⟨b, o, pre_get g1, g2, ?_⟩
                          cases g3 with
                          | lst g => exact .lst (g.mono (fun _ _ h => h) (fun _ _ h => h))
                          | obj g g' => exact .obj g (g'.mono (fun _ _ h => h) (fun _ _ h => h))
                          | dk g g' => exact .dk g (g'.mono (fun _ _ h => h) (fun _ _ h => h))
                        · obtain ⟨i, rfl⟩ : ∃ i, n = S.length + i := ⟨n - S.length, by omega⟩
                          rw [List.getElem?_append_right (by omega), show S.length + i - S.length = i by omega] at hx
                          unfold rowsS at hx
                          cases i with
                          | zero =>
                            simp only [List.getElem?_cons_zero, Option.some.injEq] at hx
                            subst hx
                            refine ⟨a, _, hi0 0 a rfl, q1, .lst ?_⟩
                            have := refs_rl (K := K) (F := (W.back W1 own).F) (B := (W.back W1 own).B) (ι := W.ι ++ a :: as) (as := as) (n := S.length + 1) (fun i b hb => by
                              have := hi0 (i + 1) b (by simpa using hb)
                              rwa [show S.length + 1 + i = S.length + (i + 1) by omega])
                            rwa [show as.length = dss.length by omega] at this
                          | succ i =>
                            simp only [List.getElem?_cons_succ, List.getElem?_map] at hx
                            cases e6 : dss[i]? with
                            | none => rw [e6] at hx; cases hx
                            | some dd =>
                              rw [e6] at hx
                              cases hx
                              have hi : i < as.length := by
                                have := (List.getElem?_eq_some_iff.mp e6).1
                                omega
                              have ha := List.getElem?_eq_getElem hi
                              obtain ⟨us, g1, g2⟩ := dz i _ dd ha e6
                              exact ⟨_, _, hi0 (i + 1) _ (by simpa using ha), g1, .lst (.ofD g2)⟩
                    · show (W.ι ++ (a :: as))[S.length]? = some a
                      rw [← w.ln]
                      simp
                · cases e2
              · cases e2
            · cases e2
          · cases e2
  · exact p.elim
theorem re_callD {n : Nat} {den : List AV → Sto → Res AV} {E' : L2.XK} (h : RA K E al dl) : RE K E (tCall (sp_d K n den) [] E' al) (eCall (fCallD n den) dl) := by
  intro W S σ ρ Q w r p
  refine h.step w r p fun vs xs W1 S1 e1 w1 r1 v1 p1 => ?_
  rw [List.append_nil]
  exact sp_callD w1 v1 p1
end
end My

namespace My
open PySem PySem.Spec L2
open Classical
/-! ### tuples of ints, by <= and by > -/
def leE (ns ms : List Int) : Bool := Ob.lexAt (fun j => decide (ns.getD j 0 = ms.getD j 0)) (fun j => decide (ns.getD j 0 ≤ ms.getD j 0)) (decide (ns.length ≤ ms.length)) 0 (min ns.length ms.length)
def gtE (ns ms : List Int) : Bool := Ob.lexAt (fun k => decide (ns.getD k 0 = ms.getD k 0)) (fun k => decide (ms.getD k 0 < ns.getD k 0)) (decide (ns.length > ms.length)) 0 (min ns.length ms.length)
theorem leE2 {a b c d : Int} : leE [a, b] [c, d] = if a = c then (if b = d then true else decide (b ≤ d)) else decide (a ≤ c) := by
  show (if decide (a = c) = true then (if decide (b = d) = true then decide (2 ≤ 2) else decide (b ≤ d)) else decide (a ≤ c)) = _
  simp
theorem gtE2 {a b c d : Int} : gtE [a, b] [c, d] = if a = c then (if b = d then false else decide (d < b)) else decide (c < a) := by
  show (if decide (a = c) = true then (if decide (b = d) = true then decide (2 > 2) else decide (d < b)) else decide (c < a)) = _
  simp
def rGtE (K : PySem.W.Frag) : R2 := fun x y H Q => ∃ (a c : Addr) (ns ms : List Int), x = .ref a ∧ y = .ref c ∧ SqT K H a (ns.map V.int) ∧ SqT K H c (ms.map V.int) ∧ Q (.bl (gtE ns ms)) H
theorem op_gtE {X : Cx} (hu : X.A.units < cLine) : OpR X (compareOp .Gt) (rGtE X.K) := by
  intro pins s σ H x y v w Q I rx ry hyp
  obtain ⟨a, c, ns, ms, ex, ey, ta, tc, fin⟩ := hyp
  subst ex
  subst ey
  cases rx; cases ry
  obtain ⟨xs, vx, px, _⟩ := I.tuple ta
  obtain ⟨ys, vy, py, _⟩ := I.tuple tc
  have nx : PyProof.Rows.IntsAre xs ns := Vals.ints vx
  have ny : PyProof.Rows.IntsAre ys ms := Vals.ints vy
  have lx : xs.toArray.size = ns.length := by rw [List.size_toArray]; exact nx.length
  have ly : ys.toArray.size = ms.length := by rw [List.size_toArray]; exact ny.length
  have gx : ∀ k (hk : k < xs.toArray.size), ∃ t, xs.toArray[k] = .int (ns.getD k 0) t := fun k hk => PyProof.Rows.IntsAre.int_at nx _ _ (by simp at hk; simp [hk])
  have gy : ∀ k (hk : k < ys.toArray.size), ∃ t, ys.toArray[k] = .int (ms.getD k 0) t := fun k hk => PyProof.Rows.IntsAre.int_at ny _ _ (by simp at hk; simp [hk])
  have run := Ob.RcOp.tuples_gt (A := X.A) (s := s) (e := fun k => decide (ns.getD k 0 = ms.getD k 0)) (r := fun k => decide (ms.getD k 0 < ns.getD k 0)) px py hu (fun k k1 k2 => by
    obtain ⟨t1, w1⟩ := gx k k1
    obtain ⟨t2, w2⟩ := gy k k2
    have same : (ns.getD k 0 == ms.getD k 0) = decide (ns.getD k 0 = ms.getD k 0) := by
      by_cases c0 : ns.getD k 0 = ms.getD k 0
      · rw [decide_eq_true c0, beq_iff_eq]; exact c0
      · rw [decide_eq_false c0, beq_eq_false_iff_ne]; exact c0
    rw [w1, w2, ← same]
    exact SeqAt.EqAt.int_int _ _ _ _) (fun k k1 k2 _ => by
    obtain ⟨t1, w1⟩ := gx k k1
    obtain ⟨t2, w2⟩ := gy k k2
    rw [w1, w2]
    exact Ob.RcOp.gt_int _ _ _ _)
  rw [lx, ly] at run
  exact run X.prog X.w X.xe (EP X pins σ Q) ⟨.bl (gtE ns ms), H, I, rfl, fin⟩
section
variable {X : Cx} {K : PySem.W.Frag} {E : L2.XK}
theorem op_leTK (hu : X.A.units < cLine) (hK : X.K = K := by rfl) : OpR X (compareOp .LtE) (rLeT K) := by subst hK; exact op_leT hu
theorem op_gtTK (hu : X.A.units < cLine) (hK : X.K = K := by rfl) : OpR X (compareOp .Gt) (rGtE K) := by subst hK; exact op_gtE hu
def fTup2 (g : List Int → List Int → Bool) : AV → AV → Sto → Res AV := fun a b S => match asTup a, asTup b with
  | some ns, some ms => .ok (bA (g ns ms)) S
  | _, _ => .no
theorem rr_leT : R2R K E (rLeT K) (fTup2 leE) := by
  intro W S x y a b Q w ra rb p
  unfold fTup2 at p
  cases e1 : asTup a with
  | none => rw [e1] at p; exact p.elim
  | some ns =>
    cases e2 : asTup b with
    | none => rw [e1, e2] at p; exact p.elim
    | some ms =>
      rw [e1, e2] at p
      obtain ⟨q, rfl, h1⟩ := asTup_ok w ra e1
      obtain ⟨q2, rfl, h2⟩ := asTup_ok w rb e2
      exact ⟨q, q2, ns, ms, rfl, rfl, h1, h2, post_val w p (.d (.bl _))⟩
theorem rr_gtT : R2R K E (rGtE K) (fTup2 gtE) := by
  intro W S x y a b Q w ra rb p
  unfold fTup2 at p
  cases e1 : asTup a with
  | none => rw [e1] at p; exact p.elim
  | some ns =>
    cases e2 : asTup b with
    | none => rw [e1, e2] at p; exact p.elim
    | some ms =>
      rw [e1, e2] at p
      obtain ⟨q, rfl, h1⟩ := asTup_ok w ra e1
      obtain ⟨q2, rfl, h2⟩ := asTup_ok w rb e2
      exact ⟨q, q2, ns, ms, rfl, rfl, h1, h2, post_val w p (.d (.bl _))⟩
end
end My

namespace My
open PySem PySem.Spec L2
open Classical
open PySem.W (EachIs dataLe dataLt AllAlike Sortable alike alikeAll sorted_data)
/-! ### sorted, of tuples ((int, int), int) -/
abbrev Tri := Int × Int × Int
def enc3 (t : Tri) : PyData := .tuple [.tuple [.int t.1, .int t.2.1], .int t.2.2]
def triLt (a b : Tri) : Prop := a.1 < b.1 ∨ (a.1 = b.1 ∧ (a.2.1 < b.2.1 ∨ (a.2.1 = b.2.1 ∧ a.2.2 < b.2.2)))
theorem alike_int (x y : Int) : alike (.int x) (.int y) = true := by unfold alike; rfl
theorem alike_in3 (a b : Tri) : alike (.tuple [.int a.1, .int a.2.1]) (.tuple [.int b.1, .int b.2.1]) = true := alike_wr true [a.1, a.2.1] [b.1, b.2.1]
theorem alike3 (a b : Tri) : alike (enc3 a) (enc3 b) = true := by
  show alike (.tuple [.tuple [.int a.1, .int a.2.1], .int a.2.2]) (.tuple [.tuple [.int b.1, .int b.2.1], .int b.2.2]) = true
  simp [alike, alikeAll]
theorem dataLt3 (a b : Tri) : dataLt (enc3 a) (enc3 b) = decide (triLt a b) := by
  show dataLt (.tuple [.tuple [.int a.1, .int a.2.1], .int a.2.2]) (.tuple [.tuple [.int b.1, .int b.2.1], .int b.2.2]) = _
  rw [PySem.W.dataLt_pair (alike_in3 a b) (alike_int _ _), PySem.W.dataLt_ii, PySem.W.dataLt_int]
  unfold triLt
  simp only [PyData.eqv, PyData.eqvAll, Bool.and_true, Bool.and_eq_true, beq_iff_eq]
  by_cases h1 : a.1 = b.1 <;> by_cases h2 : a.2.1 = b.2.1 <;> by_cases h3 : a.2.2 = b.2.2 <;> simp [h1, h2, h3]
noncomputable def sort3 (ks : List Tri) : List Tri := ks.mergeSort fun p q => !decide (triLt q p)
theorem dataLe3 : dataLe false enc3 = fun p q => !decide (triLt q p) := by
  funext p q
  show (!dataLt (enc3 q) (enc3 p)) = _
  rw [dataLt3]
theorem merge3 (ks : List Tri) : ks.mergeSort (dataLe false enc3) = sort3 ks := by rw [dataLe3]; rfl
theorem sort3_perm (ks : List Tri) : (sort3 ks).Perm ks := List.mergeSort_perm _ _
theorem sort3_sorted (ks : List Tri) : (sort3 ks).Pairwise fun p q => ¬ triLt q p := by
  have := List.pairwise_mergeSort (le := fun p q : Tri => !decide (triLt q p)) (fun a b c h1 h2 => by
    simp only [Bool.not_eq_true', decide_eq_false_iff_not] at *
    unfold triLt at *
    omega) (fun a b => by
    simp only [Bool.or_eq_true, Bool.not_eq_true', decide_eq_false_iff_not]
    unfold triLt
    omega) ks
  exact this.imp fun h => by simpa using h
theorem tri_anti {a b : Tri} (h1 : ¬ triLt a b) (h2 : ¬ triLt b a) : a = b := by
  obtain ⟨a1, a2, a3⟩ := a
  obtain ⟨b1, b2, b3⟩ := b
  unfold triLt at h1 h2
  simp only at h1 h2
  have e1 : a1 = b1 := by omega
  have e2 : a2 = b2 := by omega
  have e3 : a3 = b3 := by omega
  rw [e1, e2, e3]
theorem tri_irr (a : Tri) : ¬ triLt a a := by unfold triLt; omega
theorem sort3_unique : ∀ {xs ys : List Tri}, xs.Perm ys → xs.Pairwise (fun p q => ¬ triLt q p) → ys.Pairwise (fun p q => ¬ triLt q p) → xs = ys
  | [], ys, p, _, _ => by rw [List.nil_perm.mp p]
  | x :: xs, [], p, _, _ => absurd p.length_eq (by simp)
  | x :: xs, y :: ys, p, h1, h2 => by
    have g1 := List.pairwise_cons.mp h1
    have g2 := List.pairwise_cons.mp h2
    have e : x = y := by
      refine tri_anti ?_ ?_
      · rcases List.mem_cons.mp (p.mem_iff.mp List.mem_cons_self) with e | m
        · rw [e]; exact tri_irr y
        · exact g2.1 x m
      · rcases List.mem_cons.mp (p.mem_iff.mpr List.mem_cons_self) with e | m
        · rw [e]; exact tri_irr x
        · exact g1.1 y m
    subst e
    rw [sort3_unique (List.Perm.cons_inv p) g1.2 g2.2]
theorem sort3_of {l l' : List Tri} (p : l'.Perm l) (h : l'.Pairwise fun p q => ¬ triLt q p) : l' = sort3 l := sort3_unique (p.trans (sort3_perm l).symm) h (sort3_sorted l)
theorem each_ofE {K : PySem.W.Frag} {H : Hp} {α : Type} {enc : α → PyData} : ∀ {vs : List V} {us : List Value} {kz : List α}, Vals vs us → DpAll K H vs (kz.map enc) → EachIs (fun u k => ∃ x, RelV x u ∧ Dp K H x (enc k)) us kz
  | _, _, [], r, h => by cases h; cases r; exact .nil
  | _, _, k :: kz, r, h => by
    cases h with
    | cons h1 h2 =>
      cases r with
      | cons r1 r2 => exact .cons ⟨_, r1, h1⟩ (each_ofE r2 h2)
theorem of_eachE {K : PySem.W.Frag} {H : Hp} {α : Type} {enc : α → PyData} : ∀ {us : List Value} {kz : List α}, EachIs (fun u k => ∃ x, RelV x u ∧ Dp K H x (enc k)) us kz → ∃ vs, Vals vs us ∧ DpAll K H vs (kz.map enc)
  | _, _, .nil => ⟨[], .nil, .nil⟩
  | _, _, .cons ⟨x, h1, h2⟩ t => by
    obtain ⟨vs, a, c⟩ := of_eachE t
    exact ⟨x :: vs, .cons h1 a, .cons h2 c⟩
theorem depth3 (t : Tri) : (enc3 t).depth ≤ 2 := by
  have h := depthInts [t.1, t.2.1]
  have h : PyData.depthAll [.int t.1, .int t.2.1] ≤ 0 := by simpa using h
  show PyData.depthAll [.tuple [.int t.1, .int t.2.1], .int t.2.2] + 1 ≤ 2
  have e : PyData.depthAll [.tuple [.int t.1, .int t.2.1], .int t.2.2] ≤ 1 := by
    show max (PyData.depth (.tuple [.int t.1, .int t.2.1])) (PyData.depthAll [.int t.2.2]) ≤ 1
    have h2 := depthInts [t.2.2]
    have h2 : PyData.depthAll [.int t.2.2] ≤ 0 := by simpa using h2
    have h3 : PyData.depth (.tuple [.int t.1, .int t.2.1]) = PyData.depthAll [.int t.1, .int t.2.1] + 1 := rfl
    omega
  omega
def rSort3 (K : PySem.W.Frag) : List V → Hp → VK → Prop := fun vs H Q => ∃ (a : Addr) (xs : List V) (kz : List Tri) (G : Hp), Same G H ∧ vs = [V.ref a] ∧ SqL K H a xs ∧ DpAll K G xs (kz.map enc3) ∧
  ∀ ys p, DpAll K G ys ((sort3 kz).map enc3) → H p = none → Q (.ref p) (upd H p (.lst ys))
theorem cr_sort3 {X : Cx} (hu : X.A.units + 8 < cLine) : CallR X (.builtin "sorted") (rSort3 X.K) := by
  intro pins s σ H vs us Q I r h
  obtain ⟨a, xs, kz, G, sG, rfl, hs, hd, q⟩ := h
  obtain ⟨its, rv, hl, hz⟩ := I.list hs
  rw [Vals.ref1 r]
  have lk : its.length = kz.length := by
    have := DpAll.len hd
    rw [List.length_map] at this
    rw [← this, rv.length]
  have ee := each_ofE (enc := enc3) rv hd
  refine sorted_data (R := fun u k => ∃ x, RelV x u ∧ Dp X.K G x (enc3 k)) (enc := enc3) (vs := its) (bs := kz) hl.isList ee (ee.mono fun u k ⟨x, r1, d1⟩ => Dp.reads I _ _ _ (Dp.same sG d1) r1) ?_ ?_ (by rw [← lk, ← rv.length]; exact hz) (fun k _ => by have := depth3 k; omega) fun out ho eo => ?_
  · intro d h1 d' h2
    obtain ⟨k, _, rfl⟩ := List.mem_map.mp h1
    obtain ⟨k', _, rfl⟩ := List.mem_map.mp h2
    exact alike3 k k'
  · refine .inl fun d h1 => ?_
    obtain ⟨k, hk, rfl⟩ := List.mem_map.mp h1
    exact ⟨_, _, rfl⟩
  · rw [merge3] at eo
    obtain ⟨ys, v1, d1⟩ := of_eachE eo
    obtain ⟨n, hn⟩ := PyProof.Rows.sortedAll_at s.heap its out.toArray
    refine ⟨.ref (s.heap.objs.size + 1), upd H (s.heap.objs.size + 1) (.lst ys), I.laid (t' := s.toks) (fun _ _ => PyProof.Rows.sortedAll_old) (Nat.le_succ _) ⟨?_, out, n, v1, hn⟩, rfl, q ys _ d1 (I.hok.fresh (Nat.le_succ _))⟩
    rw [v1.length, ho, ← lk, ← rv.length]
    exact hz
theorem cr_sort3K {X : Cx} {K : PySem.W.Frag} (hu : X.A.units + 8 < cLine) (hK : X.K = K := by rfl) : CallR X (.builtin "sorted") (rSort3 K) := by subst hK; exact cr_sort3 hu
def as3 : PyData → Option Tri
  | .tuple [.tuple [.int p, .int c], .int i] => some (p, c, i)
  | _ => none
theorem as3_eq {d : PyData} {t : Tri} (h : as3 d = some t) : d = enc3 t := by
  unfold as3 at h
  split at h
  · cases h; rfl
  · cases h
def asWs3 (rr : Bool) : List AV → Option (List Tri)
  | [] => some []
  | x :: r => match (unA rr x).bind as3, asWs3 rr r with
    | some k, some ks => some (k :: ks)
    | _, _ => none
theorem asWs3_map (rr : Bool) : ∀ ks : List Tri, asWs3 rr (ks.map fun k => toA rr (enc3 k)) = some ks
  | [] => rfl
  | k :: r => by
    show (match (unA rr (toA rr (enc3 k))).bind as3, asWs3 rr (r.map fun k => toA rr (enc3 k)) with | some k, some ks => some (k :: ks) | _, _ => none) = _
    rw [asWs3_map rr r, show (unA rr (toA rr (enc3 k))).bind as3 = some k by cases rr <;> rfl]
theorem asWs3_ok {K : PySem.W.Frag} {F B : Hp} {ι : List Addr} {rr : Bool} : ∀ {vs : List V} {xs : List AV} {ks : List Tri}, RVL K F B ι vs xs → asWs3 rr xs = some ks → DpAll K (heapA rr F B) vs (ks.map enc3)
  | _, _, _, .nil, h => by cases h; exact .nil
  | _, _, _, .cons (x := x) (xs := xs) a r, h => by
    unfold asWs3 at h
    cases e0 : unA rr x with
    | none => rw [e0] at h; cases h
    | some d =>
      cases e1 : as3 d with
      | none => rw [e0] at h; simp only [Option.bind_some, e1] at h; cases h
      | some k =>
        cases e2 : asWs3 rr xs with
        | none => rw [e0] at h; simp only [Option.bind_some, e1, e2] at h; cases h
        | some ks' =>
          rw [e0] at h; simp only [Option.bind_some, e1, e2] at h
          cases h
          have := as3_eq e1
          subst this
          refine .cons ?_ (asWs3_ok r e2)
          cases rr with
          | false => cases x with
            | d y => cases e0; cases a with | d a => exact a
            | _ => cases e0
          | true => cases x with
            | r y => cases e0; cases a with | r a => exact a
            | _ => cases e0
theorem rl_3 {K : PySem.W.Frag} {F B : Hp} {ι : List Addr} {rr : Bool} : ∀ {vs : List V} {ks : List Tri}, DpAll K (heapA rr F B) vs (ks.map enc3) → RVL K F B ι vs (ks.map fun k => toA rr (enc3 k))
  | _, [], h => by cases h; exact .nil
  | _, k :: ks, h => by
    cases h with
    | cons h1 h2 =>
      refine .cons ?_ (rl_3 h2)
      cases rr with
      | false => exact .d h1
      | true => exact .r h1
/-- sorted, of ((int, int), int) -/
noncomputable def fSort3 : List AV → Sto → Res AV := fun xs S => match xs with
  | [x] => match look S x with
    | some ys => (match asWs3 false ys with
      | some kz => newL ((sort3 kz).map fun k => toA false (enc3 k)) S
      | none => (match asWs3 true ys with
        | some kz => newL ((sort3 kz).map fun k => toA true (enc3 k)) S
        | none => .no))
    | none => .no
  | _ => .no
section
variable {K : PySem.W.Frag} {E : L2.XK} {W : Wo} {S : Sto}
theorem sort3_ok {rr : Bool} {Q : VK} {q : Addr} {vs : List V} {ys : List AV} {kz : List Tri} (w : Wd K W S) (h1 : SqL K W.H q vs) (h2 : RLw K W vs ys) (e : asWs3 rr ys = some kz) (p : PostE K E W (newL ((sort3 kz).map fun k => toA rr (enc3 k)) S) Q) : rSort3 K [.ref q] W.H Q := by
  refine ⟨q, vs, kz, heapA rr W.F W.B, ?_, rfl, h1, asWs3_ok h2 e, fun zs l dz hl => post_lst w (rl_3 dz) p l hl⟩
  cases rr with
  | false => exact w.fr
  | true => exact w.br
theorem cr_sort32 : CRR K E (rSort3 K) fSort3 := by
  intro W S x a Q w r p
  unfold fSort3 at p
  split at p
  · obtain ⟨v, rfl, rv⟩ := rl1 r
    split at p
    · rename_i ys e
      obtain ⟨q, us, rfl, h3, h4⟩ := look_ok w rv e
      split at p
      · rename_i kz e1
        exact sort3_ok w h3 h4 e1 p
      · split at p
        · rename_i kz e1
          exact sort3_ok w h3 h4 e1 p
        · exact p.elim
    · exact p.elim
  · exact p.elim
end
end My

namespace My
open PySem PySem.Spec L2
open Classical
/-! ### reversed(range(n)) -/
noncomputable def jRv1 (da : EV) : IV := fun ρ S => (da ρ S).bind fun x S1 => match asI x with
  | some n => if rgOk 0 n then .ok (.rngc (0 + (((n - 0).toNat : Nat) : Int) - 1) (-1) (n - 0).toNat) S1 else .no
  | none => .no
section
variable {K : PySem.W.Frag} {E : L2.XK}
theorem ri_rv1 {ta : TE} {da : EV} (h : RE K E ta da) : RI K E (iRevR (tRg1 ta)) (jRv1 da) := by
  intro W S σ ρ Q w r p
  refine h.stepI w r p fun x a W1 S1 e1 w1 r1 v1 p1 => ?_
  cases e : asI a with
  | none => rw [e] at p1; exact p1.elim
  | some n =>
    simp only [e] at p1
    split at p1
    · rename_i hr
      obtain ⟨h1, h2, h3, h4⟩ := hr
      exact ⟨n, asI_ok v1 e, by omega, by omega, by omega, by omega, p1 _ W1 Ext.refl w1 item_rngc⟩
    · exact p1.elim
end
end My

namespace My
open PySem PySem.Spec L2
open Classical
/-! ### dicts with ints as keys -/
abbrev DKs := List (Key × AV)
def dkeyA : AV → Option Key
  | .d (.int i) => some (.inl i)
  | _ => none
def dgetK (kvs : DKs) (k : Key) : Option AV := (kvs.find? fun p => decide (p.1 = k)).map (·.2)
def putKA (kvs : DKs) (k : Key) (x : AV) : DKs := if (kvs.any fun p => decide (p.1 = k)) = true then kvs.map (fun p => if p.1 = k then (p.1, x) else p) else kvs ++ [(k, x)]
def dkAt (S : Sto) : AV → Option (Nat × DKs)
  | .c n => match S[n]? with
    | some (.dk kvs) => some (n, kvs)
    | _ => none
  | _ => none
def eDk0 : EV := fun _ S => .ok (.c S.length) (S ++ [.dk []])
def eDin (neg : Bool) (da db : EV) : EV := fun ρ S => (da ρ S).bind fun y S1 => (db ρ S1).bind fun x S2 => match dkeyA y, dkAt S2 x with
  | some k, some (_, kvs) => .ok (bA (if neg = true then !(dgetK kvs k).isSome else (dgetK kvs k).isSome)) S2
  | _, _ => .no
def eDget (da db : EV) : EV := fun ρ S => (da ρ S).bind fun x S1 => (db ρ S1).bind fun y S2 => match dkeyA y, dkAt S2 x with
  | some k, some (_, kvs) => (match dgetK kvs k with
    | some z => .ok z S2
    | none => .no)
  | _, _ => .no
def dDput (da di dv : EV) : SV := fun ρ S => (dv ρ S).out fun z S1 => (da ρ S1).out fun x S2 => (di ρ S2).out fun y S3 => match dkeyA y, dkAt S3 x with
  | some k, some (n, kvs) => if kvs.length < 900 then .nx ρ (S3.set n (.dk (putKA kvs k z))) else .no
  | _, _ => .no
section
variable {K : PySem.W.Frag} {E : L2.XK} {W : Wo} {S : Sto} {ta tb tv : TE} {da db dv : EV}
theorem dkeyA_ok {v : V} {a : AV} {k : Key} (r : RVw K W v a) (h : dkeyA a = some k) : v = kV k := by
  unfold dkeyA at h
  split at h
  · cases h
    cases r with
    | d r => cases r; rfl
  · cases h
theorem ddk_ok {v : V} {x : AV} {n : Nat} {gs : DKs} (w : Wd K W S) (r : RVw K W v x) (h : dkAt S x = some (n, gs)) : ∃ a fs, v = .ref a ∧ W.ι[n]? = some a ∧ W.H a = some (.dK fs) ∧ fs.map Prod.fst = gs.map Prod.fst ∧ RLw K W (fs.map Prod.snd) (gs.map Prod.snd) := by
  cases r with
  | @c a m hn =>
    simp only [dkAt] at h
    cases e : S[m]? with
    | none => rw [e] at h; cases h
    | some oc =>
      rw [e] at h
      cases oc with
      | dk kvs =>
        cases h
        obtain ⟨a', o, h1, h2, h3⟩ := w.cl _ _ e
        rw [hn] at h1
        cases h1
        cases h3 with
        | dk g1 g2 => exact ⟨_, _, rfl, hn, h2, g1, g2⟩
      | lst _ => cases h
      | obj _ _ => cases h
  | _ => cases h
theorem dget_rel : ∀ {fs : List (Key × V)} {gs : DKs}, fs.map Prod.fst = gs.map Prod.fst → RLw K W (fs.map Prod.snd) (gs.map Prod.snd) → ∀ k, (valV fs k = none ∧ dgetK gs k = none) ∨ ∃ v x, valV fs k = some v ∧ dgetK gs k = some x ∧ RVw K W v x
  | [], [], _, _, k => .inl ⟨rfl, rfl⟩
  | [], _ :: _, h, _, _ => by simp at h
  | _ :: _, [], h, _, _ => by simp at h
  | p :: fs, q :: gs, h, r, k => by
    simp only [List.map_cons, List.cons.injEq] at h
    obtain ⟨h1, h2⟩ := h
    have r : RLw K W (p.2 :: fs.map Prod.snd) (q.2 :: gs.map Prod.snd) := r
    cases r with
    | cons r1 r2 =>
      by_cases e : p.1 = k
      · refine .inr ⟨p.2, q.2, valV_pos e, ?_, r1⟩
        unfold dgetK
        rw [List.find?_cons_of_pos (by rw [← h1]; simpa using e)]
        rfl
      · have e2 : dgetK (q :: gs) k = dgetK gs k := by
          unfold dgetK
          rw [List.find?_cons_of_neg (by rw [← h1]; simpa using e)]
        rw [valV_neg e, e2]
        exact dget_rel h2 r2 k
theorem dput_any : ∀ {fs : List (Key × V)} {gs : DKs}, fs.map Prod.fst = gs.map Prod.fst → ∀ k, (fs.any fun p => decide (p.1 = k)) = gs.any fun p => decide (p.1 = k)
  | fs, gs, h, k => by
    have e1 : (fs.any fun p => decide (p.1 = k)) = (fs.map Prod.fst).any fun x => decide (x = k) := by rw [List.any_map]; rfl
    have e2 : (gs.any fun p => decide (p.1 = k)) = (gs.map Prod.fst).any fun x => decide (x = k) := by rw [List.any_map]; rfl
    rw [e1, e2, h]
theorem dput_map : ∀ {fs : List (Key × V)} {gs : DKs}, fs.map Prod.fst = gs.map Prod.fst → RLw K W (fs.map Prod.snd) (gs.map Prod.snd) → ∀ {k : Key} {v : V} {x : AV}, RVw K W v x →
    (fs.map fun p => if p.1 = k then (p.1, v) else p).map Prod.fst = (gs.map fun p => if p.1 = k then (p.1, x) else p).map Prod.fst ∧ RLw K W ((fs.map fun p => if p.1 = k then (p.1, v) else p).map Prod.snd) ((gs.map fun p => if p.1 = k then (p.1, x) else p).map Prod.snd)
  | [], [], _, _, _, _, _, _ => ⟨rfl, .nil⟩
  | [], _ :: _, h, _, _, _, _, _ => by simp at h
  | _ :: _, [], h, _, _, _, _, _ => by simp at h
  | p :: fs, q :: gs, h, r, k, v, x, rv => by
    simp only [List.map_cons, List.cons.injEq] at h
    obtain ⟨h1, h2⟩ := h
    have r : RLw K W (p.2 :: fs.map Prod.snd) (q.2 :: gs.map Prod.snd) := r
    cases r with
    | cons r1 r2 =>
      obtain ⟨i1, i2⟩ := dput_map h2 r2 (k := k) rv
      rw [List.map_cons, List.map_cons, List.map_cons, List.map_cons, List.map_cons, List.map_cons, i1, ← h1]
      by_cases e : p.1 = k
      · rw [if_pos e, if_pos e]
        exact ⟨rfl, .cons rv i2⟩
      · rw [if_neg e, if_neg e]
        exact ⟨by rw [h1], .cons r1 i2⟩
theorem dput_rel {fs : List (Key × V)} {gs : DKs} (h : fs.map Prod.fst = gs.map Prod.fst) (r : RLw K W (fs.map Prod.snd) (gs.map Prod.snd)) {k : Key} {v : V} {x : AV} (rv : RVw K W v x) : ROC K W (.dK (putK fs k v)) (.dk (putKA gs k x)) := by
  unfold putK putKA
  rw [dput_any h k]
  split
  · obtain ⟨a, b⟩ := dput_map h r (k := k) rv
    exact .dk a b
  · refine .dk (by rw [List.map_append, List.map_append, h]; rfl) ?_
    rw [List.map_append, List.map_append]
    exact r.append (.cons rv .nil)
theorem re_dk0 : RE K E tDNewK eDk0 := by
  intro W S σ ρ Q w r p
  intro a ha
  exact p (.ref a) (W.new a (.dK [])) (ext_new w ha) (wd_new w ha (.dk rfl .nil)) (.c (by
    show (W.ι ++ [a])[S.length]? = some a
    rw [← w.ln]
    simp))
theorem re_din (ha : RE K E ta da) (hb : RE K E tb db) : RE K E (tDIn ta tb) (eDin false da db) := by
  intro W S σ ρ Q w r p
  refine ha.step w r p fun x a W1 S1 e1 w1 r1 v1 p1 => ?_
  refine hb.step w1 r1 p1 fun y b W2 S2 e2 w2 r2 v2 p2 => ?_
  split at p2
  · rename_i k n kvs q1 q2
    have hk := dkeyA_ok (e2.rv v1) q1
    obtain ⟨c, fs, rfl, h2, h3, h4, h5⟩ := ddk_ok w2 v2 q2
    refine ⟨c, valV fs k, rfl, by rw [hk]; exact DGet.k h3, ?_⟩
    have : (valV fs k).isSome = (dgetK kvs k).isSome := by
      rcases dget_rel h4 h5 k with ⟨a1, a2⟩ | ⟨_, _, a1, a2, _⟩ <;> rw [a1, a2] <;> rfl
    rw [this]
    exact post_val w2 p2 (.d (.bl _))
  · exact p2.elim
theorem re_dnotin (ha : RE K E ta da) (hb : RE K E tb db) : RE K E (tDNotIn ta tb) (eDin true da db) := by
  intro W S σ ρ Q w r p
  refine ha.step w r p fun x a W1 S1 e1 w1 r1 v1 p1 => ?_
  refine hb.step w1 r1 p1 fun y b W2 S2 e2 w2 r2 v2 p2 => ?_
  split at p2
  · rename_i k n kvs q1 q2
    have hk := dkeyA_ok (e2.rv v1) q1
    obtain ⟨c, fs, rfl, h2, h3, h4, h5⟩ := ddk_ok w2 v2 q2
    refine ⟨c, valV fs k, rfl, by rw [hk]; exact DGet.k h3, ?_⟩
    have : (valV fs k).isSome = (dgetK kvs k).isSome := by
      rcases dget_rel h4 h5 k with ⟨a1, a2⟩ | ⟨_, _, a1, a2, _⟩ <;> rw [a1, a2] <;> rfl
    rw [this]
    exact post_val w2 p2 (.d (.bl _))
  · exact p2.elim
theorem re_dget (ha : RE K E ta da) (hb : RE K E tb db) : RE K E (tDGet ta tb) (eDget da db) := by
  intro W S σ ρ Q w r p
  refine ha.step w r p fun x a W1 S1 e1 w1 r1 v1 p1 => ?_
  refine hb.step w1 r1 p1 fun y b W2 S2 e2 w2 r2 v2 p2 => ?_
  split at p2
  · rename_i k n kvs q1 q2
    have hk := dkeyA_ok v2 q1
    obtain ⟨c, fs, rfl, h2, h3, h4, h5⟩ := ddk_ok w2 (e2.rv v1) q2
    rcases dget_rel h4 h5 k with ⟨a1, a2⟩ | ⟨v, z, a1, a2, a3⟩
    · rw [a2] at p2; exact p2.elim
    · rw [a2] at p2
      refine ⟨c, v, rfl, by rw [hk, ← a1]; exact DGet.k h3, post_val w2 p2 a3⟩
  · exact p2.elim
theorem rs_dput (ha : RE K E ta da) (hb : RE K E tb db) (hv : RE K E tv dv) : RS K E (sDPut ta tb tv) (dDput da db dv) := by
  intro W S σ ρ D w r p
  refine hv.stepS w r p fun v z W1 S1 e1 w1 r1 v1 p1 => ?_
  refine ha.stepS w1 r1 p1 fun x a W2 S2 e2 w2 r2 v2 p2 => ?_
  refine hb.stepS w2 r2 p2 fun y b W3 S3 e3 w3 r3 v3 p3 => ?_
  split at p3
  · rename_i k n kvs q1 q2
    split at p3
    · rename_i hl
      have hk := dkeyA_ok v3 q1
      obtain ⟨c, fs, rfl, h2, h3, h4, h5⟩ := ddk_ok w3 (e3.rv v2) q2
      have lf : fs.length = kvs.length := by simpa using congrArg List.length h4
      have rz := dput_rel h4 h5 (k := k) (e3.rv (e2.rv v1))
      have ex := ext_wr (W := W3) (o := .dK (putK fs k v)) (List.mem_of_getElem? h2)
      exact ⟨c, _, rfl, by rw [hk]; exact DPut.k h3 (small1000 (by omega)), p3 σ (W3.wr c (.dK (putK fs k v))) ex (wd_wr w3 h2 rz) (r3.ext ex)⟩
    · exact p3.elim
  · exact p3.elim
end
theorem lt1d {n m : Nat} (h : n + 8 < m) : n + 1 < m := by omega
end My

namespace My
open PySem PySem.Spec L2
open Classical
open PyProof.Rows
/-! ### dict() of a list of pairs -/
def pairK (y : AV) : Option (Key × AV) := match lookT y with
  | some [a, b] => (dkeyA a).map (·, b)
  | _ => none
def pairsK : List AV → Option DKs
  | [] => some []
  | y :: r => match pairK y, pairsK r with
    | some p, some q => some (p :: q)
    | _, _ => none
def mergeKA (kvs more : DKs) : DKs := more.foldl (fun acc kv => putKA acc kv.1 kv.2) kvs
def fDict : List AV → Sto → Res AV := fun xs S => match xs with
  | [z] => (match look S z with
    | some ys => (match pairsK ys with
      | some kvs => .ok (.c S.length) (S ++ [.dk (mergeKA [] kvs)])
      | none => .no)
    | none => .no)
  | _ => .no
section
variable {K : PySem.W.Frag} {E : L2.XK} {W : Wo} {S : Sto}
abbrev rDictP (K : PySem.W.Frag) : List V → Hp → VK → Prop := fun xs H Q => ∃ (a : Addr) (ps : List Addr) (kvs : List (Key × V)), xs = [.ref a] ∧ SqL K H a (ps.map V.ref) ∧ Paired (fun p kv => SqT K H p [kV kv.1, kv.2]) ps kvs ∧
    ∀ p, H p = none → Q (.ref p) (upd H p (.dK (mergeK [] kvs)))
theorem pairs_rel : ∀ {ys : List AV} {us : List V} {gs : DKs} (w : Wd K W S), RLw K W us ys → pairsK ys = some gs → ∃ (ps : List Addr) (fs : List (Key × V)), us = ps.map V.ref ∧ Paired (fun p kv => SqT K W.H p [kV kv.1, kv.2]) ps fs ∧ fs.map Prod.fst = gs.map Prod.fst ∧ RLw K W (fs.map Prod.snd) (gs.map Prod.snd)
  | [], us, gs, w, r, h => by
    cases h
    cases r
    exact ⟨[], [], rfl, .nil, rfl, .nil⟩
  | y :: ys, us, gs, w, r, h => by
    unfold pairsK at h
    cases e1 : pairK y with
    | none => rw [e1] at h; cases h
    | some p =>
      cases e2 : pairsK ys with
      | none => rw [e1, e2] at h; cases h
      | some q =>
        rw [e1, e2] at h
        cases h
        cases r with
        | cons r1 r2 =>
          obtain ⟨ps, fs, rfl, hp, h1, h2⟩ := pairs_rel w r2 e2
          unfold pairK at e1
          cases e3 : lookT y with
          | none => rw [e3] at e1; cases e1
          | some zs =>
            rw [e3] at e1
            match zs, e1, e3 with
            | [a, b], e1, e3 =>
              obtain ⟨c, vs, rfl, s1, s2⟩ := lookT_ok w r1 e3
              simp only at e1
              cases e4 : dkeyA a with
              | none => rw [e4] at e1; cases e1
              | some k =>
                rw [e4] at e1
                cases e1
                cases s2 with
                | cons t1 t2 =>
                  cases t2 with
                  | cons t3 t4 =>
                    cases t4
                    have hk := dkeyA_ok t1 e4
                    subst hk
                    exact ⟨c :: ps, (k, _) :: fs, rfl, .cons s1 hp, by rw [List.map_cons, List.map_cons, h1], .cons t3 h2⟩
theorem merge_rel : ∀ {more : List (Key × V)} {gmore : DKs} {fs : List (Key × V)} {gs : DKs}, more.map Prod.fst = gmore.map Prod.fst → RLw K W (more.map Prod.snd) (gmore.map Prod.snd) → fs.map Prod.fst = gs.map Prod.fst → RLw K W (fs.map Prod.snd) (gs.map Prod.snd) →
    (mergeK fs more).map Prod.fst = (mergeKA gs gmore).map Prod.fst ∧ RLw K W ((mergeK fs more).map Prod.snd) ((mergeKA gs gmore).map Prod.snd)
  | [], [], fs, gs, _, _, h, r => ⟨h, r⟩
  | [], _ :: _, _, _, h, _, _, _ => by simp at h
  | _ :: _, [], _, _, h, _, _, _ => by simp at h
  | p :: more, q :: gmore, fs, gs, h, r, h2, r2 => by
    simp only [List.map_cons, List.cons.injEq] at h
    obtain ⟨h0, h1⟩ := h
    have r : RLw K W (p.2 :: more.map Prod.snd) (q.2 :: gmore.map Prod.snd) := r
    cases r with
    | cons ra rb =>
      have := dput_rel h2 r2 (k := p.1) ra
      rw [h0] at this
      have e : mergeK fs (p :: more) = mergeK (putK fs p.1 p.2) more := rfl
      have e' : mergeKA gs (q :: gmore) = mergeKA (putKA gs q.1 q.2) gmore := rfl
      rw [e, e', h0]
      cases this with
      | dk a b => exact merge_rel h1 rb a b
theorem cr_dict : CRR K E (rDictP K) fDict := by
  intro W S x a Q w r p
  unfold fDict at p
  split at p
  · rename_i z
    obtain ⟨v, rfl, rv⟩ := rl1 r
    cases e : look S z with
    | none => simp only [e] at p; exact p.elim
    | some ys =>
      simp only [e] at p
      cases e2 : pairsK ys with
      | none => simp only [e2] at p; exact p.elim
      | some gs =>
        simp only [e2] at p
        obtain ⟨q, vs, rfl, h3, h4⟩ := look_ok w rv e
        obtain ⟨ps, fs, rfl, hp, h1, h2⟩ := pairs_rel w h4 e2
        refine ⟨q, ps, fs, rfl, h3, hp, fun l hl => ?_⟩
        obtain ⟨a, b⟩ := merge_rel (fs := []) (gs := []) h1 h2 rfl .nil
        have rr : ROC K W (.dK (mergeK [] fs)) (.dk (mergeKA [] gs)) := .dk a b
        exact p (.ref l) (W.new l (.dK (mergeK [] fs))) (ext_new w hl) (wd_new w hl (.dk a ((ext_new w hl).rl b))) (.c (by
          show (W.ι ++ [l])[S.length]? = some l
          rw [← w.ln]
          simp))
  · exact p.elim
end
theorem call_dictPK {X : Cx} {K : PySem.W.Frag} (hc : X.calm = true) (hK : X.K = K := by rfl) : CallR X (.type "dict") (rDictP K) := by subst hK; exact call_dictP hc
end My

namespace My
open PySem PySem.Spec L2
open Classical
open PyProof.Rows
/-! ### x in xs, data of any depth -/
def fInDeep (neg : Bool) : AV → AV → Sto → Res AV := fun a b S => match rb true 8 S a, rb true 8 S b with
  | some d, some (.list ds) => if SeqAt.shaped d = true ∧ SeqAt.shaped (.list ds) = true then .ok (bA (if neg = true then !(ds.any fun z => PyData.eqv z d) else ds.any fun z => PyData.eqv z d)) S else .no
  | _, _ => .no
section
variable {K : PySem.W.Frag} {E : L2.XK} {W : Wo} {S : Sto}
theorem rr_inDeep : R2R K E (rInD K) (fInDeep false) := by
  intro W S x y a b Q w r1 r2 p
  unfold fInDeep at p
  split at p
  · rename_i d ds e1 e2
    by_cases h : SeqAt.shaped d = true ∧ SeqAt.shaped (.list ds) = true
    · rw [if_pos h] at p
      exact ⟨d, ds, rb_now w r1 e1, rb_now w r2 e2, h.1, h.2, post_val w p (.d (.bl _))⟩
    · rw [if_neg h] at p
      exact p.elim
  · exact p.elim
theorem rr_notInDeep : R2R K E (rNotInD K) (fInDeep true) := by
  intro W S x y a b Q w r1 r2 p
  unfold fInDeep at p
  split at p
  · rename_i d ds e1 e2
    by_cases h : SeqAt.shaped d = true ∧ SeqAt.shaped (.list ds) = true
    · rw [if_pos h] at p
      exact ⟨d, ds, rb_now w r1 e1, rb_now w r2 e2, h.1, h.2, post_val w p (.d (.bl _))⟩
    · rw [if_neg h] at p
      exact p.elim
  · exact p.elim
end
theorem op_inDK {X : Cx} {K : PySem.W.Frag} (hu : X.A.units + 65 < cLine) (hK : X.K = K := by rfl) : OpR X (compareOp .In) (rInD K) := by subst hK; exact op_inD hu
theorem op_notInDK {X : Cx} {K : PySem.W.Frag} (hu : X.A.units + 65 < cLine) (hK : X.K = K := by rfl) : OpR X (compareOp .NotIn) (rNotInD K) := by subst hK; exact op_notInD hu
theorem hu65 {k : Nat} {A : Around} (hr : Room k A) : A.units + 65 < cLine := by
  have := hr.un
  omega
end My

namespace My
open PySem PySem.Spec L2
open PyProof.Rows (envOfC)
open Classical
/-! ### errors of the program: raised, let out, caught -/
def sp_dX (K : PySem.W.Frag) (n : Nat) (den : List AV → Sto → Res AV) : Sp := fun vs H Q E => vs.length = n ∧ ∃ (W : Wo) (S : Sto) (xs : List AV), W.H = H ∧ Wd K W S ∧ RLw K W vs xs ∧ PostE K E W (den xs S) Q
def fCallX (n : Nat) (den : List AV → Sto → Res AV) : List AV → Sto → Res AV := fun xs S => if xs.length = n then den xs S else .no
section
variable {K : PySem.W.Frag} {E : L2.XK} {W W1 : Wo} {S : Sto} {ta : TE} {da : EV} {al : TA} {dl : LV}
theorem sp_callX {n : Nat} {den : List AV → Sto → Res AV} {vs : List V} {xs : List AV} {Q : VK} (w : Wd K W S) (r : RLw K W vs xs) (p : PostE K E W (fCallX n den xs S) Q) : sp_dX K n den vs W.H Q E := by
  unfold fCallX at p
  split at p
  · rename_i h
    exact ⟨by rw [r.len]; exact h, W, S, xs, rfl, w, r, p⟩
  · exact p.elim
/-- a call that may let an error out, within a def that lets it out -/
theorem re_callX {n : Nat} {den : List AV → Sto → Res AV} (h : RA K E al dl) : RE K E (tCallS (sp_dX K n den) (fun _ => E) al) (eCall (fCallX n den) dl) := by
  intro W S σ ρ Q w r p
  refine h.step w r p fun vs xs W1 S1 e1 w1 r1 v1 p1 => ?_
  exact sp_callX w1 v1 p1
/-- PileError.__init__: self.value = value -/
def spPE (K : PySem.W.Frag) : Sp := fun vs H Q _ => ∃ (a C : Addr) (v : V), vs = [.ref a, v] ∧ OexC K C ∧ PySem.W.findIn K (.ref C) "value" = some none ∧ H a = some (exo a C none) ∧ ∀ dx, H dx = none → dx ≠ a → Q .non (upd (upd H dx (exd dx [("value", v)])) a (exo a C (some dx)))
def dRaise (C : Addr) (da : EV) : SV := fun ρ S => (da ρ S).out fun x S1 => .ex C x S1
def tRaiseO (K : PySem.W.Frag) (E : L2.XK) (C : Addr) (ta : TE) : TS := fun _ σ H => tMkO C (spPE K) [] (tCons ta tNil) σ H fun cls d H' => E cls d H'
theorem rs_raise {C : Addr} (T : OexC K C) (hv : PySem.W.findIn K (.ref C) "value" = some none) (ha : RE K E ta da) : RS K E (tRaiseO K E C ta) (dRaise C da) := by
  intro W S σ ρ D w r p
  refine ha.stepS w r p fun v x W1 S1 e1 w1 r1 v1 p1 => ?_
  refine ⟨by show 1 ≤ 1000; decide, fun a hn => ⟨a, C, v, rfl, T, hv, upd_same, fun dx hdx hne => ⟨rfl, dx, [("value", v)], upd_same, ?_, ?_, ?_⟩⟩⟩
  · rw [upd_ne hne, upd_same]
  · rw [upd_ne hne] at hdx
    exact hdx
  · rw [upd_ne hne] at hdx
    have he : upd (L2.del (upd (upd (upd W1.H a (exo a C none)) dx (exd dx [("value", v)])) a (exo a C (some dx))) a) dx (.xd [("value", v)]) = upd W1.H dx (.xd [("value", v)]) := by
      funext b
      by_cases q : b = dx
      · subst q; rw [upd_same, upd_same]
      · rw [upd_ne q, upd_ne q]
        by_cases q2 : b = a
        · subst q2; rw [L2.del_same, hn]
        · rw [L2.del_ne q2, upd_ne q2, upd_ne q, upd_ne q2]
    rw [he]
    have eo := ext_other w1 (o := .xd [("value", v)]) hdx
    exact p1 v dx ⟨upd W1.H dx (.xd [("value", v)]), W1.F, W1.B, W1.ι⟩ eo (wd_other w1 hdx) (eo.rv v1) upd_same
/-- try: f(..) except C as e: v = [e.value] -/
def dTryL (C : Addr) (i j : Nat) (m : EV) : SV := fun ρ S => match m ρ S with
  | .ok _ S1 => .nx ρ S1
  | .ex C' x S1 => if C' = C ∧ i < ρ.length then .nx ((ρ.set i none).set j (some (.c S1.length))) (S1 ++ [.lst [x]]) else .no
  | .no => .no
def tSuiteL (C : Addr) (i j : Nat) : Addr → Value → Option Addr → TS := fun a cls d => tAsg (tLst (tCons (tXf a cls d C "value" (tVar i)) tNil)) (gName j)
theorem rs_tryL {C : Addr} {i j n : Nat} {den : List AV → Sto → Res AV} (hij : i ≠ j) (hb : PySem.W.exmOne K (.ref C) (.ref C) = some true) (h : ∀ E', RA K E' al dl) :
    RS K E (fun D σ H => tDrop (tCallS (sp_dX K n den) (WE (wAs K (.ref C) i (tSuiteL C i j) (fun _ _ _ _ => False) D)) al) D σ H) (dTryL C i j (eCall (fCallX n den) dl)) := by
  intro W S σ ρ D w r p
  have catch_ : ∀ (C' : Addr) (x : AV) (S2 : Sto), PostS K E W (if C' = C ∧ i < ρ.length then .nx ((ρ.set i none).set j (some (.c S2.length))) (S2 ++ [.lst [x]]) else .no) D →
      ∀ v dx W', Ext W W' → Wd K W' S2 → RVw K W' v x → XD W'.H dx v → wAs K (.ref C) i (tSuiteL C i j) (fun _ _ _ _ => False) D (.ref C') (some dx) σ W'.H := by
    intro C' x S2 pc v dx W' e' w' rv xd
    split at pc
    · rename_i hc
      obtain ⟨rfl, hi⟩ := hc
      refine ⟨true, hb, fun _ a ha => ?_, fun z => by cases z⟩
      have hi' : i < σ.length := by rw [r.ln]; exact hi
      refine ⟨.ref a, List.getElem?_set_self hi', rfl, rfl, dx, _, v, rfl, xd, rfl, ?_⟩
      refine ⟨by show 1 ≤ sizeLine; decide, fun l hl => ?_⟩
      have en := ext_new (o := .lst [v]) w' hl
      have wn := wd_new (oc := .lst [x]) (o := .lst [v]) w' hl (.lst (.cons (en.rv rv) .nil))
      refine pc _ (W'.new l (.lst [v])) (e'.trans en) wn ⟨by simp only [List.length_set]; exact r.ln, fun k y hk => ?_⟩
      by_cases q : k = j
      · subst q
        have hkl : k < ρ.length := by
          have := (List.getElem?_eq_some_iff.mp hk).1
          simpa using this
        rw [List.getElem?_set_self (by simpa using hkl)] at hk
        cases hk
        refine ⟨.ref l, ?_, .c ?_⟩
        · rw [List.getElem?_set_ne hij, List.getElem?_set_self (by simp only [List.length_set]; rw [r.ln]; exact hkl)]
        · show (W'.ι ++ [l])[S2.length]? = some l
          rw [← w'.ln]
          simp
      · rw [List.getElem?_set_ne (Ne.symm q)] at hk
        by_cases q2 : k = i
        · subst q2
          rw [List.getElem?_set_self hi] at hk
          cases hk
        · rw [List.getElem?_set_ne (Ne.symm q2)] at hk
          obtain ⟨u, h1, h2⟩ := r.at_ k y hk
          refine ⟨u, ?_, (e'.trans en).rv h2⟩
          rw [List.getElem?_set_ne (Ne.symm q2), List.getElem?_set_ne (Ne.symm q), List.getElem?_set_ne (Ne.symm q2)]
          exact h1
    · exact pc.elim
  refine (h (WE (wAs K (.ref C) i (tSuiteL C i j) (fun _ _ _ _ => False) D) σ)) W S σ ρ _ w r ?_
  unfold dTryL eCall at p
  cases e : dl ρ S with
  | ok xs S1 =>
    rw [e] at p
    intro vs W1 e1 w1 rl
    refine sp_callX w1 rl ?_
    have p : PostS K E W (match fCallX n den xs S1 with
      | .ok _ S1 => .nx ρ S1
      | .ex C' x S1 => if C' = C ∧ i < ρ.length then .nx ((ρ.set i none).set j (some (.c S1.length))) (S1 ++ [.lst [x]]) else .no
      | .no => .no) D := p
    cases e2 : fCallX n den xs S1 with
    | ok y S2 =>
      rw [e2] at p
      intro v W' e' w' rv
      exact p σ W' (e1.trans e') w' (r.ext (e1.trans e'))
    | ex C' x S2 =>
      rw [e2] at p
      intro v dx W' e' w' rv xd
      exact catch_ C' x S2 p v dx W' (e1.trans e') w' rv xd
    | no => rw [e2] at p; exact p.elim
  | ex C' x S1 =>
    rw [e] at p
    intro v dx W' e' w' rv xd
    exact catch_ C' x S1 p v dx W' e' w' rv xd
  | no => rw [e] at p; exact p.elim
end
section
variable {P : Program} {w : World} {K : PySem.W.Frag} {mg : Str → Option Value} {base : Heap}
theorem fnOkDX {x qual : Str} {st : Stmt} {f : Addr} {fd : FuncData} {N ps : List Str} {k : Nat} {n m : Nat} {body : SV} (F : Fun K x qual st f fd) (S : FnScope N ps (defScope st)) (hn : n = N.length) (hm : m = ps.length)
    (hbody : ∀ (cdv : Value) (A : Around) (outer : List Env) (s : Shared) (H : Hp) (E : L2.XK), Room k (A.deeper (envOfC qual (defScope st) s.heap.objs.size f cdv)) →
      ∃ t, PSs (cxOf (L2.CX P w) P w K mg base N qual (defScope st) f cdv A outer s H E) (defBody st) t ∧ RS K E t body) : FnOk P w K mg base (L2.CX P w) (k + 1) f fd ps (sp_dX K m (fnD n body)) := by
  refine L2.Fun.okX F S (fun vs H Q E h => by rw [← hm]; exact h.1) fun cdv A outer s H vs Q E hr h => ?_
  obtain ⟨hl, W, T, xs, rfl, wd, rl, p⟩ := h
  obtain ⟨t, h1, h2⟩ := hbody cdv A outer s W.H E hr
  refine ⟨t, h1, ?_⟩
  refine h2 W T (start N vs) (xs.map some ++ List.replicate (n - xs.length) none) _ wd (by rw [hn]; exact er_start rl) ?_
  unfold fnD at p
  cases e : body (xs.map some ++ List.replicate (n - xs.length) none) T with
  | nx ρ U => rw [e] at p; exact fun σ W' e' w' r' => p .non W' e' w' (.d .non)
  | rt x U => rw [e] at p; exact p
  | bk ρ U => rw [e] at p; exact p.elim
  | ct ρ U => rw [e] at p; exact p.elim
  | ex C x U => rw [e] at p; exact p
  | no => rw [e] at p; exact p.elim
end
end My

namespace My
open PySem PySem.Spec L2
open Classical
/-! ### a *= b of great numbers -/
theorem ip_mulW {X : Cx} : PIp X .Mult (rI CMulW fun i j => .int (i * j)) := by
  intro pins s σ H x y v u Q I r1 r2 h
  obtain ⟨i, j, e1, e2, hc, q⟩ := h
  subst e1; subst e2
  obtain ⟨t, rfl⟩ := r1
  obtain ⟨t', rfl⟩ := r2
  exact PySem.AutoIntOps.imul_0 ⟨.int _, H, I.tok _, ⟨_, rfl⟩, q⟩ hc.ok
/-! ### comprehensions with two for -/
def lcI (j : ItA) (g : GV) (c : TV) (d : EV) (n : Nat) (ρ : En) : Nat → Nat → Sto → Res Unit
  | 0, _, _ => .no
  | k + 1, i, S => match j.at_ S i with
    | none => .no
    | some none => .ok () S
    | some (some x) => (g x ρ S).bind fun ρ1 S1 => (c ρ1 S1).bind fun q S2 => if q = true then (d ρ1 S2).bind fun y S3 => (match S3[n]? with
      | some (.lst acc) => if acc.length < 1000 then lcI j g c d n ρ k (i + 1) (S3.set n (.lst (acc ++ [y]))) else .no
      | _ => .no) else lcI j g c d n ρ k (i + 1) S2
def lcO (j : ItA) (g : GV) (c : TV) (it1 : IV) (g1 : GV) (c1 : TV) (d : EV) (vs1 : List Nat) (n : Nat) (ρ : En) : Nat → Nat → Sto → Res AV
  | 0, _, _ => .no
  | k + 1, i, S => match j.at_ S i with
    | none => .no
    | some none => .ok (.c n) S
    | some (some x) => (g x ρ S).bind fun ρ1 S1 => (c ρ1 S1).bind fun q S2 => if q = true then (it1 ρ1 S2).bind fun j1 S3 => (lcI j1 g1 c1 d n (wipeA ρ1 vs1) bigN 0 S3).bind fun _ S4 => lcO j g c it1 g1 c1 d vs1 n ρ k (i + 1) S4 else lcO j g c it1 g1 c1 d vs1 n ρ k (i + 1) S2
@[irreducible] def eLc2 (it : IV) (g : GV) (c : TV) (it1 : IV) (g1 : GV) (c1 : TV) (d : EV) (vs vs1 : List Nat) : EV := fun ρ S => (it ρ S).bind fun j S1 => lcO j g c it1 g1 c1 d vs1 S1.length (wipeA ρ vs) bigN 0 (S1 ++ [.lst []])
section
variable {K : PySem.W.Frag} {E : L2.XK} {ta : TE} {da : EV}
theorem re_lc2 {vs vs1 : List Nat} {wi wi1 : TI} {it it1 : IV} {g g1 : TG} {dg dg1 : GV} {tt tt1 : TT} {dt dt1 : TV} (hi : RI K E wi it) (hg : RG K E vs g dg) (ht : RT K E tt dt) (hi1 : RI K E wi1 it1) (hg1 : RG K E vs1 g1 dg1) (ht1 : RT K E tt1 dt1) (he : RE K E ta da) :
    RE K E (tLc2 wi g tt wi1 g1 tt1 ta vs vs1) (eLc2 it dg dt it1 dg1 dt1 da vs vs1) := by
  intro W S σ ρ Q w r p
  refine hi W S σ ρ _ w r ?_
  unfold eLc2 at p
  cases e : it ρ S with
  | no => rw [e] at p; exact p
  | ex C x T => rw [e] at p; exact p
  | ok j S1 =>
    rw [e] at p
    simp only [bind_ok] at p
    intro J W1 e1 w1 hJ D hD
    have en := ext_new (o := .lst []) w1 hD
    have wn := wd_new (oc := .lst []) (o := .lst []) w1 hD (.lst .nil)
    have hn : (W1.new D (.lst [])).ι[S1.length]? = some D := by
      show (W1.ι ++ [D])[S1.length]? = some D
      rw [← w1.ln]
      simp
    refine ⟨fun i m H' => ∃ (S' : Sto) (W' : Wo), W'.H = H' ∧ Ext (W1.new D (.lst [])) W' ∧ Wd K W' S' ∧ PostE K E W' (lcO j dg dt it1 dg1 dt1 da vs1 S1.length (wipeA ρ vs) m i S') Q, ⟨bigN, S1 ++ [.lst []], W1.new D (.lst []), rfl, Ext.refl, wn, PostE.ext (e1.trans en) p⟩, ?_⟩
    rintro i m H' ⟨S', W', rfl, e', w', p'⟩
    have hn' : W'.ι[S1.length]? = some D := by
      obtain ⟨t, ht⟩ := e'.pi
      rw [ht]
      exact pre_get hn
    have r' : ER K W' (wipe σ vs) (wipeA ρ vs) := (r.ext ((e1.trans en).trans e')).wipe vs
    cases m with
    | zero => exact p'.elim
    | succ m =>
      unfold lcO at p'
      have q := hJ W' S' i (en.trans e') w'
      cases e2 : j.at_ S' i with
      | none => rw [e2] at p'; exact p'.elim
      | some o =>
        rw [e2] at p' q
        cases o with
        | none => exact .inl ⟨q, p' (.ref D) W' Ext.refl w' (.c hn')⟩
        | some x =>
          refine .inr ⟨q.1, fun H2 => ∃ (S' : Sto) (W' : Wo), W'.H = H2 ∧ Ext (W1.new D (.lst [])) W' ∧ Wd K W' S' ∧ PostE K E W' (lcO j dg dt it1 dg1 dt1 da vs1 S1.length (wipeA ρ vs) m (i + 1) S') Q, fun H2 h => ⟨m, Nat.lt_succ_self m, h⟩, fun v H2 hy => ?_⟩
          obtain ⟨W2, rfl, e2', w2, rv⟩ := q.2 v H2 hy
          refine hg W2 S' (wipe σ vs) (wipeA ρ vs) v x _ w2 (r'.ext e2') rv ?_
          have p'' := PostE.ext e2' p'
          simp only at p''
          cases e3 : dg x (wipeA ρ vs) S' with
          | no => rw [e3] at p''; exact p''.elim
          | ex C z T => rw [e3] at p''; exact p''
          | ok ρ3 S3 =>
            rw [e3] at p''
            intro σ3 W3 ag e3' w3 r3
            refine ⟨by rw [wipe_agree ag, wipe_idem], ?_⟩
            have ex3 := (e'.trans e2').trans e3'
            refine ht W3 S3 σ3 ρ3 _ w3 r3 ?_
            have p3 := PostE.ext e3' p''
            simp only [bind_ok] at p3
            cases e4 : dt ρ3 S3 with
            | no => rw [e4] at p3; exact p3.elim
            | ex C z T => rw [e4] at p3; exact p3
            | ok c S4 =>
              rw [e4] at p3
              intro W4 e4' w4
              have p4 := PostE.ext e4' p3
              simp only [bind_ok] at p4
              have ex4 := ex3.trans e4'
              cases c with
              | false =>
                rw [if_neg nofun] at p4 ⊢
                exact ⟨S4, W4, rfl, ex4, w4, p4⟩
              | true =>
                rw [if_pos rfl] at p4 ⊢
                refine hi1 W4 S4 σ3 ρ3 _ w4 (r3.ext e4') ?_
                cases e5 : it1 ρ3 S4 with
                | no => rw [e5] at p4; exact p4
                | ex C z T => rw [e5] at p4; exact p4
                | ok j1 S5 =>
                  rw [e5] at p4
                  simp only [bind_ok] at p4
                  intro J1 W5 e5' w5 hJ1
                  have p5 := PostE.ext e5' p4
                  have ex5 := ex4.trans e5'
                  refine ⟨fun i1 k H' => ∃ (S' : Sto) (W' : Wo), W'.H = H' ∧ Ext W5 W' ∧ Wd K W' S' ∧ PostE K E W' ((lcI j1 dg1 dt1 da S1.length (wipeA ρ3 vs1) k i1 S').bind fun _ S4 => lcO j dg dt it1 dg1 dt1 da vs1 S1.length (wipeA ρ vs) m (i + 1) S4) Q, ⟨bigN, S5, W5, rfl, Ext.refl, w5, p5⟩, ?_⟩
                  rintro i1 k H' ⟨S6, W6, rfl, e6', w6, p6⟩
                  have r6 : ER K W6 (wipe σ3 vs1) (wipeA ρ3 vs1) := (((r3.ext e4').ext e5').ext e6').wipe vs1
                  have ex6 := ex5.trans e6'
                  cases k with
                  | zero => exact p6.elim
                  | succ k =>
                    unfold lcI at p6
                    have q1 := hJ1 W6 S6 i1 e6' w6
                    cases e7 : j1.at_ S6 i1 with
                    | none => rw [e7] at p6; exact p6.elim
                    | some o1 =>
                      rw [e7] at p6 q1
                      cases o1 with
                      | none => exact .inl ⟨q1, S6, W6, rfl, ex6, w6, p6⟩
                      | some x1 =>
                        refine .inr ⟨q1.1, fun H2 => ∃ (S' : Sto) (W' : Wo), W'.H = H2 ∧ Ext W5 W' ∧ Wd K W' S' ∧ PostE K E W' ((lcI j1 dg1 dt1 da S1.length (wipeA ρ3 vs1) k (i1 + 1) S').bind fun _ S4 => lcO j dg dt it1 dg1 dt1 da vs1 S1.length (wipeA ρ vs) m (i + 1) S4) Q, fun H2 h => ⟨k, Nat.lt_succ_self k, h⟩, fun v1 H2 hy1 => ?_⟩
                        obtain ⟨W7, rfl, e7', w7, rv1⟩ := q1.2 v1 H2 hy1
                        refine hg1 W7 S6 (wipe σ3 vs1) (wipeA ρ3 vs1) v1 x1 _ w7 (r6.ext e7') rv1 ?_
                        have p7 := PostE.ext e7' p6
                        simp only at p7
                        cases e8 : dg1 x1 (wipeA ρ3 vs1) S6 with
                        | no => rw [e8] at p7; exact p7.elim
                        | ex C z T => rw [e8] at p7; exact p7
                        | ok ρ8 S8 =>
                          rw [e8] at p7
                          intro σ8 W8 ag8 e8' w8 r8
                          refine ⟨by rw [wipe_agree ag8, wipe_idem], ?_⟩
                          have ex8 := (e6'.trans e7').trans e8'
                          refine ht1 W8 S8 σ8 ρ8 _ w8 r8 ?_
                          have p8 := PostE.ext e8' p7
                          simp only [bind_ok] at p8
                          cases e9 : dt1 ρ8 S8 with
                          | no => rw [e9] at p8; exact p8.elim
                          | ex C z T => rw [e9] at p8; exact p8
                          | ok c1 S9 =>
                            rw [e9] at p8
                            intro W9 e9' w9
                            have p9 := PostE.ext e9' p8
                            simp only [bind_ok] at p9
                            have ex9 := ex8.trans e9'
                            cases c1 with
                            | false =>
                              rw [if_neg nofun] at p9 ⊢
                              exact ⟨S9, W9, rfl, ex9, w9, p9⟩
                            | true =>
                              rw [if_pos rfl] at p9 ⊢
                              have p9 : PostE K E W9 ((da ρ8 S9).bind fun y S3 => (match S3[S1.length]? with
                                | some (.lst acc) => if acc.length < 1000 then lcI j1 dg1 dt1 da S1.length (wipeA ρ3 vs1) k (i1 + 1) (S3.set S1.length (.lst (acc ++ [y]))) else .no
                                | _ => .no).bind fun _ S4 => lcO j dg dt it1 dg1 dt1 da vs1 S1.length (wipeA ρ vs) m (i + 1) S4) Q := by
                                cases e0 : da ρ8 S9 with
                                | ok y T => rw [e0] at p9; exact p9
                                | ex C z T => rw [e0] at p9; exact p9
                                | no => rw [e0] at p9; exact p9
                              refine he.step w9 (r8.ext e9') p9 fun y z W10 S10 e10 w10 r10 v10 p10 => ?_
                              have hn10 : W10.ι[S1.length]? = some D := by
                                obtain ⟨t, ht⟩ := ((ex5.trans ex9).trans e10).pi
                                rw [ht]
                                exact pre_get hn
                              split at p10
                              · rename_i acc e11
                                split at p10
                                · rename_i hl
                                  obtain ⟨us, g1, g2⟩ := cell_lst w10 hn10 e11
                                  have hm := List.mem_of_getElem? hn10
                                  exact ⟨us, g1, by rw [g2.len]; exact small1000 (by omega), _, W10.wr D _, rfl, (ex9.trans e10).trans (ext_wr hm), wd_wr w10 hn10 (.lst (g2.append (.cons v10 .nil))), PostE.ext (ext_wr hm) p10⟩
                                · exact p10.elim
                              · exact p10.elim
end
end My

namespace My
open PySem PySem.Spec L2 PyProof.Rows
open Classical
/-! ### set(xs) of a list of ints -/
abbrev nuO (w : World) : Obj := { cls := .type "set", dict := none, data := .set #[] 0 (.fresh 0 0 (!w.params.followText "set-order")) }
abbrev nuI (l : Addr) : Obj := { cls := .type "list_iterator", data := .fields #[.ref l, .int 0 0] }
section
variable {P : Program} {w : World} {A : Around} {E : Value → Shared → Prop} {s : Shared}
/-- what is found behind the making: the set at b -/
abbrev MadeSet (w : World) (s : Shared) (ns : List Int) (s2 : Shared) : Prop := ∃ hp tk n, s2 = { s with heap := hp, toks := tk } ∧ SetR w hp s.heap.objs.size (fun j => decide (j ∈ ns)) n ∧ n ≤ ns.length ∧ ∀ b o, s.heap.get? b = some o → hp.get? b = some o
theorem set_filled {l : Addr} {its : Array Value} (ns : List Int) (hh : A.handled = none) (hL : s.heap.IsList l its) (hI : IntsAre its.toList ns) (hB : ns.length + 1 < scanBound) :
    codeAny (model P w) A (.call (.builtin "set.__init__") ⟨[.ref s.heap.objs.size, .ref l], []⟩) (wants (fun r s2 => r = .none ∧ MadeSet w s ns s2) E) { s with heap := s.heap.push (nuO w) } := by
  have size_ : its.size = ns.length := by have := IntsAre.length hI; simpa using this
  have gS : (s.heap.push (nuO w)).get? s.heap.objs.size = some (nuO w) := Heap.get?_push_size _ rfl
  have tS : Shared.TypeIs { s with heap := s.heap.push (nuO w) } (.ref s.heap.objs.size) "set" := ⟨_, gS, rfl⟩
  have L1 : (s.heap.push (nuO w)).IsList l its := hL.push _
  refine codeAny_call_builtin F.called_set.init.plain F.entry_set_init (check_set_init_1 tS ?_)
  obtain ⟨⟨c, dc, da, sl⟩, gl, k1, n, k2⟩ := L1
  simp only at k1 k2
  subst k1 k2
  have L1 : (s.heap.push (nuO w)).IsList l its := ⟨_, gl, rfl, n, rfl⟩
  have f1 := F.sub_list_set
  have f2 := F.sub_list_frozenset
  have f3 : (Value.type "list" == Value.type "dict") = false := by decide
  unfold Builtin.«set.__init__» noKeywords Builtin.Frozenset.updateFrom
  generalize hPI : pyIter = PI
  wp_walk
  subst hPI
  have lS : l < s.heap.objs.size := by obtain ⟨o, ho, _⟩ := hL; exact Heap.lt_size ho
  have z1 : (s.heap.push (nuO w)).objs.size = s.heap.objs.size + 1 := Heap.size_push ..
  have ne1 : l ≠ (s.heap.push (nuO w)).objs.size := by rw [z1]; exact Nat.ne_of_lt (Nat.lt_succ_of_lt lS)
  have no : s.heap.objs.size ∉ [(s.heap.push (nuO w)).objs.size, l] := by
    rw [z1]
    simp only [List.mem_cons, List.not_mem_nil, or_false, not_or]
    exact ⟨Nat.ne_of_lt (Nat.lt_succ_self _), Nat.ne_of_gt lS⟩
  have each : ∀ (i : Nat) (v : Value), its[i]? = some v → ∃ k t, ns[i]? = some k ∧ v = .int k t := fun i v hv => by
    have hi : i < ns.length := by rw [← size_]; exact (Array.getElem?_eq_some_iff.mp hv).1
    obtain ⟨t, e⟩ := IntsAre.int_at hI i v (by rw [Array.getElem?_toList]; exact hv)
    exact ⟨ns[i], t, List.getElem?_eq_getElem hi, by rw [e, List.getD_eq_getElem?_getD, List.getElem?_eq_getElem hi]; rfl⟩
  have calm3 : A.in1.in1.handled = none := by simp [hh]
  refine wpAny_pyIter_list L1 (wpAny_bind (wpAny_runValue ?_))
  have R0 : SetR w ((s.heap.push (nuO w)).push (nuI l)) s.heap.objs.size (fun j => decide (j ∈ ns.take 0)) 0 := setR_new_at (Heap.get?_push_of_some _ gS)
  refine set_update_ints (w := w) (P := P) ((Walks.list calm3 _ l ne1 its).toS) s.heap.objs.size no ns size_ hB each (its.size - 0) 0 _ (by omega) (Nat.zero_le _) ?at0 ?set0 ?rest
  · exact ⟨⟨_, Heap.get?_push_size _ rfl, rfl, rfl⟩, L1.push _⟩
  · exact ⟨0, Nat.le_refl 0, R0⟩
  intro s2 n2 mv le2 R2
  obtain ⟨hp, g2, d2, tk, o2⟩ := s2
  cases (show g2 = s.gens from mv.gens)
  cases (show d2 = s.drawn from mv.drawn)
  cases (show o2 = s.os from mv.os)
  show wpAny _ _ _ _ _ _
  refine wpAny_pure ?_
  show wpAny _ _ (ret Value.none) _ _ _
  refine wpAny_pure ⟨rfl, hp, tk, n2, rfl, R2, by omega, fun b o e => ?_⟩
  have b0 := Heap.lt_size e
  refine mv.heap b o ?_ (Heap.get?_push_of_some _ (Heap.get?_push_of_some _ e))
  rw [z1]
  simp only [List.mem_cons, List.not_mem_nil, or_false, not_or]
  exact ⟨Nat.ne_of_lt b0, Nat.ne_of_lt (Nat.lt_succ_of_lt b0)⟩
theorem call_setI {l : Addr} {its : Array Value} (ns : List Int) {Q : Value → Shared → Prop} (hh : A.handled = none) (hL : s.heap.IsList l its) (hI : IntsAre its.toList ns) (hB : ns.length + 1 < scanBound) (k : ∀ s2, MadeSet w s ns s2 → Q (.ref s.heap.objs.size) s2) :
    wpAny (model P w) A (call (.type "set") [.ref l]) Q E s := by
  obtain ⟨c, tl, hmro⟩ := F.called_set.mro
  have m1 := F.called_set.made
  have m2 := F.called_set.sub
  have m3 := F.called_set.notType
  have m4 := F.called_set.canCreate
  have m5 := F.typeCall_set_1 (.ref l)
  refine wpAny_call (codeAny_of_tree ?_)
  show wpAny _ _ (callAny (.type "set") _) _ _ _
  refine wpAny_pure ⟨Code.quiet_builtin _ (by decide +kernel), codeAny_builtin F.entry_type_call ?_⟩
  rw [Around.under_plain (weight_type_call_type "set" [.ref l] []) rfl]
  repeat (any_goals (first | assumption | wp_step))

  refine codeAny_mono (code_set_led1 (.ref l) (E := E) (Q₁ := fun v s1 => v = .ref s.heap.objs.size ∧ s1 = { s with heap := s.heap.push (nuO w) }) ⟨rfl, rfl⟩) fun r s1 hr => ?_
  cases r with
  | error e => exact hr
  | ok f =>
    cases f with
    | ret v =>
      obtain ⟨rfl, rfl⟩ := hr
      have n1 : (s.heap.push (nuO w)).get? s.heap.objs.size = some (nuO w) := Heap.get?_push_size _ rfl
      have n2 : Shared.TypeIs { s with heap := s.heap.push (nuO w) } (.ref s.heap.objs.size) "set" := ⟨_, n1, rfl⟩
      have n3 := F.called_set.init.lookup
      have n4 := F.called_set.init.bind (.ref s.heap.objs.size)
      repeat (any_goals (first | assumption | wp_step))

      refine codeAny_mono (set_filled (A := A.in1) (E := E) ns (by simp [hh]) hL hI hB) fun r2 s2 h2 => ?_
      cases r2 with
      | error e => exact h2
      | ok f2 =>
        cases f2 with
        | ret r =>
          obtain ⟨rfl, hm⟩ := h2
          repeat (any_goals (first | assumption | wp_step))
          exact k _ hm
        | _ => exact h2.elim
    | _ => exact hr.elim
end
/-- the different ones of a list, ascending -/
def insD (x : Int) : List Int → List Int
  | [] => [x]
  | y :: r => if x < y then x :: y :: r else if x = y then y :: r else y :: insD x r
def dedI : List Int → List Int
  | [] => []
  | x :: r => insD x (dedI r)
theorem mem_insD {x z : Int} : ∀ {l : List Int}, z ∈ insD x l ↔ z = x ∨ z ∈ l
  | [] => by simp [insD]
  | y :: r => by
    unfold insD
    split
    · simp
    · split
      · rename_i h; subst h; simp
      · rw [List.mem_cons, mem_insD, List.mem_cons]
        constructor
        · rintro (h | h | h)
          · exact .inr (.inl h)
          · exact .inl h
          · exact .inr (.inr h)
        · rintro (h | h | h)
          · exact .inr (.inl h)
          · exact .inl h
          · exact .inr (.inr h)
theorem insD_sorted {x : Int} : ∀ {l : List Int}, l.Pairwise (· < ·) → (insD x l).Pairwise (· < ·)
  | [], _ => by simp [insD]
  | y :: r, h => by
    obtain ⟨h1, h2⟩ := List.pairwise_cons.mp h
    unfold insD
    split
    · rename_i c
      refine List.pairwise_cons.mpr ⟨fun z hz => ?_, h⟩
      rcases List.mem_cons.mp hz with rfl | m
      · exact c
      · have := h1 z m; omega
    · split
      · exact h
      · refine List.pairwise_cons.mpr ⟨fun z hz => ?_, insD_sorted h2⟩
        rcases mem_insD.mp hz with rfl | m
        · omega
        · exact h1 z m
theorem mem_dedI {z : Int} : ∀ {ns : List Int}, z ∈ dedI ns ↔ z ∈ ns
  | [] => Iff.rfl
  | x :: r => by
    show z ∈ insD x (dedI r) ↔ _
    rw [mem_insD, mem_dedI, List.mem_cons]
theorem dedI_sorted : ∀ ns : List Int, (dedI ns).Pairwise (· < ·)
  | [] => .nil
  | x :: r => insD_sorted (dedI_sorted r)
theorem asc_unique : ∀ {l m : List Int}, l.Pairwise (· < ·) → m.Pairwise (· < ·) → (∀ z, z ∈ l ↔ z ∈ m) → l = m
  | [], [], _, _, _ => rfl
  | [], y :: r, _, _, h => absurd ((h y).mpr List.mem_cons_self) (by simp)
  | x :: l, [], _, _, h => absurd ((h x).mp List.mem_cons_self) (by simp)
  | x :: l, y :: m, h1, h2, h => by
    obtain ⟨a1, a2⟩ := List.pairwise_cons.mp h1
    obtain ⟨b1, b2⟩ := List.pairwise_cons.mp h2
    have e : x = y := by
      rcases List.mem_cons.mp ((h x).mp List.mem_cons_self) with q | q
      · exact q
      · rcases List.mem_cons.mp ((h y).mpr List.mem_cons_self) with q2 | q2
        · exact q2.symm
        · have := b1 x q
          have := a1 y q2
          omega
    subst e
    rw [asc_unique a2 b2 fun z => ⟨fun hz => by
      rcases List.mem_cons.mp ((h z).mp (List.mem_cons_of_mem _ hz)) with q | q
      · have := a1 z hz; omega
      · exact q, fun hz => by
      rcases List.mem_cons.mp ((h z).mpr (List.mem_cons_of_mem _ hz)) with q | q
      · have := b1 z hz; omega
      · exact q⟩]
theorem dedI_of {l ns : List Int} (h : l.Pairwise (· < ·)) (m : ∀ z, z ∈ l ↔ z ∈ ns) : l = dedI ns := asc_unique h (dedI_sorted ns) fun z => (m z).trans mem_dedI.symm
theorem nodup_asc {l : List Int} (h : l.Pairwise (· < ·)) : l.Nodup := h.imp fun h => Int.ne_of_lt h
def rSetI (K : PySem.W.Frag) (w : World) : List V → Hp → VK → Prop := fun xs H Q => ∃ (l : Addr) (ns : List Int), xs = [.ref l] ∧ SqL K H l (ns.map V.int) ∧ ns.length ≤ 1000 ∧ ∀ p n, H p = none → n ≤ ns.length → Q (.ref p) (upd H p (SetO w p (fun j => decide (j ∈ ns)) n))
theorem intsAre_v : ∀ {ns : List Int} {us : List Value}, Vals (ns.map V.int) us → IntsAre us ns
  | [], _, .nil => .nil
  | n :: ns, _, .cons h t => by
    obtain ⟨k, rfl⟩ := h
    exact .cons n k (intsAre_v t)
theorem cr_setI {X : Cx} (hc : X.calm = true) : CallR X (.type "set") (rSetI X.K X.w) := by
  intro pins s σ H xs us Q I r h
  obtain ⟨l, ns, rfl, hq, hl, q⟩ := h
  rw [Vals.ref1 r]
  obtain ⟨its, rv, p, hz⟩ := I.list hq
  have hi : IntsAre its.toArray.toList ns := by simpa using intsAre_v rv
  refine call_setI ns (I.ok.hd hc) p.isList hi (by unfold scanBound; omega) fun s2 ⟨hp, tk, n, e, R, le, hk⟩ => ?_
  subst e
  exact ⟨.ref s.heap.objs.size, upd H s.heap.objs.size (SetO X.w s.heap.objs.size (fun j => decide (j ∈ ns)) n), I.laid (t' := tk) hk (Nat.le_refl _) (setO_new R), rfl, q _ n (I.hok.fresh (Nat.le_refl _)) le⟩
/-- sorted(set(xs)) -/
def eSortSet (da : EV) : EV := fun ρ S => (da ρ S).bind fun x S1 => match (look S1 x).bind asInts with
  | some ns => if ns.length < 64 then newL ((dedI ns).map fun i => iA i) S1 else .no
  | none => .no
abbrev tSortSet (K : PySem.W.Frag) (w : World) (ta : TE) : TE := tCB (rSortedSet w) (tCons (tCB (rSetI K w) (tCons ta tNil)) tNil)
section
variable {K : PySem.W.Frag} {E : L2.XK} {ta : TE} {da : EV} {w : World}
theorem re_sortSet (ha : RE K E ta da) : RE K E (tSortSet K w ta) (eSortSet da) := by
  intro W S σ ρ Q wd r p
  show ta σ W.H _
  refine ha.step wd r p fun x a W1 S1 e1 w1 r1 v1 p1 => ?_
  cases e : look S1 a with
  | none => rw [e] at p1; exact p1.elim
  | some ys =>
    rw [e] at p1
    simp only [Option.bind_some] at p1
    cases e2 : asInts ys with
    | none => rw [e2] at p1; exact p1.elim
    | some ns =>
      simp only [e2] at p1
      split at p1
      · rename_i hl
        obtain ⟨q, vs, rfl, h3, h4⟩ := look_ok w1 v1 e
        have ev := asInts_ok h4 e2
        subst ev
        refine ⟨q, ns, rfl, h3, by omega, fun b n hb hn => ?_⟩
        have eo := ext_other (o := SetO w b (fun j => decide (j ∈ ns)) n) w1 hb
        have wo := wd_other (o := SetO w b (fun j => decide (j ∈ ns)) n) w1 hb
        refine ⟨b, _, n, rfl, upd_same, by omega, fun ms t hp hm hlen ht => ?_⟩
        have em : ms = dedI ns := dedI_of hp fun z => by rw [hm z, decide_eq_true_eq]
        subst em
        exact post_lst wo (rl_ints _) (PostE.ext eo p1) t ht
      · exact p1.elim
/-- len(set(xs)) -/
def eLenSet (da : EV) : EV := fun ρ S => (da ρ S).bind fun x S1 => match (look S1 x).bind asInts with
  | some ns => if ns.length < 1000 then .ok (iA (dedI ns).length) S1 else .no
  | none => .no
def rLenSet (w : World) : List V → Hp → VK → Prop := fun xs H Q => ∃ (a : Addr) (f : Int → Bool) (n : Nat), xs = [.ref a] ∧ H a = some (SetO w a f n) ∧ n ≤ 1000 ∧ ∀ l : List Int, l.Pairwise (· < ·) → (∀ k, k ∈ l ↔ f k = true) → Q (.int l.length) H
theorem cr_lenSet {X : Cx} : CallR X (.builtin "len") (rLenSet X.w) := by
  intro pins s σ H xs us Q I r h
  obtain ⟨a, f, n, rfl, ha, hn, q⟩ := h
  have R := setO_get I ha
  rw [Vals.ref1 r]
  obtain ⟨o, es, ep, t, ho, hex, hd, g1, nd, mem, sb, hf, sz, _⟩ := R
  have so := dedI_sorted (es.toList.map keyOf)
  have pm : (dedI (es.toList.map keyOf)).Perm (es.toList.map keyOf) := (List.perm_ext_iff_of_nodup (nodup_asc so) nd).mpr fun z => mem_dedI
  have ln : (dedI (es.toList.map keyOf)).length = es.size := by rw [pm.length_eq, List.length_map, Array.length_toList]
  exact call_len_set ho hex hd hf (by omega) ⟨.int (dedI (es.toList.map keyOf)).length, H, I.tok _, ⟨_, by rw [ln]⟩, q _ so fun k => by rw [mem_dedI, mem k]⟩
abbrev tLenSetK (K : PySem.W.Frag) (w : World) (ta : TE) : TE := tCB (rLenSet w) (tCons (tCB (rSetI K w) (tCons ta tNil)) tNil)
theorem re_lenSet (ha : RE K E ta da) : RE K E (tLenSetK K w ta) (eLenSet da) := by
  intro W S σ ρ Q wd r p
  show ta σ W.H _
  refine ha.step wd r p fun x a W1 S1 e1 w1 r1 v1 p1 => ?_
  cases e : look S1 a with
  | none => rw [e] at p1; exact p1.elim
  | some ys =>
    rw [e] at p1
    simp only [Option.bind_some] at p1
    cases e2 : asInts ys with
    | none => rw [e2] at p1; exact p1.elim
    | some ns =>
      simp only [e2] at p1
      split at p1
      · rename_i hl
        obtain ⟨q, vs, rfl, h3, h4⟩ := look_ok w1 v1 e
        have ev := asInts_ok h4 e2
        subst ev
        refine ⟨q, ns, rfl, h3, by omega, fun b n hb hn => ?_⟩
        have eo := ext_other (o := SetO w b (fun j => decide (j ∈ ns)) n) w1 hb
        have wo := wd_other (o := SetO w b (fun j => decide (j ∈ ns)) n) w1 hb
        refine ⟨b, _, n, rfl, upd_same, by omega, fun ms hp hm => ?_⟩
        have em : ms = dedI ns := dedI_of hp fun z => by rw [hm z, decide_eq_true_eq]
        subst em
        exact p1 _ _ eo wo (.d (.int _))
      · exact p1.elim
end
theorem cr_setIK {X : Cx} {K : PySem.W.Frag} (hc : X.calm = true) (hK : X.K = K := by rfl) : CallR X (.type "set") (rSetI K X.w) := by subst hK; exact cr_setI hc
end My

namespace My
open PySem PySem.Spec L2 PyProof.Rows
open Classical
/-! ### o[i] op= e -/
section
variable {X : Cx}
theorem get_list0 : PGet X (rIxL X.K) := by
  intro pins s σ H o i ov iv Q I rx ry h
  obtain ⟨p, xs, i, z, rfl, rfl, hq, he, q⟩ := h
  cases rx
  obtain ⟨t, rfl⟩ := ry
  obtain ⟨its, r, pl, hz⟩ := I.list hq
  obtain ⟨j, h1, h2, h3, h4, h5⟩ := L2.atI_get he
  obtain ⟨w, ew, rw'⟩ := r.get h2
  have hl := r.length
  have hn := line63
  have fin : EP X pins σ Q w s := ⟨z, H, I, rw', q⟩
  by_cases h0 : 0 ≤ i
  · have hj : i.toNat = j := by
      rw [seqIndex_of h0 h5] at h1
      exact Option.some.inj h1
    exact wpAny_getItem_list pl.isList h0 (by omega) (by rw [hj]; simpa using ew) fin
  · have hj : (i + (its.toArray.size : Int)).toNat = j := by
      rw [seqIndex_neg (by omega) h4] at h1
      rw [List.size_toArray, ← hl]
      exact Option.some.inj h1
    exact wpAny_getItem_list_neg pl.isList (by omega) (by rw [List.size_toArray] <;> omega) (by omega) (by rw [hj]; simpa using ew) fin
theorem get_tup0 : PGet X (rIxT X.K) := by
  intro pins s σ H o i ov iv Q I rx ry h
  obtain ⟨p, xs, i, z, rfl, rfl, hq, he, q⟩ := h
  cases rx
  obtain ⟨t, rfl⟩ := ry
  obtain ⟨its, r, pl, hz⟩ := I.tuple hq
  obtain ⟨j, h1, h2, h3, h4, h5⟩ := L2.atI_get he
  obtain ⟨w, ew, rw'⟩ := r.get h2
  have hl := r.length
  have hn := line63
  exact getItem_tuple (j := j) pl (by omega) (by omega) (by rw [List.size_toArray, ← hl]; exact h1) (by simpa using ew) ⟨z, H, I, rw', q⟩
end
section
variable {K : PySem.W.Frag} {E : XK}
theorem get_list {X : Cx} (hK : X.K = K := by rfl) : PGet X (fun o i H Q => rIxL K o i H Q ∨ rIxT K o i H Q) := by
  subst hK
  intro pins s σ H o i ov iv Q I rx ry h
  rcases h with h | h
  · exact get_list0 pins s σ H o i ov iv Q I rx ry h
  · exact get_tup0 pins s σ H o i ov iv Q I rx ry h
theorem rs_augS {to ti te : TE} {da db dc : EV} {rp : TIp} {f : AV → AV → Sto → Res AV} (h : R2R K E rp f) (ha : RE K E to da) (hb : RE K E ti db) (hc : RE K E te dc) : RS K E (tAugS to ti te (fun o i H Q => rIxL K o i H Q ∨ rIxT K o i H Q) rp rSetL) (dAuS f da db dc) := by
  intro W S σ ρ D w r p
  unfold dAuS at p
  refine ha.stepS w r p fun ov o W1 S1 e1 w1 r1 v1 p1 => ?_
  refine hb.stepS w1 r1 p1 fun iv i W2 S2 e2 w2 r2 v2 p2 => ?_
  refine rr_ix (K := K) (E := E) W2 S2 ov iv o i _ w2 (e2.rv v1) v2 ?_
  cases e3 : fIx o i S2 with
  | no => rw [e3] at p2; exact p2.elim
  | ex C z T => rw [e3] at p2; exact p2
  | ok x S3 =>
    rw [e3] at p2
    intro xv W3 e3' w3 rx
    refine hc.stepS w3 (r2.ext e3') (p2.ext e3') fun yv y W4 S4 e4 w4 r4 v4 p4 => ?_
    refine h W4 S4 xv yv x y _ w4 (e4.rv rx) v4 ?_
    cases e5 : f x y S4 with
    | no => rw [e5] at p4; exact p4.elim
    | ex C z T => rw [e5] at p4; exact p4
    | ok z S5 =>
      rw [e5] at p4
      intro zv W5 e5' w5 rz
      simp only [out_ok] at p4
      cases e6 : fSet o i z S5 with
      | no => rw [e6] at p4; exact p4.elim
      | ex C y T => exact absurd e6 fSet_ex
      | ok u S6 =>
        rw [e6] at p4
        exact fSet_ok w5 ((e2.trans (e3'.trans (e4.trans e5'))).rv v1) ((e3'.trans (e4.trans e5')).rv v2) rz ⟨S6, e6, fun W6 e6' w6 => p4 σ W6 (e5'.trans e6') w6 (r4.ext (e5'.trans e6'))⟩
end
end My

namespace My
open PySem PySem.Spec L2 PyProof.Rows
open Classical
/-! ### xs.count(i), a list of ints -/
section
variable {K : PySem.W.Frag} {E : XK}
def fCount : AV → List AV → Sto → Res AV := fun o xs S => match xs with
  | [y] => (match asI y, (look S o).bind asInts with
    | some i, some ns => .ok (iA ((ns.count i : Nat) : Int)) S
    | _, _ => .no)
  | _ => .no
theorem mr_count : MRR K E (rCntI K) fCount := by
  intro W S o b x a Q w ro rx p
  unfold fCount at p
  split at p
  · rename_i y
    cases e1 : asI y with
    | none => simp only [e1] at p; exact p.elim
    | some i =>
      cases e2 : (look S b).bind asInts with
      | none => simp only [e1, e2] at p; exact p.elim
      | some ns =>
        simp only [e1, e2] at p
        obtain ⟨zs, e3, e4⟩ := Option.bind_eq_some_iff.mp e2
        obtain ⟨u, rfl, ru⟩ := rl1 rx
        obtain ⟨q, us, rfl, h3, h4⟩ := look_ok w ro e3
        have e5 := asInts_ok h4 e4
        subst e5
        have e6 := asI_ok ru e1
        subst e6
        exact ⟨q, ns, i, rfl, rfl, h3, post_val w p (.d (.int _))⟩
  · exact p.elim
theorem mt_countK {X : Cx} (hK : X.K = K := by rfl) : MtR X "list.count" (rCntI K) := by subst hK; exact mt_lcount
end
end My

namespace My
open PySem PySem.Spec L2
open Classical
abbrev isA (ns : List Int) : List AV := ns.map fun i => iA i
section
variable {ρ ρ1 : En} {S S1 S2 S3 : Sto} {x y z a b : AV} {xs ys zs : List AV} {da db dc : EV} {dl dr : LV} {i j : Int} {n : Nat} {f : AV → AV → Sto → Res AV}
/-! ### expressions, rule by rule -/
theorem v_var {k : Nat} (h : ρ[k]? = some (some x)) : eVar k ρ S = .ok x S := by unfold eVar; rw [h]
theorem v_k : eK x ρ S = .ok x S := rfl
theorem v_op (h1 : da ρ S = .ok x S1) (h2 : db ρ S1 = .ok y S2) (h3 : f x y S2 = .ok z S3) : eOp f da db ρ S = .ok z S3 := by unfold eOp; rw [h1, bind_ok, h2, bind_ok, h3]
theorem v_un {f : AV → Sto → Res AV} (h1 : da ρ S = .ok x S1) (h3 : f x S1 = .ok z S3) : eUn f da ρ S = .ok z S3 := by unfold eUn; rw [h1, bind_ok, h3]
theorem v_I {g : Int → Int → PyData} : fI g (iA i) (iA j) S = .ok (.d (g i j)) S := rfl
theorem v_IC {C : Int → Int → Prop} {g : Int → Int → PyData} (h : C i j) : fIC C g (iA i) (iA j) S = .ok (.d (g i j)) S := by
  unfold fIC; simp only [asI]; rw [if_pos h]
theorem v_U {g : Int → Int} : fU g (iA i) S = .ok (iA (g i)) S := rfl
theorem v_neg : fU (fun i => -i) (iA i) S = .ok (iA (-i)) S := rfl
theorem v_ix (h1 : look S a = some xs) (h2 : atI xs i = some x) : fIx a (iA i) S = .ok x S := by unfold fIx; simp only [h1, asI, h2]
theorem v_ixT (h1 : look S a = none) (h1' : lookT a = some xs) (h2 : atI xs i = some x) : fIx a (iA i) S = .ok x S := by unfold fIx; simp only [h1, h1', asI, h2]
theorem l_c (h : S[n]? = some (.lst xs)) : look S (.c n) = some xs := by unfold look; simp only [h]
theorem l_d {ds : List PyData} : look S (.d (.list ds)) = some (ds.map .d) := rfl
theorem l_r {ds : List PyData} : look S (.r (.list ds)) = some (ds.map rel) := rfl
theorem lT_d {ds : List PyData} : lookT (.d (.tuple ds)) = some (ds.map .d) := rfl
theorem lT_r {ds : List PyData} : lookT (.r (.tuple ds)) = some (ds.map rel) := rfl
theorem v_and1 (h1 : da ρ S = .ok (bA true) S1) (h2 : db ρ S1 = .ok z S2) : eAnd da db ρ S = .ok z S2 := by unfold eAnd; rw [h1, bind_ok]; exact h2
theorem v_and0 (h1 : da ρ S = .ok (bA false) S1) : eAnd da db ρ S = .ok (bA false) S1 := by unfold eAnd; rw [h1, bind_ok]; rfl
theorem v_or1 (h1 : da ρ S = .ok (bA true) S1) : eOr da db ρ S = .ok (bA true) S1 := by unfold eOr; rw [h1, bind_ok]; rfl
theorem v_or0 (h1 : da ρ S = .ok (bA false) S1) (h2 : db ρ S1 = .ok z S2) : eOr da db ρ S = .ok z S2 := by unfold eOr; rw [h1, bind_ok]; exact h2
theorem v_and {p q : Bool} (h1 : da ρ S = .ok (bA p) S) (h2 : db ρ S = .ok (bA q) S) : eAnd da db ρ S = .ok (bA (p && q)) S := by
  cases p with
  | true => exact v_and1 h1 h2
  | false => exact v_and0 h1
theorem v_not {p : Bool} (h1 : da ρ S = .ok (bA p) S1) : eNot da ρ S = .ok (bA !p) S1 := by unfold eNot; rw [h1, bind_ok]; rfl
theorem v_if {g : TV} {c : Bool} (h1 : g ρ S = .ok c S1) (h2 : (if c = true then da ρ S1 else db ρ S1) = .ok z S2) : eIf g da db ρ S = .ok z S2 := by unfold eIf; rw [h1, bind_ok]; exact h2
theorem t_b {c : Bool} (h1 : da ρ S = .ok (bA c) S1) : bE da ρ S = .ok c S1 := by unfold bE; rw [h1, bind_ok]; rfl
theorem t_and1 {g h : TV} {c : Bool} (h1 : g ρ S = .ok true S1) (h2 : h ρ S1 = .ok c S2) : bAnd g h ρ S = .ok c S2 := by unfold bAnd; rw [h1, bind_ok]; exact h2
theorem t_and0 {g h : TV} (h1 : g ρ S = .ok false S1) : bAnd g h ρ S = .ok false S1 := by unfold bAnd; rw [h1, bind_ok]; rfl
theorem t_and {g h : TV} {c e : Bool} (h1 : g ρ S = .ok c S) (h2 : c = true → h ρ S = .ok e S) : bAnd g h ρ S = .ok (c && e) S := by
  cases c with
  | true => exact t_and1 h1 (h2 rfl)
  | false => exact t_and0 h1
theorem t_or1 {g h : TV} (h1 : g ρ S = .ok true S1) : bOr g h ρ S = .ok true S1 := by unfold bOr; rw [h1, bind_ok]; rfl
theorem t_or0 {g h : TV} {c : Bool} (h1 : g ρ S = .ok false S1) (h2 : h ρ S1 = .ok c S2) : bOr g h ρ S = .ok c S2 := by unfold bOr; rw [h1, bind_ok]; exact h2
theorem t_or {g h : TV} {c e : Bool} (h1 : g ρ S = .ok c S) (h2 : c = false → h ρ S = .ok e S) : bOr g h ρ S = .ok (c || e) S := by
  cases c with
  | true => exact t_or1 h1
  | false => exact t_or0 h1 (h2 rfl)
theorem t_not {g : TV} {c : Bool} (h1 : g ρ S = .ok c S1) : bNot g ρ S = .ok (!c) S1 := by unfold bNot; rw [h1, bind_ok]
theorem t_tru (h1 : da ρ S = .ok x S1) (h2 : look S1 x = some xs) : bTru da ρ S = .ok (!xs.isEmpty) S1 := by unfold bTru; rw [h1, bind_ok]; simp only [h2]
theorem a_nil : aNil ρ S = .ok [] S := rfl
theorem a_cons (h1 : da ρ S = .ok x S1) (h2 : dl ρ S1 = .ok xs S2) : aCons da dl ρ S = .ok (x :: xs) S2 := by unfold aCons; rw [h1, bind_ok, h2, bind_ok]
theorem v_lst (h1 : dl ρ S = .ok xs S1) (h : xs.length ≤ 1000) : eLst dl ρ S = .ok (.c S1.length) (S1 ++ [.lst xs]) := by unfold eLst; rw [h1, bind_ok, if_pos h]; rfl
theorem v_tup (h1 : dl ρ S = .ok xs S1) (h : xs.length ≤ 1000) : eTup dl ρ S = .ok (mkT xs) S1 := by unfold eTup; rw [h1, bind_ok, if_pos h]
theorem v_cb {f : List AV → Sto → Res AV} (h1 : dl ρ S = .ok xs S1) (h2 : f xs S1 = .ok z S2) : eCB f dl ρ S = .ok z S2 := by unfold eCB; rw [h1, bind_ok, h2]
theorem v_call {f : List AV → Sto → Res AV} (h1 : dl ρ S = .ok xs S1) (h2 : f xs S1 = .ok z S2) : eCall f dl ρ S = .ok z S2 := by unfold eCall; rw [h1, bind_ok, h2]
theorem v_callN {f : List AV → Sto → Res AV} {n m : Nat} {g : List AV → List AV → List AV} {dk : LV} (h1 : dl ρ S = .ok xs S1) (h2 : dk ρ S1 = .ok ys S2) (hn : xs.length = n) (hm : ys.length = m) (h3 : f (g xs ys) S2 = .ok z S3) : eCallN f n m g dl dk ρ S = .ok z S3 := by
  unfold eCallN; rw [h1, bind_ok, h2, bind_ok, if_pos ⟨hn, hm⟩, h3]
theorem c_I {n : Nat} {den : List AV → Sto → Res AV} (hn : xs.length = n) (h : den xs S = .ok z S1) : fCallI n den xs S = .ok z S1 := by unfold fCallI; rw [if_pos hn, h]; rfl
/-- a call on data: what it gives, as data -/
def RunP (den : List AV → Sto → Res AV) (ds : List PyData) (d : PyData) : Prop := runP den ds = some d
theorem c_P {n : Nat} {den : List AV → Sto → Res AV} {ds : List PyData} {d : PyData} (hn : xs.length = n) (h : rbs (rb true 8 S) xs = some ds) (h2 : RunP den ds d) : fCallP n den xs S = .ok (.d d) S := by
  unfold fCallP; rw [if_pos hn, h]; simp only [show runP den ds = some d from h2]
theorem c_C {n : Nat} {den : List AV → Sto → Res AV} {ds es : List PyData} (hn : xs.length = n) (h : rbs (rb true 8 S) xs = some ds) (h2 : runC den ds = some es) : fCallC n den xs S = newL (es.map .d) S := by
  unfold fCallC; rw [if_pos hn, h]; simp only [h2]
theorem runP_of {den : List AV → Sto → Res AV} {ds : List PyData} {d : PyData} (h1 : den (ds.map rel) [] = .ok x S) (h2 : rb false 8 S x = some d) : RunP den ds d := by unfold RunP runP; rw [h1]; exact h2
theorem len_c (h : S[n]? = some (.lst xs)) : fLen [.c n] S = .ok (iA xs.length) S := by unfold fLen; simp only [l_c h]
theorem len_l (h : look S x = some xs) : fLen [x] S = .ok (iA xs.length) S := by unfold fLen; simp only [h]
theorem int_i : fInt [iA i] S = .ok (iA i) S := rfl
theorem int_b {c : Bool} : fInt [bA c] S = .ok (iA (if c = true then 1 else 0)) S := rfl
theorem abs_i : fAbs [iA i] S = .ok (iA (if i < 0 then -i else i)) S := rfl
theorem i2 {g : Int → Int → Int} : fI2 g [iA i, iA j] S = .ok (iA (g i j)) S := rfl
theorem set_c {k : Nat} (h : S[n]? = some (.lst xs)) (hk : ixN xs.length i = some k) : fSet (.c n) (iA i) x S = .ok () (S.set n (.lst (xs.set k x))) := by unfold fSet cellL; simp only [h, asI, hk]
theorem g_nm {k : Nat} : gnm k x ρ S = .ok (ρ.set k (some x)) S := rfl
theorem g_sb (h1 : da ρ S = .ok a S1) (h2 : db ρ S1 = .ok b S2) (h3 : fSet a b x S2 = .ok () S3) : gsb da db x ρ S = .ok ρ S3 := by unfold gsb; rw [h1, bind_ok, h2, bind_ok, h3, bind_ok]
theorem g_tp {k : Nat} {gs : GsV} (h : lookT x = some xs) (hk : xs.length = k) (h2 : gs xs ρ S = .ok ρ1 S1) : gtp k gs x ρ S = .ok ρ1 S1 := by unfold gtp; simp only [h]; rw [if_pos hk, h2]
theorem g_sC {g : GV} {gs : GsV} {ρ2 : En} (h1 : g x ρ S = .ok ρ1 S1) (h2 : gs xs ρ1 S1 = .ok ρ2 S2) : gsC g gs (x :: xs) ρ S = .ok ρ2 S2 := by show (g x ρ S).bind (fun ρ1 S1 => gs xs ρ1 S1) = _; rw [h1, bind_ok, h2]
theorem g_sN : gsN [] ρ S = .ok ρ S := rfl
theorem b_append {k : Nat} (h : S[k]? = some (.lst xs)) (hl : xs.length < 1000) : fAppend (.c k) [y] S = .ok nA (S.set k (.lst (xs ++ [y]))) := by unfold fAppend cellL; simp only [h]; rw [if_pos hl]
theorem v_bm {f : AV → List AV → Sto → Res AV} (h1 : da ρ S = .ok a S1) (h2 : look S1 a = some ys) (h3 : dl ρ S1 = .ok xs S2) (h4 : f a xs S2 = .ok z S3) : eBM f da dl ρ S = .ok z S3 := by unfold eBM; rw [h1, bind_ok]; simp only [h2]; rw [h3, bind_ok, h4]
theorem isN_n : fIsN false nA nA S = .ok (bA true) S := rfl
theorem v_isN {c : Bool} (h : isN x = some c) : fIsN false x nA S = .ok (bA c) S := by unfold fIsN; simp only [h]; rfl
theorem v_notN {c : Bool} (h : isN x = some c) : fIsN true x nA S = .ok (bA !c) S := by unfold fIsN; simp only [h]; rfl
/-! ### statements -/
def Wp (o : Out) (Q : Out → Prop) : Prop := Q o
def sqK (t : SV) (Q : Out → Prop) : Out → Prop
  | .nx ρ S => Wp (t ρ S) Q
  | o => Q o
variable {Q : Out → Prop} {s t : SV} {g : GV}
theorem w_seq (h : Wp (s ρ S) (sqK t Q)) : Wp (dSeq s t ρ S) Q := by
  unfold dSeq Wp
  have h : sqK t Q (s ρ S) := h
  cases e : s ρ S with
  | nx ρ1 S1 => rw [e] at h; exact h
  | _ => rw [e] at h; exact h
/-- a meeting point: I holds behind s -/
def sqI (I : En → Sto → Prop) (Q : Out → Prop) : Out → Prop
  | .nx ρ S => I ρ S
  | o => Q o
theorem w_mid (I : En → Sto → Prop) (h1 : Wp (s ρ S) (sqI I Q)) (h2 : ∀ ρ S, I ρ S → Wp (t ρ S) Q) : Wp (dSeq s t ρ S) Q := by
  refine w_seq ?_
  have h1 : sqI I Q (s ρ S) := h1
  show sqK t Q (s ρ S)
  cases e : s ρ S with
  | nx ρ1 S1 => rw [e] at h1; exact h2 ρ1 S1 h1
  | _ => rw [e] at h1; exact h1
theorem w_nxI {I : En → Sto → Prop} (h : I ρ S) : Wp (.nx ρ S) (sqI I Q) := h
theorem w_nx (h : Wp (t ρ S) Q) : Wp (.nx ρ S) (sqK t Q) := h
theorem w_rtS (h : Q (.rt x S)) : Wp (.rt x S) (sqK t Q) := h
theorem w_bkS (h : Q (.bk ρ S)) : Wp (.bk ρ S) (sqK t Q) := h
theorem w_dNx (h : Wp (.nx ρ S) Q) : Wp (dNx ρ S) Q := h
theorem w_dBk (h : Wp (.bk ρ S) Q) : Wp (dBk ρ S) Q := h
theorem w_as (h1 : da ρ S = .ok x S1) (h2 : g x ρ S1 = .ok ρ1 S2) (h : Wp (.nx ρ1 S2) Q) : Wp (dAs da g ρ S) Q := by
  unfold dAs; rw [h1, out_ok, h2]; exact h
theorem w_ex (h1 : da ρ S = .ok x S1) (h : Wp (.nx ρ S1) Q) : Wp (dEx da ρ S) Q := by unfold dEx; rw [h1]; exact h
theorem w_rt (h1 : da ρ S = .ok x S1) (h : Wp (.rt x S1) Q) : Wp (dRt da ρ S) Q := by unfold dRt; rw [h1]; exact h
theorem w_if {c : TV} {q : Bool} (h1 : c ρ S = .ok q S1) (ht : q = true → Wp (s ρ S1) Q) (hf : q = false → Wp (t ρ S1) Q) : Wp (dIf c s t ρ S) Q := by
  unfold dIf; rw [h1]
  cases q with
  | true => exact ht rfl
  | false => exact hf rfl
theorem w_au {k : Nat} (h0 : ρ[k]? = some (some x)) (h1 : da ρ S = .ok y S1) (h2 : f x y S1 = .ok z S2) (h : Wp (.nx (ρ.set k (some z)) S2) Q) : Wp (dAu k f da ρ S) Q := by
  unfold dAu; rw [v_var h0, out_ok, h1, out_ok, h2]; exact h
theorem w_fg {ks : List Nat} (h : Wp (s (wipeA ρ ks) S) Q) : Wp (dFg ks s ρ S) Q := h
/-- the end of a turn -/
def lpK (I : En → Sto → Prop) (Q : Out → Prop) : Out → Prop
  | .nx ρ S => I ρ S
  | .ct ρ S => I ρ S
  | .bk ρ S => Q (.nx ρ S)
  | o => Q o
theorem w_for {it : IV} {jt : ItA} {I : Nat → En → Sto → Prop} (n : Nat) (hn : n ≤ 100000) (hit : it ρ S = .ok jt S1) (h0 : I 0 ρ S1)
    (step : ∀ i ρ S, i < n → I i ρ S → ∃ x ρ1 S2, jt.at_ S i = some (some x) ∧ g x ρ S = .ok ρ1 S2 ∧ Wp (s ρ1 S2) (lpK (I (i + 1)) Q))
    (done : ∀ ρ S, I n ρ S → jt.at_ S n = some none ∧ Q (.nx ρ S)) : Wp (dFor it g s ρ S) Q := by
  unfold dFor
  rw [hit, out_ok]
  have go : ∀ (k i : Nat) (ρ : En) (S : Sto), i + k = n + 1 → i ≤ n → I i ρ S → ∀ m, k ≤ m → Wp (dLoop jt g s m i ρ S) Q := by
    intro k
    induction k with
    | zero => intro i ρ S h1 h2; omega
    | succ k ih =>
      intro i ρ S h1 h2 hI m hm
      cases m with
      | zero => omega
      | succ m =>
        unfold dLoop
        by_cases hi : i = n
        · subst hi
          obtain ⟨e, q⟩ := done ρ S hI
          rw [e]
          exact q
        · obtain ⟨x, ρ1, S2, e1, e2, e3⟩ := step i ρ S (by omega) hI
          simp only [e1, e2, out_ok]
          have e3 : lpK (I (i + 1)) Q (s ρ1 S2) := e3
          cases e4 : s ρ1 S2 with
          | nx ρ3 S3 => rw [e4] at e3; exact ih (i + 1) ρ3 S3 (by omega) (by omega) e3 m (by omega)
          | ct ρ3 S3 => rw [e4] at e3; exact ih (i + 1) ρ3 S3 (by omega) (by omega) e3 m (by omega)
          | bk ρ3 S3 => rw [e4] at e3; exact e3
          | rt x S3 => rw [e4] at e3; exact e3
          | ex C x S3 => rw [e4] at e3; exact e3
          | no => rw [e4] at e3; exact e3
  exact go (n + 1) 0 ρ S1 (by omega) (by omega) h0 bigN (by unfold bigN; omega)
def scK (ks : List Nat) (n : Nat) (Q : Out → Prop) : Out → Prop
  | .nx ρ S => closed n S ∧ envOk n (wipeA ρ ks) ∧ Q (.nx (wipeA ρ ks) (S.take n))
  | .ct ρ S => closed n S ∧ envOk n (wipeA ρ ks) ∧ Q (.ct (wipeA ρ ks) (S.take n))
  | o => Q o
theorem w_sc {ks : List Nat} (h : Wp (s ρ S) (scK ks S.length Q)) : Wp (dSc ks s ρ S) Q := by
  unfold dSc Wp
  have h : scK ks S.length Q (s ρ S) := h
  cases e : s ρ S with
  | nx ρ1 S1 => rw [e] at h; obtain ⟨h1, h2, h3⟩ := h; simp only; rw [if_pos ⟨h1, h2⟩]; exact h3
  | ct ρ1 S1 => rw [e] at h; obtain ⟨h1, h2, h3⟩ := h; simp only; rw [if_pos ⟨h1, h2⟩]; exact h3
  | bk ρ1 S1 => rw [e] at h; exact h
  | rt x S1 => rw [e] at h; exact h
  | ex C x S1 => rw [e] at h; exact h
  | no => rw [e] at h; exact h
/-- a while by a measure -/
theorem w_while {c : TV} (μ : En → Sto → Nat) {I : En → Sto → Prop} (h0 : I ρ S) (hb : μ ρ S ≤ 100000)
    (step : ∀ ρ S, I ρ S → ∃ q S1, c ρ S = .ok q S1 ∧ (q = true → Wp (s ρ S1) (lpK (fun ρ' S' => I ρ' S' ∧ μ ρ' S' < μ ρ S) Q)) ∧ (q = false → Q (.nx ρ S1))) : Wp (dWhile c s ρ S) Q := by
  unfold dWhile
  have go : ∀ (k : Nat) (ρ : En) (S : Sto), I ρ S → μ ρ S < k → Wp (dWh c s k ρ S) Q := by
    intro k
    induction k with
    | zero => intro ρ S _ h; omega
    | succ k ih =>
      intro ρ S hI hk
      obtain ⟨q, S1, e1, ht, hf⟩ := step ρ S hI
      unfold dWh
      rw [e1, out_ok]
      cases q with
      | false => exact hf rfl
      | true =>
        rw [if_pos rfl]
        have e3 : lpK _ Q (s ρ S1) := ht rfl
        cases e4 : s ρ S1 with
        | nx ρ3 S3 => rw [e4] at e3; exact ih ρ3 S3 e3.1 (by have := e3.2; omega)
        | ct ρ3 S3 => rw [e4] at e3; exact ih ρ3 S3 e3.1 (by have := e3.2; omega)
        | bk ρ3 S3 => rw [e4] at e3; exact e3
        | rt x S3 => rw [e4] at e3; exact e3
        | ex C x S3 => rw [e4] at e3; exact e3
        | no => rw [e4] at e3; exact e3
  exact go bigN ρ S h0 (by unfold bigN; omega)
/-! ### a def's result -/
def Ret (m : Res AV) (P : AV → Sto → Prop) : Prop := ∃ v T, m = .ok v T ∧ P v T
def rtK (P : AV → Sto → Prop) : Out → Prop
  | .rt v T => P v T
  | .nx _ T => P nA T
  | _ => False
theorem w_fn {n : Nat} {P : AV → Sto → Prop} (h : Wp (s (xs.map some ++ List.replicate (n - xs.length) none) S) (rtK P)) : Ret (fnD n s xs S) P := by
  unfold fnD
  have h : rtK P (s (xs.map some ++ List.replicate (n - xs.length) none) S) := h
  cases e : s (xs.map some ++ List.replicate (n - xs.length) none) S with
  | nx ρ T => rw [e] at h; exact ⟨_, _, rfl, h⟩
  | rt v T => rw [e] at h; exact ⟨_, _, rfl, h⟩
  | _ => rw [e] at h; exact h.elim
/-! ### comprehensions: T is the store without the new list -/
theorem v_lc {it : IV} {jt : ItA} {c : TV} {d : EV} {vs : List Nat} {I : Nat → List AV → Sto → Prop} (n : Nat) (hn : n ≤ 1000) (hit : it ρ S = .ok jt S1) (h0 : I 0 [] S1)
    (step : ∀ i acc T, i < n → acc.length ≤ i → T.length = S1.length → I i acc T → ∃ x ρ1, jt.at_ (T ++ [.lst acc]) i = some (some x) ∧ g x (wipeA ρ vs) (T ++ [.lst acc]) = .ok ρ1 (T ++ [.lst acc]) ∧
      ((c ρ1 (T ++ [.lst acc]) = .ok false (T ++ [.lst acc]) ∧ I (i + 1) acc T) ∨ (c ρ1 (T ++ [.lst acc]) = .ok true (T ++ [.lst acc]) ∧ ∃ y T', d ρ1 (T ++ [.lst acc]) = .ok y (T' ++ [.lst acc]) ∧ T'.length = S1.length ∧ I (i + 1) (acc ++ [y]) T')))
    (done : ∀ acc T, acc.length ≤ n → T.length = S1.length → I n acc T → jt.at_ (T ++ [.lst acc]) n = some none) :
    ∃ acc T, eLc it g c d vs ρ S = .ok (.c S1.length) (T ++ [.lst acc]) ∧ acc.length ≤ n ∧ T.length = S1.length ∧ I n acc T := by
  unfold eLc
  rw [hit, bind_ok]
  have go : ∀ (k i : Nat) (acc : List AV) (T : Sto), i + k = n + 1 → i ≤ n → acc.length ≤ i → T.length = S1.length → I i acc T → ∀ m, k ≤ m →
      ∃ acc' T', lcL jt g c d S1.length (wipeA ρ vs) m i (T ++ [.lst acc]) = .ok (.c S1.length) (T' ++ [.lst acc']) ∧ acc'.length ≤ n ∧ T'.length = S1.length ∧ I n acc' T' := by
    intro k
    induction k with
    | zero => intro i acc T h1 h2; omega
    | succ k ih =>
      intro i acc T h1 h2 hl hT hI m hm
      cases m with
      | zero => omega
      | succ m =>
        unfold lcL
        by_cases hi : i = n
        · subst hi
          rw [done acc T hl hT hI]
          exact ⟨acc, T, rfl, hl, hT, hI⟩
        · obtain ⟨x, ρ1, e1, e2, e3⟩ := step i acc T (by omega) hl hT hI
          simp only [e1, e2, bind_ok]
          rcases e3 with ⟨e3, e4⟩ | ⟨e3, y, T', e4, e5, e6⟩
          · simp only [e3, bind_ok, Bool.false_eq_true, if_false]
            exact ih (i + 1) acc T (by omega) (by omega) (by omega) hT e4 m (by omega)
          · simp only [e3, bind_ok, if_true, e4]
            have hg : (T' ++ [OC.lst acc])[S1.length]? = some (.lst acc) := by rw [← e5]; simp
            simp only [hg]
            rw [if_pos (by omega)]
            have hs : (T' ++ [OC.lst acc]).set S1.length (.lst (acc ++ [y])) = T' ++ [.lst (acc ++ [y])] := by rw [← e5]; simp
            rw [hs]
            exact ih (i + 1) (acc ++ [y]) T' (by omega) (by omega) (by simp; omega) e5 e6 m (by omega)
  exact go (n + 1) 0 [] S1 (by omega) (by omega) (by simp) rfl h0 bigN (by unfold bigN; omega)
end
/-! ### small facts -/
theorem get_set {S : Sto} {n : Nat} {o : OC} (x : OC) (h : S[n]? = some o) : (S.set n x)[n]? = some x := by
  rw [List.getElem?_set_self (List.getElem?_eq_some_iff.mp h).1]
theorem at0 {α : Type} {x : α} {r : List α} : atI (x :: r) 0 = some x := atI_nat (j := 0) rfl
theorem at1 {α : Type} {x y : α} {r : List α} : atI (x :: y :: r) 1 = some y := atI_nat (j := 1) rfl
theorem at2 {α : Type} {x y z : α} {r : List α} : atI (x :: y :: z :: r) 2 = some z := atI_nat (j := 2) rfl
theorem at3 {α : Type} {x y z u : α} {r : List α} : atI (x :: y :: z :: u :: r) 3 = some u := atI_nat (j := 3) rfl
theorem ix0 {n : Nat} : ixN (n + 1) 0 = some 0 := ixN_ok (k := 0) (by omega)
theorem ix1 {n : Nat} : ixN (n + 1 + 1) 1 = some 1 := ixN_ok (k := 1) (by omega)
theorem ix2 {n : Nat} : ixN (n + 1 + 1 + 1) 2 = some 2 := ixN_ok (k := 2) (by omega)
theorem ix3 {n : Nat} : ixN (n + 1 + 1 + 1 + 1) 3 = some 3 := ixN_ok (k := 3) (by omega)
theorem atI_isA {ns : List Int} {k : Nat} {i : Int} (e : i = (k : Int)) (h : k < ns.length) : atI (isA ns) i = some (iA (ns.getD k 0)) := by
  subst e
  refine atI_nat ?_
  rw [List.getElem?_map, List.getElem?_eq_getElem h, List.getD_eq_getElem?_getD, List.getElem?_eq_getElem h]
  rfl
theorem atI_ints {ns : List Int} {i : Int} (h0 : 0 ≤ i) (h : i < (ns.length : Int)) : atI (isA ns) i = some (iA (ns.getD i.toNat 0)) := atI_isA (k := i.toNat) (by omega) (by omega)
theorem atI_any {xs : List AV} {i : Int} (h0 : 0 ≤ i) (h : i < (xs.length : Int)) : atI xs i = some (xs.getD i.toNat nA) := by
  have hk : i.toNat < xs.length := by omega
  have : atI xs ((i.toNat : Nat) : Int) = some (xs.getD i.toNat nA) := atI_nat (by rw [List.getElem?_eq_getElem hk, List.getD_eq_getElem?_getD, List.getElem?_eq_getElem hk]; rfl)
  rwa [show ((i.toNat : Nat) : Int) = i by omega] at this
theorem atI_last {xs : List AV} {x : AV} : atI (xs ++ [x]) (-1) = some x := by
  have e : ((-1 : Int) + ((xs ++ [x]).length : Int)).toNat = xs.length := by
    rw [List.length_append]
    simp
    omega
  unfold atI ixN
  rw [if_neg (by decide), if_pos (by rw [List.length_append]; simp; omega)]
  show (xs ++ [x])[((-1 : Int) + ((xs ++ [x]).length : Int)).toNat]? = some x
  rw [e]
  simp
end My

namespace My
open PySem PySem.Spec L2
open Classical
/-! ### the program run by rewriting -/
def getR (o : Option (Option AV)) (S : Sto) : Res AV := match o with
  | some (some x) => .ok x S
  | _ => .no
section
variable {ρ ρ1 : En} {S S1 T : Sto} {x y z a b : AV} {xs ys : List AV} {da db dc dd : EV} {dl dr : LV} {i j : Int} {n k : Nat} {f : AV → AV → Sto → Res AV} {g h : TV} {s t : SV} {gt : GV} {gs : GsV} {Q : Out → Prop} {C : Addr} {ks : List Nat}
theorem x_get1 : getR (some (some x)) S = .ok x S := rfl
theorem x_var : eVar k ρ S = getR ρ[k]? S := by
  show (match ρ[k]? with | some (some x) => Res.ok x S | _ => Res.no) = _
  cases ρ[k]? with
  | none => rfl
  | some o => cases o <;> rfl
theorem x_bok {α β : Type} {a : α} {k : α → Sto → Res β} : (Res.ok a S).bind k = k a S := rfl
theorem x_bex {α β : Type} {k : α → Sto → Res β} : (Res.ex C x S : Res α).bind k = .ex C x S := rfl
theorem x_ook {α : Type} {a : α} {k : α → Sto → Out} : (Res.ok a S).out k = k a S := rfl
theorem x_oex {α : Type} {k : α → Sto → Out} : (Res.ex C x S : Res α).out k = .ex C x S := rfl
theorem x_k : eK x ρ S = .ok x S := rfl
theorem x_op : eOp f da db ρ S = (da ρ S).bind fun x S1 => (db ρ S1).bind fun y S2 => f x y S2 := rfl
theorem x_un {f : AV → Sto → Res AV} : eUn f da ρ S = (da ρ S).bind f := rfl
theorem x_fI {g : Int → Int → PyData} : fI g (.d (.int i)) (.d (.int j)) S = .ok (.d (g i j)) S := rfl
theorem x_fIC {C : Int → Int → Prop} {g : Int → Int → PyData} : fIC C g (.d (.int i)) (.d (.int j)) S = if C i j then .ok (.d (g i j)) S else .no := rfl
theorem x_fU {g : Int → Int} : fU g (.d (.int i)) S = .ok (.d (.int (g i))) S := rfl
/-! values -/
theorem asI_i : asI (.d (.int i)) = some i := rfl
theorem asB_b {c : Bool} : asB (.d (.bool c)) = some c := rfl
def lookO : Option OC → Option (List AV)
  | some (.lst xs) => some xs
  | _ => none
theorem x_lookc : look S (.c n) = lookO S[n]? := by
  show (match S[n]? with | some (.lst xs) => some xs | _ => none) = _
  cases S[n]? with
  | none => rfl
  | some o => cases o <;> rfl
theorem x_lookO : lookO (some (.lst xs)) = some xs := rfl
theorem x_lookd {ds : List PyData} : look S (.d (.list ds)) = some (ds.map .d) := rfl
theorem x_lookr {ds : List PyData} : look S (.r (.list ds)) = some (ds.map rel) := rfl
theorem x_lookdt {ds : List PyData} : look S (.d (.tuple ds)) = none := rfl
theorem x_lookrt {ds : List PyData} : look S (.r (.tuple ds)) = none := rfl
theorem x_lookt : look S (.t xs) = none := rfl
theorem x_lookTd {ds : List PyData} : lookT (.d (.tuple ds)) = some (ds.map .d) := rfl
theorem x_lookTr {ds : List PyData} : lookT (.r (.tuple ds)) = some (ds.map rel) := rfl
theorem x_lookTt : lookT (.t xs) = some xs := rfl
theorem x_cellL : cellL S (.c n) = lookO S[n]? := by
  show (match S[n]? with | some (.lst xs) => some xs | _ => none) = _
  cases S[n]? with
  | none => rfl
  | some o => cases o <;> rfl
theorem x_relInt {ns : List Int} : (ns.map PyData.int).map rel = isA ns := by rw [List.map_map]; rfl
theorem x_relInts {ns : List Int} : (ns.map fun i => PyData.int i).map rel = isA ns := by rw [List.map_map]; rfl
theorem x_dInt {ns : List Int} : (ns.map PyData.int).map AV.d = isA ns := by rw [List.map_map]; rfl
theorem x_isALen {ns : List Int} : (ns.map fun i => iA i).length = ns.length := List.length_map _
theorem rel_int : rel (.int i) = .d (.int i) := rfl
theorem rel_bool {c : Bool} : rel (.bool c) = .d (.bool c) := rfl
theorem rel_none : rel .none = .d .none := rfl
theorem rel_str {u : Str} : rel (.str u) = .d (.str u) := rfl
theorem rel_list {ds : List PyData} : rel (.list ds) = .r (.list ds) := rfl
theorem rel_tup {ds : List PyData} : rel (.tuple ds) = .r (.tuple ds) := rfl
/-! subscripts: i is an item's place -/
theorem x_ix : fIx a (.d (.int i)) S = match (match look S a with | some xs => some xs | none => lookT a) with
    | some xs => (match atI xs i with | some x => .ok x S | none => .no)
    | none => .no := by
  unfold fIx
  simp only [asI]
  cases look S a with
  | some v => rfl
  | none => cases lookT a <;> rfl
theorem x_at0 {α : Type} {x : α} {r : List α} : atI (x :: r) 0 = some x := at0
theorem x_at1 {α : Type} {x y : α} {r : List α} : atI (x :: y :: r) 1 = some y := at1
theorem x_at2 {α : Type} {x y z : α} {r : List α} : atI (x :: y :: z :: r) 2 = some z := at2
theorem x_at3 {α : Type} {x y z u : α} {r : List α} : atI (x :: y :: z :: u :: r) 3 = some u := at3
theorem x_atL {x : AV} : atI (xs ++ [x]) (-1) = some x := atI_last
theorem x_atI {ns : List Int} (h0 : 0 ≤ i) (h : i < (ns.length : Int)) : atI (ns.map fun i => iA i) i = some (.d (.int (ns.getD i.toNat 0))) := atI_ints h0 h
theorem atI_map {α : Type} {l : List α} {F : α → AV} {i : Int} (h0 : 0 ≤ i) (h : i.toNat < l.length) : atI (l.map F) i = some (F l[i.toNat]) := by
  have : atI (l.map F) ((i.toNat : Nat) : Int) = some (F l[i.toNat]) := atI_nat (by rw [List.getElem?_map, List.getElem?_eq_getElem h]; rfl)
  rwa [show ((i.toNat : Nat) : Int) = i by omega] at this
theorem x_atN {l : List AV} {k : Nat} {x : AV} (h : l[k]? = some x) : atI l (k : Int) = some x := atI_nat h
/-! and, or, not, if -/
theorem x_and : eAnd da db ρ S = (da ρ S).bind fun x S1 => match asB x with
  | some true => db ρ S1
  | some false => .ok (bA false) S1
  | none => .no := rfl
theorem x_or : eOr da db ρ S = (da ρ S).bind fun x S1 => match asB x with
  | some true => .ok (bA true) S1
  | some false => db ρ S1
  | none => .no := rfl
theorem x_not : eNot da ρ S = (da ρ S).bind fun x S1 => match asB x with
  | some b => .ok (bA !b) S1
  | none => .no := rfl
theorem x_eif : eIf g da db ρ S = (g ρ S).bind fun b S1 => if b = true then da ρ S1 else db ρ S1 := rfl
theorem x_bE : bE da ρ S = (da ρ S).bind fun x S1 => match asB x with
  | some b => .ok b S1
  | none => .no := rfl
theorem x_bAnd : bAnd g h ρ S = (g ρ S).bind fun b S1 => if b = true then h ρ S1 else .ok false S1 := rfl
theorem x_bOr : bOr g h ρ S = (g ρ S).bind fun b S1 => if b = true then .ok true S1 else h ρ S1 := rfl
theorem x_bNot : bNot g ρ S = (g ρ S).bind fun b S1 => .ok (!b) S1 := rfl
theorem x_bTru : bTru da ρ S = (da ρ S).bind fun x S1 => match look S1 x with
  | some xs => .ok (!xs.isEmpty) S1
  | none => .no := rfl
theorem x_bYes : bYes ρ S = .ok true S := rfl
theorem x_iteOk {α : Type} {p : Prop} [Decidable p] {u v : α} : (if p then Res.ok u S else Res.ok v S) = .ok (if p then u else v) S := by split <;> rfl
theorem x_iteD {p : Prop} [Decidable p] {u v : PyData} : (if p then AV.d u else AV.d v) = .d (if p then u else v) := by split <;> rfl
theorem x_iteI {p : Prop} [Decidable p] {u v : Int} : (if p then PyData.int u else .int v) = .int (if p then u else v) := by split <;> rfl
theorem x_iteB {p : Prop} [Decidable p] {u v : Bool} : (if p then PyData.bool u else .bool v) = .bool (if p then u else v) := by split <;> rfl
theorem x_iteT {c v : Bool} : (if c = true then true else v) = (c || v) := by cases c <;> rfl
theorem x_iteF {c v : Bool} : (if c = true then v else false) = (c && v) := by cases c <;> rfl
theorem x_iteTp {p : Prop} [Decidable p] {v : Bool} : (if p then true else v) = (decide p || v) := by by_cases h : p <;> simp [h]
theorem x_iteFp {p : Prop} [Decidable p] {v : Bool} : (if p then v else false) = (decide p && v) := by by_cases h : p <;> simp [h]
/-! lists of arguments, new lists and tuples -/
theorem x_aNil : aNil ρ S = .ok [] S := rfl
theorem x_aCons : aCons da dl ρ S = (da ρ S).bind fun x S1 => (dl ρ S1).bind fun xs S2 => .ok (x :: xs) S2 := rfl
theorem x_lst : eLst dl ρ S = (dl ρ S).bind fun xs S1 => if xs.length ≤ 1000 then newL xs S1 else .no := rfl
theorem x_tup : eTup dl ρ S = (dl ρ S).bind fun xs S1 => if xs.length ≤ 1000 then .ok (mkT xs) S1 else .no := rfl
theorem x_newL : newL xs S = .ok (.c S.length) (S ++ [.lst xs]) := rfl
theorem x_mkT0 : mkT [] = .d (.tuple []) := rfl
theorem x_mkT1 {a : PyData} : mkT [.d a] = .d (.tuple [a]) := rfl
theorem x_mkT2 {a b : PyData} : mkT [.d a, .d b] = .d (.tuple [a, b]) := rfl
theorem x_mkT3 {a b c : PyData} : mkT [.d a, .d b, .d c] = .d (.tuple [a, b, c]) := rfl
theorem x_mkT4 {a b c d : PyData} : mkT [.d a, .d b, .d c, .d d] = .d (.tuple [a, b, c, d]) := rfl
theorem x_cb {f : List AV → Sto → Res AV} : eCB f dl ρ S = (dl ρ S).bind f := rfl
theorem x_call {f : List AV → Sto → Res AV} : eCall f dl ρ S = (dl ρ S).bind f := rfl
theorem x_callN {f : List AV → Sto → Res AV} {n m : Nat} {g : List AV → List AV → List AV} {dk : LV} : eCallN f n m g dl dk ρ S = (dl ρ S).bind fun xs S1 => (dk ρ S1).bind fun ys S2 => if xs.length = n ∧ ys.length = m then f (g xs ys) S2 else .no := rfl
theorem x_ck {f : List AV → List AV → Sto → Res AV} {dk : LV} : eCK f dl dk ρ S = (dl ρ S).bind fun xs S1 => (dk ρ S1).bind fun ys S2 => f xs ys S2 := rfl
theorem x_bm {f : AV → List AV → Sto → Res AV} : eBM f da dl ρ S = (da ρ S).bind fun o S1 => match look S1 o with
  | some _ => (dl ρ S1).bind fun xs S2 => f o xs S2
  | none => .no := rfl
theorem x_callI {den : List AV → Sto → Res AV} : fCallI n den xs S = if xs.length = n then noX (den xs S) else .no := rfl
theorem x_noX {α : Type} {a : α} : noX (.ok a S) = .ok a S := rfl
def callPK (den : List AV → Sto → Res AV) (S : Sto) : Option (List PyData) → Res AV
  | some ds => (match runP den ds with
    | some x => .ok (.d x) S
    | none => .no)
  | none => .no
theorem x_callP {den : List AV → Sto → Res AV} : fCallP n den xs S = if xs.length = n then callPK den S (rbs (rb true 8 S) xs) else .no := by
  unfold fCallP callPK
  split
  · cases rbs (rb true 8 S) xs <;> rfl
  · rfl
theorem x_callPK {den : List AV → Sto → Res AV} {ds : List PyData} : callPK den S (some ds) = match runP den ds with
    | some x => .ok (.d x) S
    | none => .no := rfl
def callCK (den : List AV → Sto → Res AV) (S : Sto) : Option (List PyData) → Res AV
  | some ds => (match runC den ds with
    | some ys => newL (ys.map .d) S
    | none => (match runP den ds with
      | some x => .ok (.d x) S
      | none => .no))
  | none => .no
theorem x_callC {den : List AV → Sto → Res AV} : fCallC n den xs S = if xs.length = n then callCK den S (rbs (rb true 8 S) xs) else .no := by
  unfold fCallC callCK
  split
  · cases rbs (rb true 8 S) xs <;> rfl
  · rfl
theorem x_callCK {den : List AV → Sto → Res AV} {ds : List PyData} : callCK den S (some ds) = match runC den ds with
    | some ys => newL (ys.map .d) S
    | none => (match runP den ds with
      | some x => .ok (.d x) S
      | none => .no) := rfl
/-! reading as data -/
def rbsK : Option PyData → Option (List PyData) → Option (List PyData)
  | some d, some ds => some (d :: ds)
  | _, _ => none
theorem x_rbs0 {F : AV → Option PyData} : rbs F [] = some [] := rfl
theorem x_rbs1 {F : AV → Option PyData} : rbs F (x :: xs) = rbsK (F x) (rbs F xs) := by
  show (match F x, rbs F xs with | some d, some ds => some (d :: ds) | _, _ => none) = _
  cases F x <;> cases rbs F xs <;> rfl
theorem x_rbsK {d : PyData} {ds : List PyData} : rbsK (some d) (some ds) = some (d :: ds) := rfl
theorem x_rbd {al : Bool} {d : PyData} : rb al k S (.d d) = some d := by cases k <;> rfl
theorem x_rbr {d : PyData} : rb true k S (.r d) = some d := by cases k <;> rfl
theorem x_allD {F : AV → Option PyData} (h : ∀ d, F (.d d) = some d) : ∀ {xs : List AV} {ds : List PyData}, allD xs = some ds → rbs F xs = some ds
  | [], _, e => e
  | .d d :: r, ds, e => by
    unfold allD at e
    cases q : allD r with
    | none => rw [q] at e; cases e
    | some es =>
      rw [q] at e
      cases e
      rw [x_rbs1, h, x_allD h q]; rfl
  | .r _ :: _, _, e => by cases e
  | .c _ :: _, _, e => by cases e
  | .g _ :: _, _, e => by cases e
  | .t _ :: _, _, e => by cases e
def rbLK (al : Bool) (k : Nat) (S : Sto) (xs : List AV) : Option (List PyData) → Option PyData
  | some ds => some (.list ds)
  | none => (rbs (rb al k S) xs).map .list
def rbCK (al : Bool) (k : Nat) (S : Sto) : Option OC → Option PyData
  | some (.lst xs) => rbLK al k S xs (allD xs)
  | _ => none
theorem x_rbc {al : Bool} : rb al (k + 1) S (.c n) = rbCK al k S S[n]? := by
  show (match S[n]? with | some (.lst xs) => (rbs (rb al k S) xs).map PyData.list | _ => none) = _
  cases e : S[n]? with
  | none => rfl
  | some oc =>
    cases oc with
    | lst xs =>
      show _ = rbLK al k S xs (allD xs)
      unfold rbLK
      cases q : allD xs with
      | none => rfl
      | some ds => simp only; rw [x_allD (fun d => x_rbd) q]; rfl
    | _ => rfl
theorem x_rbCK {al : Bool} : rbCK al k S (some (.lst xs)) = rbLK al k S xs (allD xs) := rfl
theorem x_rbLK1 {al : Bool} {ds : List PyData} : rbLK al k S xs (some ds) = some (.list ds) := rfl
theorem x_rbLK0 {al : Bool} : rbLK al k S xs none = (rbs (rb al k S) xs).map .list := rfl
theorem x_rbt {al : Bool} : rb al (k + 1) S (.t xs) = (rbs (rb al k S) xs).map .tuple := rfl
/-! what holds data alone -/
theorem x_allD0 : allD [] = some [] := rfl
theorem x_allD1 {d : PyData} : allD (.d d :: xs) = (allD xs).map (d :: ·) := rfl
theorem x_allDc : allD (.c n :: xs) = none := rfl
theorem x_allDm {α : Type} {F : α → PyData} {l : List α} : allD (l.map fun z => .d (F z)) = some (l.map F) := by
  induction l with
  | nil => rfl
  | cons a r ih => rw [List.map_cons, x_allD1, ih]; rfl
theorem x_allDm' {ds : List PyData} : allD (ds.map .d) = some ds := by
  induction ds with
  | nil => rfl
  | cons a r ih => rw [List.map_cons, x_allD1, ih]; rfl
theorem x_allDa : allD (xs ++ ys) = (allD xs).bind fun a => (allD ys).map (a ++ ·) := by
  induction xs with
  | nil => show allD ys = (allD ys).map fun a => [] ++ a; cases allD ys <;> rfl
  | cons a r ih =>
    cases a with
    | d d =>
      rw [List.cons_append, x_allD1, x_allD1, ih]
      cases allD r with
      | none => rfl
      | some u => cases allD ys <;> rfl
    | _ => rfl
/-! nothing points to what is new -/
theorem x_closed : closed n T = ∀ oc ∈ T.take n, ocOk n oc := rfl
theorem x_ocL : ocOk n (.lst xs) = ∀ x ∈ xs, refOk n x := rfl
theorem x_ocM {α : Type} {F : α → PyData} {l : List α} : ocOk n (.lst (l.map fun z => .d (F z))) = True := by
  refine eq_true fun x hx => ?_
  obtain ⟨_, _, rfl⟩ := List.mem_map.mp hx
  trivial
theorem x_ocM' {ds : List PyData} : ocOk n (.lst (ds.map .d)) = True := by
  refine eq_true fun x hx => ?_
  obtain ⟨_, _, rfl⟩ := List.mem_map.mp hx
  trivial
theorem ocOk_app : ocOk n (.lst (xs ++ ys)) = (ocOk n (.lst xs) ∧ ocOk n (.lst ys)) := by
  refine propext ⟨fun h => ⟨fun x hx => h x (List.mem_append_left _ hx), fun x hx => h x (List.mem_append_right _ hx)⟩, fun h x hx => ?_⟩
  rcases List.mem_append.mp hx with hx | hx
  · exact h.1 x hx
  · exact h.2 x hx
theorem ocOk_cons : ocOk n (.lst (x :: xs)) = (refOk n x ∧ ocOk n (.lst xs)) := propext List.forall_mem_cons
theorem x_ocA : ocOk n (.lst (xs ++ ys)) = (ocOk n (.lst xs) ∧ ocOk n (.lst ys)) := ocOk_app
theorem x_ocC : ocOk n (.lst (x :: xs)) = (refOk n x ∧ ocOk n (.lst xs)) := ocOk_cons
theorem x_oc0 : ocOk n (.lst []) = True := eq_true fun x hx => nomatch hx
theorem x_ocO {gs : List (Str × AV)} : ocOk n (.obj C gs) = ∀ p ∈ gs, refOk n p.2 := rfl
theorem x_rfd {d : PyData} : refOk n (.d d) = True := rfl
theorem x_rfr {d : PyData} : refOk n (.r d) = True := rfl
theorem x_rfg {v : V} : refOk n (.g v) = True := rfl
theorem x_rfc : refOk n (.c k) = (k < n) := rfl
theorem x_env0 : envOk n [] = True := eq_true fun x hx => nomatch hx
theorem x_envN : envOk n (none :: ρ) = envOk n ρ := propext ⟨fun h x hx => h x (List.mem_cons_of_mem _ hx), fun h x hx => by
  rcases List.mem_cons.mp hx with e | hx
  · cases e
  · exact h x hx⟩
theorem x_envS : envOk n (some x :: ρ) = (refOk n x ∧ envOk n ρ) := propext ⟨fun h => ⟨h x List.mem_cons_self, fun z hz => h z (List.mem_cons_of_mem _ hz)⟩, fun h z hz => by
  rcases List.mem_cons.mp hz with e | hz
  · cases e; exact h.1
  · exact h.2 z hz⟩
theorem x_wipe0 : wipeA ρ [] = ρ := rfl
theorem x_wipe1 : wipeA ρ (k :: ks) = (wipeA ρ ks).set k none := rfl
noncomputable def fzK (n : Nat) (m : Res AV) : Res AV := match m with
  | .ok x T => if closed n T ∧ n ≤ T.length then (match frzR n x T with
    | some y => .ok y (T.take n)
    | none => .no) else .no
  | o => o
theorem x_fz : eFz da ρ S = fzK S.length (da ρ S) := rfl
theorem x_fzK : fzK n (.ok x T) = if closed n T ∧ n ≤ T.length then (match frzR n x T with
    | some y => .ok y (T.take n)
    | none => .no) else .no := rfl
theorem x_frd {d : PyData} : frzR n (.d d) T = some (.d d) := rfl
theorem x_frr {d : PyData} : frzR n (.r d) T = some (.r d) := rfl
theorem x_frc : frzR n (.c k) T = match rb false 8 (newS n T) (.c k) with
    | some d => some (.d d)
    | none => (rb true 8 (newS n T) (.c k)).map .r := rfl
theorem x_newS (h : n ≤ k) : (newS n T)[k]? = T[k]? := by
  unfold newS
  rw [List.getElem?_append_right (by simpa using h), List.length_replicate, List.getElem?_drop]
  congr 1
  omega
noncomputable def gcK (n : Nat) (m : Res AV) : Res AV := match m with
  | .ok x T => gcR n x T
  | o => o
theorem x_gc : eGc da ρ S = gcK S.length (da ρ S) := rfl
theorem x_gcK : gcK n (.ok x T) = gcR n x T := rfl
theorem x_gcd {d : PyData} : gcR n (.d d) T = if closed n T then .ok (.d d) (T.take n) else .no := rfl
theorem x_gcr {d : PyData} : gcR n (.r d) T = if closed n T then .ok (.r d) (T.take n) else .no := rfl
theorem x_gcc : gcR n (.c k) T = if k < n then (if closed n T then .ok (.c k) (T.take n) else .no) else (match T[k]? with
    | some oc => if closed n T ∧ ocOk n oc ∧ n ≤ T.length then .ok (.c n) (T.take n ++ [oc]) else .no
    | none => .no) := rfl
noncomputable def bgK (n : Nat) (m : Res Bool) : Res Bool := match m with
  | .ok b T => if closed n T then .ok b (T.take n) else .no
  | o => o
theorem x_bgc : bGc g ρ S = bgK S.length (g ρ S) := rfl
theorem x_bgK {c : Bool} : bgK n (.ok c T) = if closed n T then .ok c (T.take n) else .no := rfl
/-! built-ins -/
theorem x_len : fLen [x] S = match (match look S x with | some ys => some ys | none => lookT x) with
    | some ys => .ok (iA ys.length) S
    | none => .no := rfl
theorem x_list : fList [x] S = match (match look S x with | some ys => some ys | none => lookT x) with
    | some ys => newL ys S
    | none => .no := rfl
theorem x_int : fInt [.d (.int i)] S = .ok (.d (.int i)) S := rfl
theorem x_intb {c : Bool} : fInt [.d (.bool c)] S = .ok (.d (.int (if c = true then 1 else 0))) S := rfl
theorem x_abs : fAbs [.d (.int i)] S = .ok (.d (.int (if i < 0 then -i else i))) S := rfl
theorem x_i2 {g : Int → Int → Int} : fI2 g [.d (.int i), .d (.int j)] S = .ok (.d (.int (g i j))) S := rfl
theorem x_ints {f : List Int → Option PyData} : fInts f [x] S = match (look S x).bind asInts with
    | some ns => (match f ns with
      | some d => .ok (.d d) S
      | none => .no)
    | none => .no := rfl
theorem x_asInts {ns : List Int} : asInts (ns.map fun i => iA i) = some ns := asInts_map ns
theorem x_asInts0 : asInts [] = some [] := rfl
theorem x_asInts1 : asInts (.d (.int i) :: xs) = (asInts xs).map (i :: ·) := by
  show (match asI (.d (.int i)), asInts xs with | some i, some is => some (i :: is) | _, _ => none) = _
  cases asInts xs <;> rfl
theorem x_bools {f : List Bool → Bool} : fBools f [x] S = match (look S x).bind asBools with
    | some ns => .ok (bA (f ns)) S
    | none => .no := rfl
theorem x_asBools {ns : List Bool} : asBools (ns.map fun i => bA i) = some ns := asBools_map ns
theorem x_append : fAppend (.c k) [y] S = match lookO S[k]? with
    | some ys => if ys.length < 1000 then .ok nA (S.set k (.lst (ys ++ [y]))) else .no
    | none => .no := by
  unfold fAppend
  simp only [x_cellL]; cases lookO S[k]? <;> rfl
theorem x_pop : fPop (.c k) [] S = match lookO S[k]? with
    | some ys => (match ys[ys.length - 1]? with
      | some y => .ok y (S.set k (.lst ys.dropLast))
      | none => .no)
    | none => .no := by
  unfold fPop
  simp only [x_cellL]; cases lookO S[k]? <;> rfl
theorem x_isN : fIsN false x (.d .none) S = match isN x with
    | some c => .ok (bA c) S
    | none => .no := by unfold fIsN; cases isN x <;> rfl
theorem x_notN : fIsN true x (.d .none) S = match isN x with
    | some c => .ok (bA !c) S
    | none => .no := by unfold fIsN; cases isN x <;> rfl
theorem isN_n' : isN (.d .none) = some true := rfl
theorem isN_i : isN (.d (.int i)) = some false := rfl
theorem isN_b {c : Bool} : isN (.d (.bool c)) = some false := rfl
theorem isN_l {ds : List PyData} : isN (.d (.list ds)) = some false := rfl
theorem isN_t {ds : List PyData} : isN (.d (.tuple ds)) = some false := rfl
theorem isN_rl {ds : List PyData} : isN (.r (.list ds)) = some false := rfl
theorem isN_c : isN (.c k) = some false := rfl
theorem x_isB : fIsB false (.d (.bool true)) (.d (.bool true)) S = .ok (bA true) S := rfl
theorem x_rg1 : eRg1 da ρ S = (da ρ S).bind fun x S1 => match asI x with
  | some n => if rgOk 0 n then newL (rgA 0 n) S1 else .no
  | none => .no := rfl
theorem x_rg2 : eRg2 da db ρ S = (da ρ S).bind fun x S1 => (db ρ S1).bind fun y S2 => match asI x, asI y with
  | some i, some j => if rgOk i j then newL (rgA i j) S2 else .no
  | _, _ => .no := rfl
theorem x_oN : oN ρ S = .ok none S := rfl
theorem x_oS : oS da ρ S = (da ρ S).bind fun x S1 => match asI x with
  | some i => .ok (some i) S1
  | none => .no := rfl
theorem x_sl {ol oh : OV} : eSl da ol oh ρ S = (da ρ S).bind fun x S1 => (ol ρ S1).bind fun l S2 => (oh ρ S2).bind fun h S3 => match look S3 x with
  | some xs => newL (cutA xs l h) S3
  | none => .no := rfl
/-! iterators -/
theorem x_jSeq : jSeq da ρ S = (da ρ S).bind fun x S1 => match look S1 x with
  | some _ => .ok (.seq x) S1
  | none => .no := rfl
theorem x_jR1 : jR1 dl ρ S = (dl ρ S).bind fun xs S1 => match xs with
  | [.d (.int n)] => if rgOk 0 n then .ok (.rng 0 n.toNat) S1 else .no
  | _ => .no := rfl
theorem x_jR2 : jR2 dl ρ S = (dl ρ S).bind fun xs S1 => match xs with
  | [.d (.int m), .d (.int n)] => if rgOk m n then .ok (.rng m (n - m).toNat) S1 else .no
  | _ => .no := rfl
theorem x_jEn : jEn dl ρ S = (dl ρ S).bind fun xs S1 => match xs with
  | [x] => (match look S1 x with
    | some _ => .ok (.enum x) S1
    | none => .no)
  | _ => .no := rfl
theorem x_jZp : jZp dl ρ S = (dl ρ S).bind fun xs S1 => match xs with
  | [x, y] => (match look S1 x, look S1 y with
    | some _, some _ => .ok (.zip x y) S1
    | _, _ => .no)
  | _ => .no := rfl
/-! ### statements -/
theorem W_seq : Wp (dSeq s t ρ S) Q = Wp (s ρ S) (sqK t Q) := propext ⟨fun h => by
    unfold dSeq Wp at h
    show sqK t Q (s ρ S)
    cases e : s ρ S with
    | nx ρ1 S1 => rw [e] at h; exact h
    | _ => rw [e] at h; exact h, w_seq⟩
theorem W_nxS : Wp (.nx ρ S) (sqK t Q) = Wp (t ρ S) Q := rfl
theorem W_rtS : Wp (.rt x S) (sqK t Q) = Wp (.rt x S) Q := rfl
theorem W_bkS : Wp (.bk ρ S) (sqK t Q) = Wp (.bk ρ S) Q := rfl
theorem W_ctS : Wp (.ct ρ S) (sqK t Q) = Wp (.ct ρ S) Q := rfl
theorem W_exS : Wp (.ex C x S) (sqK t Q) = Wp (.ex C x S) Q := rfl
theorem W_nxI {I : En → Sto → Prop} : Wp (.nx ρ S) (sqI I Q) = I ρ S := rfl
theorem W_rtI {I : En → Sto → Prop} : Wp (.rt x S) (sqI I Q) = Wp (.rt x S) Q := rfl
theorem W_bkI {I : En → Sto → Prop} : Wp (.bk ρ S) (sqI I Q) = Wp (.bk ρ S) Q := rfl
theorem W_ctI {I : En → Sto → Prop} : Wp (.ct ρ S) (sqI I Q) = Wp (.ct ρ S) Q := rfl
theorem W_as : Wp (dAs da gt ρ S) Q = Wp ((da ρ S).out fun x S1 => (gt x ρ S1).out fun ρ1 S2 => .nx ρ1 S2) Q := rfl
theorem x_gnm : gnm k x ρ S = .ok (ρ.set k (some x)) S := rfl
theorem x_gtp : gtp k gs x ρ S = match lookT x with
  | some xs => if xs.length = k then gs xs ρ S else .no
  | none => .no := rfl
theorem x_gsN : gsN [] ρ S = .ok ρ S := rfl
theorem x_gsC : gsC gt gs (x :: xs) ρ S = (gt x ρ S).bind fun ρ1 S1 => gs xs ρ1 S1 := rfl
theorem x_gsb : gsb da db x ρ S = (da ρ S).bind fun o S1 => (db ρ S1).bind fun i S2 => (fSet o i x S2).bind fun _ S3 => .ok ρ S3 := rfl
theorem x_fSet : fSet (.c n) (.d (.int i)) x S = match lookO S[n]? with
    | some xs => (match ixN xs.length i with
      | some j => .ok () (S.set n (.lst (xs.set j x)))
      | none => .no)
    | none => .no := by
  unfold fSet
  simp only [x_cellL, asI]
  cases lookO S[n]? <;> rfl
theorem x_ix0 : ixN (n + 1) 0 = some 0 := ix0
theorem x_ix1 : ixN (n + 1 + 1) 1 = some 1 := ix1
theorem x_ix10 : ixN 1 0 = some 0 := rfl
theorem x_ix20 : ixN 2 0 = some 0 := rfl
theorem x_ix21 : ixN 2 1 = some 1 := rfl
theorem x_ix30 : ixN 3 0 = some 0 := rfl
theorem x_ix31 : ixN 3 1 = some 1 := rfl
theorem x_ix32 : ixN 3 2 = some 2 := rfl
theorem x_ixI (h0 : 0 ≤ i) (h : i < (n : Int)) : ixN n i = some i.toNat := by
  have := ixN_ok (n := n) (k := i.toNat) (by omega)
  rwa [show ((i.toNat : Nat) : Int) = i by omega] at this
theorem W_ex : Wp (dEx da ρ S) Q = Wp ((da ρ S).out fun _ S1 => .nx ρ S1) Q := rfl
theorem W_rt : Wp (dRt da ρ S) Q = Wp ((da ρ S).out fun x S1 => .rt x S1) Q := rfl
theorem W_rtN : Wp (dRtN ρ S) Q = Wp (.rt nA S) Q := rfl
theorem W_if : Wp (dIf g s t ρ S) Q = Wp ((g ρ S).out fun c S1 => if c = true then s ρ S1 else t ρ S1) Q := rfl
theorem W_dNx : Wp (dNx ρ S) Q = Wp (.nx ρ S) Q := rfl
theorem W_dBk : Wp (dBk ρ S) Q = Wp (.bk ρ S) Q := rfl
theorem W_dCt : Wp (dCt ρ S) Q = Wp (.ct ρ S) Q := rfl
theorem W_au {f : AV → AV → Sto → Res AV} : Wp (dAu k f da ρ S) Q = Wp ((eVar k ρ S).out fun x S0 => (da ρ S0).out fun y S1 => (f x y S1).out fun z S2 => .nx (ρ.set k (some z)) S2) Q := rfl
theorem W_auS {f : AV → AV → Sto → Res AV} : Wp (dAuS f da db dc ρ S) Q = Wp ((da ρ S).out fun o S1 => (db ρ S1).out fun i S2 => (fIx o i S2).out fun x S3 => (dc ρ S3).out fun y S4 => (f x y S4).out fun z S5 => (fSet o i z S5).out fun _ S6 => .nx ρ S6) Q := rfl
theorem W_fg : Wp (dFg ks s ρ S) Q = Wp (s (wipeA ρ ks) S) Q := rfl
theorem W_nxC {n : Nat} : Wp (.nx ρ T) (scK ks n Q) = (closed n T ∧ envOk n (wipeA ρ ks) ∧ Wp (.nx (wipeA ρ ks) (T.take n)) Q) := rfl
theorem W_ctC {n : Nat} : Wp (.ct ρ T) (scK ks n Q) = (closed n T ∧ envOk n (wipeA ρ ks) ∧ Wp (.ct (wipeA ρ ks) (T.take n)) Q) := rfl
theorem W_rtC {n : Nat} : Wp (.rt x T) (scK ks n Q) = Wp (.rt x T) Q := rfl
theorem W_bkC {n : Nat} : Wp (.bk ρ T) (scK ks n Q) = Wp (.bk ρ T) Q := rfl
theorem W_nxL {I : En → Sto → Prop} : Wp (.nx ρ S) (lpK I Q) = I ρ S := rfl
theorem W_ctL {I : En → Sto → Prop} : Wp (.ct ρ S) (lpK I Q) = I ρ S := rfl
theorem W_bkL {I : En → Sto → Prop} : Wp (.bk ρ S) (lpK I Q) = Wp (.nx ρ S) Q := rfl
theorem W_rtL {I : En → Sto → Prop} : Wp (.rt x S) (lpK I Q) = Wp (.rt x S) Q := rfl
theorem W_rtK {P : AV → Sto → Prop} : Wp (.rt x S) (rtK P) = P x S := rfl
theorem W_nxK {P : AV → Sto → Prop} : Wp (.nx ρ S) (rtK P) = P nA S := rfl
end
end My

namespace My
open PySem PySem.Spec L2
open Classical
section
variable {ρ ρ1 : En} {S S1 T : Sto} {x y z a b : AV} {xs ys : List AV} {da db dc d : EV} {dl dr : LV} {i j : Int} {n k : Nat} {s t : SV} {g : GV} {gs : GsV} {Q : Out → Prop} {C : Addr} {ks vs : List Nat} {it : IV} {jt : ItA} {c : TV} {α : Type}
/-! ### conditions on numbers -/
theorem x_fIM {g : Int → Int → PyData} (h : 0 < j) : fIC (fun _ j => 0 < j) g (.d (.int i)) (.d (.int j)) S = .ok (.d (g i j)) S := v_IC (C := fun _ j => 0 < j) h
theorem x_CPow (h0 : 0 ≤ j) (h1 : j ≤ 1000000) (h2 : i.natAbs < 2 ^ 64) : CPow i j = True := eq_true ⟨h0, h1, h2⟩
theorem x_CMul1 (h : -18446744073709551616 < i) (h' : i < 18446744073709551616) : CMul i j = True := eq_true (.inl ⟨by omega, by omega⟩)
theorem x_CMul2 (h : -18446744073709551616 < j) (h' : j < 18446744073709551616) : CMul i j = True := eq_true (.inr ⟨by omega, by omega⟩)
theorem x_CDiv (h : 0 < j) (h' : j < 1073741824) : CDiv i j = True := eq_true ⟨h, h'⟩
theorem x_CDivW (h : 0 < j) (h' : j < 2 ^ 200) : CDivW i j = True := eq_true (wide_div h (b := 200) (by omega) (by decide) (by decide))
theorem x_rgOk (h1 : -1000000 ≤ i) (h2 : i ≤ 1000000) (h3 : -1000000 ≤ j) (h4 : j ≤ 1000000) : rgOk i j = True := eq_true ⟨h1, h2, h3, h4⟩
/-! ### loops -/
theorem w_forX {I : Nat → En → Sto → Prop} (n : Nat) (hn : n ≤ 100000) (hit : it ρ S = .ok jt S1) (h0 : I 0 ρ S1)
    (step : ∀ i ρ S, i < n → I i ρ S → ∃ x, jt.at_ S i = some (some x) ∧ Wp ((g x ρ S).out fun ρ1 S2 => s ρ1 S2) (lpK (I (i + 1)) Q))
    (done : ∀ ρ S, I n ρ S → jt.at_ S n = some none ∧ Wp (.nx ρ S) Q) : Wp (dFor it g s ρ S) Q := by
  unfold dFor
  rw [hit, out_ok]
  have go : ∀ (k i : Nat) (ρ : En) (S : Sto), i + k = n + 1 → i ≤ n → I i ρ S → ∀ m, k ≤ m → Wp (dLoop jt g s m i ρ S) Q := by
    intro k
    induction k with
    | zero => intro i ρ S h1 h2; omega
    | succ k ih =>
      intro i ρ S h1 h2 hI m hm
      cases m with
      | zero => omega
      | succ m =>
        unfold dLoop
        by_cases hi : i = n
        · subst hi
          obtain ⟨e, q⟩ := done ρ S hI
          rw [e]
          exact q
        · obtain ⟨x, e1, e2⟩ := step i ρ S (by omega) hI
          simp only [e1]
          cases e3 : g x ρ S with
          | no => rw [e3] at e2; exact e2
          | ex C z U => rw [e3] at e2; exact e2
          | ok ρ1 S2 =>
            rw [e3, out_ok] at e2
            simp only [out_ok]
            have e2 : lpK (I (i + 1)) Q (s ρ1 S2) := e2
            cases e4 : s ρ1 S2 with
            | nx ρ3 S3 => rw [e4] at e2; exact ih (i + 1) ρ3 S3 (by omega) (by omega) e2 m (by omega)
            | ct ρ3 S3 => rw [e4] at e2; exact ih (i + 1) ρ3 S3 (by omega) (by omega) e2 m (by omega)
            | bk ρ3 S3 => rw [e4] at e2; exact e2
            | rt x S3 => rw [e4] at e2; exact e2
            | ex C x S3 => rw [e4] at e2; exact e2
            | no => rw [e4] at e2; exact e2
  exact go (n + 1) 0 ρ S1 (by omega) (by omega) h0 bigN (by unfold bigN; omega)
/-! ### what is walked, turn by turn -/
theorem it_rng {lo : Int} {i : Nat} (h : i < n) : (ItA.rng lo n).at_ S i = some (some (.d (.int (lo + i)))) := by
  show some (if i < n then some (iA (lo + i)) else none) = _
  rw [if_pos h]
theorem it_rngE {lo : Int} : (ItA.rng lo n).at_ S n = some none := by
  show some (if n < n then some (iA (lo + n)) else none) = _
  rw [if_neg (Nat.lt_irrefl _)]
theorem it_seq {i : Nat} {F : α → AV} {l : List α} (hl : look S x = some (l.map F)) (h : i < l.length) : (ItA.seq x).at_ S i = some (some (F l[i])) := by
  show (look S x).map (·[i]?) = _
  rw [hl]; simp [h]
theorem it_seqE {F : α → AV} {l : List α} (hl : look S x = some (l.map F)) : (ItA.seq x).at_ S l.length = some none := by
  show (look S x).map (·[l.length]?) = _
  rw [hl]; simp
theorem it_d {F : α → PyData} {l : List α} {i : Nat} (h : i < l.length) : (ItA.seq (.d (.list (l.map F)))).at_ S i = some (some (.d (F l[i]))) :=
  it_seq (F := fun z => .d (F z)) (by rw [x_lookd, List.map_map]; rfl) h
theorem it_dE {F : α → PyData} {l : List α} : (ItA.seq (.d (.list (l.map F)))).at_ S l.length = some none :=
  it_seqE (F := fun z => AV.d (F z)) (by rw [x_lookd, List.map_map]; rfl)
theorem it_r {F : α → PyData} {l : List α} {i : Nat} (h : i < l.length) : (ItA.seq (.r (.list (l.map F)))).at_ S i = some (some (rel (F l[i]))) :=
  it_seq (F := fun z => rel (F z)) (by rw [x_lookr, List.map_map]; rfl) h
theorem it_rE {F : α → PyData} {l : List α} : (ItA.seq (.r (.list (l.map F)))).at_ S l.length = some none :=
  it_seqE (F := fun z => rel (F z)) (by rw [x_lookr, List.map_map]; rfl)
theorem it_en {F : α → AV} {l : List α} {i : Nat} (hl : look S x = some (l.map F)) (h : i < l.length) : (ItA.enum x).at_ S i = some (some (mkT [.d (.int i), F l[i]])) := by
  show (look S x).map (fun xs => (xs[i]?).map fun y => mkT [iA i, y]) = _
  rw [hl]; simp [h]
theorem it_enE {F : α → AV} {l : List α} (hl : look S x = some (l.map F)) : (ItA.enum x).at_ S l.length = some none := by
  show (look S x).map (fun xs => (xs[l.length]?).map fun y => mkT [iA l.length, y]) = _
  rw [hl]; simp
/-! ### comprehensions -/
/-- each item by itself, the store as before -/
theorem lc_pure {F : Nat → AV} (n : Nat) (p : Nat → Bool) (f : Nat → AV) (hit : it ρ S = .ok jt S1) (hn : n ≤ 1000)
    (hat : ∀ acc i, i < n → jt.at_ (S1 ++ [.lst acc]) i = some (some (F i))) (hend : ∀ acc, jt.at_ (S1 ++ [.lst acc]) n = some none)
    (body : ∀ i acc, i < n → ∃ ρ1, g (F i) (wipeA ρ vs) (S1 ++ [.lst acc]) = .ok ρ1 (S1 ++ [.lst acc]) ∧ c ρ1 (S1 ++ [.lst acc]) = .ok (p i) (S1 ++ [.lst acc]) ∧ (p i = true → d ρ1 (S1 ++ [.lst acc]) = .ok (f i) (S1 ++ [.lst acc]))) :
    eLc it g c d vs ρ S = .ok (.c S1.length) (S1 ++ [.lst (((List.range n).filter p).map f)]) := by
  obtain ⟨acc, T, e, _, _, rfl, rfl⟩ := v_lc (I := fun i acc T => T = S1 ∧ acc = ((List.range i).filter p).map f) (c := c) (g := g) (d := d) (vs := vs) n hn hit ⟨rfl, rfl⟩
    (by
      rintro i acc T hi ha hT ⟨rfl, rfl⟩
      obtain ⟨ρ1, b1, b2, b3⟩ := body i (((List.range i).filter p).map f) hi
      refine ⟨F i, ρ1, hat _ i hi, b1, ?_⟩
      cases hp : p i with
      | false => rw [hp] at b2; exact .inl ⟨b2, rfl, by rw [List.range_succ, List.filter_append]; simp [hp]⟩
      | true => rw [hp] at b2; exact .inr ⟨b2, f i, T, b3 hp, rfl, rfl, by rw [List.range_succ, List.filter_append]; simp [hp]⟩)
    (by rintro acc T _ _ ⟨rfl, rfl⟩; exact hend _)
  exact e
/-- over a list of things -/
theorem lc_filter {F f : α → AV} {l : List α} (p : α → Bool) (hit : it ρ S = .ok jt S1) (hn : l.length ≤ 1000)
    (hat : ∀ acc i (h : i < l.length), jt.at_ (S1 ++ [.lst acc]) i = some (some (F l[i]))) (hend : ∀ acc, jt.at_ (S1 ++ [.lst acc]) l.length = some none)
    (body : ∀ z acc, z ∈ l → ∃ ρ1, g (F z) (wipeA ρ vs) (S1 ++ [.lst acc]) = .ok ρ1 (S1 ++ [.lst acc]) ∧ c ρ1 (S1 ++ [.lst acc]) = .ok (p z) (S1 ++ [.lst acc]) ∧ (p z = true → d ρ1 (S1 ++ [.lst acc]) = .ok (f z) (S1 ++ [.lst acc]))) :
    eLc it g c d vs ρ S = .ok (.c S1.length) (S1 ++ [.lst ((l.filter p).map f)]) := by
  obtain ⟨acc, T, e, _, _, rfl, rfl⟩ := v_lc (I := fun i acc T => T = S1 ∧ acc = ((l.take i).filter p).map f) (c := c) (g := g) (d := d) (vs := vs) l.length hn hit ⟨rfl, rfl⟩
    (by
      rintro i acc T hi ha hT ⟨rfl, rfl⟩
      obtain ⟨ρ1, b1, b2, b3⟩ := body l[i] (((l.take i).filter p).map f) (List.getElem_mem hi)
      refine ⟨F l[i], ρ1, hat _ i hi, b1, ?_⟩
      have ht : l.take (i + 1) = l.take i ++ [l[i]] := by rw [List.take_add_one, List.getElem?_eq_getElem hi]; rfl
      cases hp : p l[i] with
      | false => rw [hp] at b2; exact .inl ⟨b2, rfl, by rw [ht, List.filter_append]; simp [hp]⟩
      | true => rw [hp] at b2; exact .inr ⟨b2, f l[i], T, b3 hp, rfl, rfl, by rw [ht, List.filter_append]; simp [hp]⟩)
    (by rintro acc T _ _ ⟨rfl, rfl⟩; exact hend _)
  rw [List.take_length] at e
  exact e
theorem lc_map {F f : α → AV} {l : List α} (hit : it ρ S = .ok jt S1) (hn : l.length ≤ 1000)
    (hat : ∀ acc i (h : i < l.length), jt.at_ (S1 ++ [.lst acc]) i = some (some (F l[i]))) (hend : ∀ acc, jt.at_ (S1 ++ [.lst acc]) l.length = some none)
    (body : ∀ z acc, z ∈ l → ∃ ρ1, g (F z) (wipeA ρ vs) (S1 ++ [.lst acc]) = .ok ρ1 (S1 ++ [.lst acc]) ∧ d ρ1 (S1 ++ [.lst acc]) = .ok (f z) (S1 ++ [.lst acc])) :
    eLc it g bYes d vs ρ S = .ok (.c S1.length) (S1 ++ [.lst (l.map f)]) := by
  have := lc_filter (F := F) (f := f) (c := bYes) (g := g) (d := d) (vs := vs) (fun _ => true) hit hn hat hend (fun z acc hz => by
    obtain ⟨ρ1, b1, b2⟩ := body z acc hz
    exact ⟨ρ1, b1, rfl, fun _ => b2⟩)
  rw [List.filter_eq_self.mpr (fun _ _ => rfl)] at this
  exact this
/-- a state that goes on from turn to turn; integers are made -/
theorem lc_ints {σ : Type} {E : σ → Sto} {P : Nat → σ → Prop} {R : Int → Prop} {s0 : σ} {lo : Int} (n : Nat) (hit : it ρ S = .ok (.rng lo n) (E s0)) (hn : n ≤ 1000) (h0 : P 0 s0) (hE : ∀ s, (E s).length = (E s0).length)
    (step : ∀ (i : Nat) s acc, i < n → P i s → ∃ ρ1 r s', P (i + 1) s' ∧ R r ∧ g (.d (.int (lo + i))) (wipeA ρ vs) (E s ++ [.lst acc]) = .ok ρ1 (E s ++ [.lst acc]) ∧ d ρ1 (E s ++ [.lst acc]) = .ok (.d (.int r)) (E s' ++ [.lst acc])) :
    ∃ ns s', eLc it g bYes d vs ρ S = .ok (.c (E s0).length) (E s' ++ [.lst (isA ns)]) ∧ ns.length = n ∧ (∀ r ∈ ns, R r) ∧ P n s' := by
  obtain ⟨acc, T, e, _, _, ns, s', rfl, rfl, h1, h2, h3⟩ := v_lc (I := fun i acc T => ∃ ns s', acc = isA ns ∧ T = E s' ∧ ns.length = i ∧ (∀ r ∈ ns, R r) ∧ P i s') (c := bYes) (g := g) (d := d) (vs := vs) n hn hit ⟨[], s0, rfl, rfl, rfl, (fun r h => nomatch h), h0⟩
    (by
      rintro i acc T hi ha hT ⟨ns, s', rfl, rfl, h1, h2, h3⟩
      obtain ⟨ρ1, r, s2, q1, q2, q3, q4⟩ := step i s' (isA ns) hi h3
      refine ⟨_, ρ1, it_rng hi, q3, .inr ⟨rfl, _, E s2, q4, hE s2, ns ++ [r], s2, by simp, rfl, by simp [h1], fun z hz => ?_, q1⟩⟩
      rcases List.mem_append.mp hz with m | m
      · exact h2 z m
      · rw [List.mem_singleton.mp m]; exact q2)
    (by rintro acc T _ _ _; exact it_rngE)
  exact ⟨ns, s', e, h1, h2, h3⟩
end
end My

namespace My
open PySem PySem.Spec L2
open Classical
/-! ### data without True, False and dicts: == is equality -/
theorem map_inj' {α β : Type} {f : α → β} (hf : ∀ x y, f x = f y → x = y) : ∀ {a b : List α}, a.map f = b.map f → a = b
  | [], [], _ => rfl
  | [], _ :: _, h => by cases h
  | _ :: _, [], h => by cases h
  | x :: a, y :: b, h => by
    simp only [List.map_cons, List.cons.injEq] at h
    rw [hf x y h.1, map_inj' hf h.2]
mutual
def nice : Nat → PyData → Prop
  | _, .none => True
  | _, .int _ => True
  | _, .str x => PyData.canLay0 (.str x) = true
  | k + 1, .list ds => nices k ds
  | k + 1, .tuple ds => nices k ds
  | _, _ => False
def nices : Nat → List PyData → Prop
  | _, [] => True
  | k, d :: ds => nice k d ∧ nices k ds
end
theorem nices_iff {k : Nat} : ∀ {ds : List PyData}, nices k ds ↔ ∀ d ∈ ds, nice k d
  | [] => ⟨fun _ _ h => (nomatch h), fun _ => trivial⟩
  | d :: ds => by
    show nice k d ∧ nices k ds ↔ _
    rw [nices_iff (ds := ds), List.forall_mem_cons]
theorem nice_i {k : Nat} {i : Int} : nice k (.int i) = True := by cases k <;> rfl
theorem nice_n {k : Nat} : nice k .none = True := by cases k <;> rfl
theorem nice_l {k : Nat} {ds : List PyData} : nice (k + 1) (.list ds) = ∀ d ∈ ds, nice k d := propext nices_iff
theorem nice_t {k : Nat} {ds : List PyData} : nice (k + 1) (.tuple ds) = ∀ d ∈ ds, nice k d := propext nices_iff
theorem mem_map {α β : Type} {f : α → β} {l : List α} {p : β → Prop} : (∀ d ∈ l.map f, p d) = ∀ z ∈ l, p (f z) := propext List.forall_mem_map
mutual
theorem nice_can : ∀ {k : Nat} {d : PyData}, nice k d → d.canLay0 = true ∧ d.depth ≤ k
  | k, .none, _ => ⟨rfl, Nat.zero_le _⟩
  | k, .int _, _ => ⟨rfl, Nat.zero_le _⟩
  | k, .str x, h => by
    have h : PyData.canLay0 (.str x) = true := by cases k <;> exact h
    exact ⟨h, Nat.zero_le _⟩
  | 0, .list _, h => h.elim
  | 0, .tuple _, h => h.elim
  | k + 1, .list ds, h => by
    obtain ⟨h1, h2⟩ := nices_can (k := k) (ds := ds) h
    exact ⟨by simpa [PyData.canLay0] using h1, by show PyData.depthAll ds + 1 ≤ k + 1; omega⟩
  | k + 1, .tuple ds, h => by
    obtain ⟨h1, h2⟩ := nices_can (k := k) (ds := ds) h
    exact ⟨by simpa [PyData.canLay0] using h1, by show PyData.depthAll ds + 1 ≤ k + 1; omega⟩
  | 0, .bool _, h => h.elim
  | k + 1, .bool _, h => h.elim
  | 0, .dict _, h => h.elim
  | k + 1, .dict _, h => h.elim
theorem nices_can : ∀ {k : Nat} {ds : List PyData}, nices k ds → PyData.canLayAll0 ds = true ∧ PyData.depthAll ds ≤ k
  | k, [], _ => ⟨rfl, Nat.zero_le _⟩
  | k, d :: ds, h => by
    have h : nice k d ∧ nices k ds := h
    obtain ⟨a1, a2⟩ := nice_can h.1
    obtain ⟨b1, b2⟩ := nices_can h.2
    exact ⟨by simp [PyData.canLayAll0, a1, b1], by show max d.depth (PyData.depthAll ds) ≤ k; omega⟩
end
theorem nice_shaped {k : Nat} {d : PyData} (h : nice k d) (hk : k ≤ 64) : SeqAt.shaped d = true := by
  obtain ⟨a, b⟩ := nice_can h
  unfold SeqAt.shaped
  rw [a, decide_eq_true (Nat.le_trans b hk)]; rfl
mutual
theorem eqv_nice : ∀ {k : Nat} {d e : PyData}, nice k d → nice k e → PyData.eqv d e = decide (d = e)
  | k, .none, e, _, h => by cases e <;> simp [PyData.eqv]
  | k, .int i, e, _, h => by
    cases e with
    | int j => simp only [PyData.eqv, PyData.int.injEq]; by_cases q : i = j <;> simp [q]
    | bool b => cases k <;> exact h.elim
    | _ => simp [PyData.eqv]
  | k, .str x, e, _, h => by
    cases e with
    | str y => simp only [PyData.eqv, PyData.str.injEq]; by_cases q : x = y <;> simp [q]
    | _ => simp [PyData.eqv]
  | 0, .list _, _, h, _ => h.elim
  | 0, .tuple _, _, h, _ => h.elim
  | k + 1, .list ds, e, h, h2 => by
    cases e with
    | list es =>
      show PyData.eqvAll ds es = _
      rw [eqvAll_nice (k := k) h h2]
      by_cases q : ds = es <;> simp [q]
    | _ => simp [PyData.eqv]
  | k + 1, .tuple ds, e, h, h2 => by
    cases e with
    | tuple es =>
      show PyData.eqvAll ds es = _
      rw [eqvAll_nice (k := k) h h2]
      by_cases q : ds = es <;> simp [q]
    | _ => simp [PyData.eqv]
  | 0, .bool _, _, h, _ => h.elim
  | k + 1, .bool _, _, h, _ => h.elim
  | 0, .dict _, _, h, _ => h.elim
  | k + 1, .dict _, _, h, _ => h.elim
theorem eqvAll_nice : ∀ {k : Nat} {ds es : List PyData}, nices k ds → nices k es → PyData.eqvAll ds es = decide (ds = es)
  | k, [], [], _, _ => rfl
  | k, [], _ :: _, _, _ => by simp [PyData.eqvAll]
  | k, _ :: _, [], _, _ => by simp [PyData.eqvAll]
  | k, d :: ds, e :: es, h, h2 => by
    have h : nice k d ∧ nices k ds := h
    have h2 : nice k e ∧ nices k es := h2
    show (PyData.eqv d e && PyData.eqvAll ds es) = _
    rw [eqv_nice h.1 h2.1, eqvAll_nice h.2 h2.2]
    by_cases q : d = e <;> by_cases r : ds = es <;> simp [q, r]
end
section
variable {ρ ρ1 : En} {S S1 T : Sto} {x y z a b : AV} {xs ys : List AV} {da db dc d : EV} {dl dr : LV} {i j : Int} {n k : Nat} {Q : Out → Prop} {neg : Bool}
def eqK (neg : Bool) (S : Sto) : Option PyData → Option PyData → Res AV
  | some d, some e => if SeqAt.shaped d = true ∧ SeqAt.shaped e = true then .ok (bA (if neg = true then !PyData.eqv d e else PyData.eqv d e)) S else .no
  | _, _ => .no
theorem x_fEq : fEq neg a b S = eqK neg S (rb true 8 S a) (rb true 8 S b) := by
  unfold fEq eqK
  cases rb true 8 S a <;> cases rb true 8 S b <;> rfl
theorem x_eqK {d e : PyData} (h1 : nice 8 d) (h2 : nice 8 e) : eqK neg S (some d) (some e) = .ok (.d (.bool (if neg = true then !decide (d = e) else decide (d = e)))) S := by
  show (if SeqAt.shaped d = true ∧ SeqAt.shaped e = true then Res.ok (bA (if neg = true then !PyData.eqv d e else PyData.eqv d e)) S else .no) = _
  rw [if_pos ⟨nice_shaped h1 (by decide), nice_shaped h2 (by decide)⟩, eqv_nice h1 h2]
theorem mapInt_inj {a b : List Int} : (a.map PyData.int = b.map PyData.int) = (a = b) := propext ⟨fun h => map_inj' (fun _ _ q => PyData.int.inj q) h, fun h => h ▸ rfl⟩
theorem mapInt_nil {α : Type} {F : α → PyData} {a : List α} : (a.map F = []) = (a = []) := propext List.map_eq_nil_iff
theorem mapInts_inj {a b : List (List Int)} : ((a.map fun z => PyData.list (z.map PyData.int)) = b.map fun z => PyData.list (z.map PyData.int)) = (a = b) := propext ⟨fun h => map_inj' (fun _ _ q => (by
  have q : PyData.list (_ : List PyData) = PyData.list _ := q
  have := PyData.list.inj q
  rwa [mapInt_inj] at this)) h, fun h => h ▸ rfl⟩
theorem mapEnt_inj {a b : List (Int × Int)} : ((a.map fun e => tupD [e.1, e.2]) = b.map fun e => tupD [e.1, e.2]) = (a = b) := propext ⟨fun h => map_inj' (fun x y q => by
  have q : tupD [x.1, x.2] = tupD [y.1, y.2] := q
  unfold tupD at q
  simp at q
  exact Prod.ext q.1 q.2) h, fun h => h ▸ rfl⟩
theorem ints_nil {a : List Int} : (PyData.list (a.map PyData.int) = .list []) = (a = []) := by rw [PyData.list.injEq, mapInt_nil]
theorem RunP.eq {den : List AV → Sto → Res AV} {ds : List PyData} {d : PyData} (h : RunP den ds d) : runP den ds = some d := h
/-! isinstance -/
def isiK (n : String) (S : Sto) : Option String → Res AV
  | some t => (match kitB t n with
    | some b => .ok (bA b) S
    | none => .no)
  | none => .no
theorem x_isi {t : String} : fIsi [x, .g (.ty t)] S = isiK t S (tyA S x) := by
  show (match tyA S x with | some t' => (match kitB t' t with | some b => Res.ok (bA b) S | none => Res.no) | none => Res.no) = _
  cases tyA S x <;> rfl
theorem ty_di : tyA S (.d (.int i)) = some "int" := rfl
theorem ty_db {c : Bool} : tyA S (.d (.bool c)) = some "bool" := rfl
theorem ty_dn : tyA S (.d .none) = some "NoneType" := rfl
theorem ty_ds {u : Str} : tyA S (.d (.str u)) = some "str" := rfl
theorem ty_dl {ds : List PyData} : tyA S (.d (.list ds)) = some "list" := rfl
theorem ty_dt {ds : List PyData} : tyA S (.d (.tuple ds)) = some "tuple" := rfl
theorem ty_rl {ds : List PyData} : tyA S (.r (.list ds)) = some "list" := rfl
theorem ty_rt {ds : List PyData} : tyA S (.r (.tuple ds)) = some "tuple" := rfl
def tyO : Option OC → Option String
  | some (.lst _) => some "list"
  | some (.dk _) => some "dict"
  | _ => none
theorem ty_c : tyA S (.c n) = tyO S[n]? := by
  show (match S[n]? with | some (.lst _) => some "list" | some (.dk _) => some "dict" | _ => none) = _
  cases S[n]? with
  | none => rfl
  | some o => cases o <;> rfl
theorem tyO_l : tyO (some (.lst xs)) = some "list" := rfl
theorem isi_ii : isiK "int" S (some "int") = .ok (.d (.bool true)) S := rfl
theorem isi_ib : isiK "bool" S (some "int") = .ok (.d (.bool false)) S := rfl
theorem isi_bb : isiK "bool" S (some "bool") = .ok (.d (.bool true)) S := rfl
theorem isi_bi : isiK "int" S (some "bool") = .ok (.d (.bool true)) S := rfl
theorem isi_ll : isiK "list" S (some "list") = .ok (.d (.bool true)) S := rfl
theorem isi_tl : isiK "list" S (some "tuple") = .ok (.d (.bool false)) S := rfl
theorem isi_tt : isiK "tuple" S (some "tuple") = .ok (.d (.bool true)) S := rfl
theorem isi_lt : isiK "tuple" S (some "list") = .ok (.d (.bool false)) S := rfl
theorem isi_il : isiK "list" S (some "int") = .ok (.d (.bool false)) S := rfl
theorem isi_nl : isiK "list" S (some "NoneType") = .ok (.d (.bool false)) S := rfl
theorem isi_ss : isiK "str" S (some "str") = .ok (.d (.bool true)) S := rfl
/-! sorted, lists joined, slices -/
theorem x_sort {rev : Bool} : fSort rev [x] S = match (look S x).bind asInts with
    | some ns => if ns.length ≤ 1000 then newL ((if rev = true then (sortI ns).reverse else sortI ns).map fun i => iA i) S else .no
    | none => .no := rfl
theorem x_sortK : fSortK xs [.d (.bool true)] S = fSort true xs S := rfl
theorem x_cat : fCat a b S = match look S a, look S b with
    | some xs, some ys => if xs.length + ys.length ≤ 1000 then newL (xs ++ ys) S else .no
    | _, _ => .no := rfl
theorem cut_to {xs : List AV} {k : Nat} : cutA xs none (some (k : Int)) = xs.take k := by
  unfold cutA
  rw [show HT.sIx xs.length 0 none = 0 from rfl, List.drop_zero, Nat.sub_zero]
  have : HT.sIx xs.length xs.length (some (k : Int)) = min k xs.length := by
    unfold HT.sIx; simp; try omega
  rw [this]
  by_cases h : k ≤ xs.length
  · rw [Nat.min_eq_left h]
  · rw [Nat.min_eq_right (by omega), List.take_length, List.take_of_length_le (by omega)]
theorem cut_from {xs : List AV} {k : Nat} : cutA xs (some (k : Int)) none = xs.drop k := by
  unfold cutA
  rw [show HT.sIx xs.length xs.length none = xs.length from rfl]
  have : HT.sIx xs.length 0 (some (k : Int)) = min k xs.length := by
    unfold HT.sIx; simp; try omega
  rw [this]
  by_cases h : k ≤ xs.length
  · rw [Nat.min_eq_left h, List.take_of_length_le (by simp)]
  · rw [Nat.min_eq_right (by omega), List.drop_length, List.drop_of_length_le (by omega)]; simp
theorem cut_toI (h : 0 ≤ i) : cutA xs none (some i) = xs.take i.toNat := by
  have := cut_to (xs := xs) (k := i.toNat)
  rwa [show ((i.toNat : Nat) : Int) = i by omega] at this
theorem cut_fromI (h : 0 ≤ i) : cutA xs (some i) none = xs.drop i.toNat := by
  have := cut_from (xs := xs) (k := i.toNat)
  rwa [show ((i.toNat : Nat) : Int) = i by omega] at this
end
end My
namespace My
open PySem PySem.Spec L2
theorem nice_tup {k : Nat} {ns : List Int} : nice (k + 1) (tupD ns) = True := by
  refine eq_true ?_
  show nices k (ns.map _)
  refine nices_iff.mpr fun d hd => ?_
  obtain ⟨i, _, rfl⟩ := List.mem_map.mp hd
  exact of_eq_true nice_i
end My
namespace My
open PySem PySem.Spec L2
theorem x_ifno {α : Type} {p : Prop} [Decidable p] {m : Res α} (h : p) : (if p then m else Res.no) = m := if_pos h
theorem x_ifno2 {α : Type} {p q : Prop} [Decidable (p ∧ q)] {m : Res α} (h : p) (h2 : q) : (if p ∧ q then m else Res.no) = m := if_pos ⟨h, h2⟩
end My
namespace My
open PySem PySem.Spec L2
theorem at_head {p : List Int} {f : Int} (h : p.head? = some f) : atI (isA p) 0 = some (.d (.int f)) := by
  cases p with
  | nil => cases h
  | cons z r => cases h; exact at0
theorem at_last {p : List Int} {f : Int} (h : p.getLast? = some f) : atI (isA p) (-1) = some (.d (.int f)) := by
  rcases List.eq_nil_or_concat p with rfl | ⟨q, z, rfl⟩
  · cases h
  · rw [List.concat_eq_append] at h ⊢
    rw [List.getLast?_concat] at h
    cases h
    show atI ((q ++ [f]).map fun i => iA i) (-1) = _
    rw [List.map_append]
    exact atI_last
end My
namespace My
open PySem PySem.Spec L2
theorem it_cell {α : Type} {S : Sto} {k i : Nat} {l : List α} {F : α → AV} (e : S[k]? = some (.lst (l.map F))) (h : i < l.length) : (ItA.seq (.c k)).at_ S i = some (some (F l[i])) := it_seq (by rw [x_lookc, e]; rfl) h
theorem it_cellE {α : Type} {S : Sto} {k : Nat} {l : List α} {F : α → AV} (e : S[k]? = some (.lst (l.map F))) : (ItA.seq (.c k)).at_ S l.length = some none := it_seqE (by rw [x_lookc, e]; rfl)
end My
namespace My
open PySem PySem.Spec L2
theorem x_eqB {S : Sto} {neg a b : Bool} : eqK neg S (some (.bool a)) (some (.bool b)) = .ok (.d (.bool (if neg = true then !decide (a = b) else decide (a = b)))) S := by
  have : SeqAt.shaped (.bool a) = true ∧ SeqAt.shaped (.bool b) = true := by cases a <;> cases b <;> decide
  show (if SeqAt.shaped (.bool a) = true ∧ SeqAt.shaped (.bool b) = true then Res.ok (bA (if neg = true then !PyData.eqv (.bool a) (.bool b) else PyData.eqv (.bool a) (.bool b))) S else .no) = _
  rw [if_pos this]
  cases a <;> cases b <;> rfl
theorem at_pick {ns : List Int} {r : Int} (h0 : 0 ≤ r) (h1 : r < ns.length) : ∃ v ∈ ns, atI (isA ns) r = some (.d (.int v)) := by
  refine ⟨ns[r.toNat]'(by omega), List.getElem_mem _, ?_⟩
  have := atI_map (l := ns) (F := fun i => iA i) h0 (by omega)
  exact this
end My
namespace My
open PySem PySem.Spec L2
abbrev natsD (l : List Nat) : PyData := .list (l.map fun i : Nat => PyData.int (i : Int))
theorem x_relNats {l : List Nat} : (l.map fun i : Nat => PyData.int (i : Int)).map rel = l.map fun i : Nat => AV.d (.int (i : Int)) := by rw [List.map_map]; rfl
theorem x_dNats {l : List Nat} : (l.map fun i : Nat => PyData.int (i : Int)).map AV.d = l.map fun i : Nat => AV.d (.int (i : Int)) := by rw [List.map_map]; rfl
end My
namespace My
open PySem PySem.Spec L2
theorem mapNat_inj {a b : List Nat} : (a.map (fun i : Nat => PyData.int (i : Int)) = b.map fun i : Nat => PyData.int (i : Int)) = (a = b) := propext ⟨fun h => map_inj' (fun x y q => by
  have q : PyData.int (x : Int) = PyData.int (y : Int) := q
  have := PyData.int.inj q
  omega) h, fun h => h ▸ rfl⟩
end My
namespace My
open PySem PySem.Spec L2
theorem w_join {I : En → Sto → Prop} {o : Out} {t : SV} {Q : Out → Prop} (h1 : Wp o (sqI I Q)) (h2 : ∀ ρ S, I ρ S → Wp (t ρ S) Q) : Wp o (sqK t Q) := by
  cases o with
  | nx ρ1 S1 => exact h2 ρ1 S1 h1
  | _ => exact h1
end My

namespace My
open PySem PySem.Spec L2
open Classical
/-! ### calls that give a list of new lists, run by rewriting -/
def callDK (den : List AV → Sto → Res AV) (S : Sto) : Option (List PyData) → Res AV
  | some ds => (match runD den ds with
    | some dss => .ok (.c S.length) (S ++ rowsS S.length dss)
    | none => .no)
  | none => .no
theorem x_callD {n : Nat} {den : List AV → Sto → Res AV} {xs : List AV} {S : Sto} : fCallD n den xs S = if xs.length = n then callDK den S (rbs (rb true 8 S) xs) else .no := by
  unfold fCallD callDK
  split
  · cases rbs (rb true 8 S) xs <;> rfl
  · rfl
theorem x_callDK {den : List AV → Sto → Res AV} {S : Sto} {ds : List PyData} : callDK den S (some ds) = match runD den ds with
    | some dss => .ok (.c S.length) (S ++ rowsS S.length dss)
    | none => .no := rfl
def refsN (k m : Nat) : List AV := (List.range m).map fun i => AV.c (k + i)
def cellsD (dss : List (List PyData)) : Sto := dss.map fun ds => .lst (ds.map .d)
theorem x_rowsS {n : Nat} {dss : List (List PyData)} : rowsS n dss = .lst (refsN (n + 1) dss.length) :: cellsD dss := rfl
theorem refs_len {k m : Nat} : (refsN k m).length = m := by simp [refsN]
theorem cellsD_len {dss : List (List PyData)} : (cellsD dss).length = dss.length := by simp [cellsD]
theorem cellsD_get {dss : List (List PyData)} {i : Nat} (h : i < dss.length) : (cellsD dss)[i]? = some (.lst (dss[i].map .d)) := by simp [cellsD, h]
theorem refs_get {k m i : Nat} (h : i < m) : (refsN k m)[i]? = some (.c (k + i)) := by simp [refsN, h]
theorem refs_succ (k m : Nat) : refsN k (m + 1) = .c k :: refsN (k + 1) m := by
  unfold refsN
  rw [List.range_succ_eq_map, List.map_cons, List.map_map]
  congr 1
  refine List.map_congr_left fun i _ => ?_
  show AV.c (k + (i + 1)) = _
  congr 1; omega
theorem allD_d : ∀ ds : List PyData, allD (ds.map .d) = some ds
  | [] => rfl
  | d :: r => by
    rw [List.map_cons]
    unfold allD
    rw [allD_d r]
    rfl
theorem rb_celD {al : Bool} {S : Sto} {n : Nat} {ds : List PyData} (h : S[n]? = some (.lst (ds.map .d))) (k : Nat) : rb al (k + 1) S (.c n) = some (.list ds) := by
  rw [x_rbc, h, x_rbCK, allD_d]
  rfl
theorem rb_refs {al : Bool} {k : Nat} {S : Sto} : ∀ {dss : List (List PyData)} {n : Nat}, (∀ i (hi : i < dss.length), S[n + i]? = some (.lst (dss[i].map .d))) → rbs (rb al (k + 1) S) (refsN n dss.length) = some (dss.map .list)
  | [], _, _ => rfl
  | ds :: r, n, h => by
    rw [List.length_cons, refs_succ, x_rbs1, rb_refs (n := n + 1) fun i hi => by
      have := h (i + 1) (by simpa using hi)
      rwa [show n + (i + 1) = n + 1 + i by omega] at this]
    have h0 := h 0 (by simp)
    rw [show rb al (k + 1) S (.c n) = some (.list ds) from rb_celD h0 k]
    rfl
theorem rb_rows {al : Bool} {k m n : Nat} {S : Sto} {dss : List (List PyData)} (h0 : S[m]? = some (.lst (refsN n dss.length))) (h : ∀ i (hi : i < dss.length), S[n + i]? = some (.lst (dss[i].map .d))) : rb al (k + 2) S (.c m) = some (.list (dss.map .list)) := by
  show (match S[m]? with | some (.lst xs) => (rbs (rb al (k + 1) S) xs).map PyData.list | _ => none) = _
  rw [h0]
  simp only [rb_refs h, Option.map_some]
theorem cellNs_refs : ∀ {m n : Nat}, cellNs (refsN n m) = some ((List.range m).map (n + ·))
  | 0, _ => rfl
  | m + 1, n => by
    rw [refs_succ]
    show (cellNs (refsN (n + 1) m)).map (n :: ·) = _
    rw [cellNs_refs, List.range_succ_eq_map, List.map_cons, List.map_map]
    show some _ = some _
    congr 2
    refine List.map_congr_left fun i _ => ?_
    show n + 1 + i = n + (i + 1)
    omega
theorem innerD_of {T T0 : Sto} : ∀ {dss : List (List PyData)} {ks : List Nat}, ks.length = dss.length → (∀ i (h1 : i < ks.length) (h2 : i < dss.length), T[ks[i]]? = some (.lst (dss[i].map .d))) → innerD T T0 ks = some dss
  | [], [], _, _ => rfl
  | ds :: r, k :: ks, hl, h => by
    have h0 := h 0 (by simp) (by simp)
    have ih := innerD_of (T := T) (T0 := T0) (dss := r) (ks := ks) (by simpa using hl) fun i h1 h2 => h (i + 1) (Nat.succ_lt_succ h1) (Nat.succ_lt_succ h2)
    have e : rbs (rb false 8 T0) (ds.map .d) = some ds := x_allD (fun _ => x_rbd) (allD_d ds)
    show (match T[k]?, innerD T T0 ks with
      | some (.lst ys), some r => (match rbs (rb false 8 T0) ys with
        | some ds => some (ds :: r)
        | none => none)
      | _, _ => none) = _
    rw [show T[k]? = some (.lst (ds.map .d)) from h0, ih]
    simp only [e]
  | [], _ :: _, hl, _ => by cases hl
  | _ :: _, [], hl, _ => by cases hl
theorem runD_of {den : List AV → Sto → Res AV} {ds : List PyData} {T : Sto} {m n : Nat} {dss : List (List PyData)} (e : den (ds.map rel) [] = .ok (.c m) T) (hm : m < n) (h0 : T[m]? = some (.lst (refsN n dss.length))) (h : ∀ i (hi : i < dss.length), T[n + i]? = some (.lst (dss[i].map .d))) : runD den ds = some dss := by
  unfold runD
  rw [e]
  unfold thawD
  simp only [h0, cellNs_refs]
  rw [if_pos ?_]
  · refine innerD_of (by simp) fun i h1 h2 => ?_
    rw [List.getElem_map, List.getElem_range]
    exact h i h2
  · refine List.nodup_cons.mpr ⟨fun hc => ?_, ?_⟩
    · obtain ⟨i, _, hi⟩ := List.mem_map.mp hc
      omega
    · exact List.Pairwise.map _ (fun a b hab => by omega) List.nodup_range
/-- a def whose result is made by `rowsS` -/
theorem runD_rows {den : List AV → Sto → Res AV} {ds : List PyData} {P : Sto} {dss : List (List PyData)} (e : den (ds.map rel) [] = .ok (.c P.length) (P ++ rowsS P.length dss)) : runD den ds = some dss :=
  runD_of e (n := P.length + 1) (by omega) (by rw [List.getElem?_append_right (Nat.le_refl _), Nat.sub_self]; rfl) fun i hi => by
    rw [List.getElem?_append_right (by omega), show P.length + 1 + i - P.length = i + 1 by omega]
    exact cellsD_get hi
section
variable {α : Type} {ρ ρ1 : En} {S S1 T : Sto} {it : IV} {jt : ItA} {g : GV} {c : TV} {d : EV} {vs : List Nat}
theorem lc_filterA {F f : α → AV} {l : List α} (p : α → Bool) (hit : it ρ S = .ok jt S1) (hn : l.length ≤ 1000)
    (hat : ∀ acc i (h : i < l.length), jt.at_ (S1 ++ [.lst acc]) i = some (some (F l[i]))) (hend : ∀ acc, jt.at_ (S1 ++ [.lst acc]) l.length = some none)
    (body : ∀ z acc k, z ∈ l → acc = ((l.take k).filter p).map f → ∃ ρ1, g (F z) (wipeA ρ vs) (S1 ++ [.lst acc]) = .ok ρ1 (S1 ++ [.lst acc]) ∧ c ρ1 (S1 ++ [.lst acc]) = .ok (p z) (S1 ++ [.lst acc]) ∧ (p z = true → d ρ1 (S1 ++ [.lst acc]) = .ok (f z) (S1 ++ [.lst acc]))) :
    eLc it g c d vs ρ S = .ok (.c S1.length) (S1 ++ [.lst ((l.filter p).map f)]) := by
  obtain ⟨acc, T, e, _, _, rfl, rfl⟩ := v_lc (I := fun i acc T => T = S1 ∧ acc = ((l.take i).filter p).map f) (c := c) (g := g) (d := d) (vs := vs) l.length hn hit ⟨rfl, rfl⟩
    (by
      rintro i acc T hi ha hT ⟨rfl, rfl⟩
      obtain ⟨ρ1, b1, b2, b3⟩ := body l[i] (((l.take i).filter p).map f) i (List.getElem_mem hi) rfl
      refine ⟨F l[i], ρ1, hat _ i hi, b1, ?_⟩
      have ht : l.take (i + 1) = l.take i ++ [l[i]] := by rw [List.take_add_one, List.getElem?_eq_getElem hi]; rfl
      cases hp : p l[i] with
      | false => rw [hp] at b2; exact .inl ⟨b2, rfl, by rw [ht, List.filter_append]; simp [hp]⟩
      | true => rw [hp] at b2; exact .inr ⟨b2, f l[i], T, b3 hp, rfl, rfl, by rw [ht, List.filter_append]; simp [hp]⟩)
    (by rintro acc T _ _ ⟨rfl, rfl⟩; exact hend _)
  rw [List.take_length] at e
  exact e
theorem lc_mapA {F f : α → AV} {l : List α} (hit : it ρ S = .ok jt S1) (hn : l.length ≤ 1000)
    (hat : ∀ acc i (h : i < l.length), jt.at_ (S1 ++ [.lst acc]) i = some (some (F l[i]))) (hend : ∀ acc, jt.at_ (S1 ++ [.lst acc]) l.length = some none)
    (body : ∀ z acc k, z ∈ l → acc = (l.take k).map f → ∃ ρ1, g (F z) (wipeA ρ vs) (S1 ++ [.lst acc]) = .ok ρ1 (S1 ++ [.lst acc]) ∧ d ρ1 (S1 ++ [.lst acc]) = .ok (f z) (S1 ++ [.lst acc])) :
    eLc it g bYes d vs ρ S = .ok (.c S1.length) (S1 ++ [.lst (l.map f)]) := by
  have := lc_filterA (F := F) (f := f) (c := bYes) (g := g) (d := d) (vs := vs) (fun _ => true) hit hn hat hend (fun z acc k hz ha => by
    rw [List.filter_eq_self.mpr (fun _ _ => rfl)] at ha
    obtain ⟨ρ1, b1, b2⟩ := body z acc k hz ha
    exact ⟨ρ1, b1, rfl, fun _ => b2⟩)
  rw [List.filter_eq_self.mpr (fun _ _ => rfl)] at this
  exact this
end
end My

namespace My
open PySem PySem.Spec L2
open Classical
/-! ### comprehensions each of whose items makes a cell -/
section
variable {α : Type} {ρ : En} {S S1 : Sto} {it : IV} {jt : ItA} {g : GV} {d : EV} {vs : List Nat}
def accsN (f : α → Nat → AV) (k : Nat) (l : List α) : List AV := List.zipWith f l (List.range' k l.length)
theorem accsN_snoc (f : α → Nat → AV) (k : Nat) (l : List α) (z : α) : accsN f k (l ++ [z]) = accsN f k l ++ [f z (k + l.length)] := by
  unfold accsN
  rw [List.length_append]
  show List.zipWith f (l ++ [z]) (List.range' k (l.length + 1)) = _
  rw [List.range'_concat, List.zipWith_append (by rw [List.length_range']), Nat.one_mul]
  rfl
theorem accsN_len (f : α → Nat → AV) (k : Nat) (l : List α) : (accsN f k l).length = l.length := by
  unfold accsN
  rw [List.length_zipWith, List.length_range', Nat.min_self]
theorem lc_alloc {F : α → AV} {f : α → Nat → AV} {o : α → OC} {l : List α} (hit : it ρ S = .ok jt S1) (hn : l.length ≤ 900)
    (hat : ∀ acc G i (h : i < l.length), jt.at_ (S1 ++ .lst acc :: G) i = some (some (F l[i]))) (hend : ∀ acc G, jt.at_ (S1 ++ .lst acc :: G) l.length = some none)
    (body : ∀ z acc G, z ∈ l → ∃ ρ1, g (F z) (wipeA ρ vs) (S1 ++ .lst acc :: G) = .ok ρ1 (S1 ++ .lst acc :: G) ∧ d ρ1 (S1 ++ .lst acc :: G) = .ok (f z (S1.length + 1 + G.length)) (S1 ++ .lst acc :: (G ++ [o z]))) :
    eLc it g bYes d vs ρ S = .ok (.c S1.length) (S1 ++ .lst (accsN f (S1.length + 1) l) :: l.map o) := by
  unfold eLc
  rw [hit, bind_ok]
  have go : ∀ (k i : Nat), i + k = l.length + 1 → i ≤ l.length → ∀ m, k ≤ m → lcL jt g bYes d S1.length (wipeA ρ vs) m i (S1 ++ .lst (accsN f (S1.length + 1) (l.take i)) :: (l.take i).map o) = .ok (.c S1.length) (S1 ++ .lst (accsN f (S1.length + 1) l) :: l.map o) := by
    intro k
    induction k with
    | zero => intro i h1 h2; omega
    | succ k ih =>
      intro i h1 h2 m hm
      cases m with
      | zero => omega
      | succ m =>
        unfold lcL
        by_cases hi : i = l.length
        · subst hi
          rw [hend, List.take_length]
        · have hlt : i < l.length := by omega
          obtain ⟨ρ1, e1, e2⟩ := body l[i] (accsN f (S1.length + 1) (l.take i)) ((l.take i).map o) (List.getElem_mem hlt)
          have tl : (l.take i).length = i := by rw [List.length_take]; omega
          have ht : l.take (i + 1) = l.take i ++ [l[i]] := by rw [List.take_add_one, List.getElem?_eq_getElem hlt]; rfl
          rw [List.length_map, tl] at e2
          simp only [hat _ _ i hlt, e1, bind_ok, bYes, if_true, e2]
          have hg : (S1 ++ OC.lst (accsN f (S1.length + 1) (l.take i)) :: (List.map o (l.take i) ++ [o l[i]]))[S1.length]? = some (.lst (accsN f (S1.length + 1) (l.take i))) := by simp
          simp only [hg]
          rw [if_pos (by rw [accsN_len, tl]; omega)]
          have hs : (S1 ++ OC.lst (accsN f (S1.length + 1) (l.take i)) :: (List.map o (l.take i) ++ [o l[i]])).set S1.length (.lst (accsN f (S1.length + 1) (l.take i) ++ [f l[i] (S1.length + 1 + i)])) = S1 ++ .lst (accsN f (S1.length + 1) (l.take (i + 1))) :: (l.take (i + 1)).map o := by
            rw [ht, accsN_snoc, tl, List.map_append]
            simp
          rw [hs]
          exact ih (i + 1) (by omega) (by omega) m (by omega)
  have h0 := go (l.length + 1) 0 (by omega) (by omega) bigN (by unfold bigN; omega)
  exact h0
end
end My

namespace My
open PySem PySem.Spec L2
open PyProof.Rows (envOfC)
open Classical
noncomputable def den_check_hand : List AV → Sto → Res AV := fnD 1 (dIf (bE (eOp (fI fun i j => .bool (decide (i < j))) (eVar 0) (eK (iA 1)))) dNever dNx)
noncomputable def den__law_draw_59ba : List AV → Sto → Res AV := fnD 5 (dSeq (dAs (eOp (fI fun i j => .int (i + j)) (eOp fIx (eVar 0) (eK (iA 2))) (eK (iA 1))) (gsb (eVar 0) (eK (iA 2)))) (dSeq (dIf (bE (eOp (fI fun i j => .bool (decide (i = j))) (eOp fIx (eVar 0) (eK (iA 0))) (eK (iA 0)))) (dSeq (dAs (eK (iA 0)) (gnm 2)) (dSeq (dIf (bE (eOp (fI fun i j => .bool (decide (i < j))) (eOp (fI fun i j => .int (i + j)) (eK (iA 4)) (eOp fIx (eVar 0) (eK (iA 3)))) (eCB fLen (aCons (eVar 0) aNil)))) (dSeq (dAs (eOp fIx (eVar 0) (eOp (fI fun i j => .int (i + j)) (eK (iA 4)) (eOp fIx (eVar 0) (eK (iA 3))))) (gnm 2)) (dAs (eOp (fI fun i j => .int (i + j)) (eOp fIx (eVar 0) (eK (iA 3))) (eK (iA 1))) (gsb (eVar 0) (eK (iA 3))))) dNx) (dSeq (dIf (bE (eOp (fI fun i j => .bool (decide (i < j))) (eVar 2) (eOp (fIC CPow fun i j => .int (i ^ j.toNat)) (eK (iA 10)) (eK (iA 18))))) (dSeq (dAs (eOp (fIC (fun _ j => 0 < j) fun i j => .int (i % j)) (eCB fInt (aCons (eOp (fIC CMulW fun i j => .int (i * j)) (eOp (fI fun i j => .int (i + j)) (eOp (fI fun i j => .int (i + j)) (eOp fIx (eVar 0) (eK (iA 1))) (eVar 2)) (eK (iA 1))) (eOp (fI fun i j => .int (i + j)) (eK (iA 48271)) (eOp (fIC CMul fun i j => .int (i * j)) (eK (iA 2)) (eOp fIx (eVar 0) (eK (iA 2)))))) aNil)) (eK (iA 2305843009213693951))) (gnm 3)) (dSeq (dAs (eOp (fIC (fun _ j => 0 < j) fun i j => .int (i % j)) (eCB fInt (aCons (eOp (fI fun i j => .int (i + j)) (eOp (fIC CMulW fun i j => .int (i * j)) (eVar 3) (eVar 3)) (eVar 2)) aNil)) (eK (iA 2305843009213693921))) (gsb (eVar 0) (eK (iA 1)))) (dRt (eOp (fIC (fun _ j => 0 < j) fun i j => .int (i % j)) (eCB fInt (aCons (eOp (fIC CDiv fun i j => .int (i / j)) (eOp fIx (eVar 0) (eK (iA 1))) (eK (iA 1024))) aNil)) (eVar 1))))) dNx) (dAs (eVar 2) (gsb (eVar 0) (eK (iA 0))))))) dNx) (dSeq (dAs (eOp (fIC (fun _ j => 0 < j) fun i j => .int (i % j)) (eCB fInt (aCons (eOp fIx (eVar 0) (eK (iA 0))) aNil)) (eVar 1)) (gnm 4)) (dSeq (dAs (eOp (fIC CDivW fun i j => .int (i / j)) (eOp fIx (eVar 0) (eK (iA 0))) (eVar 1)) (gsb (eVar 0) (eK (iA 0)))) (dRt (eVar 4))))))
noncomputable def den__law_pool : List AV → Sto → Res AV := fnD 3 (dSeq (dIf (bE (eOp (fI fun i j => .bool (decide (j ≤ i))) (eVar 0) (eOp (fIC CPow fun i j => .int (i ^ j.toNat)) (eK (iA 10)) (eK (iA 18))))) (dRt (eLst (aCons (eOp (fI fun i j => .int (i - j)) (eVar 0) (eOp (fIC CPow fun i j => .int (i ^ j.toNat)) (eK (iA 10)) (eK (iA 18)))) aNil))) dNx) (dSeq (dAs (eOp (fI fun i j => .int (i + j)) (eCB fInt (aCons (eOp (fI fun i j => .int (i + j)) (eOp (fIC CMulX fun i j => .int (i * j)) (eVar 0) (eK (iA 61803398874989484820458683436563811773))) (eOp (fIC CMul fun i j => .int (i * j)) (eVar 1) (eK (iA 27182818284590452353602874713527)))) aNil)) (eOp (fIC CPow fun i j => .int (i ^ j.toNat)) (eK (iA 3)) (eK (iA 60)))) (gnm 2)) (dSeq (dAs (eOp (fIC (fun _ j => 0 < j) fun i j => .int (i % j)) (eCB fInt (aCons (eVar 2) aNil)) (eOp (fI fun i j => .int (i + j)) (eOp (fIC CPow fun i j => .int (i ^ j.toNat)) (eK (iA 10)) (eK (iA 41))) (eK (iA 109)))) (gnm 2)) (dSeq (dAs (eOp (fI fun i j => .int (i + j)) (eOp (fI fun i j => .int (i + j)) (eOp (fIC CMulW fun i j => .int (i * j)) (eVar 2) (eVar 2)) (eOp (fIC CMul fun i j => .int (i * j)) (eK (iA 5)) (eVar 2))) (eVar 1)) (gnm 2)) (dRt (eLst (aCons (eOp (fIC CDiv fun i j => .int (i / j)) (eOp (fIC CMulW fun i j => .int (i * j)) (eOp (fIC CMulW fun i j => .int (i * j)) (eVar 2) (eVar 2)) (eVar 2)) (eK (iA 1000003))) aNil)))))))
noncomputable def den__law_take : List AV → Sto → Res AV := fnD 3 (dSeq (dAs (eOp (fIC (fun _ j => 0 < j) fun i j => .int (i % j)) (eCB fInt (aCons (eOp fIx (eVar 0) (eK (iA 0))) aNil)) (eVar 1)) (gnm 2)) (dSeq (dAs (eOp (fIC CDivW fun i j => .int (i / j)) (eOp fIx (eVar 0) (eK (iA 0))) (eVar 1)) (gsb (eVar 0) (eK (iA 0)))) (dRt (eVar 2))))
noncomputable def den__law_size : List AV → Sto → Res AV := fnD 3 (dSeq (dAs (eCall (fCallI 2 den__law_take) (aCons (eVar 0) (aCons (eK (iA 7)) aNil))) (gnm 2)) (dSeq (dIf (bE (eOp (fI fun i j => .bool (decide (i = j))) (eVar 2) (eK (iA 0)))) (dRt (eK (iA 1))) dNx) (dSeq (dIf (bE (eOp (fI fun i j => .bool (decide (i = j))) (eVar 2) (eK (iA 6)))) (dRt (eOp (fI fun i j => .int (i + j)) (eOp (fIC CPow fun i j => .int (i ^ j.toNat)) (eK (iA 10)) (eK (iA 20))) (eCall (fCallI 2 den__law_take) (aCons (eVar 0) (aCons (eOp (fIC CPow fun i j => .int (i ^ j.toNat)) (eK (iA 10)) (eK (iA 29))) aNil))))) dNx) (dRt (eOp (fI fun i j => .int (i + j)) (eK (iA 1)) (eCall (fCallI 2 den__law_take) (aCons (eVar 0) (aCons (eOp (fI fun i j => .int (i + j)) (eVar 1) (eK (iA 2))) aNil))))))))
noncomputable def den__law_way_b403 : List AV → Sto → Res AV := fnD 10 (dSeq (dAs (eGc (eLc (jR1 (aCons (eCB (fI2 fun i j => if j < i then j else i) (aCons (eVar 1) (aCons (eCB fLen (aCons (eVar 0) aNil)) aNil))) aNil)) (gnm 9) bYes (eVar 9) [9])) (gnm 2)) (dSeq (dAs (eCB fLen (aCons (eVar 2) aNil)) (gnm 3)) (dSeq (dAs (eGc (eLst aNil)) (gnm 4)) (dSeq (dAs (eK (iA 0)) (gnm 5)) (dSeq (dFg [6, 7, 8, 9] (dFor (jR1 (aCons (eCB fLen (aCons (eVar 0) aNil)) aNil)) (gnm 6) (dSc [6, 7, 8, 9] (dSeq (dAs (eFz (eLc (jSeq (eVar 2)) (gnm 9) (bGc (bOr (bE (eOp (fEq false) (eVar 4) (eLst aNil))) (bE (eOp (fI fun i j => .bool (decide (j ≤ i))) (eOp fIx (eVar 0) (eVar 9)) (eOp fIx (eVar 0) (eOp fIx (eOp fIx (eVar 4) (eUn (fU fun i => -i) (eK (iA 1)))) (eK (iA 0)))))))) (eVar 9) [9])) (gnm 7)) (dSeq (dIf (bGc (bE (eOp (fEq false) (eVar 7) (eLst aNil)))) (dSeq (dAs (eOp (fI fun i j => .int (i + j)) (eVar 5) (eK (iA 1))) (gnm 5)) (dAs (eFz (eCB fList (aCons (eVar 2) aNil))) (gnm 7))) dNx) (dSeq (dAs (eOp fIx (eVar 7) (eK (iA 0))) (gnm 8)) (dSeq (dFg [9] (dFor (jSeq (eVar 7)) (gnm 9) (dSc [9] (dIf (bE (eOp (fI fun i j => .bool (decide (i < j))) (eOp fIx (eVar 0) (eVar 9)) (eOp fIx (eVar 0) (eVar 8)))) (dAs (eVar 9) (gnm 8)) dNx)))) (dSeq (dEx (eBM fAppend (eVar 4) (aCons (eTup (aCons (eVar 8) (aCons (eVar 5) aNil))) aNil))) (dSeq (dEx (eRem (eVar 2) (eVar 8))) (dIf (bE (eOp (fI fun i j => .bool (decide (i < j))) (eVar 3) (eCB fLen (aCons (eVar 0) aNil)))) (dSeq (dEx (eBM fAppend (eVar 2) (aCons (eVar 3) aNil))) (dAs (eOp (fI fun i j => .int (i + j)) (eVar 3) (eK (iA 1))) (gnm 3))) dNx)))))))))) (dRt (eVar 4)))))))
noncomputable def den__law_cards_6f25 : List AV → Sto → Res AV := fnD 6 (dSeq (dAs (eFz (eOp fIx (eLst (aCons (eK (iA 1)) (aCons (eK (iA 3)) (aCons (eOp (fIC CPow fun i j => .int (i ^ j.toNat)) (eK (iA 10)) (eK (iA 26))) aNil)))) (eCall (fCallI 2 den__law_take) (aCons (eVar 0) (aCons (eK (iA 3)) aNil))))) (gnm 2)) (dSeq (dAs (eFz (eOp fIx (eLst (aCons (eK (iA 0)) (aCons (eUn (fU fun i => -i) (eK (iA 4))) (aCons (eUn (fU fun i => -i) (eOp (fIC CPow fun i j => .int (i ^ j.toNat)) (eK (iA 10)) (eK (iA 29)))) aNil)))) (eCall (fCallI 2 den__law_take) (aCons (eVar 0) (aCons (eK (iA 3)) aNil))))) (gnm 3)) (dSeq (dAs (eGc (eLst aNil)) (gnm 4)) (dSeq (dFg [5] (dFor (jR1 (aCons (eVar 1) aNil)) (gnm 5) (dSc [5] (dEx (eBM fInsert (eVar 4) (aCons (eCall (fCallI 2 den__law_take) (aCons (eVar 0) (aCons (eOp (fI fun i j => .int (i + j)) (eVar 5) (eK (iA 1))) aNil))) (aCons (eVar 5) aNil))))))) (dRt (eLc (jSeq (eVar 4)) (gnm 5) bYes (eOp (fI fun i j => .int (i + j)) (eVar 3) (eOp (fIC CMulW fun i j => .int (i * j)) (eOp (fIC CMulW fun i j => .int (i * j)) (eVar 2) (eVar 5)) (eVar 5))) [5]))))))
noncomputable def den__law_piles_0003 : List AV → Sto → Res AV := fnD 5 (dSeq (dAs (eGc (eLst aNil)) (gnm 2)) (dSeq (dFg [3, 4] (dFor (jSeq (eCall (fCallP 2 den__law_way_b403) (aCons (eVar 0) (aCons (eVar 1) aNil)))) (gtp 2 (gsC (gnm 3) (gsC (gnm 4) gsN))) (dSeq (dIf (bE (eOp (fI fun i j => .bool (decide (i = j))) (eVar 4) (eCB fLen (aCons (eVar 2) aNil)))) (dEx (eBM fAppend (eVar 2) (aCons (eLst aNil) aNil))) dNx) (dEx (eBM fAppend (eOp fIx (eVar 2) (eVar 4)) (aCons (eOp fIx (eVar 0) (eVar 3)) aNil)))))) (dRt (eVar 2))))
noncomputable def den__law_told_f85c : List AV → Sto → Res AV := fnD 4 (dSeq (dAs (eOp (fI fun i j => .int (i + j)) (eK (iA 1)) (eCall (fCallI 2 den__law_take) (aCons (eVar 0) (aCons (eK (iA 4)) aNil)))) (gnm 2)) (dSeq (dAs (eFz (eOp fIx (eLst (aCons (eK (iA 1)) (aCons (eVar 2) (aCons (eVar 1) aNil)))) (eCall (fCallI 2 den__law_take) (aCons (eVar 0) (aCons (eK (iA 3)) aNil))))) (gnm 2)) (dSeq (dAs (eFz (eCall (fCallI 2 den__law_cards_6f25) (aCons (eVar 0) (aCons (eVar 1) aNil)))) (gnm 3)) (dRt (eTup (aCons (eCall (fCallP 2 den__law_piles_0003) (aCons (eVar 3) (aCons (eCB (fI2 fun i j => if j > i then j else i) (aCons (eK (iA 1)) (aCons (eVar 2) aNil))) aNil))) (aCons (eCB (fI2 fun i j => if j > i then j else i) (aCons (eK (iA 1)) (aCons (eVar 2) aNil))) aNil)))))))
noncomputable def den__law_goes : List AV → Sto → Res AV := fnD 5 (dSeq (dAs (eFz (eLc (jSeq (eFz (eLst (aCons (eVar 1) (aCons (eVar 2) aNil))))) (gnm 4) (bGc (bOr (bE (eOp (fEq false) (eVar 0) (eLst aNil))) (bE (eOp (fI fun i j => .bool (decide (j ≤ i))) (eVar 4) (eOp fIx (eVar 0) (eK (iA 0))))))) (eVar 4) [4])) (gnm 3)) (dSeq (dIf (bGc (bE (eOp (fEq false) (eVar 3) (eLst aNil)))) (dRt (eOp (fI fun i j => .bool (decide (i < j))) (eVar 2) (eVar 1))) dNx) (dRt (eOp (fI fun i j => .bool (decide (i = j))) (eCB (fInts fun ns => ns.min?.map .int) (aCons (eVar 3) aNil)) (eVar 2)))))
noncomputable def den__law_spans : List AV → Sto → Res AV := fnD 8 (dSeq (dAs (eFz (eLst aNil)) (gnm 2)) (dSeq (dFg [3] (dFor (jSeq (eVar 0)) (gnm 3) (dSc [3] (dAs (eFz (eOp fCat (eVar 2) (eVar 3))) (gnm 2))))) (dSeq (dAs (eGc (eLst aNil)) (gnm 4)) (dSeq (dFg [5, 6, 7] (dFor (jR1 (aCons (eCB fLen (aCons (eVar 2) aNil)) aNil)) (gnm 5) (dSc [5, 6, 7] (dSeq (dAs (eK (iA 0)) (gnm 6)) (dSeq (dFg [7] (dFor (jR1 (aCons (eVar 5) aNil)) (gnm 7) (dSc [7] (dIf (bGc (bE (eCall (fCallP 3 den__law_goes) (aCons (eSl (eVar 2) (oS (eCB (fI2 fun i j => if j > i then j else i) (aCons (eK (iA 0)) (aCons (eOp (fI fun i j => .int (i - j)) (eVar 7) (eK (iA 1))) aNil)))) (oS (eVar 7))) (aCons (eOp fIx (eVar 2) (eVar 7)) (aCons (eOp fIx (eVar 2) (eVar 5)) aNil)))))) (dAs (eOp (fI fun i j => .int (i + j)) (eVar 1) (eVar 7)) (gnm 6)) dNx)))) (dEx (eBM fAppend (eVar 4) (aCons (eTup (aCons (eVar 6) (aCons (eCB (fI2 fun i j => if j < i then j else i) (aCons (eOp (fI fun i j => .int (i - j)) (eCB fLen (aCons (eVar 2) aNil)) (eK (iA 1))) (aCons (eOp (fI fun i j => .int (i - j)) (eOp (fI fun i j => .int (i + j)) (eVar 1) (eVar 5)) (eK (iA 1))) aNil))) aNil))) aNil)))))))) (dRt (eVar 4))))))
noncomputable def den__check_piles : List AV → Sto → Res AV := fnD 3 (dFg [1, 2] (dFor (jEn (aCons (eVar 0) aNil)) (gtp 2 (gsC (gnm 1) (gsC (gnm 2) gsN))) (dSc [1, 2] (dSeq (dIf (bGc (bOr (bNot (bTru (eVar 2))) (bE (eOp (fEq true) (eVar 2) (eCB (fSort false) (aCons (eVar 2) aNil)))))) dNever dNx) (dIf (bAnd (bE (eOp (fI fun i j => .bool (decide (j < i))) (eVar 1) (eK (iA 0)))) (bE (eOp (fI fun i j => .bool (decide (j < i))) (eOp fIx (eVar 2) (eK (iA 0))) (eOp fIx (eOp fIx (eVar 0) (eOp (fI fun i j => .int (i - j)) (eVar 1) (eK (iA 1)))) (eUn (fU fun i => -i) (eK (iA 1))))))) dNever dNx)))))
noncomputable def den__cards_of : List AV → Sto → Res AV := fnD 3 (dRt (eLc2 (jSeq (eVar 0)) (gnm 1) bYes (jSeq (eVar 1)) (gnm 2) bYes (eVar 2) [1, 2] [2]))
noncomputable def den__goes_first : List AV → Sto → Res AV := fnD 5 (dSeq (dAs (eOp fIx (eVar 0) (eVar 2)) (gnm 4)) (dSeq (dIf (bE (eOp (fI fun i j => .bool (decide (i = j))) (eVar 2) (eK (iA 0)))) (dRt (eOp (fI fun i j => .bool (decide (i < j))) (eVar 3) (eVar 4))) dNx) (dSeq (dIf (bE (eOp fIx (eVar 1) (eVar 2))) (dRt (eOr (eOp (fI fun i j => .bool (decide (i < j))) (eVar 3) (eVar 4)) (eOp (fI fun i j => .bool (decide (j ≤ i))) (eVar 3) (eOp fIx (eVar 0) (eOp (fI fun i j => .int (i - j)) (eVar 2) (eK (iA 1))))))) dNx) (dRt (eChain (fI fun i j => .bool (decide (i ≤ j))) (fI fun i j => .bool (decide (i < j))) (eOp fIx (eVar 0) (eOp (fI fun i j => .int (i - j)) (eVar 2) (eK (iA 1)))) (eVar 3) (eVar 4))))))
noncomputable def den_windows : List AV → Sto → Res AV := fnD 11 (dSeq (dEx (eCall (fCallP 1 den__check_piles) (aCons (eVar 0) aNil))) (dSeq (dEx (eCall (fCallP 1 den_check_hand) (aCons (eVar 1) aNil))) (dSeq (dAs (eCall (fCallP 1 den__cards_of) (aCons (eVar 0) aNil)) (gnm 2)) (dSeq (dAs (eFz (eLc2 (jSeq (eVar 0)) (gnm 9) bYes (jR1 (aCons (eCB fLen (aCons (eVar 9) aNil)) aNil)) (gnm 10) bYes (eOp (fI fun i j => .bool (decide (i = j))) (eVar 10) (eK (iA 0))) [9, 10] [10])) (gnm 3)) (dSeq (dAs (eGc (eLst aNil)) (gnm 4)) (dSeq (dFg [5, 6, 7, 8] (dFor (jEn (aCons (eVar 2) aNil)) (gtp 2 (gsC (gnm 5) (gsC (gnm 6) gsN))) (dSc [5, 6, 7, 8] (dSeq (dAs (eK (iA 0)) (gnm 7)) (dSeq (dFg [8] (dFor (jR1 (aCons (eVar 5) aNil)) (gnm 8) (dSc [8] (dIf (bE (eCall (fCallP 4 den__goes_first) (aCons (eVar 2) (aCons (eVar 3) (aCons (eVar 8) (aCons (eVar 6) aNil)))))) (dAs (eOp (fI fun i j => .int (i + j)) (eVar 1) (eVar 8)) (gnm 7)) dNx)))) (dEx (eBM fAppend (eVar 4) (aCons (eTup (aCons (eVar 7) (aCons (eCB (fI2 fun i j => if j < i then j else i) (aCons (eOp (fI fun i j => .int (i - j)) (eCB fLen (aCons (eVar 2) aNil)) (eK (iA 1))) (aCons (eOp (fI fun i j => .int (i - j)) (eOp (fI fun i j => .int (i + j)) (eVar 1) (eVar 5)) (eK (iA 1))) aNil))) aNil))) aNil)))))))) (dRt (eVar 4))))))))
noncomputable def den_law_k56 : List AV → Sto → Res AV := fnD 11 (dSeq (dFg [1, 2, 3, 4, 5, 6, 7, 8, 9] (dFor (jEn (aCons (eFz (eOp fCat (eLst (aCons (eCB fLen (aCons (eVar 0) aNil)) aNil)) (eSl (eVar 0) oN (oS (eK (iA 6)))))) aNil)) (gtp 2 (gsC (gnm 1) (gsC (gnm 2) gsN))) (dSc [1, 2, 3, 4, 5, 6, 7, 8, 9] (dSeq (dAs (eCall (fCallC 2 den__law_pool) (aCons (eVar 2) (aCons (eVar 1) aNil))) (gnm 3)) (dSeq (dAs (eCall (fCallI 2 den__law_take) (aCons (eVar 3) (aCons (eK (iA 13)) aNil))) (gnm 4)) (dSeq (dIf (bAnd (bE (eOp (fI fun i j => .bool (decide (i = j))) (eVar 4) (eK (iA 12)))) (bE (eOp (fI fun i j => .bool (decide (i = j))) (eCall (fCallI 2 den__law_take) (aCons (eVar 3) (aCons (eK (iA 2)) aNil))) (eK (iA 1))))) (dAs (eK (iA 60)) (gnm 4)) dNx) (dSeq (dAs (eFz (eCall (fCallI 2 den__law_told_f85c) (aCons (eVar 3) (aCons (eVar 4) aNil)))) (gtp 2 (gsC (gnm 5) (gsC (gnm 6) gsN)))) (dSeq (dAs (eFz (eOp fIx (eLst (aCons (eVar 6) (aCons (eCall (fCallI 2 den__law_size) (aCons (eVar 3) (aCons (eVar 4) aNil))) aNil))) (eCall (fCallI 2 den__law_take) (aCons (eVar 3) (aCons (eK (iA 2)) aNil))))) (gnm 7)) (dSeq (dAs (eFz (eLc (jSeq (eVar 5)) (gnm 10) bYes (eFz (eCB fList (aCons (eVar 10) aNil))) [10])) (gnm 8)) (dSeq (dAs (eCall (fCallP 2 den__law_spans) (aCons (eVar 5) (aCons (eVar 7) aNil))) (gnm 9)) (dSeq (dIf (bOr (bNot (bE (eCall (fCallP 2 den__law_same) (aCons (eCall (fCallP 2 den_windows) (aCons (eVar 8) (aCons (eVar 7) aNil))) (aCons (eVar 9) aNil))))) (bE (eOp (fEq true) (eVar 8) (eVar 5)))) (dRt (eK (bA false))) dNx) (dIf (bOr (bNot (bE (eCall (fCallP 2 den__law_same) (aCons (eCallN (fCallP 2 den_windows) 0 2 (fun vs zs => [zs.getD 1 nA, zs.getD 0 nA]) aNil (aCons (eVar 7) (aCons (eVar 8) aNil))) (aCons (eVar 9) aNil))))) (bE (eOp (fEq true) (eVar 8) (eVar 5)))) (dRt (eK (bA false))) dNx)))))))))))) (dRt (eK (bA true))))
end My

namespace My
open PySem PySem.Spec L2
open Classical
section
local macro_rules | `(tactic| walk_at "hs") => `(tactic| first | (with_reducible assumption) | exact rfl | (apply get_set; walk_at "hs"))
local macro_rules | `(tactic| walk_at "lk") => `(tactic| first | (with_reducible exact l_rI) | (with_reducible exact l_dI) | (with_reducible exact l_rE) | (with_reducible exact l_dE) | ((with_reducible apply l_c); walk_at "hs") | (with_reducible exact l_d) | (with_reducible exact l_r) | (with_reducible assumption))
local macro_rules | `(tactic| walk_at "lt") => `(tactic| first | (with_reducible exact lT_eR) | (with_reducible exact lT_eA) | (with_reducible exact lT_d) | (with_reducible exact lT_r) | (with_reducible assumption) | exact rfl)
local macro_rules | `(tactic| walk_at "ev1") => `(tactic| first
  | (with_reducible exact v_k) | (with_reducible exact a_nil) | (with_reducible exact g_nm) | (with_reducible exact v_I) | (with_reducible exact v_neg) | (with_reducible exact int_i) | (with_reducible exact int_b) | (with_reducible exact abs_i) | (with_reducible exact i2) | (with_reducible exact g_sN) | (with_reducible exact isN_n)
  | ((with_reducible apply v_var); exact rfl) | (with_reducible assumption)
  | (with_reducible apply v_op) | (with_reducible apply v_un) | (with_reducible apply a_cons) | (with_reducible apply v_cb) | (with_reducible apply v_call) | (with_reducible apply t_b) | (with_reducible apply v_tup) | (with_reducible apply v_lst) | (with_reducible apply g_sb)
  | ((with_reducible apply v_IC); first | decide | exact Or.inl (by decide) | exact ⟨by decide, by decide⟩ | exact ⟨by decide, by decide, by decide⟩ | (with_reducible assumption) | rotate_left)
  | ((with_reducible apply v_ix); walk_at "lk") | ((with_reducible apply v_ixT); exact rfl; walk_at "lt")
  | ((with_reducible apply len_c); walk_at "hs") | ((with_reducible apply len_l); walk_at "lk")
  | ((with_reducible apply set_c); walk_at "hs") | ((with_reducible apply b_append); walk_at "hs")
  | ((with_reducible apply tup3_lt'); exact rfl) | ((with_reducible apply v_isN); exact rfl) | ((with_reducible apply v_notN); exact rfl)
  | (with_reducible exact fEq_intF) | (with_reducible exact fEq_intT) | exact at_cd (by omega)
  | exact at0 | exact at1 | exact at2 | exact at3 | exact ix0 | exact ix1 | exact ix2 | exact ix3
  | ((with_reducible apply g_tp); walk_at "lt"; exact rfl) | (with_reducible apply g_sC)
  | exact atI_ints (by omega) (by omega) | (refine atI_ints ?_ ?_; rotate_left 2) | exact atI_last | exact atI_any (by omega) (by omega) | (refine atI_any ?_ ?_; rotate_left 2)
  | ((with_reducible apply c_I); exact rfl; (with_reducible assumption)) | ((with_reducible apply c_I); exact rfl) | exact Nat.le_of_ble_eq_true rfl)
local macro_rules | `(tactic| walk_at "ev") => `(tactic| repeat (walk_at "ev1"))
local macro_rules | `(tactic| walk_at "rb") => `(tactic| repeat (first | (with_reducible exact rbs_nil) | (with_reducible apply rbs_cons) | (with_reducible exact rb_d _) | (with_reducible exact rb_r _) | ((with_reducible apply rb_ci); walk_at "hs") | ((with_reducible apply rb_ce); walk_at "hs") | (with_reducible assumption)))
local macro_rules | `(tactic| walk_at "nc") => `(tactic| (simp only [nice_l, nice_t, nice_i, nice_n, nice_tup, mem_map, implies_true, forall_const, List.forall_mem_cons, List.not_mem_nil, false_implies, and_true, true_and]; done))
structure Pur (k : Nat) (xs : List AV) : Prop where
  ex : ∃ (x0 x1 x2 x3 : Int) (cs : List Int), xs = iA x0 :: iA x1 :: iA x2 :: iA x3 :: isA cs ∧ 0 ≤ x0 ∧ 0 ≤ x1 ∧ x1 < 2 ^ 62 ∧ 0 ≤ x2 ∧ x2 ≤ (k : Int) ∧ 0 ≤ x3 ∧ (∀ c ∈ cs, 0 ≤ c) ∧ cs.length ≤ 900
theorem v_draw {S : Sto} {n k : Nat} {m : Int} {xs : List AV} (h : S[n]? = some (.lst xs)) (hp : Pur k xs) (hk : k ≤ 1000000) (m0 : 0 < m) (m1 : m < 2 ^ 200) :
    Ret (den__law_draw_59ba [.c n, iA m] S) fun v T => ∃ r xs', v = iA r ∧ T = S.set n (.lst xs') ∧ 0 ≤ r ∧ r < m ∧ Pur (k + 1) xs' := by
  obtain ⟨x0, x1, x2, x3, cs, rfl, h0, h1, h1', h2, h2', h3, hc, hl⟩ := hp.ex
  refine w_fn ?_
  apply w_seq
  apply w_as
  · walk_at "ev"
  · walk_at "ev"
  apply w_nx
  have e1 : (S.set n (OC.lst (iA x0 :: iA x1 :: iA (x2 + 1) :: iA x3 :: isA cs)))[n]? = some (.lst (iA x0 :: iA x1 :: iA (x2 + 1) :: iA x3 :: isA cs)) := get_set _ h
  generalize hS1 : S.set n (OC.lst (iA x0 :: iA x1 :: iA (x2 + 1) :: iA x3 :: isA cs)) = S1 at e1
  have hset : ∀ x, S1.set n x = S.set n x := fun x => by rw [← hS1, List.set_set]
  rw [show (S.set n (OC.lst ((iA x0 :: iA x1 :: iA x2 :: iA x3 :: isA cs).set 2 (AV.d (PyData.int (x2 + 1)))))) = S1 from hS1]
  apply w_mid (fun ρ T => ∃ y0 y1 y3 v2 v3 v4, ρ = [some (.c n), some (iA m), v2, v3, v4] ∧ T[n]? = some (.lst (iA y0 :: iA y1 :: iA (x2 + 1) :: iA y3 :: isA cs)) ∧ (∀ x, T.set n x = S.set n x) ∧ 0 ≤ y0 ∧ 0 ≤ y1 ∧ y1 < 2 ^ 62 ∧ 0 ≤ y3)
  · apply w_if
    · walk_at "ev"
    · intro hx
      have hx : x0 = 0 := of_decide_eq_true hx
      subst hx
      apply w_seq
      apply w_as
      · walk_at "ev"
      · walk_at "ev"
      apply w_nx
      apply w_mid (fun ρ T => ∃ c y3, ρ = [some (.c n), some (iA m), some (iA c), none, none] ∧ T[n]? = some (.lst (iA 0 :: iA x1 :: iA (x2 + 1) :: iA y3 :: isA cs)) ∧ (∀ x, T.set n x = S.set n x) ∧ 0 ≤ c ∧ 0 ≤ y3)
      · apply w_if
        · walk_at "ev"
        · intro hi
          have hi : 4 + x3 < ((iA 0 :: iA x1 :: iA (x2 + 1) :: iA x3 :: isA cs).length : Int) := of_decide_eq_true hi
          simp only [List.length_cons, List.length_map] at hi
          have gat : atI (iA 0 :: iA x1 :: iA (x2 + 1) :: iA x3 :: isA cs) (4 + x3) = some (iA (cs.getD x3.toNat 0)) := by
            rw [show (4 + x3) = ((x3.toNat + 4 : Nat) : Int) by omega]
            refine atI_nat ?_
            simp only [List.getElem?_cons_succ, List.getElem?_map, List.getElem?_eq_getElem (show x3.toNat < cs.length by omega), List.getD_eq_getElem?_getD]
            rfl
          have c0 : 0 ≤ cs.getD x3.toNat 0 := by
            rw [List.getD_eq_getElem?_getD, List.getElem?_eq_getElem (show x3.toNat < cs.length by omega)]
            exact hc _ (List.getElem_mem _)
          apply w_seq
          apply w_as
          · walk_at "ev"
          · walk_at "ev"
          apply w_nx
          apply w_as
          · walk_at "ev"
          · walk_at "ev"
          apply w_nxI
          exact ⟨_, _, rfl, get_set _ e1, fun x => by rw [List.set_set, hset], c0, by omega⟩
        · intro hi
          apply w_dNx
          apply w_nxI
          exact ⟨_, _, rfl, e1, hset, by decide, h3⟩
      · rintro ρ T ⟨c, y3, rfl, e2, hset2, c0, a3⟩
        apply w_seq
        apply w_if
        · walk_at "ev"
        · intro hc'
          have hc' : c < 10 ^ Int.toNat 18 := of_decide_eq_true hc'
          have hc' : c < 1000000000000000000 := hc'
          have k1 : (x1 + c + 1).natAbs < 2 ^ 64 := by omega
          have k2 : (48271 + 2 * (x2 + 1)).natAbs < 2 ^ 64 := by omega
          apply w_seq
          apply w_as
          · walk_at "ev"
            exact wide_mul k1 k2 (by decide) (by decide) (by decide)
          · walk_at "ev"
          apply w_nx
          have b1 := Int.emod_nonneg ((x1 + c + 1) * (48271 + 2 * (x2 + 1))) (show (2305843009213693951 : Int) ≠ 0 by decide)
          have b2 := Int.emod_lt_of_pos ((x1 + c + 1) * (48271 + 2 * (x2 + 1))) (show (0 : Int) < 2305843009213693951 by decide)
          generalize (x1 + c + 1) * (48271 + 2 * (x2 + 1)) % 2305843009213693951 = st at b1 b2
          have k3 : st.natAbs < 2 ^ 64 := by omega
          apply w_seq
          apply w_as
          · walk_at "ev"
            exact wide_mul k3 k3 (by decide) (by decide) (by decide)
          · walk_at "ev"
          apply w_nx
          have b3 := Int.emod_nonneg (st * st + c) (show (2305843009213693921 : Int) ≠ 0 by decide)
          have b4 := Int.emod_lt_of_pos (st * st + c) (show (0 : Int) < 2305843009213693921 by decide)
          apply w_rt
          · walk_at "ev"
          exact ⟨_, _, rfl, hset2 _, Int.emod_nonneg _ (by omega), Int.emod_lt_of_pos _ m0, ⟨0, (st * st + c) % 2305843009213693921, x2 + 1, y3, cs, rfl, by decide, b3, by omega, by omega, by omega, a3, hc, hl⟩⟩
        · intro _
          apply w_dNx
          apply w_nx
          apply w_as
          · walk_at "ev"
          · walk_at "ev"
          apply w_nxI
          exact ⟨c, x1, y3, _, _, _, rfl, get_set _ e2, fun x => by rw [List.set_set, hset2], c0, h1, h1', a3⟩
    · intro _
      apply w_dNx
      apply w_nxI
      exact ⟨x0, x1, x3, _, _, _, rfl, e1, hset, h0, h1, h1', h3⟩
  · rintro ρ T ⟨y0, y1, y3, v2, v3, v4, rfl, hs, hset, a0, a1, a1', a3⟩
    apply w_seq
    apply w_as
    · walk_at "ev"
    · walk_at "ev"
    apply w_nx
    apply w_seq
    apply w_as
    · walk_at "ev"
      exact (wide_div m0 (b := 201) (by omega) (by decide) (by decide))
    · walk_at "ev"
    apply w_nx
    apply w_rt
    · walk_at "ev"
    exact ⟨y0 % m, _, rfl, hset _, Int.emod_nonneg _ (by omega), Int.emod_lt_of_pos _ m0, ⟨y0 / m, y1, x2 + 1, y3, cs, rfl, Int.ediv_nonneg a0 (by omega), a1, a1', by omega, by omega, a3, hc, hl⟩⟩


end
section
local macro_rules | `(tactic| walk_at "hs") => `(tactic| first | (with_reducible assumption) | exact rfl | (apply get_set; walk_at "hs"))
local macro_rules | `(tactic| walk_at "lk") => `(tactic| first | (with_reducible exact l_rI) | (with_reducible exact l_dI) | (with_reducible exact l_rE) | (with_reducible exact l_dE) | ((with_reducible apply l_c); walk_at "hs") | (with_reducible exact l_d) | (with_reducible exact l_r) | (with_reducible assumption))
local macro_rules | `(tactic| walk_at "lt") => `(tactic| first | (with_reducible exact lT_eR) | (with_reducible exact lT_eA) | (with_reducible exact lT_d) | (with_reducible exact lT_r) | (with_reducible assumption) | exact rfl)
local macro_rules | `(tactic| walk_at "ev1") => `(tactic| first
  | (with_reducible exact v_k) | (with_reducible exact a_nil) | (with_reducible exact g_nm) | (with_reducible exact v_I) | (with_reducible exact v_neg) | (with_reducible exact int_i) | (with_reducible exact int_b) | (with_reducible exact abs_i) | (with_reducible exact i2) | (with_reducible exact g_sN) | (with_reducible exact isN_n)
  | ((with_reducible apply v_var); exact rfl) | (with_reducible assumption)
  | (with_reducible apply v_op) | (with_reducible apply v_un) | (with_reducible apply a_cons) | (with_reducible apply v_cb) | (with_reducible apply v_call) | (with_reducible apply t_b) | (with_reducible apply v_tup) | (with_reducible apply v_lst) | (with_reducible apply g_sb)
  | ((with_reducible apply v_IC); first | decide | exact Or.inl (by decide) | exact ⟨by decide, by decide⟩ | exact ⟨by decide, by decide, by decide⟩ | (with_reducible assumption) | rotate_left)
  | ((with_reducible apply v_ix); walk_at "lk") | ((with_reducible apply v_ixT); exact rfl; walk_at "lt")
  | ((with_reducible apply len_c); walk_at "hs") | ((with_reducible apply len_l); walk_at "lk")
  | ((with_reducible apply set_c); walk_at "hs") | ((with_reducible apply b_append); walk_at "hs")
  | ((with_reducible apply tup3_lt'); exact rfl) | ((with_reducible apply v_isN); exact rfl) | ((with_reducible apply v_notN); exact rfl)
  | (with_reducible exact fEq_intF) | (with_reducible exact fEq_intT) | exact at_cd (by omega)
  | exact at0 | exact at1 | exact at2 | exact at3 | exact ix0 | exact ix1 | exact ix2 | exact ix3
  | ((with_reducible apply g_tp); walk_at "lt"; exact rfl) | (with_reducible apply g_sC)
  | exact atI_ints (by omega) (by omega) | (refine atI_ints ?_ ?_; rotate_left 2) | exact atI_last | exact atI_any (by omega) (by omega) | (refine atI_any ?_ ?_; rotate_left 2)
  | ((with_reducible apply c_I); exact rfl; (with_reducible assumption)) | ((with_reducible apply c_I); exact rfl) | exact Nat.le_of_ble_eq_true rfl)
local macro_rules | `(tactic| walk_at "ev") => `(tactic| repeat (walk_at "ev1"))
local macro_rules | `(tactic| walk_at "rb") => `(tactic| repeat (first | (with_reducible exact rbs_nil) | (with_reducible apply rbs_cons) | (with_reducible exact rb_d _) | (with_reducible exact rb_r _) | ((with_reducible apply rb_ci); walk_at "hs") | ((with_reducible apply rb_ce); walk_at "hs") | (with_reducible assumption)))
local macro_rules | `(tactic| walk_at "nc") => `(tactic| (simp only [nice_l, nice_t, nice_i, nice_n, nice_tup, mem_map, implies_true, forall_const, List.forall_mem_cons, List.not_mem_nil, false_implies, and_true, true_and]; done))
-- import EV Dens V0
theorem dr {S : Sto} {n k : Nat} {m : Int} {xs : List AV} (h : S[n]? = some (.lst xs)) (hp : Pur k xs) (hk : k ≤ 1000000) (m0 : 0 < m) (m1 : m < 2 ^ 200) :
    ∃ r xs', den__law_draw_59ba [.c n, iA m] S = .ok (iA r) (S.set n (.lst xs')) ∧ 0 ≤ r ∧ r < m ∧ Pur (k + 1) xs' ∧ (S.set n (.lst xs'))[n]? = some (.lst xs') := by
  obtain ⟨v, T, e, r, xs', rfl, rfl, h1, h2, h3⟩ := v_draw h hp hk m0 m1
  exact ⟨r, xs', e, h1, h2, h3, get_set _ h⟩
theorem at_rng {S : Sto} {i n : Nat} {lo : Int} (h : i < n) : (ItA.rng lo n).at_ S i = some (some (iA (lo + i))) := by
  show some (if i < n then _ else _) = _; rw [if_pos h]
theorem at_rng0 {S : Sto} {n : Nat} {lo : Int} : (ItA.rng lo n).at_ S n = some none := by
  show some (if n < n then _ else _) = _; rw [if_neg (Nat.lt_irrefl n)]
theorem j_r1 {dl : LV} {ρ : En} {S S1 : Sto} {n : Nat} {i : Int} (h : dl ρ S = .ok [iA i] S1) (e : i = (n : Int)) (hn : n ≤ 1000000) : jR1 dl ρ S = .ok (.rng 0 n) S1 := by
  unfold jR1
  rw [h, bind_ok]
  simp only
  rw [if_pos (by unfold rgOk; omega), e, Int.toNat_natCast]

end
section
local macro_rules | `(tactic| walk_at "hs") => `(tactic| first | (with_reducible assumption) | exact rfl | (apply get_set; walk_at "hs"))
local macro_rules | `(tactic| walk_at "lk") => `(tactic| first | (with_reducible exact l_rI) | (with_reducible exact l_dI) | (with_reducible exact l_rE) | (with_reducible exact l_dE) | ((with_reducible apply l_c); walk_at "hs") | (with_reducible exact l_d) | (with_reducible exact l_r) | (with_reducible assumption))
local macro_rules | `(tactic| walk_at "lt") => `(tactic| first | (with_reducible exact lT_eR) | (with_reducible exact lT_eA) | (with_reducible exact lT_d) | (with_reducible exact lT_r) | (with_reducible assumption) | exact rfl)
local macro_rules | `(tactic| walk_at "ev1") => `(tactic| first
  | (with_reducible exact v_k) | (with_reducible exact a_nil) | (with_reducible exact g_nm) | (with_reducible exact v_I) | (with_reducible exact v_neg) | (with_reducible exact int_i) | (with_reducible exact int_b) | (with_reducible exact abs_i) | (with_reducible exact i2) | (with_reducible exact g_sN) | (with_reducible exact isN_n)
  | ((with_reducible apply v_var); exact rfl) | (with_reducible assumption)
  | (with_reducible apply v_op) | (with_reducible apply v_un) | (with_reducible apply a_cons) | (with_reducible apply v_cb) | (with_reducible apply v_call) | (with_reducible apply t_b) | (with_reducible apply v_tup) | (with_reducible apply v_lst) | (with_reducible apply g_sb)
  | ((with_reducible apply v_IC); first | decide | exact Or.inl (by decide) | exact ⟨by decide, by decide⟩ | exact ⟨by decide, by decide, by decide⟩ | (with_reducible assumption) | rotate_left)
  | ((with_reducible apply v_ix); walk_at "lk") | ((with_reducible apply v_ixT); exact rfl; walk_at "lt")
  | ((with_reducible apply len_c); walk_at "hs") | ((with_reducible apply len_l); walk_at "lk")
  | ((with_reducible apply set_c); walk_at "hs") | ((with_reducible apply b_append); walk_at "hs")
  | ((with_reducible apply tup3_lt'); exact rfl) | ((with_reducible apply v_isN); exact rfl) | ((with_reducible apply v_notN); exact rfl)
  | (with_reducible exact fEq_intF) | (with_reducible exact fEq_intT) | exact at_cd (by omega)
  | exact at0 | exact at1 | exact at2 | exact at3 | exact ix0 | exact ix1 | exact ix2 | exact ix3
  | ((with_reducible apply g_tp); walk_at "lt"; exact rfl) | (with_reducible apply g_sC)
  | exact atI_ints (by omega) (by omega) | (refine atI_ints ?_ ?_; rotate_left 2) | exact atI_last | exact atI_any (by omega) (by omega) | (refine atI_any ?_ ?_; rotate_left 2)
  | ((with_reducible apply c_I); exact rfl; (with_reducible assumption)) | ((with_reducible apply c_I); exact rfl) | exact Nat.le_of_ble_eq_true rfl)
local macro_rules | `(tactic| walk_at "ev") => `(tactic| repeat (walk_at "ev1"))
local macro_rules | `(tactic| walk_at "rb") => `(tactic| repeat (first | (with_reducible exact rbs_nil) | (with_reducible apply rbs_cons) | (with_reducible exact rb_d _) | (with_reducible exact rb_r _) | ((with_reducible apply rb_ci); walk_at "hs") | ((with_reducible apply rb_ce); walk_at "hs") | (with_reducible assumption)))
local macro_rules | `(tactic| walk_at "nc") => `(tactic| (simp only [nice_l, nice_t, nice_i, nice_n, nice_tup, mem_map, implies_true, forall_const, List.forall_mem_cons, List.not_mem_nil, false_implies, and_true, true_and]; done))
-- import EV Dens V1 Way
/-! ### data -/
abbrev eA (e : Int × Int) : AV := .d (tupD [e.1, e.2])
abbrev hA (l : List Nat) : List AV := isA (l.map fun i : Nat => (i : Int))
abbrev wA (w : List (Nat × Nat)) : List AV := (w.map cst).map eA
abbrev heldD (l : List Nat) : PyData := intsD (l.map fun i : Nat => (i : Int))
theorem rel_ints (ns : List Int) : (ns.map PyData.int).map rel = isA ns := by rw [List.map_map]; rfl
theorem l_rI {S : Sto} {ns : List Int} : look S (.r (intsD ns)) = some (isA ns) := by
  show some ((ns.map PyData.int).map rel) = _
  rw [rel_ints]
theorem l_dI {S : Sto} {ns : List Int} : look S (.d (intsD ns)) = some (isA ns) := by
  show some ((ns.map PyData.int).map AV.d) = _
  rw [List.map_map]; rfl
def eR (e : Int × Int) : AV := .r (tupD [e.1, e.2])
theorem l_rE {S : Sto} {es : List (Int × Int)} : look S (.r (entD es)) = some (es.map eR) := by
  show some ((es.map fun e => tupD [e.1, e.2]).map rel) = _
  rw [List.map_map]; rfl
theorem l_dE {S : Sto} {es : List (Int × Int)} : look S (.d (entD es)) = some (es.map eA) := by
  show some ((es.map fun e => tupD [e.1, e.2]).map AV.d) = _
  rw [List.map_map]; rfl
theorem lT_eR {e : Int × Int} : lookT (eR e) = some [iA e.1, iA e.2] := rfl
theorem lT_eA {e : Int × Int} : lookT (eA e) = some [iA e.1, iA e.2] := rfl
theorem at_cd {row : List Int} {i : Nat} (h : i < row.length) : atI (isA row) ((i : Nat) : Int) = some (iA (cd row i)) := atI_isA rfl h
def Dat (oc : OC) : Prop := ∃ xs, oc = .lst xs ∧ ∀ x ∈ xs, ∃ d, x = .d d
theorem dat_isA {ns : List Int} : Dat (.lst (isA ns)) := ⟨_, rfl, fun x h => by obtain ⟨i, _, rfl⟩ := List.mem_map.mp h; exact ⟨_, rfl⟩⟩
theorem dat_wA {es : List (Int × Int)} : Dat (.lst (es.map eA)) := ⟨_, rfl, fun x h => by obtain ⟨i, _, rfl⟩ := List.mem_map.mp h; exact ⟨_, rfl⟩⟩
theorem Dat.ok {oc : OC} (h : Dat oc) (n : Nat) : ocOk n oc := by
  obtain ⟨xs, rfl, h⟩ := h
  intro x hx
  obtain ⟨d, rfl⟩ := h x hx
  trivial
theorem closed_dat {S G : Sto} (h : ∀ oc ∈ S, Dat oc) : closed S.length (S ++ G) := fun oc ho => by
  rw [List.take_left'] at ho
  · exact (h oc ho).ok _
  · rfl
theorem closed_dat0 {S : Sto} {n : Nat} (h : ∀ oc ∈ S, Dat oc) : closed n S := fun oc ho => (h oc (List.mem_of_mem_take ho)).ok _
theorem rb_cell {al : Bool} {S : Sto} {n : Nat} {ds : List PyData} (h : S[n]? = some (.lst (ds.map .d))) (k : Nat) : rb al (k + 1) S (.c n) = some (.list ds) := by
  unfold rb
  rw [h]
  simp only
  rw [rbs_d (fun x => by unfold rb; rfl)]
  rfl
section
variable {ρ : En} {S S1 T G : Sto} {da : EV} {x : AV} {g : TV}
theorem t_gc {b : Bool} (h : g ρ S = .ok b (S ++ G)) (hd : ∀ oc ∈ S, Dat oc) : bGc g ρ S = .ok b S := by
  unfold bGc
  rw [h]
  simp only
  rw [if_pos (closed_dat hd), List.take_left']
  rfl
theorem v_fzL {j : Nat} {ds : List PyData} {k : Nat} (h : da ρ S = .ok (.c k) (S1 ++ G)) (hl : S1.length = S.length) (hd : ∀ oc ∈ S1, Dat oc) (hk : k = S.length + j) (hG : G[j]? = some (.lst (ds.map .d))) : eFz da ρ S = .ok (.d (.list ds)) S1 := by
  subst hk
  unfold eFz
  rw [h]
  simp only
  rw [← hl, if_pos ⟨closed_dat hd, by simp⟩]
  have : frzR S1.length (.c (S1.length + j)) (S1 ++ G) = some (.d (.list ds)) := by
    show (match rb false 8 (newS S1.length (S1 ++ G)) (.c (S1.length + j)) with | some d => some (AV.d d) | none => (rb true 8 (newS S1.length (S1 ++ G)) (.c (S1.length + j))).map AV.r) = _
    rw [rb_cell (ds := ds) ?_ 7]
    · unfold newS
      rw [List.drop_left' rfl, List.getElem?_append_right (by simp), List.length_replicate, show S1.length + j - S1.length = j by omega, hG]
  simp only [this]
  rw [List.take_left' rfl]
theorem v_gcL {j : Nat} {xs : List AV} {k : Nat} (h : da ρ S = .ok (.c k) (S1 ++ G)) (hl : S1.length = S.length) (hd : ∀ oc ∈ S1, Dat oc) (hk : k = S.length + j) (hG : G[j]? = some (.lst xs)) (hx : Dat (.lst xs)) : eGc da ρ S = .ok (.c S.length) (S1 ++ [.lst xs]) := by
  subst hk
  unfold eGc
  rw [h]
  show gcR S.length (.c (S.length + j)) (S1 ++ G) = _
  unfold gcR
  simp only
  rw [if_neg (by omega), List.getElem?_append_right (by omega), hl, show S.length + j - S.length = j by omega, hG]
  simp only
  rw [if_pos ⟨by rw [← hl]; exact closed_dat hd, hx.ok _, by rw [List.length_append]; omega⟩, ← hl, List.take_left' rfl]
end
theorem fEq_of {S : Sto} {neg : Bool} {a b : AV} {d e : PyData} (h1 : rb true 8 S a = some d) (h2 : rb true 8 S b = some e) (s1 : SeqAt.shaped d = true) (s2 : SeqAt.shaped e = true) : fEq neg a b S = .ok (bA (if neg = true then !PyData.eqv d e else PyData.eqv d e)) S := by
  unfold fEq
  simp only [h1, h2]
  rw [if_pos ⟨s1, s2⟩]
theorem rb_r {S : Sto} {d : PyData} (k : Nat) : rb true k S (.r d) = some d := by unfold rb; rfl
theorem rb_d {al : Bool} {S : Sto} {d : PyData} (k : Nat) : rb al k S (.d d) = some d := by unfold rb; rfl
theorem isA_d (ns : List Int) : isA ns = (ns.map PyData.int).map .d := by rw [List.map_map]; rfl
theorem eA_d (es : List (Int × Int)) : es.map eA = (es.map fun e => tupD [e.1, e.2]).map .d := by rw [List.map_map]; rfl
theorem t_nil {neg : Bool} {ρ : En} {S : Sto} {da : EV} {x : AV} {ds : List PyData} (h : da ρ S = .ok x S) (hr : rb true 8 (S ++ [.lst []]) x = some (.list ds)) (s : SeqAt.shaped (.list ds) = true) (hd : ∀ oc ∈ S, Dat oc) :
    bGc (bE (eOp (fEq neg) da (eLst aNil))) ρ S = .ok (if neg = true then !ds.isEmpty else ds.isEmpty) S := by
  refine t_gc (G := [.lst []]) (t_b (v_op h (v_lst a_nil (by decide)) ?_)) hd
  rw [fEq_of hr (rb_cell (ds := []) (by simp) 7) s shaped_nil, eqv_nil]
theorem tupA_lt {S : Sto} {ks ms : List Int} : fLtT (tupA ks) (tupA ms) S = .ok (bA (decide (ks < ms))) S := by
  have h : ∀ ns : List Int, asTup (tupA ns) = some ns := fun ns => by
    show (some ((ns.map PyData.int).map .d)).bind asInts = _
    rw [← isA_d]
    exact asInts_map ns
  unfold fLtT
  rw [h, h]
  simp only
  rw [lexLt_lt]
theorem tup3_lt {S : Sto} {a b c : Int} {ms : List Int} : fLtT (mkT [iA a, iA b, iA c]) (tupA ms) S = .ok (bA (decide ([a, b, c] < ms))) S := tupA_lt (ks := [a, b, c])
theorem tup3_lt' {S : Sto} {a b c : Int} {ms : List Int} {q : Bool} (hq : q = decide ([a, b, c] < ms)) : fLtT (mkT [iA a, iA b, iA c]) (tupA ms) S = .ok (bA q) S := by subst hq; exact tup3_lt
theorem envOk_cons {n : Nat} {x : Option AV} {r : En} (h1 : ∀ y, x = some y → refOk n y) (h2 : envOk n r) : envOk n (x :: r) := fun y hy => by
  rcases List.mem_cons.mp hy with h | h
  · exact h1 y h.symm
  · exact h2 y h
theorem envOk_nil {n : Nat} : envOk n [] := fun y hy => by cases hy
theorem rf_d {n : Nat} {d : PyData} : ∀ y, some (AV.d d) = some y → refOk n y := fun y h => by cases h; trivial
theorem rf_r {n : Nat} {d : PyData} : ∀ y, some (AV.r d) = some y → refOk n y := fun y h => by cases h; trivial
theorem rf_c {n k : Nat} (hk : k < n) : ∀ y, some (AV.c k) = some y → refOk n y := fun y h => by cases h; exact hk
theorem rf_n {n : Nat} : ∀ y, (none : Option AV) = some y → refOk n y := fun y h => by cases h
theorem app0 {S1 : Sto} {x : OC} {r : Sto} {a : Nat} (h : S1.length = a) : (S1 ++ x :: r)[a]? = some x := by subst h; simp
theorem v_rem {ρ : En} {S : Sto} {da db : EV} {k : Nat} {ns : List Int} {i : Int} (h1 : da ρ S = .ok (.c k) S) (hk : S[k]? = some (.lst (isA ns))) (h2 : db ρ S = .ok (iA i) S) (hi : i ∈ ns) : eRem da db ρ S = .ok nA (S.set k (.lst (isA (ns.erase i)))) := by
  unfold eRem
  rw [h1, bind_ok]
  simp only [l_c hk]
  rw [h2, bind_ok]
  have : (cellL S (.c k)).bind asInts = some ns := by
    unfold cellL
    simp only [hk]
    exact asInts_map ns
  simp only [this, asI]
  rw [if_pos hi]
theorem rbs_nil {f : AV → Option PyData} : rbs f [] = some [] := rfl
theorem rbs_cons {f : AV → Option PyData} {x : AV} {xs : List AV} {d : PyData} {ds : List PyData} (h1 : f x = some d) (h2 : rbs f xs = some ds) : rbs f (x :: xs) = some (d :: ds) := by
  show (match f x, rbs f xs with | some d, some ds => some (d :: ds) | _, _ => none) = _
  rw [h1, h2]
theorem rb_ci {al : Bool} {S : Sto} {n k : Nat} {ns : List Int} (h : S[n]? = some (.lst (isA ns))) : rb al (k + 1) S (.c n) = some (intsD ns) := rb_cell (ds := ns.map .int) (by rw [h, isA_d]) k
theorem rb_ce {al : Bool} {S : Sto} {n k : Nat} {es : List (Int × Int)} (h : S[n]? = some (.lst (es.map eA))) : rb al (k + 1) S (.c n) = some (entD es) := rb_cell (ds := es.map fun e => tupD [e.1, e.2]) (by rw [h, eA_d]) k
theorem wA_snoc (w : List (Nat × Nat)) (e : Nat × Nat) : wA (w ++ [e]) = wA w ++ [eA (cst e)] := by simp [wA]
theorem wA_last {w : List (Nat × Nat)} {e : Nat × Nat} {v : List (Nat × Nat)} (h : v = w ++ [e]) : atI (wA v) (-1) = some (eA (cst e)) := by
  subst h
  rw [wA_snoc]
  exact atI_last
theorem snoc_of {α : Type} {w : List α} (h : w ≠ []) : ∃ v e, w = v ++ [e] := by
  obtain ⟨v, e, he⟩ := (List.eq_nil_or_concat w).resolve_left h
  exact ⟨v, e, by simpa using he⟩
section
variable {g h : TV} {c e : Bool} {ρ : En} {S S1 S2 : Sto}
theorem t_and1' (h1 : g ρ S = .ok c S1) (hc : c = true) (h2 : h ρ S1 = .ok e S2) : bAnd g h ρ S = .ok e S2 := by subst hc; exact t_and1 h1 h2
theorem t_and0' (h1 : g ρ S = .ok c S1) (hc : c = false) : bAnd g h ρ S = .ok false S1 := by subst hc; exact t_and0 h1
theorem t_or1' (h1 : g ρ S = .ok c S1) (hc : c = true) : bOr g h ρ S = .ok true S1 := by subst hc; exact t_or1 h1
theorem t_or0' (h1 : g ρ S = .ok c S1) (hc : c = false) (h2 : h ρ S1 = .ok e S2) : bOr g h ρ S = .ok e S2 := by subst hc; exact t_or0 h1 h2
end
theorem eqv_int {i j : Int} : PyData.eqv (.int i) (.int j) = (i == j) := by simp only [PyData.eqv]
theorem shaped_int {i : Int} : SeqAt.shaped (.int i) = true := by unfold SeqAt.shaped; rfl
theorem fEq_int {neg : Bool} {i j : Int} {S : Sto} : fEq neg (iA i) (iA j) S = .ok (bA (if neg = true then !decide (i = j) else decide (i = j))) S := by
  rw [fEq_of (rb_d 8) (rb_d 8) shaped_int shaped_int, eqv_int]
  rfl
theorem fEq_intF {i j : Int} {S : Sto} : fEq false (iA i) (iA j) S = .ok (bA (decide (i = j))) S := fEq_int
theorem fEq_intT {i j : Int} {S : Sto} : fEq true (iA i) (iA j) S = .ok (bA (!decide (i = j))) S := fEq_int


end
section
local macro_rules | `(tactic| walk_at "hs") => `(tactic| first | (with_reducible assumption) | exact rfl | (apply get_set; walk_at "hs"))
local macro_rules | `(tactic| walk_at "lk") => `(tactic| first | (with_reducible exact l_rI) | (with_reducible exact l_dI) | (with_reducible exact l_rE) | (with_reducible exact l_dE) | ((with_reducible apply l_c); walk_at "hs") | (with_reducible exact l_d) | (with_reducible exact l_r) | (with_reducible assumption))
local macro_rules | `(tactic| walk_at "lt") => `(tactic| first | (with_reducible exact lT_eR) | (with_reducible exact lT_eA) | (with_reducible exact lT_d) | (with_reducible exact lT_r) | (with_reducible assumption) | exact rfl)
local macro_rules | `(tactic| walk_at "ev1") => `(tactic| first
  | (with_reducible exact v_k) | (with_reducible exact a_nil) | (with_reducible exact g_nm) | (with_reducible exact v_I) | (with_reducible exact v_neg) | (with_reducible exact int_i) | (with_reducible exact int_b) | (with_reducible exact abs_i) | (with_reducible exact i2) | (with_reducible exact g_sN) | (with_reducible exact isN_n)
  | ((with_reducible apply v_var); exact rfl) | (with_reducible assumption)
  | (with_reducible apply v_op) | (with_reducible apply v_un) | (with_reducible apply a_cons) | (with_reducible apply v_cb) | (with_reducible apply v_call) | (with_reducible apply t_b) | (with_reducible apply v_tup) | (with_reducible apply v_lst) | (with_reducible apply g_sb)
  | ((with_reducible apply v_IC); first | decide | exact Or.inl (by decide) | exact ⟨by decide, by decide⟩ | exact ⟨by decide, by decide, by decide⟩ | (with_reducible assumption) | rotate_left)
  | ((with_reducible apply v_ix); walk_at "lk") | ((with_reducible apply v_ixT); exact rfl; walk_at "lt")
  | ((with_reducible apply len_c); walk_at "hs") | ((with_reducible apply len_l); walk_at "lk")
  | ((with_reducible apply set_c); walk_at "hs") | ((with_reducible apply b_append); walk_at "hs")
  | ((with_reducible apply tup3_lt'); exact rfl) | ((with_reducible apply v_isN); exact rfl) | ((with_reducible apply v_notN); exact rfl)
  | (with_reducible exact fEq_intF) | (with_reducible exact fEq_intT) | exact at_cd (by omega)
  | exact at0 | exact at1 | exact at2 | exact at3 | exact ix0 | exact ix1 | exact ix2 | exact ix3
  | ((with_reducible apply g_tp); walk_at "lt"; exact rfl) | (with_reducible apply g_sC)
  | exact atI_ints (by omega) (by omega) | (refine atI_ints ?_ ?_; rotate_left 2) | exact atI_last | exact atI_any (by omega) (by omega) | (refine atI_any ?_ ?_; rotate_left 2)
  | ((with_reducible apply c_I); exact rfl; (with_reducible assumption)) | ((with_reducible apply c_I); exact rfl) | exact Nat.le_of_ble_eq_true rfl)
local macro_rules | `(tactic| walk_at "ev") => `(tactic| repeat (walk_at "ev1"))
local macro_rules | `(tactic| walk_at "rb") => `(tactic| repeat (first | (with_reducible exact rbs_nil) | (with_reducible apply rbs_cons) | (with_reducible exact rb_d _) | (with_reducible exact rb_r _) | ((with_reducible apply rb_ci); walk_at "hs") | ((with_reducible apply rb_ce); walk_at "hs") | (with_reducible assumption)))
local macro_rules | `(tactic| walk_at "nc") => `(tactic| (simp only [nice_l, nice_t, nice_i, nice_n, nice_tup, mem_map, implies_true, forall_const, List.forall_mem_cons, List.not_mem_nil, false_implies, and_true, true_and]; done))
-- import EV Dens V4
theorem v_in {neg : Bool} {S : Sto} {x : AV} {ns : List Int} {i : Int} (h : look S x = some (isA ns)) : fIn neg (iA i) x S = .ok (bA (if neg = true then !decide (i ∈ ns) else decide (i ∈ ns))) S := by
  unfold fIn
  simp only [h, flatA, flatAs_ints, inV_ints]
theorem v_cat {S : Sto} {a b : AV} {xs ys : List AV} (h1 : look S a = some xs) (h2 : look S b = some ys) (h : xs.length + ys.length ≤ 1000) : fCat a b S = .ok (.c S.length) (S ++ [.lst (xs ++ ys)]) := by
  unfold fCat
  simp only [h1, h2]
  rw [if_pos h]
  rfl
theorem thaw_ints {S : Sto} {n : Nat} {ns : List Int} (h : S[n]? = some (.lst (isA ns))) : thaw (.c n) S = some (ns.map .int) := by
  unfold thaw
  simp only [h]
  rw [isA_d, rbs_d (fun x => by unfold rb; rfl)]

end
section
local macro_rules | `(tactic| walk_at "hs") => `(tactic| first | (with_reducible assumption) | exact rfl | (apply get_set; walk_at "hs"))
local macro_rules | `(tactic| walk_at "lk") => `(tactic| first | (with_reducible exact l_rI) | (with_reducible exact l_dI) | (with_reducible exact l_rE) | (with_reducible exact l_dE) | ((with_reducible apply l_c); walk_at "hs") | (with_reducible exact l_d) | (with_reducible exact l_r) | (with_reducible assumption))
local macro_rules | `(tactic| walk_at "lt") => `(tactic| first | (with_reducible exact lT_eR) | (with_reducible exact lT_eA) | (with_reducible exact lT_d) | (with_reducible exact lT_r) | (with_reducible assumption) | exact rfl)
local macro_rules | `(tactic| walk_at "ev1") => `(tactic| first
  | (with_reducible exact v_k) | (with_reducible exact a_nil) | (with_reducible exact g_nm) | (with_reducible exact v_I) | (with_reducible exact v_neg) | (with_reducible exact int_i) | (with_reducible exact int_b) | (with_reducible exact abs_i) | (with_reducible exact i2) | (with_reducible exact g_sN) | (with_reducible exact isN_n)
  | ((with_reducible apply v_var); exact rfl) | (with_reducible assumption)
  | (with_reducible apply v_op) | (with_reducible apply v_un) | (with_reducible apply a_cons) | (with_reducible apply v_cb) | (with_reducible apply v_call) | (with_reducible apply t_b) | (with_reducible apply v_tup) | (with_reducible apply v_lst) | (with_reducible apply g_sb)
  | ((with_reducible apply v_IC); first | decide | exact Or.inl (by decide) | exact ⟨by decide, by decide⟩ | exact ⟨by decide, by decide, by decide⟩ | (with_reducible assumption) | rotate_left)
  | ((with_reducible apply v_ix); walk_at "lk") | ((with_reducible apply v_ixT); exact rfl; walk_at "lt")
  | ((with_reducible apply len_c); walk_at "hs") | ((with_reducible apply len_l); walk_at "lk")
  | ((with_reducible apply set_c); walk_at "hs") | ((with_reducible apply b_append); walk_at "hs")
  | ((with_reducible apply tup3_lt'); exact rfl) | ((with_reducible apply v_isN); exact rfl) | ((with_reducible apply v_notN); exact rfl)
  | (with_reducible exact fEq_intF) | (with_reducible exact fEq_intT) | exact at_cd (by omega)
  | exact at0 | exact at1 | exact at2 | exact at3 | exact ix0 | exact ix1 | exact ix2 | exact ix3
  | ((with_reducible apply g_tp); walk_at "lt"; exact rfl) | (with_reducible apply g_sC)
  | exact atI_ints (by omega) (by omega) | (refine atI_ints ?_ ?_; rotate_left 2) | exact atI_last | exact atI_any (by omega) (by omega) | (refine atI_any ?_ ?_; rotate_left 2)
  | ((with_reducible apply c_I); exact rfl; (with_reducible assumption)) | ((with_reducible apply c_I); exact rfl) | exact Nat.le_of_ble_eq_true rfl)
local macro_rules | `(tactic| walk_at "ev") => `(tactic| repeat (walk_at "ev1"))
local macro_rules | `(tactic| walk_at "rb") => `(tactic| repeat (first | (with_reducible exact rbs_nil) | (with_reducible apply rbs_cons) | (with_reducible exact rb_d _) | (with_reducible exact rb_r _) | ((with_reducible apply rb_ci); walk_at "hs") | ((with_reducible apply rb_ce); walk_at "hs") | (with_reducible assumption)))
local macro_rules | `(tactic| walk_at "nc") => `(tactic| (simp only [nice_l, nice_t, nice_i, nice_n, nice_tup, mem_map, implies_true, forall_const, List.forall_mem_cons, List.not_mem_nil, false_implies, and_true, true_and]; done))
-- import EV Dens V7
section
variable {ρ ρ1 : En} {S S1 S2 S3 : Sto} {x y z a b : AV} {xs ys zs : List AV} {da db dc : EV} {dl dr : LV} {i j : Int} {n : Nat} {Q : Out → Prop} {C : Addr} {gs : List (Str × AV)} {f : Str}
theorem v_fld (h1 : da ρ S = .ok (.c n) S1) (h2 : S1[n]? = some (.obj C gs)) (h4 : gs.lookup f = some y) : eFld [C] da f ρ S = .ok y S1 := by
  unfold eFld
  rw [h1, bind_ok]
  unfold objAt
  simp only [h2, List.mem_singleton, if_true, h4]
end
/-! ### a laying in the store -/
def oA : Option Int → AV
  | none => nA
  | some l => iA l
abbrev obL (C : Addr) (x : AV) (h : Int) (a b : Nat) (s : LSt) : OC := .obj C [("row", x), ("room", iA h), ("drawn", iA (s.drawn : Int)), ("held", .c a), ("way", .c b), ("last", oA s.last), ("pile", iA (s.pile : Int))]
structure Pos (S : Sto) (n a b : Nat) : Prop where
  ln : n < S.length
  la : a < S.length
  lb : b < S.length
  na : n ≠ a
  nb : n ≠ b
  ab : a ≠ b
  cl : closed S.length S
def putL (C : Addr) (x : AV) (h : Int) (n a b : Nat) (S : Sto) (s : LSt) : Sto := ((S.set n (obL C x h a b s)).set a (.lst (hA s.held))).set b (.lst (wA s.way))
section
variable {C : Addr} {x : AV} {h : Int} {n a b : Nat} {S : Sto} {s t : LSt}
theorem putL_o (p : Pos S n a b) : (putL C x h n a b S s)[n]? = some (obL C x h a b s) := by
  unfold putL
  rw [List.getElem?_set_ne p.nb.symm, List.getElem?_set_ne p.na.symm, List.getElem?_set_self p.ln]
theorem putL_h (p : Pos S n a b) : (putL C x h n a b S s)[a]? = some (.lst (hA s.held)) := by
  unfold putL
  rw [List.getElem?_set_ne p.ab.symm, List.getElem?_set_self (by rw [List.length_set]; exact p.la)]
theorem putL_w (p : Pos S n a b) : (putL C x h n a b S s)[b]? = some (.lst (wA s.way)) := by
  unfold putL
  rw [List.getElem?_set_self (by rw [List.length_set, List.length_set]; exact p.lb)]
end


end
section
local macro_rules | `(tactic| walk_at "hs") => `(tactic| first | (with_reducible assumption) | exact rfl | (apply get_set; walk_at "hs"))
local macro_rules | `(tactic| walk_at "lk") => `(tactic| first | (with_reducible exact l_rI) | (with_reducible exact l_dI) | (with_reducible exact l_rE) | (with_reducible exact l_dE) | ((with_reducible apply l_c); walk_at "hs") | (with_reducible exact l_d) | (with_reducible exact l_r) | (with_reducible assumption))
local macro_rules | `(tactic| walk_at "lt") => `(tactic| first | (with_reducible exact lT_eR) | (with_reducible exact lT_eA) | (with_reducible exact lT_d) | (with_reducible exact lT_r) | (with_reducible assumption) | exact rfl)
local macro_rules | `(tactic| walk_at "ev1") => `(tactic| first
  | (with_reducible exact v_k) | (with_reducible exact a_nil) | (with_reducible exact g_nm) | (with_reducible exact v_I) | (with_reducible exact v_neg) | (with_reducible exact int_i) | (with_reducible exact int_b) | (with_reducible exact abs_i) | (with_reducible exact i2) | (with_reducible exact g_sN) | (with_reducible exact isN_n)
  | ((with_reducible apply v_var); exact rfl) | (with_reducible assumption)
  | (with_reducible apply v_op) | (with_reducible apply v_un) | (with_reducible apply a_cons) | (with_reducible apply v_cb) | (with_reducible apply v_call) | (with_reducible apply t_b) | (with_reducible apply v_tup) | (with_reducible apply v_lst) | (with_reducible apply g_sb)
  | ((with_reducible apply v_IC); first | decide | exact Or.inl (by decide) | exact ⟨by decide, by decide⟩ | exact ⟨by decide, by decide, by decide⟩ | (with_reducible assumption) | rotate_left)
  | ((with_reducible apply v_ix); walk_at "lk") | ((with_reducible apply v_ixT); exact rfl; walk_at "lt")
  | ((with_reducible apply len_c); walk_at "hs") | ((with_reducible apply len_l); walk_at "lk")
  | ((with_reducible apply set_c); walk_at "hs") | ((with_reducible apply b_append); walk_at "hs")
  | ((with_reducible apply tup3_lt'); exact rfl) | ((with_reducible apply v_isN); exact rfl) | ((with_reducible apply v_notN); exact rfl)
  | (with_reducible exact fEq_intF) | (with_reducible exact fEq_intT) | exact at_cd (by omega)
  | exact at0 | exact at1 | exact at2 | exact at3 | exact ix0 | exact ix1 | exact ix2 | exact ix3
  | ((with_reducible apply g_tp); walk_at "lt"; exact rfl) | (with_reducible apply g_sC)
  | exact atI_ints (by omega) (by omega) | (refine atI_ints ?_ ?_; rotate_left 2) | exact atI_last | exact atI_any (by omega) (by omega) | (refine atI_any ?_ ?_; rotate_left 2)
  | ((with_reducible apply c_I); exact rfl; (with_reducible assumption)) | ((with_reducible apply c_I); exact rfl) | exact Nat.le_of_ble_eq_true rfl)
local macro_rules | `(tactic| walk_at "ev") => `(tactic| repeat (walk_at "ev1"))
local macro_rules | `(tactic| walk_at "rb") => `(tactic| repeat (first | (with_reducible exact rbs_nil) | (with_reducible apply rbs_cons) | (with_reducible exact rb_d _) | (with_reducible exact rb_r _) | ((with_reducible apply rb_ci); walk_at "hs") | ((with_reducible apply rb_ce); walk_at "hs") | (with_reducible assumption)))
local macro_rules | `(tactic| walk_at "nc") => `(tactic| (simp only [nice_l, nice_t, nice_i, nice_n, nice_tup, mem_map, implies_true, forall_const, List.forall_mem_cons, List.not_mem_nil, false_implies, and_true, true_and]; done))
-- import EV Dens V9
local macro_rules | `(tactic| walk_at "hs") => `(tactic| first | ((with_reducible apply putL_o); assumption) | ((with_reducible apply putL_h); assumption) | ((with_reducible apply putL_w); assumption))
local macro_rules | `(tactic| walk_at "ev1") => `(tactic| first
  | ((with_reducible apply v_fld); exact v_var rfl; ((with_reducible apply putL_o); assumption); exact rfl)
  | ((with_reducible apply len_l); (with_reducible assumption)) | ((with_reducible apply v_in); walk_at "lk"))
theorem closed_nil : closed ([] : Sto).length [] := fun oc ho => by cases ho
section
variable {C : Addr} {x : AV} {h : Int} {n a b : Nat} {S : Sto} {s t : LSt} {row : List Int}
theorem v_check (h1 : 1 ≤ h) : RunP den_check_hand [.int h] .none := by
  have main : Ret (den_check_hand [iA h] []) fun v T => v = nA ∧ T = [] := by
    refine w_fn ?_
    apply w_if
    · walk_at "ev"
    · intro hq; have := of_decide_eq_true hq; omega
    · intro _
      exact ⟨rfl, rfl⟩
  obtain ⟨v, T, e, rfl, rfl⟩ := main
  exact runP_of e (rb_d 8)
end


end
section
local macro_rules | `(tactic| walk_at "hs") => `(tactic| first | (with_reducible assumption) | exact rfl | (apply get_set; walk_at "hs"))
local macro_rules | `(tactic| walk_at "lk") => `(tactic| first | (with_reducible exact l_rI) | (with_reducible exact l_dI) | (with_reducible exact l_rE) | (with_reducible exact l_dE) | ((with_reducible apply l_c); walk_at "hs") | (with_reducible exact l_d) | (with_reducible exact l_r) | (with_reducible assumption))
local macro_rules | `(tactic| walk_at "lt") => `(tactic| first | (with_reducible exact lT_eR) | (with_reducible exact lT_eA) | (with_reducible exact lT_d) | (with_reducible exact lT_r) | (with_reducible assumption) | exact rfl)
local macro_rules | `(tactic| walk_at "ev1") => `(tactic| first
  | (with_reducible exact v_k) | (with_reducible exact a_nil) | (with_reducible exact g_nm) | (with_reducible exact v_I) | (with_reducible exact v_neg) | (with_reducible exact int_i) | (with_reducible exact int_b) | (with_reducible exact abs_i) | (with_reducible exact i2) | (with_reducible exact g_sN) | (with_reducible exact isN_n)
  | ((with_reducible apply v_var); exact rfl) | (with_reducible assumption)
  | (with_reducible apply v_op) | (with_reducible apply v_un) | (with_reducible apply a_cons) | (with_reducible apply v_cb) | (with_reducible apply v_call) | (with_reducible apply t_b) | (with_reducible apply v_tup) | (with_reducible apply v_lst) | (with_reducible apply g_sb)
  | ((with_reducible apply v_IC); first | decide | exact Or.inl (by decide) | exact ⟨by decide, by decide⟩ | exact ⟨by decide, by decide, by decide⟩ | (with_reducible assumption) | rotate_left)
  | ((with_reducible apply v_ix); walk_at "lk") | ((with_reducible apply v_ixT); exact rfl; walk_at "lt")
  | ((with_reducible apply len_c); walk_at "hs") | ((with_reducible apply len_l); walk_at "lk")
  | ((with_reducible apply set_c); walk_at "hs") | ((with_reducible apply b_append); walk_at "hs")
  | ((with_reducible apply tup3_lt'); exact rfl) | ((with_reducible apply v_isN); exact rfl) | ((with_reducible apply v_notN); exact rfl)
  | (with_reducible exact fEq_intF) | (with_reducible exact fEq_intT) | exact at_cd (by omega)
  | exact at0 | exact at1 | exact at2 | exact at3 | exact ix0 | exact ix1 | exact ix2 | exact ix3
  | ((with_reducible apply g_tp); walk_at "lt"; exact rfl) | (with_reducible apply g_sC)
  | exact atI_ints (by omega) (by omega) | (refine atI_ints ?_ ?_; rotate_left 2) | exact atI_last | exact atI_any (by omega) (by omega) | (refine atI_any ?_ ?_; rotate_left 2)
  | ((with_reducible apply c_I); exact rfl; (with_reducible assumption)) | ((with_reducible apply c_I); exact rfl) | exact Nat.le_of_ble_eq_true rfl)
local macro_rules | `(tactic| walk_at "ev") => `(tactic| repeat (walk_at "ev1"))
local macro_rules | `(tactic| walk_at "rb") => `(tactic| repeat (first | (with_reducible exact rbs_nil) | (with_reducible apply rbs_cons) | (with_reducible exact rb_d _) | (with_reducible exact rb_r _) | ((with_reducible apply rb_ci); walk_at "hs") | ((with_reducible apply rb_ce); walk_at "hs") | (with_reducible assumption)))
local macro_rules | `(tactic| walk_at "nc") => `(tactic| (simp only [nice_l, nice_t, nice_i, nice_n, nice_tup, mem_map, implies_true, forall_const, List.forall_mem_cons, List.not_mem_nil, false_implies, and_true, true_and]; done))
-- import EV Dens DSame V11
theorem rb_rel {S : Sto} (k : Nat) (d : PyData) : rb true k S (rel d) = some d := by
  cases d <;> simp [rel, rb]
theorem v_same {d : PyData} (h1 : d.depth ≤ 4) (h2 : okS d) : RunP den__law_same [d, d] (.bool true) := by
  refine runP_of (x := bA true) (S := []) ?_ (rb_d 8)
  show den__law_same [rel d, rel d] [] = _
  unfold den__law_same
  simp only [rb_rel]
  rw [if_pos ⟨trivial, h1, h2⟩]
theorem v_list {S : Sto} {x : AV} {ys : List AV} (h : look S x = some ys) : fList [x] S = .ok (.c S.length) (S ++ [.lst ys]) := by
  unfold fList
  simp only [h]
  rfl
section
variable {C : Addr} {h : Int} {row : List Int} {es : List (Int × Int)}
end


end
section
local macro_rules | `(tactic| walk_at "hs") => `(tactic| first | (with_reducible assumption) | exact rfl | (apply get_set; walk_at "hs"))
local macro_rules | `(tactic| walk_at "lk") => `(tactic| first | (with_reducible exact l_rI) | (with_reducible exact l_dI) | (with_reducible exact l_rE) | (with_reducible exact l_dE) | ((with_reducible apply l_c); walk_at "hs") | (with_reducible exact l_d) | (with_reducible exact l_r) | (with_reducible assumption))
local macro_rules | `(tactic| walk_at "lt") => `(tactic| first | (with_reducible exact lT_eR) | (with_reducible exact lT_eA) | (with_reducible exact lT_d) | (with_reducible exact lT_r) | (with_reducible assumption) | exact rfl)
local macro_rules | `(tactic| walk_at "ev1") => `(tactic| first
  | (with_reducible exact v_k) | (with_reducible exact a_nil) | (with_reducible exact g_nm) | (with_reducible exact v_I) | (with_reducible exact v_neg) | (with_reducible exact int_i) | (with_reducible exact int_b) | (with_reducible exact abs_i) | (with_reducible exact i2) | (with_reducible exact g_sN) | (with_reducible exact isN_n)
  | ((with_reducible apply v_var); exact rfl) | (with_reducible assumption)
  | (with_reducible apply v_op) | (with_reducible apply v_un) | (with_reducible apply a_cons) | (with_reducible apply v_cb) | (with_reducible apply v_call) | (with_reducible apply t_b) | (with_reducible apply v_tup) | (with_reducible apply v_lst) | (with_reducible apply g_sb)
  | ((with_reducible apply v_IC); first | decide | exact Or.inl (by decide) | exact ⟨by decide, by decide⟩ | exact ⟨by decide, by decide, by decide⟩ | (with_reducible assumption) | rotate_left)
  | ((with_reducible apply v_ix); walk_at "lk") | ((with_reducible apply v_ixT); exact rfl; walk_at "lt")
  | ((with_reducible apply len_c); walk_at "hs") | ((with_reducible apply len_l); walk_at "lk")
  | ((with_reducible apply set_c); walk_at "hs") | ((with_reducible apply b_append); walk_at "hs")
  | ((with_reducible apply tup3_lt'); exact rfl) | ((with_reducible apply v_isN); exact rfl) | ((with_reducible apply v_notN); exact rfl)
  | (with_reducible exact fEq_intF) | (with_reducible exact fEq_intT) | exact at_cd (by omega)
  | exact at0 | exact at1 | exact at2 | exact at3 | exact ix0 | exact ix1 | exact ix2 | exact ix3
  | ((with_reducible apply g_tp); walk_at "lt"; exact rfl) | (with_reducible apply g_sC)
  | exact atI_ints (by omega) (by omega) | (refine atI_ints ?_ ?_; rotate_left 2) | exact atI_last | exact atI_any (by omega) (by omega) | (refine atI_any ?_ ?_; rotate_left 2)
  | ((with_reducible apply c_I); exact rfl; (with_reducible assumption)) | ((with_reducible apply c_I); exact rfl) | exact Nat.le_of_ble_eq_true rfl)
local macro_rules | `(tactic| walk_at "ev") => `(tactic| repeat (walk_at "ev1"))
local macro_rules | `(tactic| walk_at "rb") => `(tactic| repeat (first | (with_reducible exact rbs_nil) | (with_reducible apply rbs_cons) | (with_reducible exact rb_d _) | (with_reducible exact rb_r _) | ((with_reducible apply rb_ci); walk_at "hs") | ((with_reducible apply rb_ce); walk_at "hs") | (with_reducible assumption)))
local macro_rules | `(tactic| walk_at "nc") => `(tactic| (simp only [nice_l, nice_t, nice_i, nice_n, nice_tup, mem_map, implies_true, forall_const, List.forall_mem_cons, List.not_mem_nil, false_implies, and_true, true_and]; done))
-- import EV Dens V12
section
variable {ρ : En} {S S1 S2 S3 : Sto} {x : AV} {xs : List AV} {da db : EV} {k : Nat}
theorem at_seqD {S : Sto} {es : List (Int × Int)} {i : Nat} (h : i < es.length) : (ItA.seq (.d (entD es))).at_ S i = some (some (eA es[i])) := by
  show (look S (.d (entD es))).map (·[i]?) = _
  rw [l_dE]
  simp [h]
theorem at_seqD0 {S : Sto} {es : List (Int × Int)} : (ItA.seq (.d (entD es))).at_ S es.length = some none := by
  show (look S (.d (entD es))).map (·[es.length]?) = _
  rw [l_dE]
  simp
theorem j_seqD {da : EV} {es : List (Int × Int)} (h : da ρ S = .ok (.d (entD es)) S1) : jSeq da ρ S = .ok (.seq (.d (entD es))) S1 := by
  unfold jSeq
  rw [h, bind_ok, l_dE]
end
section
variable {C : Addr}
end


end
section
local macro_rules | `(tactic| walk_at "hs") => `(tactic| first | (with_reducible assumption) | exact rfl | (apply get_set; walk_at "hs"))
local macro_rules | `(tactic| walk_at "lk") => `(tactic| first | (with_reducible exact l_rI) | (with_reducible exact l_dI) | (with_reducible exact l_rE) | (with_reducible exact l_dE) | ((with_reducible apply l_c); walk_at "hs") | (with_reducible exact l_d) | (with_reducible exact l_r) | (with_reducible assumption))
local macro_rules | `(tactic| walk_at "lt") => `(tactic| first | (with_reducible exact lT_eR) | (with_reducible exact lT_eA) | (with_reducible exact lT_d) | (with_reducible exact lT_r) | (with_reducible assumption) | exact rfl)
local macro_rules | `(tactic| walk_at "ev1") => `(tactic| first
  | (with_reducible exact v_k) | (with_reducible exact a_nil) | (with_reducible exact g_nm) | (with_reducible exact v_I) | (with_reducible exact v_neg) | (with_reducible exact int_i) | (with_reducible exact int_b) | (with_reducible exact abs_i) | (with_reducible exact i2) | (with_reducible exact g_sN) | (with_reducible exact isN_n)
  | ((with_reducible apply v_var); exact rfl) | (with_reducible assumption)
  | (with_reducible apply v_op) | (with_reducible apply v_un) | (with_reducible apply a_cons) | (with_reducible apply v_cb) | (with_reducible apply v_call) | (with_reducible apply t_b) | (with_reducible apply v_tup) | (with_reducible apply v_lst) | (with_reducible apply g_sb)
  | ((with_reducible apply v_IC); first | decide | exact Or.inl (by decide) | exact ⟨by decide, by decide⟩ | exact ⟨by decide, by decide, by decide⟩ | (with_reducible assumption) | rotate_left)
  | ((with_reducible apply v_ix); walk_at "lk") | ((with_reducible apply v_ixT); exact rfl; walk_at "lt")
  | ((with_reducible apply len_c); walk_at "hs") | ((with_reducible apply len_l); walk_at "lk")
  | ((with_reducible apply set_c); walk_at "hs") | ((with_reducible apply b_append); walk_at "hs")
  | ((with_reducible apply tup3_lt'); exact rfl) | ((with_reducible apply v_isN); exact rfl) | ((with_reducible apply v_notN); exact rfl)
  | (with_reducible exact fEq_intF) | (with_reducible exact fEq_intT) | exact at_cd (by omega)
  | exact at0 | exact at1 | exact at2 | exact at3 | exact ix0 | exact ix1 | exact ix2 | exact ix3
  | ((with_reducible apply g_tp); walk_at "lt"; exact rfl) | (with_reducible apply g_sC)
  | exact atI_ints (by omega) (by omega) | (refine atI_ints ?_ ?_; rotate_left 2) | exact atI_last | exact atI_any (by omega) (by omega) | (refine atI_any ?_ ?_; rotate_left 2)
  | ((with_reducible apply c_I); exact rfl; (with_reducible assumption)) | ((with_reducible apply c_I); exact rfl) | exact Nat.le_of_ble_eq_true rfl)
local macro_rules | `(tactic| walk_at "ev") => `(tactic| repeat (walk_at "ev1"))
local macro_rules | `(tactic| walk_at "rb") => `(tactic| repeat (first | (with_reducible exact rbs_nil) | (with_reducible apply rbs_cons) | (with_reducible exact rb_d _) | (with_reducible exact rb_r _) | ((with_reducible apply rb_ci); walk_at "hs") | ((with_reducible apply rb_ce); walk_at "hs") | (with_reducible assumption)))
local macro_rules | `(tactic| walk_at "nc") => `(tactic| (simp only [nice_l, nice_t, nice_i, nice_n, nice_tup, mem_map, implies_true, forall_const, List.forall_mem_cons, List.not_mem_nil, false_implies, and_true, true_and]; done))
-- import EV Dens V14
theorem closed_left {n : Nat} {S G : Sto} (h : closed n S) (e : n = S.length) : closed n (S ++ G) := by
  subst e
  intro oc ho
  rw [List.take_left' rfl] at ho
  exact h oc (by rw [List.take_of_length_le (Nat.le_refl _)]; exact ho)
section
variable {ρ : En} {S S1 G : Sto} {da : EV}
theorem v_fzC {j : Nat} {ds : List PyData} {k : Nat} (h : da ρ S = .ok (.c k) (S1 ++ G)) (hl : S1.length = S.length) (hd : closed S1.length S1) (hk : k = S.length + j) (hG : G[j]? = some (.lst (ds.map .d))) : eFz da ρ S = .ok (.d (.list ds)) S1 := by
  subst hk
  unfold eFz
  rw [h]
  simp only
  rw [← hl, if_pos ⟨closed_left hd rfl, by simp⟩]
  have : frzR S1.length (.c (S1.length + j)) (S1 ++ G) = some (.d (.list ds)) := by
    show (match rb false 8 (newS S1.length (S1 ++ G)) (.c (S1.length + j)) with | some d => some (AV.d d) | none => (rb true 8 (newS S1.length (S1 ++ G)) (.c (S1.length + j))).map AV.r) = _
    rw [rb_cell (ds := ds) ?_ 7]
    · unfold newS
      rw [List.drop_left' rfl, List.getElem?_append_right (by simp), List.length_replicate, show S1.length + j - S1.length = j by omega, hG]
  simp only [this]
  rw [List.take_left' rfl]
end
section
variable {C : Addr} {x y : AV} {h : Int} {n a b : Nat} {S G : Sto} {s t : LSt} {row : List Int} {is : List Nat}
theorem dat_one {o : OC} (h : Dat o) : ∀ oc ∈ [o], Dat oc := fun oc ho => by rw [List.mem_singleton.mp ho]; exact h
theorem fit_none {row : List Int} {s : LSt} (hl : s.last = none) : fitting row s = s.held := by
  unfold fitting
  rw [List.filter_eq_self.mpr]
  intro i _
  rw [hl]; rfl
theorem reach_step {h : Nat} (R : Reach row h s) (hne : s.held ≠ []) : Reach row h (stepS row s) := by
  rw [step_pick]
  refine R.lay (allow_of (pick_mem hne) (fun hl => ?_) (fun hl => ?_))
  · unfold pick
    rw [fit_none hl, if_neg hne]
  · unfold pick
    split
    · exact .inr rfl
    · rename_i hf
      refine .inl ⟨rfl, ?_⟩
      exact (List.mem_filter.mp (least_mem (row := row) hf)).2
end


end
section
local macro_rules | `(tactic| walk_at "hs") => `(tactic| first | (with_reducible assumption) | exact rfl | (apply get_set; walk_at "hs"))
local macro_rules | `(tactic| walk_at "lk") => `(tactic| first | (with_reducible exact l_rI) | (with_reducible exact l_dI) | (with_reducible exact l_rE) | (with_reducible exact l_dE) | ((with_reducible apply l_c); walk_at "hs") | (with_reducible exact l_d) | (with_reducible exact l_r) | (with_reducible assumption))
local macro_rules | `(tactic| walk_at "lt") => `(tactic| first | (with_reducible exact lT_eR) | (with_reducible exact lT_eA) | (with_reducible exact lT_d) | (with_reducible exact lT_r) | (with_reducible assumption) | exact rfl)
local macro_rules | `(tactic| walk_at "ev1") => `(tactic| first
  | (with_reducible exact v_k) | (with_reducible exact a_nil) | (with_reducible exact g_nm) | (with_reducible exact v_I) | (with_reducible exact v_neg) | (with_reducible exact int_i) | (with_reducible exact int_b) | (with_reducible exact abs_i) | (with_reducible exact i2) | (with_reducible exact g_sN) | (with_reducible exact isN_n)
  | ((with_reducible apply v_var); exact rfl) | (with_reducible assumption)
  | (with_reducible apply v_op) | (with_reducible apply v_un) | (with_reducible apply a_cons) | (with_reducible apply v_cb) | (with_reducible apply v_call) | (with_reducible apply t_b) | (with_reducible apply v_tup) | (with_reducible apply v_lst) | (with_reducible apply g_sb)
  | ((with_reducible apply v_IC); first | decide | exact Or.inl (by decide) | exact ⟨by decide, by decide⟩ | exact ⟨by decide, by decide, by decide⟩ | (with_reducible assumption) | rotate_left)
  | ((with_reducible apply v_ix); walk_at "lk") | ((with_reducible apply v_ixT); exact rfl; walk_at "lt")
  | ((with_reducible apply len_c); walk_at "hs") | ((with_reducible apply len_l); walk_at "lk")
  | ((with_reducible apply set_c); walk_at "hs") | ((with_reducible apply b_append); walk_at "hs")
  | ((with_reducible apply tup3_lt'); exact rfl) | ((with_reducible apply v_isN); exact rfl) | ((with_reducible apply v_notN); exact rfl)
  | (with_reducible exact fEq_intF) | (with_reducible exact fEq_intT) | exact at_cd (by omega)
  | exact at0 | exact at1 | exact at2 | exact at3 | exact ix0 | exact ix1 | exact ix2 | exact ix3
  | ((with_reducible apply g_tp); walk_at "lt"; exact rfl) | (with_reducible apply g_sC)
  | exact atI_ints (by omega) (by omega) | (refine atI_ints ?_ ?_; rotate_left 2) | exact atI_last | exact atI_any (by omega) (by omega) | (refine atI_any ?_ ?_; rotate_left 2)
  | ((with_reducible apply c_I); exact rfl; (with_reducible assumption)) | ((with_reducible apply c_I); exact rfl) | exact Nat.le_of_ble_eq_true rfl)
local macro_rules | `(tactic| walk_at "ev") => `(tactic| repeat (walk_at "ev1"))
local macro_rules | `(tactic| walk_at "rb") => `(tactic| repeat (first | (with_reducible exact rbs_nil) | (with_reducible apply rbs_cons) | (with_reducible exact rb_d _) | (with_reducible exact rb_r _) | ((with_reducible apply rb_ci); walk_at "hs") | ((with_reducible apply rb_ce); walk_at "hs") | (with_reducible assumption)))
local macro_rules | `(tactic| walk_at "nc") => `(tactic| (simp only [nice_l, nice_t, nice_i, nice_n, nice_tup, mem_map, implies_true, forall_const, List.forall_mem_cons, List.not_mem_nil, false_implies, and_true, true_and]; done))
-- import EV Dens V15
/-! ### the pool -/
theorem v_take {S : Sto} {n : Nat} {z m : Int} (h : S[n]? = some (.lst [iA z])) (hz : 0 ≤ z) (m0 : 0 < m) (m1 : m < 2 ^ 200) :
    Ret (den__law_take [.c n, iA m] S) fun v T => ∃ r z', v = iA r ∧ T = S.set n (.lst [iA z']) ∧ 0 ≤ r ∧ r < m ∧ 0 ≤ z' := by
  refine w_fn ?_
  have cd : CDivW z m := wide_div m0 (b := 200) (by omega) (by decide) (by decide)
  apply w_seq
  apply w_as
  · walk_at "ev"
  · walk_at "ev"
  apply w_nx
  apply w_seq
  apply w_as
  · walk_at "ev"
  · walk_at "ev"
  apply w_nx
  apply w_rt
  · walk_at "ev"
  exact ⟨_, z / m, rfl, rfl, Int.emod_nonneg _ (by omega), Int.emod_lt_of_pos _ m0, Int.ediv_nonneg hz (by omega)⟩
theorem tk {S : Sto} {n : Nat} {z m : Int} (h : S[n]? = some (.lst [iA z])) (hz : 0 ≤ z) (m0 : 0 < m) (m1 : m < 2 ^ 200) :
    ∃ r z', den__law_take [.c n, iA m] S = .ok (iA r) (S.set n (.lst [iA z'])) ∧ 0 ≤ r ∧ r < m ∧ 0 ≤ z' ∧ (S.set n (.lst [iA z']))[n]? = some (.lst [iA z']) := by
  obtain ⟨_, _, e, r, z', rfl, rfl, h0, h1, h2⟩ := v_take h hz m0 m1
  exact ⟨r, z', e, h0, h1, h2, get_set _ h⟩
theorem bits_const : Builtin.Int.intBits 61803398874989484820458683436563811773 ≤ 200 := Nat.le_trans (PyProof.Rows.intBits_le (k := 130) (by decide)) (by decide)
theorem v_pool {cell turn : Int} (hb : Builtin.Int.intBits cell ≤ 1048576) (t0 : 0 ≤ turn) (t1 : turn < 100) : ∃ z, 0 ≤ z ∧ runC den__law_pool [.int cell, .int turn] = some [.int z] := by
  have main : Ret (den__law_pool [iA cell, iA turn] []) fun v T => ∃ z, 0 ≤ z ∧ v = .c 0 ∧ T = [.lst [iA z]] := by
    refine w_fn ?_
    apply w_seq
    apply w_if
    · walk_at "ev"
    · intro hq
      have hq := of_decide_eq_true hq
      apply w_rt
      · exact v_lst (a_cons (v_op (v_var rfl) (v_op v_k v_k (v_IC ⟨by decide, by decide, by decide⟩)) v_I) a_nil) (Nat.le_of_ble_eq_true rfl)
      exact ⟨_, by omega, rfl, rfl⟩
    · intro _
      apply w_dNx
      apply w_nx
      have cx : CMulX cell 61803398874989484820458683436563811773 := by
        have := bits_const
        unfold CMulX
        omega
      have cm : CMul turn 27182818284590452353602874713527 := .inl (by omega)
      apply w_seq
      apply w_as
      · walk_at "ev"
      · exact g_nm
      apply w_nx
      apply w_seq
      apply w_as
      · walk_at "ev"
      · exact g_nm
      apply w_nx
      generalize cell * 61803398874989484820458683436563811773 + turn * 27182818284590452353602874713527 + 3 ^ Int.toNat 60 = u
      have r0 : 0 ≤ u % (10 ^ Int.toNat 41 + 109) := Int.emod_nonneg _ (by decide)
      have r1 : u % (10 ^ Int.toNat 41 + 109) < 10 ^ Int.toNat 41 + 109 := Int.emod_lt_of_pos _ (by decide)
      have r2 : (10 : Int) ^ Int.toNat 41 + 109 < 2 ^ 140 := by decide
      generalize u % (10 ^ Int.toNat 41 + 109) = r at r0 r1 ⊢
      have k0 : r.natAbs < 2 ^ 140 := by omega
      have c1 : CMulW r r := wide_mul k0 k0 (by decide) (by decide) (by decide)
      have c2 : CMul 5 r := .inl (by decide)
      apply w_seq
      apply w_as
      · walk_at "ev"
      · exact g_nm
      apply w_nx
      have q0 : 0 ≤ r * r := Int.mul_nonneg r0 r0
      have q1 : (r * r).natAbs < 2 ^ (140 + 140) := wide_lt k0 k0
      have n0 : 0 ≤ r * r + 5 * r + turn := by omega
      have n1 : (r * r + 5 * r + turn).natAbs < 2 ^ 290 := by omega
      generalize r * r + 5 * r + turn = q at n0 n1 ⊢
      have d1 : CMulW q q := wide_mul n1 n1 (by decide) (by decide) (by decide)
      have d2 : CMulW (q * q) q := wide_mul (wide_lt n1 n1) n1 (by decide) (by decide) (by decide)
      have d3 : CDiv (q * q * q) 1000003 := ⟨by decide, by decide⟩
      apply w_rt
      · exact v_lst (a_cons (v_op (v_op (v_op (v_var rfl) (v_var rfl) (v_IC d1)) (v_var rfl) (v_IC d2)) v_k (v_IC d3)) a_nil) (Nat.le_of_ble_eq_true rfl)
      exact ⟨_, Int.ediv_nonneg (Int.mul_nonneg (Int.mul_nonneg n0 n0) n0) (by decide), rfl, rfl⟩
  obtain ⟨v, T, e, z, hz, rfl, rfl⟩ := main
  refine ⟨z, hz, ?_⟩
  unfold runC
  rw [show (List.map rel [PyData.int cell, PyData.int turn]) = [iA cell, iA turn] from rfl, e]
  exact thaw_ints (ns := [z]) rfl
theorem v_size {S : Sto} {n : Nat} {z many : Int} (h : S[n]? = some (.lst [iA z])) (hz : 0 ≤ z) (m0 : 0 ≤ many) (m1 : many ≤ 1000) :
    Ret (den__law_size [.c n, iA many] S) fun v T => ∃ h z', v = iA h ∧ T = S.set n (.lst [iA z']) ∧ 1 ≤ h ∧ 0 ≤ z' := by
  refine w_fn ?_
  obtain ⟨kind, z1, e1, _, _, p1, h1⟩ := tk (m := 7) h hz (by decide) (by decide)
  apply w_seq
  apply w_as
  · walk_at "ev"
  · walk_at "ev"
  apply w_nx
  apply w_seq
  apply w_if
  · walk_at "ev"
  · intro _
    apply w_rt v_k
    exact ⟨1, z1, rfl, rfl, by decide, p1⟩
  intro _; apply w_dNx; apply w_nx
  apply w_seq
  apply w_if
  · walk_at "ev"
  · intro _
    obtain ⟨r, z2, e2, q0, _, p2, _⟩ := tk (m := 10 ^ Int.toNat 29) h1 p1 (by decide) (by decide)
    apply w_rt
    · walk_at "ev"
    have : (1 : Int) ≤ 10 ^ Int.toNat 20 := by decide
    exact ⟨_, z2, rfl, by rw [List.set_set], by omega, p2⟩
  intro _; apply w_dNx; apply w_nx
  obtain ⟨r, z2, e2, q0, _, p2, _⟩ := tk (m := many + 2) h1 p1 (by omega) (by omega)
  apply w_rt
  · walk_at "ev"
  exact ⟨_, z2, rfl, by rw [List.set_set], by omega, p2⟩


end
section
local macro_rules | `(tactic| walk_at "hs") => `(tactic| first | (with_reducible assumption) | exact rfl | (apply get_set; walk_at "hs"))
local macro_rules | `(tactic| walk_at "lk") => `(tactic| first | (with_reducible exact l_rI) | (with_reducible exact l_dI) | (with_reducible exact l_rE) | (with_reducible exact l_dE) | ((with_reducible apply l_c); walk_at "hs") | (with_reducible exact l_d) | (with_reducible exact l_r) | (with_reducible assumption))
local macro_rules | `(tactic| walk_at "lt") => `(tactic| first | (with_reducible exact lT_eR) | (with_reducible exact lT_eA) | (with_reducible exact lT_d) | (with_reducible exact lT_r) | (with_reducible assumption) | exact rfl)
local macro_rules | `(tactic| walk_at "ev1") => `(tactic| first
  | (with_reducible exact v_k) | (with_reducible exact a_nil) | (with_reducible exact g_nm) | (with_reducible exact v_I) | (with_reducible exact v_neg) | (with_reducible exact int_i) | (with_reducible exact int_b) | (with_reducible exact abs_i) | (with_reducible exact i2) | (with_reducible exact g_sN) | (with_reducible exact isN_n)
  | ((with_reducible apply v_var); exact rfl) | (with_reducible assumption)
  | (with_reducible apply v_op) | (with_reducible apply v_un) | (with_reducible apply a_cons) | (with_reducible apply v_cb) | (with_reducible apply v_call) | (with_reducible apply t_b) | (with_reducible apply v_tup) | (with_reducible apply v_lst) | (with_reducible apply g_sb)
  | ((with_reducible apply v_IC); first | decide | exact Or.inl (by decide) | exact ⟨by decide, by decide⟩ | exact ⟨by decide, by decide, by decide⟩ | (with_reducible assumption) | rotate_left)
  | ((with_reducible apply v_ix); walk_at "lk") | ((with_reducible apply v_ixT); exact rfl; walk_at "lt")
  | ((with_reducible apply len_c); walk_at "hs") | ((with_reducible apply len_l); walk_at "lk")
  | ((with_reducible apply set_c); walk_at "hs") | ((with_reducible apply b_append); walk_at "hs")
  | ((with_reducible apply tup3_lt'); exact rfl) | ((with_reducible apply v_isN); exact rfl) | ((with_reducible apply v_notN); exact rfl)
  | (with_reducible exact fEq_intF) | (with_reducible exact fEq_intT) | exact at_cd (by omega)
  | exact at0 | exact at1 | exact at2 | exact at3 | exact ix0 | exact ix1 | exact ix2 | exact ix3
  | ((with_reducible apply g_tp); walk_at "lt"; exact rfl) | (with_reducible apply g_sC)
  | exact atI_ints (by omega) (by omega) | (refine atI_ints ?_ ?_; rotate_left 2) | exact atI_last | exact atI_any (by omega) (by omega) | (refine atI_any ?_ ?_; rotate_left 2)
  | ((with_reducible apply c_I); exact rfl; (with_reducible assumption)) | ((with_reducible apply c_I); exact rfl) | exact Nat.le_of_ble_eq_true rfl)
local macro_rules | `(tactic| walk_at "ev") => `(tactic| repeat (walk_at "ev1"))
local macro_rules | `(tactic| walk_at "rb") => `(tactic| repeat (first | (with_reducible exact rbs_nil) | (with_reducible apply rbs_cons) | (with_reducible exact rb_d _) | (with_reducible exact rb_r _) | ((with_reducible apply rb_ci); walk_at "hs") | ((with_reducible apply rb_ce); walk_at "hs") | (with_reducible assumption)))
local macro_rules | `(tactic| walk_at "nc") => `(tactic| (simp only [nice_l, nice_t, nice_i, nice_n, nice_tup, mem_map, implies_true, forall_const, List.forall_mem_cons, List.not_mem_nil, false_implies, and_true, true_and]; done))
-- import EV Dens V16
theorem dat_z {z : Int} : Dat (.lst [iA z]) := dat_isA (ns := [z])

end
section
local macro_rules | `(tactic| walk_at "hs") => `(tactic| first | (with_reducible assumption) | exact rfl | (apply get_set; walk_at "hs"))
local macro_rules | `(tactic| walk_at "lk") => `(tactic| first | (with_reducible exact l_rI) | (with_reducible exact l_dI) | (with_reducible exact l_rE) | (with_reducible exact l_dE) | ((with_reducible apply l_c); walk_at "hs") | (with_reducible exact l_d) | (with_reducible exact l_r) | (with_reducible assumption))
local macro_rules | `(tactic| walk_at "lt") => `(tactic| first | (with_reducible exact lT_eR) | (with_reducible exact lT_eA) | (with_reducible exact lT_d) | (with_reducible exact lT_r) | (with_reducible assumption) | exact rfl)
local macro_rules | `(tactic| walk_at "ev1") => `(tactic| first
  | (with_reducible exact v_k) | (with_reducible exact a_nil) | (with_reducible exact g_nm) | (with_reducible exact v_I) | (with_reducible exact v_neg) | (with_reducible exact int_i) | (with_reducible exact int_b) | (with_reducible exact abs_i) | (with_reducible exact i2) | (with_reducible exact g_sN) | (with_reducible exact isN_n)
  | ((with_reducible apply v_var); exact rfl) | (with_reducible assumption)
  | (with_reducible apply v_op) | (with_reducible apply v_un) | (with_reducible apply a_cons) | (with_reducible apply v_cb) | (with_reducible apply v_call) | (with_reducible apply t_b) | (with_reducible apply v_tup) | (with_reducible apply v_lst) | (with_reducible apply g_sb)
  | ((with_reducible apply v_IC); first | decide | exact Or.inl (by decide) | exact ⟨by decide, by decide⟩ | exact ⟨by decide, by decide, by decide⟩ | (with_reducible assumption) | rotate_left)
  | ((with_reducible apply v_ix); walk_at "lk") | ((with_reducible apply v_ixT); exact rfl; walk_at "lt")
  | ((with_reducible apply len_c); walk_at "hs") | ((with_reducible apply len_l); walk_at "lk")
  | ((with_reducible apply set_c); walk_at "hs") | ((with_reducible apply b_append); walk_at "hs")
  | ((with_reducible apply tup3_lt'); exact rfl) | ((with_reducible apply v_isN); exact rfl) | ((with_reducible apply v_notN); exact rfl)
  | (with_reducible exact fEq_intF) | (with_reducible exact fEq_intT) | exact at_cd (by omega)
  | exact at0 | exact at1 | exact at2 | exact at3 | exact ix0 | exact ix1 | exact ix2 | exact ix3
  | ((with_reducible apply g_tp); walk_at "lt"; exact rfl) | (with_reducible apply g_sC)
  | exact atI_ints (by omega) (by omega) | (refine atI_ints ?_ ?_; rotate_left 2) | exact atI_last | exact atI_any (by omega) (by omega) | (refine atI_any ?_ ?_; rotate_left 2)
  | ((with_reducible apply c_I); exact rfl; (with_reducible assumption)) | ((with_reducible apply c_I); exact rfl) | exact Nat.le_of_ble_eq_true rfl)
local macro_rules | `(tactic| walk_at "ev") => `(tactic| repeat (walk_at "ev1"))
local macro_rules | `(tactic| walk_at "rb") => `(tactic| repeat (first | (with_reducible exact rbs_nil) | (with_reducible apply rbs_cons) | (with_reducible exact rb_d _) | (with_reducible exact rb_r _) | ((with_reducible apply rb_ci); walk_at "hs") | ((with_reducible apply rb_ce); walk_at "hs") | (with_reducible assumption)))
local macro_rules | `(tactic| walk_at "nc") => `(tactic| (simp only [nice_l, nice_t, nice_i, nice_n, nice_tup, mem_map, implies_true, forall_const, List.forall_mem_cons, List.not_mem_nil, false_implies, and_true, true_and]; done))
-- import EV Dens V17
/-! ### the law's own way, best by the first least -/
theorem sorted_init (row : List Int) (h : Nat) : (initS row h).held.Pairwise (· < ·) := List.pairwise_lt_range
theorem sorted_lay {row : List Int} {s : LSt} (W : WF row s) (h : s.held.Pairwise (· < ·)) (i p : Nat) : (layS row s i p).held.Pairwise (· < ·) := by
  show (s.held.erase i ++ (if s.drawn < row.length then [s.drawn] else [])).Pairwise (· < ·)
  have h1 := h.sublist (List.erase_sublist (a := i))
  split
  · refine List.pairwise_append.mpr ⟨h1, by simp, fun a ha b hb => ?_⟩
    rw [List.mem_singleton.mp hb]
    exact W.lt a (List.mem_of_mem_erase ha)
  · rw [List.append_nil]; exact h1
theorem sorted_stN {row : List Int} {h : Nat} (hh : 1 ≤ h) : ∀ t, t ≤ row.length → (stN row h t).held.Pairwise (· < ·)
  | 0, _ => sorted_init row h
  | t + 1, ht => by
    show (stepS row (stN row h t)).held.Pairwise _
    obtain ⟨i, p, _, e⟩ := step_is (row := row) (stN_ne hh (show t < row.length by omega))
    rw [e]
    exact sorted_lay (stN_facts row hh t (by omega)).1 (sorted_stN hh t (by omega)) i p
theorem reach_stN {row : List Int} {h : Nat} (hh : 1 ≤ h) : ∀ t, t ≤ row.length → Reach row h (stN row h t)
  | 0, _ => .init
  | t + 1, ht => reach_step (reach_stN hh t (by omega)) (stN_ne hh (by omega))
theorem least_snoc {row : List Int} {is : List Nat} {k : Nat} (hne : is ≠ []) (hk : ∀ i ∈ is, i < k) : least row (is ++ [k]) = if cd row k < cd row (least row is) then k else least row is := by
  obtain ⟨h1, h2⟩ := least_spec row is hne
  split
  · rename_i hc
    refine least_unique (by simp) fun j hj => ?_
    rcases List.mem_append.mp hj with m | m
    · have a : kle row k (least row is) := .inl hc
      exact kle_trans a (h2 j m)
    · rw [List.mem_singleton.mp m]; exact kle_refl _ _
  · rename_i hc
    refine least_unique (by simp [h1]) fun j hj => ?_
    rcases List.mem_append.mp hj with m | m
    · exact h2 j m
    · rw [List.mem_singleton.mp m]
      have := hk _ h1
      unfold kle
      omega
theorem v_nilG {neg : Bool} {ρ : En} {S : Sto} {da : EV} {x : AV} {ds : List PyData} (h : da ρ S = .ok x S) (hr : rb true 8 (S ++ [.lst []]) x = some (.list ds)) (s : SeqAt.shaped (.list ds) = true) :
    eOp (fEq neg) da (eLst aNil) ρ S = .ok (bA (if neg = true then !ds.isEmpty else ds.isEmpty)) (S ++ [.lst []]) := by
  refine v_op h (v_lst a_nil (by decide)) ?_
  rw [fEq_of hr (rb_cell (ds := []) (by simp) 7) s shaped_nil, eqv_nil]
abbrev wayE (row : List Int) (h drawn pile : Int) (v6 v7 v8 v9 : Option AV) : En := [some (.r (intsD row)), some (iA h), some (.c 0), some (iA drawn), some (.c 1), some (iA pile), v6, v7, v8, v9]
theorem at_c {S : Sto} {n i : Nat} {xs : List AV} (h : S[n]? = some (.lst xs)) : (ItA.seq (.c n)).at_ S i = some xs[i]? := by
  show (look S (.c n)).map (·[i]?) = _
  rw [l_c h]
  rfl
theorem at_hD {S : Sto} {is : List Nat} {i : Nat} (h : i < is.length) : (ItA.seq (.d (heldD is))).at_ S i = some (some (iA ((is[i] : Nat) : Int))) := by
  show (look S (.d (heldD is))).map (·[i]?) = _
  rw [l_dI]
  simp [h]
theorem at_hD0 {S : Sto} {is : List Nat} : (ItA.seq (.d (heldD is))).at_ S is.length = some none := by
  show (look S (.d (heldD is))).map (·[is.length]?) = _
  rw [l_dI]
  simp
theorem v_lawWay {row : List Int} {h : Int} (h1 : 1 ≤ h) (hl : row.length ≤ 900) : RunP den__law_way_b403 [intsD row, .int h] (entD ((plainW row h.toNat).map cst)) := by
  have h1' : 1 ≤ h.toNat := by omega
  have main : Ret (den__law_way_b403 [.r (intsD row), iA h] []) fun v T => v = .c 1 ∧ T[1]? = some (.lst (wA (plainW row h.toNat))) := by
    refine w_fn ?_
    have lr : (((isA row).length : Nat) : Int) = (row.length : Int) := by rw [List.length_map]
    have em : (if (((isA row).length : Nat) : Int) < h then (((isA row).length : Nat) : Int) else h) = ((min h.toNat row.length : Nat) : Int) := by
      rw [lr]; split <;> omega
    obtain ⟨acc, T, e1, _, hT, rfl, rfl⟩ := v_lc (S := []) (S1 := []) (ρ := [some (.r (intsD row)), some (iA h), none, none, none, none, none, none, none, none]) (it := jR1 (aCons (eCB (fI2 fun i j => if j < i then j else i) (aCons (eVar 1) (aCons (eCB fLen (aCons (eVar 0) aNil)) aNil))) aNil)) (jt := .rng 0 (min h.toNat row.length)) (g := gnm 9) (c := bYes) (d := eVar 9) (vs := [9])
      (I := fun i acc T => T = [] ∧ acc = hA (List.range i)) (min h.toNat row.length) (by omega)
      (j_r1 (a_cons (v_cb (a_cons (v_var rfl) (a_cons (v_cb (a_cons (v_var rfl) a_nil) (len_l l_rI)) a_nil)) i2) a_nil) em (by omega)) ⟨rfl, rfl⟩
      (by
        rintro i acc T hi ha hT ⟨rfl, rfl⟩
        refine ⟨_, _, at_rng hi, g_nm, .inr ⟨rfl, iA ((i : Nat) : Int), [], ?_, rfl, rfl, ?_⟩⟩
        · rw [Int.zero_add]; exact v_var rfl
        · rw [List.range_succ]; simp)
      (fun acc T _ _ _ => at_rng0)
    apply w_seq
    apply w_as
    · exact v_gcL (j := 0) (S1 := []) (G := [.lst (hA (List.range (min h.toNat row.length)))]) (k := 0) e1 rfl (fun oc h => by cases h) rfl rfl dat_isA
    · exact g_nm
    apply w_nx
    show Wp (dSeq _ _ [some (.r (intsD row)), some (iA h), some (.c 0), none, none, none, none, none, none, none] [.lst (hA (initS row h.toNat).held)]) _
    apply w_seq
    apply w_as
    · exact v_cb (a_cons (v_var rfl) a_nil) (len_l (l_c rfl))
    · exact g_nm
    apply w_nx
    apply w_seq
    apply w_as
    · exact v_gcL (j := 0) (S1 := [.lst (hA (initS row h.toNat).held)]) (G := [.lst []]) (k := 1) (v_lst a_nil (by decide)) rfl (dat_one dat_isA) rfl rfl (dat_isA (ns := []))
    · exact g_nm
    apply w_nx
    apply w_seq
    apply w_as v_k g_nm
    apply w_nx
    have ed : (((hA (initS row h.toNat).held).length : Nat) : Int) = (((initS row h.toNat).drawn : Nat) : Int) := by simp [initS]
    rw [ed]
    show Wp (dSeq _ _ (wayE row h ((initS row h.toNat).drawn : Nat) ((initS row h.toNat).pile : Nat) none none none none) [.lst (hA (initS row h.toNat).held), .lst (wA (initS row h.toNat).way)]) _
    apply w_mid (fun ρ T => ∃ d p, ρ = wayE row h d p none none none none ∧ ∃ l, T = [l, .lst (wA (plainW row h.toNat))])
    · apply w_fg
      refine w_for (I := fun t ρ T => t ≤ row.length ∧ ρ = wayE row h ((stN row h.toNat t).drawn : Nat) ((stN row h.toNat t).pile : Nat) none none none none ∧ T = [.lst (hA (stN row h.toNat t).held), .lst (wA (stN row h.toNat t).way)])
        row.length (by omega) (j_r1 (n := row.length) (a_cons (v_cb (a_cons (v_var rfl) a_nil) (len_l l_rI)) a_nil) lr (by omega)) ⟨Nat.zero_le _, rfl, rfl⟩ ?_ ?_
      · rintro t ρ T ht ⟨_, rfl, rfl⟩
        refine ⟨_, _, _, at_rng ht, g_nm, ?_⟩
        have R := reach_stN (row := row) h1' t (by omega)
        have hne := stN_ne (row := row) h1' ht
        have srt := sorted_stN (row := row) h1' t (by omega)
        rw [show stN row h.toNat (t + 1) = stepS row (stN row h.toNat t) from rfl]
        generalize stN row h.toNat t = s at *
        have F := R.facts h1'
        have W := F.wf
        have wl := W.len; have wd := W.dr
        have ltn : ∀ i ∈ s.held, i < row.length := fun i hi => Nat.lt_of_lt_of_le (W.lt i hi) W.dr
        have datT : ∀ oc ∈ [OC.lst (hA s.held), OC.lst (wA s.way)], Dat oc := fun oc ho => by
          rcases List.mem_cons.mp ho with rfl | ho
          · exact dat_isA
          · rw [List.mem_singleton.mp ho]; exact dat_wA
        rw [Int.zero_add]
        show Wp (dSc [6, 7, 8, 9] _ (wayE row h (s.drawn : Nat) (s.pile : Nat) (some (iA (t : Int))) none none none) [OC.lst (hA s.held), OC.lst (wA s.way)]) _
        apply w_sc
        obtain ⟨acc, T, e2, _, hT2, rfl, rfl⟩ := v_lc (S := [OC.lst (hA s.held), OC.lst (wA s.way)]) (S1 := [OC.lst (hA s.held), OC.lst (wA s.way)]) (ρ := wayE row h (s.drawn : Nat) (s.pile : Nat) (some (iA (t : Int))) none none none) (it := jSeq (eVar 2)) (jt := .seq (.c 0)) (g := gnm 9)
          (c := bGc (bOr (bE (eOp (fEq false) (eVar 4) (eLst aNil))) (bE (eOp (fI fun i j => .bool (decide (j ≤ i))) (eOp fIx (eVar 0) (eVar 9)) (eOp fIx (eVar 0) (eOp fIx (eOp fIx (eVar 4) (eUn (fU fun i => -i) (eK (iA 1)))) (eK (iA 0)))))))) (d := eVar 9) (vs := [9])
          (I := fun i acc T => T = [OC.lst (hA s.held), OC.lst (wA s.way)] ∧ acc = hA ((s.held.take i).filter (fitB row s.last))) s.held.length (by omega)
          (by unfold jSeq; rw [v_var rfl, bind_ok, l_c rfl]) ⟨rfl, rfl⟩
          (by
            rintro i acc T hi ha hT ⟨rfl, rfl⟩
            have htk : s.held.take (i + 1) = s.held.take i ++ [s.held[i]] := by rw [List.take_add_one, List.getElem?_eq_getElem hi]; rfl
            have hil := ltn _ (List.getElem_mem hi)
            have dT2 : ∀ oc ∈ [OC.lst (hA s.held), OC.lst (wA s.way)] ++ [OC.lst (hA ((s.held.take i).filter (fitB row s.last)))], Dat oc := fun oc ho => by
              rcases List.mem_append.mp ho with h | h
              · exact datT oc h
              · rw [List.mem_singleton.mp h]; exact dat_isA
            have test : bGc (bOr (bE (eOp (fEq false) (eVar 4) (eLst aNil))) (bE (eOp (fI fun i j => .bool (decide (j ≤ i))) (eOp fIx (eVar 0) (eVar 9)) (eOp fIx (eVar 0) (eOp fIx (eOp fIx (eVar 4) (eUn (fU fun i => -i) (eK (iA 1)))) (eK (iA 0)))))))
                (wayE row h (s.drawn : Nat) (s.pile : Nat) (some (iA (t : Int))) none none (some (iA ((s.held[i] : Nat) : Int)))) ([OC.lst (hA s.held), OC.lst (wA s.way)] ++ [OC.lst (hA ((s.held.take i).filter (fitB row s.last)))]) = .ok (fitB row s.last s.held[i]) ([OC.lst (hA s.held), OC.lst (wA s.way)] ++ [OC.lst (hA ((s.held.take i).filter (fitB row s.last)))]) := by
              have ng := v_nilG (neg := false) (ρ := wayE row h (s.drawn : Nat) (s.pile : Nat) (some (iA (t : Int))) none none (some (iA ((s.held[i] : Nat) : Int)))) (S := [OC.lst (hA s.held), OC.lst (wA s.way)] ++ [OC.lst (hA ((s.held.take i).filter (fitB row s.last)))]) (da := eVar 4) (x := .c 1) (ds := (s.way.map cst).map fun e => tupD [e.1, e.2]) (v_var rfl) (rb_ce (k := 7) (es := s.way.map cst) rfl) (shaped_ent _)
              refine t_gc (G := [.lst []]) ?_ dT2
              by_cases hw : s.way = []
              · obtain ⟨l0, _⟩ := F.l0 hw
                rw [show fitB row s.last s.held[i] = true by rw [l0]; rfl]
                exact t_or1' (t_b ng) (by rw [hw]; rfl)
              · obtain ⟨w, e, he⟩ := snoc_of hw
                obtain ⟨l1, _⟩ := F.l1 w e he
                have hle : e.1 < row.length := F.lt e (by rw [he]; simp)
                have ac := at_cd (row := row) hil
                have ae := at_cd (row := row) hle
                rw [show fitB row s.last s.held[i] = decide (cd row e.1 ≤ cd row s.held[i]) by rw [l1]; rfl]
                refine t_or0' (t_b ng) (by rw [he]; simp) (t_b (v_op (v_op (v_var rfl) (v_var rfl) (v_ix l_rI ac)) (v_op (v_var rfl) (v_op (v_op (v_var rfl) (v_un v_k v_neg) (v_ix (l_c rfl) (wA_last he))) v_k (v_ixT rfl lT_eA at0)) (v_ix l_rI ae)) v_I))
            refine ⟨iA ((s.held[i] : Nat) : Int), wayE row h (s.drawn : Nat) (s.pile : Nat) (some (iA (t : Int))) none none (some (iA ((s.held[i] : Nat) : Int))), ?_, g_nm, ?_⟩
            · rw [at_c rfl]
              simp [hi]
            · cases hf : fitB row s.last s.held[i] with
              | false =>
                rw [hf] at test
                exact .inl ⟨test, rfl, by rw [htk, List.filter_append]; simp [hf]⟩
              | true =>
                rw [hf] at test
                refine .inr ⟨test, iA ((s.held[i] : Nat) : Int), [OC.lst (hA s.held), OC.lst (wA s.way)], v_var rfl, rfl, rfl, ?_⟩
                rw [htk, List.filter_append]
                simp [hf])
          (fun acc T _ _ hI => by
            obtain ⟨rfl, _⟩ := hI
            rw [at_c (xs := hA s.held) rfl]
            simp)
        rw [List.take_length] at e2
        apply w_seq
        apply w_as
        · refine v_fzL (j := 0) (S1 := [OC.lst (hA s.held), OC.lst (wA s.way)]) (ds := ((fitting row s).map fun i : Nat => (i : Int)).map .int) e2 rfl datT rfl ?_
          rw [← isA_d]; rfl
        · exact g_nm
        apply w_nx
        show Wp (dSeq _ _ (wayE row h (s.drawn : Nat) (s.pile : Nat) (some (iA (t : Int))) (some (.d (heldD (fitting row s)))) none none) [OC.lst (hA s.held), OC.lst (wA s.way)]) _
        have srtF : (fitting row s).Pairwise (· < ·) := srt.sublist List.filter_sublist
        apply w_mid (fun ρ T => ∃ is pl, is ≠ [] ∧ is.length ≤ s.held.length ∧ is.Pairwise (· < ·) ∧ (∀ i ∈ is, i ∈ s.held) ∧ stepS row s = layS row s (least row is) pl ∧ ρ = wayE row h (s.drawn : Nat) (pl : Nat) (some (iA (t : Int))) (some (.d (heldD is))) none none ∧ T = [OC.lst (hA s.held), OC.lst (wA s.way)])
        · apply w_if (t_nil (v_var rfl) (rb_d 8) (shaped_ints _) datT)
          · intro hq
            have hf : fitting row s = [] := by simpa using hq
            apply w_seq
            apply w_as (v_op (v_var rfl) v_k v_I) g_nm
            apply w_nx
            apply w_as
            · refine v_fzL (j := 0) (S1 := [OC.lst (hA s.held), OC.lst (wA s.way)]) (G := [.lst (hA s.held)]) (ds := (s.held.map fun i : Nat => (i : Int)).map .int) (k := 2) ?_ rfl datT rfl (by rw [← isA_d]; rfl)
              exact v_cb (a_cons (v_var rfl) a_nil) (v_list (l_c rfl))
            · exact g_nm
            apply w_nxI
            exact ⟨s.held, s.pile + 1, hne, Nat.le_refl _, srt, fun _ h => h, by unfold stepS; rw [if_pos hf], rfl, rfl⟩
          · intro hq
            have hf : fitting row s ≠ [] := fun e => by rw [e] at hq; simp at hq
            apply w_dNx
            apply w_nxI
            exact ⟨fitting row s, s.pile, hf, List.length_filter_le _ _, srtF, fun i hi => (List.mem_filter.mp hi).1, by unfold stepS; rw [if_neg hf], rfl, rfl⟩
        rintro ρ T ⟨is, pl, hin, hlen, hsi, his, hst, rfl, rfl⟩
        have hipos : 0 < is.length := List.length_pos_iff.mpr hin
        apply w_seq
        apply w_as
        · exact v_op (v_var rfl) v_k (v_ix l_dI (atI_isA (k := 0) rfl (by rw [List.length_map]; exact hipos)))
        · exact g_nm
        apply w_nx
        have h00 : (is.map fun i : Nat => (i : Int)).getD 0 0 = ((is[0] : Nat) : Int) := by
          rw [List.getD_eq_getElem?_getD, List.getElem?_map, List.getElem?_eq_getElem hipos]; rfl
        rw [h00]
        show Wp (dSeq _ _ (wayE row h (s.drawn : Nat) (pl : Nat) (some (iA (t : Int))) (some (.d (heldD is))) (some (iA ((is[0] : Nat) : Int))) none) [OC.lst (hA s.held), OC.lst (wA s.way)]) _
        apply w_mid (fun ρ T => ρ = wayE row h (s.drawn : Nat) (pl : Nat) (some (iA (t : Int))) (some (.d (heldD is))) (some (iA ((least row is : Nat) : Int))) none ∧ T = [OC.lst (hA s.held), OC.lst (wA s.way)])
        · apply w_fg
          refine w_for (I := fun t' ρ T => ∃ b : Nat, (t' = 0 → b = is[0]) ∧ (t' ≠ 0 → b = least row (is.take t')) ∧ b < row.length ∧ ρ = wayE row h (s.drawn : Nat) (pl : Nat) (some (iA (t : Int))) (some (.d (heldD is))) (some (iA (b : Int))) none ∧ T = [OC.lst (hA s.held), OC.lst (wA s.way)])
            is.length (by omega) (by unfold jSeq; rw [v_var rfl, bind_ok, l_dI]) ⟨is[0], fun _ => rfl, fun h => absurd rfl h, ltn _ (his _ (List.getElem_mem hipos)), rfl, rfl⟩ ?_ ?_
          · rintro k ρ T hk ⟨b, b0, b1, bl, rfl, rfl⟩
            refine ⟨_, _, _, at_hD hk, g_nm, ?_⟩
            have hkl := ltn _ (his _ (List.getElem_mem hk))
            have ak := at_cd (row := row) hkl
            have ab := at_cd (row := row) bl
            have htk : is.take (k + 1) = is.take k ++ [is[k]] := by rw [List.take_add_one, List.getElem?_eq_getElem hk]; rfl
            have nx : least row (is.take (k + 1)) = if cd row is[k] < cd row b then is[k] else b := by
              by_cases k0 : k = 0
              · subst k0
                rw [htk, b0 rfl]
                simp [least]
              · rw [htk, b1 k0]
                refine least_snoc (fun e => ?_) (fun i hi => ?_)
                · have : (is.take k).length = 0 := by rw [e]; rfl
                  rw [List.length_take] at this
                  omega
                · obtain ⟨j, hj, rfl⟩ := List.mem_iff_getElem.mp hi
                  rw [List.getElem_take]
                  exact List.pairwise_iff_getElem.mp hsi j k _ hk (by rw [List.length_take] at hj; omega)
            show Wp (dSc [9] _ (wayE row h (s.drawn : Nat) (pl : Nat) (some (iA (t : Int))) (some (.d (heldD is))) (some (iA (b : Int))) (some (iA ((is[k] : Nat) : Int)))) _) _
            apply w_sc
            have envF : ∀ b : Nat, envOk 2 (wayE row h (s.drawn : Nat) (pl : Nat) (some (iA (t : Int))) (some (.d (heldD is))) (some (iA (b : Int))) none) := fun b => envOk_cons rf_r (envOk_cons rf_d (envOk_cons (rf_c (by decide)) (envOk_cons rf_d (envOk_cons (rf_c (by decide)) (envOk_cons rf_d (envOk_cons rf_d (envOk_cons rf_d (envOk_cons rf_d (envOk_cons rf_n envOk_nil)))))))))
            apply w_if
            · exact t_b (v_op (v_op (v_var rfl) (v_var rfl) (v_ix l_rI ak)) (v_op (v_var rfl) (v_var rfl) (v_ix l_rI ab)) v_I)
            · intro hq
              have hq := of_decide_eq_true hq
              apply w_as (v_var rfl) g_nm
              refine ⟨closed_dat0 datT, envF _, is[k], fun h => absurd h (by omega), fun _ => ?_, hkl, rfl, rfl⟩
              rw [nx, if_pos hq]
            · intro hq
              have hq := of_decide_eq_false hq
              apply w_dNx
              refine ⟨closed_dat0 datT, envF _, b, fun h => absurd h (by omega), fun _ => ?_, bl, rfl, rfl⟩
              rw [nx, if_neg hq]
          · rintro ρ T ⟨b, b0, b1, bl, rfl, rfl⟩
            refine ⟨at_hD0, ?_, rfl⟩
            have := b1 (by omega)
            rw [List.take_length] at this
            rw [this]
        rintro ρ T ⟨rfl, rfl⟩
        have hm : least row is ∈ s.held := his _ (least_mem hin)
        rw [hst]
        generalize least row is = i at hm hst
        have hel := List.length_erase_of_mem hm
        apply w_seq
        apply w_ex
        · exact v_bm (v_var rfl) (l_c rfl) (a_cons (v_tup (a_cons (v_var rfl) (a_cons (v_var rfl) a_nil)) (Nat.le_of_ble_eq_true rfl)) a_nil) (b_append rfl (by rw [List.length_map, List.length_map]; omega))
        apply w_nx
        apply w_seq
        apply w_ex
        · exact v_rem (v_var rfl) rfl (v_var rfl) (List.mem_map.mpr ⟨i, hm, rfl⟩)
        apply w_nx
        rw [erase_cast]
        have ew : wA s.way ++ [mkT [iA (i : Int), iA (pl : Int)]] = wA (layS row s i pl).way := (wA_snoc s.way (i, pl)).symm
        show Wp (dIf _ _ _ (wayE row h (s.drawn : Nat) (pl : Nat) (some (iA (t : Int))) (some (.d (heldD is))) (some (iA (i : Int))) none) [OC.lst (hA (s.held.erase i)), OC.lst (wA s.way ++ [mkT [iA (i : Int), iA (pl : Int)]])]) _
        rw [ew]
        have fin : ∀ (Q : Out → Prop) (l : List Nat) (d : Int), l = (layS row s i pl).held → d = ((layS row s i pl).drawn : Nat) → Wp (.nx (wayE row h d (pl : Nat) (some (iA (t : Int))) (some (.d (heldD is))) (some (iA (i : Int))) none) [OC.lst (hA l), OC.lst (wA (layS row s i pl).way)]) (scK [6, 7, 8, 9] [OC.lst (hA s.held), OC.lst (wA s.way)].length (lpK (fun ρ T => t + 1 ≤ row.length ∧ ρ = wayE row h ((layS row s i pl).drawn : Nat) ((layS row s i pl).pile : Nat) none none none none ∧ T = [OC.lst (hA (layS row s i pl).held), OC.lst (wA (layS row s i pl).way)]) Q)) := by
          rintro Q l d rfl rfl
          refine ⟨closed_dat0 (fun oc ho => ?_), ?_, by omega, rfl, rfl⟩
          · rcases List.mem_cons.mp ho with rfl | ho
            · exact dat_isA
            · rw [List.mem_singleton.mp ho]; exact dat_wA
          · exact envOk_cons rf_r (envOk_cons rf_d (envOk_cons (rf_c (by simp)) (envOk_cons rf_d (envOk_cons (rf_c (by simp)) (envOk_cons rf_d (envOk_cons rf_n (envOk_cons rf_n (envOk_cons rf_n (envOk_cons rf_n envOk_nil)))))))))
        apply w_if
        · exact t_b (v_op (v_var rfl) (v_cb (a_cons (v_var rfl) a_nil) (len_l l_rI)) v_I)
        · intro hq
          have hq : ((s.drawn : Nat) : Int) < (((isA row).length : Nat) : Int) := of_decide_eq_true hq
          rw [lr] at hq
          have hds : s.drawn < row.length := by omega
          apply w_seq
          apply w_ex
          · exact v_bm (v_var rfl) (l_c rfl) (a_cons (v_var rfl) a_nil) (b_append rfl (by rw [List.length_map, List.length_map]; omega))
          apply w_nx
          apply w_as (v_op (v_var rfl) v_k v_I) g_nm
          have eh : hA (s.held.erase i) ++ [iA ((s.drawn : Nat) : Int)] = hA (layS row s i pl).held := by
            rw [layS_held hds]; simp [hA, isA]
          show Wp (.nx (wayE row h ((s.drawn : Nat) + 1) (pl : Nat) (some (iA (t : Int))) (some (.d (heldD is))) (some (iA (i : Int))) none) [OC.lst (hA (s.held.erase i) ++ [iA ((s.drawn : Nat) : Int)]), OC.lst (wA (layS row s i pl).way)]) _
          rw [eh]
          exact fin _ _ _ rfl (by rw [layS_drawn hds]; omega)
        · intro hq
          have hq : ¬ ((s.drawn : Nat) : Int) < (((isA row).length : Nat) : Int) := of_decide_eq_false hq
          rw [lr] at hq
          have hds : ¬ s.drawn < row.length := by omega
          apply w_dNx
          exact fin _ _ _ (layS_held0 hds).symm (by rw [layS_drawn0 hds])
      · rintro ρ T ⟨_, rfl, rfl⟩
        refine ⟨at_rng0, _, _, rfl, .lst (hA (stN row h.toNat row.length).held), ?_⟩
        rw [stN_end h1']
        rfl
    · rintro ρ T ⟨d, p, rfl, l, rfl⟩
      apply w_rt (v_var rfl)
      exact ⟨rfl, rfl⟩
  obtain ⟨v, T, e, rfl, h2⟩ := main
  exact runP_of e (rb_ce h2)


end
section
local macro_rules | `(tactic| walk_at "hs") => `(tactic| first | (with_reducible assumption) | exact rfl | (apply get_set; walk_at "hs"))
local macro_rules | `(tactic| walk_at "lk") => `(tactic| first | (with_reducible exact l_rI) | (with_reducible exact l_dI) | (with_reducible exact l_rE) | (with_reducible exact l_dE) | ((with_reducible apply l_c); walk_at "hs") | (with_reducible exact l_d) | (with_reducible exact l_r) | (with_reducible assumption))
local macro_rules | `(tactic| walk_at "lt") => `(tactic| first | (with_reducible exact lT_eR) | (with_reducible exact lT_eA) | (with_reducible exact lT_d) | (with_reducible exact lT_r) | (with_reducible assumption) | exact rfl)
local macro_rules | `(tactic| walk_at "ev1") => `(tactic| first
  | (with_reducible exact v_k) | (with_reducible exact a_nil) | (with_reducible exact g_nm) | (with_reducible exact v_I) | (with_reducible exact v_neg) | (with_reducible exact int_i) | (with_reducible exact int_b) | (with_reducible exact abs_i) | (with_reducible exact i2) | (with_reducible exact g_sN) | (with_reducible exact isN_n)
  | ((with_reducible apply v_var); exact rfl) | (with_reducible assumption)
  | (with_reducible apply v_op) | (with_reducible apply v_un) | (with_reducible apply a_cons) | (with_reducible apply v_cb) | (with_reducible apply v_call) | (with_reducible apply t_b) | (with_reducible apply v_tup) | (with_reducible apply v_lst) | (with_reducible apply g_sb)
  | ((with_reducible apply v_IC); first | decide | exact Or.inl (by decide) | exact ⟨by decide, by decide⟩ | exact ⟨by decide, by decide, by decide⟩ | (with_reducible assumption) | rotate_left)
  | ((with_reducible apply v_ix); walk_at "lk") | ((with_reducible apply v_ixT); exact rfl; walk_at "lt")
  | ((with_reducible apply len_c); walk_at "hs") | ((with_reducible apply len_l); walk_at "lk")
  | ((with_reducible apply set_c); walk_at "hs") | ((with_reducible apply b_append); walk_at "hs")
  | ((with_reducible apply tup3_lt'); exact rfl) | ((with_reducible apply v_isN); exact rfl) | ((with_reducible apply v_notN); exact rfl)
  | (with_reducible exact fEq_intF) | (with_reducible exact fEq_intT) | exact at_cd (by omega)
  | exact at0 | exact at1 | exact at2 | exact at3 | exact ix0 | exact ix1 | exact ix2 | exact ix3
  | ((with_reducible apply g_tp); walk_at "lt"; exact rfl) | (with_reducible apply g_sC)
  | exact atI_ints (by omega) (by omega) | (refine atI_ints ?_ ?_; rotate_left 2) | exact atI_last | exact atI_any (by omega) (by omega) | (refine atI_any ?_ ?_; rotate_left 2)
  | ((with_reducible apply c_I); exact rfl; (with_reducible assumption)) | ((with_reducible apply c_I); exact rfl) | exact Nat.le_of_ble_eq_true rfl)
local macro_rules | `(tactic| walk_at "ev") => `(tactic| repeat (walk_at "ev1"))
local macro_rules | `(tactic| walk_at "rb") => `(tactic| repeat (first | (with_reducible exact rbs_nil) | (with_reducible apply rbs_cons) | (with_reducible exact rb_d _) | (with_reducible exact rb_r _) | ((with_reducible apply rb_ci); walk_at "hs") | ((with_reducible apply rb_ce); walk_at "hs") | (with_reducible assumption)))
local macro_rules | `(tactic| walk_at "nc") => `(tactic| (simp only [nice_l, nice_t, nice_i, nice_n, nice_tup, mem_map, implies_true, forall_const, List.forall_mem_cons, List.not_mem_nil, false_implies, and_true, true_and]; done))
-- import EV Dens DSame V18
theorem cutA_any (xs : List AV) (k : Nat) : cutA xs none (some (k : Int)) = xs.take k := by
  unfold cutA
  rw [HT.sIx_none, HT.sIx_nat]
  simp
theorem v_slAny {ρ : En} {S S1 S2 : Sto} {x : AV} {xs : List AV} {da db : EV} {k : Nat} (h1 : da ρ S = .ok x S1) (h2 : db ρ S1 = .ok (iA (k : Int)) S2) (h3 : look S2 x = some xs) : eSl da oN (oS db) ρ S = .ok (.c S2.length) (S2 ++ [.lst (xs.take k)]) := by
  unfold eSl oS oN
  rw [h1, bind_ok, bind_ok, h2, bind_ok]
  simp only [asI, bind_ok, h3]
  rw [cutA_any xs k]
  rfl
theorem plain_len {row : List Int} {h : Nat} (hh : 1 ≤ h) : (plainW row h).length = row.length := by
  show (plainS row h).way.length = _
  rw [← stN_end hh]
  exact stN_way hh _ (Nat.le_refl _)
def laidL (row : List Int) (h : Nat) : List Int := (plainW row h).map fun e => cd row e.1
section
variable {C : Addr} {h : Int} {row : List Int}
end
section
variable {C : Addr}
end


end
section
local macro_rules | `(tactic| walk_at "hs") => `(tactic| first | (with_reducible assumption) | exact rfl | (apply get_set; walk_at "hs"))
local macro_rules | `(tactic| walk_at "lk") => `(tactic| first | (with_reducible exact l_rI) | (with_reducible exact l_dI) | (with_reducible exact l_rE) | (with_reducible exact l_dE) | ((with_reducible apply l_c); walk_at "hs") | (with_reducible exact l_d) | (with_reducible exact l_r) | (with_reducible assumption))
local macro_rules | `(tactic| walk_at "lt") => `(tactic| first | (with_reducible exact lT_eR) | (with_reducible exact lT_eA) | (with_reducible exact lT_d) | (with_reducible exact lT_r) | (with_reducible assumption) | exact rfl)
local macro_rules | `(tactic| walk_at "ev1") => `(tactic| first
  | (with_reducible exact v_k) | (with_reducible exact a_nil) | (with_reducible exact g_nm) | (with_reducible exact v_I) | (with_reducible exact v_neg) | (with_reducible exact int_i) | (with_reducible exact int_b) | (with_reducible exact abs_i) | (with_reducible exact i2) | (with_reducible exact g_sN) | (with_reducible exact isN_n)
  | ((with_reducible apply v_var); exact rfl) | (with_reducible assumption)
  | (with_reducible apply v_op) | (with_reducible apply v_un) | (with_reducible apply a_cons) | (with_reducible apply v_cb) | (with_reducible apply v_call) | (with_reducible apply t_b) | (with_reducible apply v_tup) | (with_reducible apply v_lst) | (with_reducible apply g_sb)
  | ((with_reducible apply v_IC); first | decide | exact Or.inl (by decide) | exact ⟨by decide, by decide⟩ | exact ⟨by decide, by decide, by decide⟩ | (with_reducible assumption) | rotate_left)
  | ((with_reducible apply v_ix); walk_at "lk") | ((with_reducible apply v_ixT); exact rfl; walk_at "lt")
  | ((with_reducible apply len_c); walk_at "hs") | ((with_reducible apply len_l); walk_at "lk")
  | ((with_reducible apply set_c); walk_at "hs") | ((with_reducible apply b_append); walk_at "hs")
  | ((with_reducible apply tup3_lt'); exact rfl) | ((with_reducible apply v_isN); exact rfl) | ((with_reducible apply v_notN); exact rfl)
  | (with_reducible exact fEq_intF) | (with_reducible exact fEq_intT) | exact at_cd (by omega)
  | exact at0 | exact at1 | exact at2 | exact at3 | exact ix0 | exact ix1 | exact ix2 | exact ix3
  | ((with_reducible apply g_tp); walk_at "lt"; exact rfl) | (with_reducible apply g_sC)
  | exact atI_ints (by omega) (by omega) | (refine atI_ints ?_ ?_; rotate_left 2) | exact atI_last | exact atI_any (by omega) (by omega) | (refine atI_any ?_ ?_; rotate_left 2)
  | ((with_reducible apply c_I); exact rfl; (with_reducible assumption)) | ((with_reducible apply c_I); exact rfl) | exact Nat.le_of_ble_eq_true rfl)
local macro_rules | `(tactic| walk_at "ev") => `(tactic| repeat (walk_at "ev1"))
local macro_rules | `(tactic| walk_at "rb") => `(tactic| repeat (first | (with_reducible exact rbs_nil) | (with_reducible apply rbs_cons) | (with_reducible exact rb_d _) | (with_reducible exact rb_r _) | ((with_reducible apply rb_ci); walk_at "hs") | ((with_reducible apply rb_ce); walk_at "hs") | (with_reducible assumption)))
local macro_rules | `(tactic| walk_at "nc") => `(tactic| (simp only [nice_l, nice_t, nice_i, nice_n, nice_tup, mem_map, implies_true, forall_const, List.forall_mem_cons, List.not_mem_nil, false_implies, and_true, true_and]; done))
-- import EV Dens DSame V19
/-! ### rows at rest: mathematics -/
theorem perm_lay {row : List Int} {s : LSt} {i p : Nat} (hi : i ∈ s.held) (h : (s.way.map Prod.fst ++ s.held).Perm (List.range s.drawn)) : ((layS row s i p).way.map Prod.fst ++ (layS row s i p).held).Perm (List.range (layS row s i p).drawn) := by
  have e : (s.way.map Prod.fst ++ [i] ++ s.held.erase i).Perm (List.range s.drawn) := by
    refine List.Perm.trans ?_ h
    rw [List.append_assoc]
    exact (List.perm_cons_erase hi).symm.append_left _
  show ((s.way ++ [(i, p)]).map Prod.fst ++ (s.held.erase i ++ (if s.drawn < row.length then [s.drawn] else []))).Perm (List.range (if s.drawn < row.length then s.drawn + 1 else s.drawn))
  rw [List.map_append, ← List.append_assoc]
  split
  · rw [List.range_succ]
    exact e.append_right _
  · rw [List.append_nil]; exact e
theorem perm_stN {row : List Int} {h : Nat} (hh : 1 ≤ h) : ∀ t, t ≤ row.length → ((stN row h t).way.map Prod.fst ++ (stN row h t).held).Perm (List.range (stN row h t).drawn)
  | 0, _ => .refl _
  | t + 1, ht => by
    obtain ⟨i, p, hi, e⟩ := step_is (row := row) (stN_ne hh (show t < row.length by omega))
    show ((stepS row (stN row h t)).way.map Prod.fst ++ (stepS row (stN row h t)).held).Perm _
    rw [show stN row h (t + 1) = stepS row (stN row h t) from rfl, e]
    exact perm_lay hi (perm_stN hh t (by omega))
theorem cd_range (row : List Int) : (List.range row.length).map (cd row) = row := by
  refine List.ext_getElem (by simp) fun i h1 h2 => ?_
  simp [cd, List.getD_eq_getElem?_getD, List.getElem?_eq_getElem h2]
theorem laidL_eq (row : List Int) (h : Nat) : laidL row h = ((plainW row h).map Prod.fst).map (cd row) := by
  unfold laidL; rw [List.map_map]; rfl
theorem laidL_perm {row : List Int} {h : Nat} (hh : 1 ≤ h) : (laidL row h).Perm row := by
  have p := perm_stN (row := row) hh row.length (Nat.le_refl _)
  have hd : (stN row h row.length).held = [] := (rest_zero (stN_facts row hh row.length (Nat.le_refl _)).1).mp (by have := (stN_facts row hh row.length (Nat.le_refl _)).2.1; omega)
  rw [hd, List.append_nil, stN_drawn hh _ (Nat.le_refl _), stN_end hh, Nat.min_eq_right (by omega)] at p
  rw [laidL_eq]
  have := p.map (cd row)
  rwa [cd_range] at this

end
section
local macro_rules | `(tactic| walk_at "hs") => `(tactic| first | (with_reducible assumption) | exact rfl | (apply get_set; walk_at "hs"))
local macro_rules | `(tactic| walk_at "lk") => `(tactic| first | (with_reducible exact l_rI) | (with_reducible exact l_dI) | (with_reducible exact l_rE) | (with_reducible exact l_dE) | ((with_reducible apply l_c); walk_at "hs") | (with_reducible exact l_d) | (with_reducible exact l_r) | (with_reducible assumption))
local macro_rules | `(tactic| walk_at "lt") => `(tactic| first | (with_reducible exact lT_eR) | (with_reducible exact lT_eA) | (with_reducible exact lT_d) | (with_reducible exact lT_r) | (with_reducible assumption) | exact rfl)
local macro_rules | `(tactic| walk_at "ev1") => `(tactic| first
  | (with_reducible exact v_k) | (with_reducible exact a_nil) | (with_reducible exact g_nm) | (with_reducible exact v_I) | (with_reducible exact v_neg) | (with_reducible exact int_i) | (with_reducible exact int_b) | (with_reducible exact abs_i) | (with_reducible exact i2) | (with_reducible exact g_sN) | (with_reducible exact isN_n)
  | ((with_reducible apply v_var); exact rfl) | (with_reducible assumption)
  | (with_reducible apply v_op) | (with_reducible apply v_un) | (with_reducible apply a_cons) | (with_reducible apply v_cb) | (with_reducible apply v_call) | (with_reducible apply t_b) | (with_reducible apply v_tup) | (with_reducible apply v_lst) | (with_reducible apply g_sb)
  | ((with_reducible apply v_IC); first | decide | exact Or.inl (by decide) | exact ⟨by decide, by decide⟩ | exact ⟨by decide, by decide, by decide⟩ | (with_reducible assumption) | rotate_left)
  | ((with_reducible apply v_ix); walk_at "lk") | ((with_reducible apply v_ixT); exact rfl; walk_at "lt")
  | ((with_reducible apply len_c); walk_at "hs") | ((with_reducible apply len_l); walk_at "lk")
  | ((with_reducible apply set_c); walk_at "hs") | ((with_reducible apply b_append); walk_at "hs")
  | ((with_reducible apply tup3_lt'); exact rfl) | ((with_reducible apply v_isN); exact rfl) | ((with_reducible apply v_notN); exact rfl)
  | (with_reducible exact fEq_intF) | (with_reducible exact fEq_intT) | exact at_cd (by omega)
  | exact at0 | exact at1 | exact at2 | exact at3 | exact ix0 | exact ix1 | exact ix2 | exact ix3
  | ((with_reducible apply g_tp); walk_at "lt"; exact rfl) | (with_reducible apply g_sC)
  | exact atI_ints (by omega) (by omega) | (refine atI_ints ?_ ?_; rotate_left 2) | exact atI_last | exact atI_any (by omega) (by omega) | (refine atI_any ?_ ?_; rotate_left 2)
  | ((with_reducible apply c_I); exact rfl; (with_reducible assumption)) | ((with_reducible apply c_I); exact rfl) | exact Nat.le_of_ble_eq_true rfl)
local macro_rules | `(tactic| walk_at "ev") => `(tactic| repeat (walk_at "ev1"))
local macro_rules | `(tactic| walk_at "rb") => `(tactic| repeat (first | (with_reducible exact rbs_nil) | (with_reducible apply rbs_cons) | (with_reducible exact rb_d _) | (with_reducible exact rb_r _) | ((with_reducible apply rb_ci); walk_at "hs") | ((with_reducible apply rb_ce); walk_at "hs") | (with_reducible assumption)))
local macro_rules | `(tactic| walk_at "nc") => `(tactic| (simp only [nice_l, nice_t, nice_i, nice_n, nice_tup, mem_map, implies_true, forall_const, List.forall_mem_cons, List.not_mem_nil, false_implies, and_true, true_and]; done))
-- import EV Dens DSame V20
theorem eqvAll_ints : ∀ (a b : List Int), PyData.eqvAll (a.map .int) (b.map .int) = decide (a = b)
  | [], [] => by simp [PyData.eqvAll]
  | [], y :: b => by simp [PyData.eqvAll]
  | x :: a, [] => by simp [PyData.eqvAll]
  | x :: a, y :: b => by
    simp only [List.map_cons, PyData.eqvAll, PyData.eqv, eqvAll_ints a b]
    by_cases h1 : x = y
    · subst h1; simp
    · simp [h1]
theorem eqv_ints (a b : List Int) : PyData.eqv (intsD a) (intsD b) = decide (a = b) := by
  simp only [PyData.eqv]
  exact eqvAll_ints a b
theorem fEq_ints {neg : Bool} {S : Sto} {x y : AV} {a b : List Int} (h1 : rb true 8 S x = some (intsD a)) (h2 : rb true 8 S y = some (intsD b)) : fEq neg x y S = .ok (bA (if neg = true then !decide (a = b) else decide (a = b))) S := by
  rw [fEq_of h1 h2 (shaped_ints a) (shaped_ints b), eqv_ints]
section
variable {C : Addr} {row : List Int} {h : Int}
end


end
section
local macro_rules | `(tactic| walk_at "hs") => `(tactic| first | (with_reducible assumption) | exact rfl | (apply get_set; walk_at "hs"))
local macro_rules | `(tactic| walk_at "lk") => `(tactic| first | (with_reducible exact l_rI) | (with_reducible exact l_dI) | (with_reducible exact l_rE) | (with_reducible exact l_dE) | ((with_reducible apply l_c); walk_at "hs") | (with_reducible exact l_d) | (with_reducible exact l_r) | (with_reducible assumption))
local macro_rules | `(tactic| walk_at "lt") => `(tactic| first | (with_reducible exact lT_eR) | (with_reducible exact lT_eA) | (with_reducible exact lT_d) | (with_reducible exact lT_r) | (with_reducible assumption) | exact rfl)
local macro_rules | `(tactic| walk_at "ev1") => `(tactic| first
  | (with_reducible exact v_k) | (with_reducible exact a_nil) | (with_reducible exact g_nm) | (with_reducible exact v_I) | (with_reducible exact v_neg) | (with_reducible exact int_i) | (with_reducible exact int_b) | (with_reducible exact abs_i) | (with_reducible exact i2) | (with_reducible exact g_sN) | (with_reducible exact isN_n)
  | ((with_reducible apply v_var); exact rfl) | (with_reducible assumption)
  | (with_reducible apply v_op) | (with_reducible apply v_un) | (with_reducible apply a_cons) | (with_reducible apply v_cb) | (with_reducible apply v_call) | (with_reducible apply t_b) | (with_reducible apply v_tup) | (with_reducible apply v_lst) | (with_reducible apply g_sb)
  | ((with_reducible apply v_IC); first | decide | exact Or.inl (by decide) | exact ⟨by decide, by decide⟩ | exact ⟨by decide, by decide, by decide⟩ | (with_reducible assumption) | rotate_left)
  | ((with_reducible apply v_ix); walk_at "lk") | ((with_reducible apply v_ixT); exact rfl; walk_at "lt")
  | ((with_reducible apply len_c); walk_at "hs") | ((with_reducible apply len_l); walk_at "lk")
  | ((with_reducible apply set_c); walk_at "hs") | ((with_reducible apply b_append); walk_at "hs")
  | ((with_reducible apply tup3_lt'); exact rfl) | ((with_reducible apply v_isN); exact rfl) | ((with_reducible apply v_notN); exact rfl)
  | (with_reducible exact fEq_intF) | (with_reducible exact fEq_intT) | exact at_cd (by omega)
  | exact at0 | exact at1 | exact at2 | exact at3 | exact ix0 | exact ix1 | exact ix2 | exact ix3
  | ((with_reducible apply g_tp); walk_at "lt"; exact rfl) | (with_reducible apply g_sC)
  | exact atI_ints (by omega) (by omega) | (refine atI_ints ?_ ?_; rotate_left 2) | exact atI_last | exact atI_any (by omega) (by omega) | (refine atI_any ?_ ?_; rotate_left 2)
  | ((with_reducible apply c_I); exact rfl; (with_reducible assumption)) | ((with_reducible apply c_I); exact rfl) | exact Nat.le_of_ble_eq_true rfl)
local macro_rules | `(tactic| walk_at "ev") => `(tactic| repeat (walk_at "ev1"))
local macro_rules | `(tactic| walk_at "rb") => `(tactic| repeat (first | (with_reducible exact rbs_nil) | (with_reducible apply rbs_cons) | (with_reducible exact rb_d _) | (with_reducible exact rb_r _) | ((with_reducible apply rb_ci); walk_at "hs") | ((with_reducible apply rb_ce); walk_at "hs") | (with_reducible assumption)))
local macro_rules | `(tactic| walk_at "nc") => `(tactic| (simp only [nice_l, nice_t, nice_i, nice_n, nice_tup, mem_map, implies_true, forall_const, List.forall_mem_cons, List.not_mem_nil, false_implies, and_true, true_and]; done))
-- import EV Dens DSame V21
theorem v_cells {ns : List Int} {m : Nat} {ρ : En} (hm : m ≤ 10) (hn : ns.length ≤ 900) (hb : ∀ z ∈ ns, Builtin.Int.intBits z ≤ 1048576) (h0 : ρ[0]? = some (some (.r (intsD ns)))) :
    ∃ cells : List Int, (∀ z ∈ cells, Builtin.Int.intBits z ≤ 1048576) ∧ cells.length ≤ 11 ∧
      jEn (aCons (eFz (eOp fCat (eLst (aCons (eCB fLen (aCons (eVar 0) aNil)) aNil)) (eSl (eVar 0) oN (oS (eK (iA (m : Int))))))) aNil) ρ [] = .ok (.enum (.d (intsD cells))) [] := by
  have lns : (((isA ns).length : Nat) : Int) = (ns.length : Int) := by rw [List.length_map]
  refine ⟨(ns.length : Int) :: ns.take m, fun z hz => ?_, by simp; omega, ?_⟩
  · rcases List.mem_cons.mp hz with rfl | hz
    · exact Nat.le_trans (PyProof.Rows.intBits_le (k := 20) (by omega)) (by decide)
    · exact hb z (List.mem_of_mem_take hz)
  · have ez : eFz (eOp fCat (eLst (aCons (eCB fLen (aCons (eVar 0) aNil)) aNil)) (eSl (eVar 0) oN (oS (eK (iA (m : Int)))))) ρ [] = .ok (.d (intsD ((ns.length : Int) :: ns.take m))) [] := by
      refine v_fzL (j := 2) (S1 := []) (G := [.lst [iA (ns.length : Int)], .lst ((isA ns).take m), .lst ([iA (ns.length : Int)] ++ (isA ns).take m)]) (k := 2) (ds := ((ns.length : Int) :: ns.take m).map .int) ?_ rfl (fun oc h => by cases h) rfl ?_
      · have e1 : eLst (aCons (eCB fLen (aCons (eVar 0) aNil)) aNil) ρ [] = .ok (.c 0) [.lst [iA (ns.length : Int)]] := by
          rw [← lns]
          exact v_lst (a_cons (v_cb (a_cons (v_var h0) a_nil) (len_l l_rI)) a_nil) (Nat.le_of_ble_eq_true rfl)
        exact v_op e1 (v_slAny (k := m) (v_var h0) v_k l_rI) (v_cat (l_c rfl) (l_c rfl) (by simp; omega))
      · rw [← isA_d]
        show some (OC.lst _) = _
        rw [← List.map_take]; rfl
    unfold jEn
    rw [show aCons _ aNil ρ [] = _ from a_cons ez a_nil, bind_ok]
    simp only [l_dI]
theorem at_enum {S : Sto} {ns : List Int} {t : Nat} (ht : t < ns.length) : (ItA.enum (.d (intsD ns))).at_ S t = some (some (mkT [iA (t : Int), iA ns[t]])) := by
  show (look S (.d (intsD ns))).map (fun xs => (xs[t]?).map fun y => mkT [iA (t : Int), y]) = _
  rw [l_dI]
  simp [ht]
theorem at_enum0 {S : Sto} {ns : List Int} : (ItA.enum (.d (intsD ns))).at_ S ns.length = some none := by
  show (look S (.d (intsD ns))).map (fun xs => (xs[ns.length]?).map fun y => mkT [iA ((ns.length : Nat) : Int), y]) = _
  rw [l_dI]
  simp
theorem j_seqDI {da : EV} {ρ : En} {S S1 : Sto} {ns : List Int} (h : da ρ S = .ok (.d (intsD ns)) S1) : jSeq da ρ S = .ok (.seq (.d (intsD ns))) S1 := by
  unfold jSeq
  rw [h, bind_ok, l_dI]
section
variable {C : Addr}
end


end
section
local macro_rules | `(tactic| walk_at "hs") => `(tactic| first | (with_reducible assumption) | exact rfl | (apply get_set; walk_at "hs"))
local macro_rules | `(tactic| walk_at "lk") => `(tactic| first | (with_reducible exact l_rI) | (with_reducible exact l_dI) | (with_reducible exact l_rE) | (with_reducible exact l_dE) | ((with_reducible apply l_c); walk_at "hs") | (with_reducible exact l_d) | (with_reducible exact l_r) | (with_reducible assumption))
local macro_rules | `(tactic| walk_at "lt") => `(tactic| first | (with_reducible exact lT_eR) | (with_reducible exact lT_eA) | (with_reducible exact lT_d) | (with_reducible exact lT_r) | (with_reducible assumption) | exact rfl)
local macro_rules | `(tactic| walk_at "ev1") => `(tactic| first
  | (with_reducible exact v_k) | (with_reducible exact a_nil) | (with_reducible exact g_nm) | (with_reducible exact v_I) | (with_reducible exact v_neg) | (with_reducible exact int_i) | (with_reducible exact int_b) | (with_reducible exact abs_i) | (with_reducible exact i2) | (with_reducible exact g_sN) | (with_reducible exact isN_n)
  | ((with_reducible apply v_var); exact rfl) | (with_reducible assumption)
  | (with_reducible apply v_op) | (with_reducible apply v_un) | (with_reducible apply a_cons) | (with_reducible apply v_cb) | (with_reducible apply v_call) | (with_reducible apply t_b) | (with_reducible apply v_tup) | (with_reducible apply v_lst) | (with_reducible apply g_sb)
  | ((with_reducible apply v_IC); first | decide | exact Or.inl (by decide) | exact ⟨by decide, by decide⟩ | exact ⟨by decide, by decide, by decide⟩ | (with_reducible assumption) | rotate_left)
  | ((with_reducible apply v_ix); walk_at "lk") | ((with_reducible apply v_ixT); exact rfl; walk_at "lt")
  | ((with_reducible apply len_c); walk_at "hs") | ((with_reducible apply len_l); walk_at "lk")
  | ((with_reducible apply set_c); walk_at "hs") | ((with_reducible apply b_append); walk_at "hs")
  | ((with_reducible apply tup3_lt'); exact rfl) | ((with_reducible apply v_isN); exact rfl) | ((with_reducible apply v_notN); exact rfl)
  | (with_reducible exact fEq_intF) | (with_reducible exact fEq_intT) | exact at_cd (by omega)
  | exact at0 | exact at1 | exact at2 | exact at3 | exact ix0 | exact ix1 | exact ix2 | exact ix3
  | ((with_reducible apply g_tp); walk_at "lt"; exact rfl) | (with_reducible apply g_sC)
  | exact atI_ints (by omega) (by omega) | (refine atI_ints ?_ ?_; rotate_left 2) | exact atI_last | exact atI_any (by omega) (by omega) | (refine atI_any ?_ ?_; rotate_left 2)
  | ((with_reducible apply c_I); exact rfl; (with_reducible assumption)) | ((with_reducible apply c_I); exact rfl) | exact Nat.le_of_ble_eq_true rfl)
local macro_rules | `(tactic| walk_at "ev") => `(tactic| repeat (walk_at "ev1"))
local macro_rules | `(tactic| walk_at "rb") => `(tactic| repeat (first | (with_reducible exact rbs_nil) | (with_reducible apply rbs_cons) | (with_reducible exact rb_d _) | (with_reducible exact rb_r _) | ((with_reducible apply rb_ci); walk_at "hs") | ((with_reducible apply rb_ce); walk_at "hs") | (with_reducible assumption)))
local macro_rules | `(tactic| walk_at "nc") => `(tactic| (simp only [nice_l, nice_t, nice_i, nice_n, nice_tup, mem_map, implies_true, forall_const, List.forall_mem_cons, List.not_mem_nil, false_implies, and_true, true_and]; done))
-- import EV Dens DSame V23
theorem cutA_mid (xs : List AV) (i j : Nat) : cutA xs (some (i : Int)) (some (j : Int)) = (xs.drop (min i xs.length)).take (min j xs.length - min i xs.length) := by
  unfold cutA
  rw [HT.sIx_nat, HT.sIx_nat]
theorem v_slMid {ρ : En} {S S1 S2 S3 : Sto} {x : AV} {xs : List AV} {da db dc : EV} {i j : Nat} (h1 : da ρ S = .ok x S1) (h2 : db ρ S1 = .ok (iA (i : Int)) S2) (h3 : dc ρ S2 = .ok (iA (j : Int)) S3) (h4 : look S3 x = some xs) :
    eSl da (oS db) (oS dc) ρ S = .ok (.c S3.length) (S3 ++ [.lst ((xs.drop (min i xs.length)).take (min j xs.length - min i xs.length))]) := by
  unfold eSl oS
  rw [h1, bind_ok, h2, bind_ok]
  simp only [asI, bind_ok]
  rw [h3, bind_ok]
  simp only [bind_ok, h4]
  rw [cutA_mid]
  rfl

end
section
local macro_rules | `(tactic| walk_at "hs") => `(tactic| first | (with_reducible assumption) | exact rfl | (apply get_set; walk_at "hs"))
local macro_rules | `(tactic| walk_at "lk") => `(tactic| first | (with_reducible exact l_rI) | (with_reducible exact l_dI) | (with_reducible exact l_rE) | (with_reducible exact l_dE) | ((with_reducible apply l_c); walk_at "hs") | (with_reducible exact l_d) | (with_reducible exact l_r) | (with_reducible assumption))
local macro_rules | `(tactic| walk_at "lt") => `(tactic| first | (with_reducible exact lT_eR) | (with_reducible exact lT_eA) | (with_reducible exact lT_d) | (with_reducible exact lT_r) | (with_reducible assumption) | exact rfl)
local macro_rules | `(tactic| walk_at "ev1") => `(tactic| first
  | (with_reducible exact v_k) | (with_reducible exact a_nil) | (with_reducible exact g_nm) | (with_reducible exact v_I) | (with_reducible exact v_neg) | (with_reducible exact int_i) | (with_reducible exact int_b) | (with_reducible exact abs_i) | (with_reducible exact i2) | (with_reducible exact g_sN) | (with_reducible exact isN_n)
  | ((with_reducible apply v_var); exact rfl) | (with_reducible assumption)
  | (with_reducible apply v_op) | (with_reducible apply v_un) | (with_reducible apply a_cons) | (with_reducible apply v_cb) | (with_reducible apply v_call) | (with_reducible apply t_b) | (with_reducible apply v_tup) | (with_reducible apply v_lst) | (with_reducible apply g_sb)
  | ((with_reducible apply v_IC); first | decide | exact Or.inl (by decide) | exact ⟨by decide, by decide⟩ | exact ⟨by decide, by decide, by decide⟩ | (with_reducible assumption) | rotate_left)
  | ((with_reducible apply v_ix); walk_at "lk") | ((with_reducible apply v_ixT); exact rfl; walk_at "lt")
  | ((with_reducible apply len_c); walk_at "hs") | ((with_reducible apply len_l); walk_at "lk")
  | ((with_reducible apply set_c); walk_at "hs") | ((with_reducible apply b_append); walk_at "hs")
  | ((with_reducible apply tup3_lt'); exact rfl) | ((with_reducible apply v_isN); exact rfl) | ((with_reducible apply v_notN); exact rfl)
  | (with_reducible exact fEq_intF) | (with_reducible exact fEq_intT) | exact at_cd (by omega)
  | exact at0 | exact at1 | exact at2 | exact at3 | exact ix0 | exact ix1 | exact ix2 | exact ix3
  | ((with_reducible apply g_tp); walk_at "lt"; exact rfl) | (with_reducible apply g_sC)
  | exact atI_ints (by omega) (by omega) | (refine atI_ints ?_ ?_; rotate_left 2) | exact atI_last | exact atI_any (by omega) (by omega) | (refine atI_any ?_ ?_; rotate_left 2)
  | ((with_reducible apply c_I); exact rfl; (with_reducible assumption)) | ((with_reducible apply c_I); exact rfl) | exact Nat.le_of_ble_eq_true rfl)
local macro_rules | `(tactic| walk_at "ev") => `(tactic| repeat (walk_at "ev1"))
local macro_rules | `(tactic| walk_at "rb") => `(tactic| repeat (first | (with_reducible exact rbs_nil) | (with_reducible apply rbs_cons) | (with_reducible exact rb_d _) | (with_reducible exact rb_r _) | ((with_reducible apply rb_ci); walk_at "hs") | ((with_reducible apply rb_ce); walk_at "hs") | (with_reducible assumption)))
local macro_rules | `(tactic| walk_at "nc") => `(tactic| (simp only [nice_l, nice_t, nice_i, nice_n, nice_tup, mem_map, implies_true, forall_const, List.forall_mem_cons, List.not_mem_nil, false_implies, and_true, true_and]; done))
-- import EV Dens DSame V27
section
variable {C : Addr} {row hs : List Int}
theorem isA_snoc (a : List Int) (l : Int) : isA (a ++ [l]) = isA a ++ [iA l] := by simp [isA]
end


end
section
local macro_rules | `(tactic| walk_at "hs") => `(tactic| first | (with_reducible assumption) | exact rfl | (apply get_set; walk_at "hs"))
local macro_rules | `(tactic| walk_at "lk") => `(tactic| first | (with_reducible exact l_rI) | (with_reducible exact l_dI) | (with_reducible exact l_rE) | (with_reducible exact l_dE) | ((with_reducible apply l_c); walk_at "hs") | (with_reducible exact l_d) | (with_reducible exact l_r) | (with_reducible assumption))
local macro_rules | `(tactic| walk_at "lt") => `(tactic| first | (with_reducible exact lT_eR) | (with_reducible exact lT_eA) | (with_reducible exact lT_d) | (with_reducible exact lT_r) | (with_reducible assumption) | exact rfl)
local macro_rules | `(tactic| walk_at "ev1") => `(tactic| first
  | (with_reducible exact v_k) | (with_reducible exact a_nil) | (with_reducible exact g_nm) | (with_reducible exact v_I) | (with_reducible exact v_neg) | (with_reducible exact int_i) | (with_reducible exact int_b) | (with_reducible exact abs_i) | (with_reducible exact i2) | (with_reducible exact g_sN) | (with_reducible exact isN_n)
  | ((with_reducible apply v_var); exact rfl) | (with_reducible assumption)
  | (with_reducible apply v_op) | (with_reducible apply v_un) | (with_reducible apply a_cons) | (with_reducible apply v_cb) | (with_reducible apply v_call) | (with_reducible apply t_b) | (with_reducible apply v_tup) | (with_reducible apply v_lst) | (with_reducible apply g_sb)
  | ((with_reducible apply v_IC); first | decide | exact Or.inl (by decide) | exact ⟨by decide, by decide⟩ | exact ⟨by decide, by decide, by decide⟩ | (with_reducible assumption) | rotate_left)
  | ((with_reducible apply v_ix); walk_at "lk") | ((with_reducible apply v_ixT); exact rfl; walk_at "lt")
  | ((with_reducible apply len_c); walk_at "hs") | ((with_reducible apply len_l); walk_at "lk")
  | ((with_reducible apply set_c); walk_at "hs") | ((with_reducible apply b_append); walk_at "hs")
  | ((with_reducible apply tup3_lt'); exact rfl) | ((with_reducible apply v_isN); exact rfl) | ((with_reducible apply v_notN); exact rfl)
  | (with_reducible exact fEq_intF) | (with_reducible exact fEq_intT) | exact at_cd (by omega)
  | exact at0 | exact at1 | exact at2 | exact at3 | exact ix0 | exact ix1 | exact ix2 | exact ix3
  | ((with_reducible apply g_tp); walk_at "lt"; exact rfl) | (with_reducible apply g_sC)
  | exact atI_ints (by omega) (by omega) | (refine atI_ints ?_ ?_; rotate_left 2) | exact atI_last | exact atI_any (by omega) (by omega) | (refine atI_any ?_ ?_; rotate_left 2)
  | ((with_reducible apply c_I); exact rfl; (with_reducible assumption)) | ((with_reducible apply c_I); exact rfl) | exact Nat.le_of_ble_eq_true rfl)
local macro_rules | `(tactic| walk_at "ev") => `(tactic| repeat (walk_at "ev1"))
local macro_rules | `(tactic| walk_at "rb") => `(tactic| repeat (first | (with_reducible exact rbs_nil) | (with_reducible apply rbs_cons) | (with_reducible exact rb_d _) | (with_reducible exact rb_r _) | ((with_reducible apply rb_ci); walk_at "hs") | ((with_reducible apply rb_ce); walk_at "hs") | (with_reducible assumption)))
local macro_rules | `(tactic| walk_at "nc") => `(tactic| (simp only [nice_l, nice_t, nice_i, nice_n, nice_tup, mem_map, implies_true, forall_const, List.forall_mem_cons, List.not_mem_nil, false_implies, and_true, true_and]; done))
-- import EV Dens DSame V31
/-! ### piles_in -/
abbrev refsA (n : Nat) : List AV := (List.range n).map fun i => AV.c (i + 1)
abbrev heapT (hs : List (List Int)) : Sto := .lst (refsA hs.length) :: hs.map fun p => .lst (isA p)
theorem heapT_new (hs : List (List Int)) : (heapT hs ++ [OC.lst []]).set 0 (OC.lst (refsA hs.length ++ [AV.c (hs.length + 1)])) = heapT (hs ++ [[]]) := by
  show OC.lst (refsA hs.length ++ [AV.c (hs.length + 1)]) :: (hs.map (fun p => OC.lst (isA p)) ++ [OC.lst []]) = _
  unfold heapT refsA
  rw [List.length_append, List.length_singleton, List.range_succ, List.map_append, List.map_append]
  rfl
theorem heapT_set (hs : List (List Int)) (k : Nat) (p : List Int) : (heapT hs).set (k + 1) (.lst (isA p)) = heapT (hs.set k p) := by
  show OC.lst _ :: (hs.map fun p => OC.lst (isA p)).set k (.lst (isA p)) = _
  unfold heapT
  rw [List.length_set, List.map_set]
theorem heapT_at {hs : List (List Int)} {k : Nat} (hk : k < hs.length) : (heapT hs)[k + 1]? = some (.lst (isA (hs.getD k []))) := by
  show (hs.map fun p => OC.lst (isA p))[k]? = _
  rw [List.getElem?_map, List.getElem?_eq_getElem hk, List.getD_eq_getElem?_getD, List.getElem?_eq_getElem hk]
  rfl
theorem refs_at {n k : Nat} {i : Int} (hk : k < n) (e : i = (k : Int)) : atI (refsA n) i = some (.c (k + 1)) := by
  subst e
  exact atI_nat (by simp [hk])
theorem pile_small (row : List Int) {w : List (Nat × Nat)} {n : Nat} (h : Sted w n) (hl : w.length ≤ 900) (k : Nat) : ((heapsL row w).getD k []).length ≤ 900 := by
  rw [List.getD_eq_getElem?_getD]
  cases e : (heapsL row w)[k]? with
  | none => exact Nat.zero_le _
  | some p => exact Nat.le_trans (heaps_bound row h p (List.mem_of_getElem? e)) hl

end
section
local macro_rules | `(tactic| walk_at "hs") => `(tactic| first | (with_reducible assumption) | exact rfl | (apply get_set; walk_at "hs"))
local macro_rules | `(tactic| walk_at "lk") => `(tactic| first | (with_reducible exact l_rI) | (with_reducible exact l_dI) | (with_reducible exact l_rE) | (with_reducible exact l_dE) | ((with_reducible apply l_c); walk_at "hs") | (with_reducible exact l_d) | (with_reducible exact l_r) | (with_reducible assumption))
local macro_rules | `(tactic| walk_at "lt") => `(tactic| first | (with_reducible exact lT_eR) | (with_reducible exact lT_eA) | (with_reducible exact lT_d) | (with_reducible exact lT_r) | (with_reducible assumption) | exact rfl)
local macro_rules | `(tactic| walk_at "ev1") => `(tactic| first
  | (with_reducible exact v_k) | (with_reducible exact a_nil) | (with_reducible exact g_nm) | (with_reducible exact v_I) | (with_reducible exact v_neg) | (with_reducible exact int_i) | (with_reducible exact int_b) | (with_reducible exact abs_i) | (with_reducible exact i2) | (with_reducible exact g_sN) | (with_reducible exact isN_n)
  | ((with_reducible apply v_var); exact rfl) | (with_reducible assumption)
  | (with_reducible apply v_op) | (with_reducible apply v_un) | (with_reducible apply a_cons) | (with_reducible apply v_cb) | (with_reducible apply v_call) | (with_reducible apply t_b) | (with_reducible apply v_tup) | (with_reducible apply v_lst) | (with_reducible apply g_sb)
  | ((with_reducible apply v_IC); first | decide | exact Or.inl (by decide) | exact ⟨by decide, by decide⟩ | exact ⟨by decide, by decide, by decide⟩ | (with_reducible assumption) | rotate_left)
  | ((with_reducible apply v_ix); walk_at "lk") | ((with_reducible apply v_ixT); exact rfl; walk_at "lt")
  | ((with_reducible apply len_c); walk_at "hs") | ((with_reducible apply len_l); walk_at "lk")
  | ((with_reducible apply set_c); walk_at "hs") | ((with_reducible apply b_append); walk_at "hs")
  | ((with_reducible apply tup3_lt'); exact rfl) | ((with_reducible apply v_isN); exact rfl) | ((with_reducible apply v_notN); exact rfl)
  | (with_reducible exact fEq_intF) | (with_reducible exact fEq_intT) | exact at_cd (by omega)
  | exact at0 | exact at1 | exact at2 | exact at3 | exact ix0 | exact ix1 | exact ix2 | exact ix3
  | ((with_reducible apply g_tp); walk_at "lt"; exact rfl) | (with_reducible apply g_sC)
  | exact atI_ints (by omega) (by omega) | (refine atI_ints ?_ ?_; rotate_left 2) | exact atI_last | exact atI_any (by omega) (by omega) | (refine atI_any ?_ ?_; rotate_left 2)
  | ((with_reducible apply c_I); exact rfl; (with_reducible assumption)) | ((with_reducible apply c_I); exact rfl) | exact Nat.le_of_ble_eq_true rfl)
local macro_rules | `(tactic| walk_at "ev") => `(tactic| repeat (walk_at "ev1"))
local macro_rules | `(tactic| walk_at "rb") => `(tactic| repeat (first | (with_reducible exact rbs_nil) | (with_reducible apply rbs_cons) | (with_reducible exact rb_d _) | (with_reducible exact rb_r _) | ((with_reducible apply rb_ci); walk_at "hs") | ((with_reducible apply rb_ce); walk_at "hs") | (with_reducible assumption)))
local macro_rules | `(tactic| walk_at "nc") => `(tactic| (simp only [nice_l, nice_t, nice_i, nice_n, nice_tup, mem_map, implies_true, forall_const, List.forall_mem_cons, List.not_mem_nil, false_implies, and_true, true_and]; done))
-- import EV3 Dens V33
/-! ### the piles of a laid row are its runs -/
def runF (s : List (List Int) × Option Int) (c : Int) : List (List Int) × Option Int :=
  (match s.2 with
    | none => s.1 ++ [[c]]
    | some l => if c < l then s.1 ++ [[c]] else s.1.dropLast ++ [s.1.getLast?.getD [] ++ [c]], some c)
def runB (cs : List Int) : List (List Int) × Option Int := cs.foldl runF ([], none)
def runsL (cs : List Int) : List (List Int) := (runB cs).1
def RunsOk (hs : List (List Int)) : Prop := ∀ k (hk : k < hs.length), hs[k] ≠ [] ∧ hs[k].Pairwise (· ≤ ·) ∧ (0 < k → ∃ f l, hs[k].head? = some f ∧ (hs.take k).flatten.getLast? = some l ∧ f < l)
structure RunI (s : List (List Int) × Option Int) (cs : List Int) : Prop where
  fl : s.1.flatten = cs
  la : s.2 = cs.getLast?
  ok : RunsOk s.1
theorem runB_snoc (cs : List Int) (c : Int) : runB (cs ++ [c]) = runF (runB cs) c := by unfold runB; rw [List.foldl_append]; rfl
theorem pair_snoc {q : List Int} {c l : Int} (h : q.Pairwise (· ≤ ·)) (hl : q.getLast? = some l) (hc : l ≤ c) : (q ++ [c]).Pairwise (· ≤ ·) := by
  refine List.pairwise_append.mpr ⟨h, by simp, fun a ha b hb => ?_⟩
  rw [List.mem_singleton.mp hb]
  obtain ⟨q0, rfl⟩ : ∃ q0, q = q0 ++ [l] := by
    rcases List.eq_nil_or_concat q with rfl | ⟨q0, z, rfl⟩
    · cases hl
    · rw [List.concat_eq_append] at hl ⊢
      rw [List.getLast?_concat] at hl
      cases hl
      exact ⟨q0, rfl⟩
  rcases List.mem_append.mp ha with m | m
  · exact Int.le_trans ((List.pairwise_append.mp h).2.2 a m l (by simp)) hc
  · rw [List.mem_singleton.mp m]; exact hc
theorem runI_step {s : List (List Int) × Option Int} {cs : List Int} (h : RunI s cs) (c : Int) : RunI (runF s c) (cs ++ [c]) := by
  obtain ⟨hs, l⟩ := s
  obtain ⟨h1, h2, h3⟩ := h
  simp only at h1 h2 h3
  have new : (∀ f, cs.getLast? = some f → c < f) → RunI (hs ++ [[c]], some c) (cs ++ [c]) := by
    intro hc
    refine ⟨by simp [h1], by simp, fun k hk => ?_⟩
    simp only [List.length_append, List.length_cons, List.length_nil] at hk
    by_cases hkl : k < hs.length
    · obtain ⟨a, b, d⟩ := h3 k hkl
      simp only [List.getElem_append_left hkl]
      refine ⟨a, b, fun h0 => ?_⟩
      obtain ⟨f, l, e1, e2, e3⟩ := d h0
      exact ⟨f, l, e1, by rw [List.take_append_of_le_length (by omega)]; exact e2, e3⟩
    · have hk' : k = hs.length := by omega
      subst hk'
      simp only [List.getElem_concat_length]
      refine ⟨by simp, by simp, fun h0 => ?_⟩
      rw [List.take_left', h1]
      · cases e : cs.getLast? with
        | none =>
          rw [List.getLast?_eq_none_iff] at e
          subst e
          have := (h3 (hs.length - 1) (by omega)).1
          have hm : hs[hs.length - 1]'(by omega) ∈ hs := List.getElem_mem _
          exact absurd (List.flatten_eq_nil_iff.mp h1 _ hm) this
        | some f => exact ⟨c, f, rfl, rfl, hc f e⟩
      · rfl
  unfold runF
  cases l with
  | none =>
    refine new fun f hf => ?_
    rw [← h2] at hf; cases hf
  | some l =>
    simp only
    split
    · rename_i hc
      refine new fun f hf => ?_
      rw [← h2] at hf; cases hf; exact hc
    · rename_i hc
      have hne : hs ≠ [] := by rintro rfl; rw [List.flatten_nil] at h1; subst h1; cases h2
      obtain ⟨hs0, q, rfl⟩ : ∃ hs0 q, hs = hs0 ++ [q] := ⟨hs.dropLast, hs.getLast hne, (List.dropLast_concat_getLast hne).symm⟩
      have hq := h3 hs0.length (by simp)
      simp only [List.getElem_concat_length] at hq
      obtain ⟨q1, q2, q3⟩ := hq
      have hql : q.getLast? = some l := by
        rw [← h1, List.flatten_append, List.flatten_singleton, List.getLast?_append] at h2
        cases e : q.getLast? with
        | none => exact absurd (List.getLast?_eq_none_iff.mp e) q1
        | some z => rw [e] at h2; exact h2.symm
      simp only [List.dropLast_concat, List.getLast?_concat, Option.getD_some]
      refine ⟨?_, by simp, fun k hk => ?_⟩
      · rw [← h1]; simp
      · simp only [List.length_append, List.length_cons, List.length_nil] at hk
        by_cases hkl : k < hs0.length
        · obtain ⟨a, b, d⟩ := h3 k (by simp; omega)
          simp only [List.getElem_append_left hkl] at a b d ⊢
          refine ⟨a, b, fun h0 => ?_⟩
          obtain ⟨f, l, e1, e2, e3⟩ := d h0
          refine ⟨f, l, e1, ?_, e3⟩
          rw [List.take_append_of_le_length (by omega)] at e2 ⊢
          exact e2
        · have hk' : k = hs0.length := by omega
          subst hk'
          simp only [List.getElem_concat_length]
          refine ⟨by simp, pair_snoc q2 hql (by omega), fun h0 => ?_⟩
          obtain ⟨f, l', e1, e2, e3⟩ := q3 h0
          refine ⟨f, l', ?_, ?_, e3⟩
          · cases q with
            | nil => exact absurd rfl q1
            | cons a r => exact e1
          · rw [List.take_left' rfl] at e2 ⊢
            exact e2
theorem runI (cs : List Int) : RunI (runB cs) cs := by
  have go : ∀ (n : Nat) (cs : List Int), cs.length = n → RunI (runB cs) cs := by
    intro n
    induction n with
    | zero =>
      intro cs h
      rw [List.length_eq_zero_iff.mp h]
      exact ⟨rfl, rfl, fun k hk => absurd hk (Nat.not_lt_zero _)⟩
    | succ n ih =>
      intro cs h
      rcases List.eq_nil_or_concat cs with rfl | ⟨c0, z, rfl⟩
      · cases h
      · rw [List.concat_eq_append] at h ⊢
        rw [runB_snoc]
        exact runI_step (ih c0 (by simpa using h)) z
  exact go _ cs rfl
theorem heaps_runs_t {row : List Int} {h : Nat} (hh : 1 ≤ h) : ∀ t, t ≤ row.length → heapsL row (stN row h t).way = runsL ((stN row h t).way.map fun e => cd row e.1) ∧ (stN row h t).last = ((stN row h t).way.map fun e => cd row e.1).getLast?
  | 0, _ => ⟨rfl, rfl⟩
  | t + 1, ht => by
    obtain ⟨ih, il⟩ := heaps_runs_t (row := row) hh t (by omega)
    obtain ⟨n, s1, s2, s3⟩ := stN_sted (row := row) hh t (by omega)
    have hne := stN_ne (row := row) hh (show t < row.length by omega)
    have e0 : stN row h (t + 1) = layS row (stN row h t) (pick row (stN row h t)).1 (pick row (stN row h t)).2 := step_pick _ _
    have ew : (stN row h (t + 1)).way = (stN row h t).way ++ [((pick row (stN row h t)).1, (pick row (stN row h t)).2)] := by rw [e0]; rfl
    rw [ew, heapsL_snoc, List.map_append, List.map_cons, List.map_nil, runsL, runB_snoc]
    refine ⟨?_, by rw [e0]; simp [layS]⟩
    have R := runI ((stN row h t).way.map fun e => cd row e.1)
    have hlen : (heapsL row (stN row h t).way).length = n := heapsL_len row s1
    unfold runF
    rw [R.la, ← il]
    by_cases h0 : t = 0
    · obtain ⟨a, b, c⟩ := s2 h0
      rw [c]
      have hp : (pick row (stN row h t)).2 = (heapsL row (stN row h t).way).length := by
        unfold pick
        rw [if_neg (by rw [fit_none c]; exact hne), hlen, a, b]
      simp only
      rw [hp, stepH_new, ih]; rfl
    · have hn := s3 h0
      cases e : (stN row h t).last with
      | none =>
        rw [il, List.getLast?_eq_none_iff, List.map_eq_nil_iff] at e
        have := stN_way (row := row) hh t (by omega)
        rw [e] at this
        exact absurd this.symm h0
      | some l =>
        simp only
        have pd : (pick row (stN row h t)).2 = if fitting row (stN row h t) = [] then (stN row h t).pile + 1 else (stN row h t).pile := by
          unfold pick; split <;> rfl
        by_cases hf : fitting row (stN row h t) = []
        · have hm := pick_mem (row := row) hne
          have hlt : cd row (pick row (stN row h t)).1 < l := by
            refine Int.not_le.mp fun hle => ?_
            have : (pick row (stN row h t)).1 ∈ fitting row (stN row h t) := List.mem_filter.mpr ⟨hm, by rw [e]; exact decide_eq_true hle⟩
            rw [hf] at this; cases this
          rw [if_pos hlt]
          have hp : (pick row (stN row h t)).2 = (heapsL row (stN row h t).way).length := by rw [pd, if_pos hf, hlen, hn]
          rw [hp, stepH_new, ih]; rfl
        · have hm : (pick row (stN row h t)).1 ∈ fitting row (stN row h t) := by
            unfold pick; rw [if_neg hf]; exact least_mem hf
          have hle : l ≤ cd row (pick row (stN row h t)).1 := by
            have := (List.mem_filter.mp hm).2
            rw [e] at this
            exact of_decide_eq_true this
          rw [if_neg (by omega)]
          have hp : (pick row (stN row h t)).2 = n - 1 := by rw [pd, if_neg hf]; omega
          have hne2 : heapsL row (stN row h t).way ≠ [] := fun e => by rw [e] at hlen; simp at hlen; omega
          rw [stepH_old _ _ _ _ (by omega), ← show runsL _ = (runB _).1 from rfl, ← ih, hp]
          generalize heapsL row (stN row h t).way = hs at *
          obtain ⟨hs0, q, rfl⟩ : ∃ hs0 q, hs = hs0 ++ [q] := ⟨hs.dropLast, hs.getLast hne2, (List.dropLast_concat_getLast hne2).symm⟩
          have : n - 1 = hs0.length := by simp at hlen; omega
          rw [this]
          simp
theorem heaps_runs (row : List Int) {h : Nat} (hh : 1 ≤ h) : heapsL row (plainW row h) = runsL (laidL row h) := by
  have := (heaps_runs_t (row := row) hh row.length (Nat.le_refl _)).1
  rw [stN_end hh] at this
  exact this


end
section
local macro_rules | `(tactic| walk_at "hs") => `(tactic| first | (with_reducible assumption) | exact rfl | (apply get_set; walk_at "hs"))
local macro_rules | `(tactic| walk_at "lk") => `(tactic| first | (with_reducible exact l_rI) | (with_reducible exact l_dI) | (with_reducible exact l_rE) | (with_reducible exact l_dE) | ((with_reducible apply l_c); walk_at "hs") | (with_reducible exact l_d) | (with_reducible exact l_r) | (with_reducible assumption))
local macro_rules | `(tactic| walk_at "lt") => `(tactic| first | (with_reducible exact lT_eR) | (with_reducible exact lT_eA) | (with_reducible exact lT_d) | (with_reducible exact lT_r) | (with_reducible assumption) | exact rfl)
local macro_rules | `(tactic| walk_at "ev1") => `(tactic| first
  | (with_reducible exact v_k) | (with_reducible exact a_nil) | (with_reducible exact g_nm) | (with_reducible exact v_I) | (with_reducible exact v_neg) | (with_reducible exact int_i) | (with_reducible exact int_b) | (with_reducible exact abs_i) | (with_reducible exact i2) | (with_reducible exact g_sN) | (with_reducible exact isN_n)
  | ((with_reducible apply v_var); exact rfl) | (with_reducible assumption)
  | (with_reducible apply v_op) | (with_reducible apply v_un) | (with_reducible apply a_cons) | (with_reducible apply v_cb) | (with_reducible apply v_call) | (with_reducible apply t_b) | (with_reducible apply v_tup) | (with_reducible apply v_lst) | (with_reducible apply g_sb)
  | ((with_reducible apply v_IC); first | decide | exact Or.inl (by decide) | exact ⟨by decide, by decide⟩ | exact ⟨by decide, by decide, by decide⟩ | (with_reducible assumption) | rotate_left)
  | ((with_reducible apply v_ix); walk_at "lk") | ((with_reducible apply v_ixT); exact rfl; walk_at "lt")
  | ((with_reducible apply len_c); walk_at "hs") | ((with_reducible apply len_l); walk_at "lk")
  | ((with_reducible apply set_c); walk_at "hs") | ((with_reducible apply b_append); walk_at "hs")
  | ((with_reducible apply tup3_lt'); exact rfl) | ((with_reducible apply v_isN); exact rfl) | ((with_reducible apply v_notN); exact rfl)
  | (with_reducible exact fEq_intF) | (with_reducible exact fEq_intT) | exact at_cd (by omega)
  | exact at0 | exact at1 | exact at2 | exact at3 | exact ix0 | exact ix1 | exact ix2 | exact ix3
  | ((with_reducible apply g_tp); walk_at "lt"; exact rfl) | (with_reducible apply g_sC)
  | exact atI_ints (by omega) (by omega) | (refine atI_ints ?_ ?_; rotate_left 2) | exact atI_last | exact atI_any (by omega) (by omega) | (refine atI_any ?_ ?_; rotate_left 2)
  | ((with_reducible apply c_I); exact rfl; (with_reducible assumption)) | ((with_reducible apply c_I); exact rfl) | exact Nat.le_of_ble_eq_true rfl)
local macro_rules | `(tactic| walk_at "ev") => `(tactic| repeat (walk_at "ev1"))
local macro_rules | `(tactic| walk_at "rb") => `(tactic| repeat (first | (with_reducible exact rbs_nil) | (with_reducible apply rbs_cons) | (with_reducible exact rb_d _) | (with_reducible exact rb_r _) | ((with_reducible apply rb_ci); walk_at "hs") | ((with_reducible apply rb_ce); walk_at "hs") | (with_reducible assumption)))
local macro_rules | `(tactic| walk_at "nc") => `(tactic| (simp only [nice_l, nice_t, nice_i, nice_n, nice_tup, mem_map, implies_true, forall_const, List.forall_mem_cons, List.not_mem_nil, false_implies, and_true, true_and]; done))
-- import EV4 Dens V34
theorem sort_same {p : List Int} (h : p.Pairwise (· ≤ ·)) : sortI p = p := (sortI_of (.refl _) h).symm

end
section
local macro_rules | `(tactic| walk_at "hs") => `(tactic| first | (with_reducible assumption) | exact rfl | (apply get_set; walk_at "hs"))
local macro_rules | `(tactic| walk_at "lk") => `(tactic| first | (with_reducible exact l_rI) | (with_reducible exact l_dI) | (with_reducible exact l_rE) | (with_reducible exact l_dE) | ((with_reducible apply l_c); walk_at "hs") | (with_reducible exact l_d) | (with_reducible exact l_r) | (with_reducible assumption))
local macro_rules | `(tactic| walk_at "lt") => `(tactic| first | (with_reducible exact lT_eR) | (with_reducible exact lT_eA) | (with_reducible exact lT_d) | (with_reducible exact lT_r) | (with_reducible assumption) | exact rfl)
local macro_rules | `(tactic| walk_at "ev1") => `(tactic| first
  | (with_reducible exact v_k) | (with_reducible exact a_nil) | (with_reducible exact g_nm) | (with_reducible exact v_I) | (with_reducible exact v_neg) | (with_reducible exact int_i) | (with_reducible exact int_b) | (with_reducible exact abs_i) | (with_reducible exact i2) | (with_reducible exact g_sN) | (with_reducible exact isN_n)
  | ((with_reducible apply v_var); exact rfl) | (with_reducible assumption)
  | (with_reducible apply v_op) | (with_reducible apply v_un) | (with_reducible apply a_cons) | (with_reducible apply v_cb) | (with_reducible apply v_call) | (with_reducible apply t_b) | (with_reducible apply v_tup) | (with_reducible apply v_lst) | (with_reducible apply g_sb)
  | ((with_reducible apply v_IC); first | decide | exact Or.inl (by decide) | exact ⟨by decide, by decide⟩ | exact ⟨by decide, by decide, by decide⟩ | (with_reducible assumption) | rotate_left)
  | ((with_reducible apply v_ix); walk_at "lk") | ((with_reducible apply v_ixT); exact rfl; walk_at "lt")
  | ((with_reducible apply len_c); walk_at "hs") | ((with_reducible apply len_l); walk_at "lk")
  | ((with_reducible apply set_c); walk_at "hs") | ((with_reducible apply b_append); walk_at "hs")
  | ((with_reducible apply tup3_lt'); exact rfl) | ((with_reducible apply v_isN); exact rfl) | ((with_reducible apply v_notN); exact rfl)
  | (with_reducible exact fEq_intF) | (with_reducible exact fEq_intT) | exact at_cd (by omega)
  | exact at0 | exact at1 | exact at2 | exact at3 | exact ix0 | exact ix1 | exact ix2 | exact ix3
  | ((with_reducible apply g_tp); walk_at "lt"; exact rfl) | (with_reducible apply g_sC)
  | exact atI_ints (by omega) (by omega) | (refine atI_ints ?_ ?_; rotate_left 2) | exact atI_last | exact atI_any (by omega) (by omega) | (refine atI_any ?_ ?_; rotate_left 2)
  | ((with_reducible apply c_I); exact rfl; (with_reducible assumption)) | ((with_reducible apply c_I); exact rfl) | exact Nat.le_of_ble_eq_true rfl)
local macro_rules | `(tactic| walk_at "ev") => `(tactic| repeat (walk_at "ev1"))
local macro_rules | `(tactic| walk_at "rb") => `(tactic| repeat (first | (with_reducible exact rbs_nil) | (with_reducible apply rbs_cons) | (with_reducible exact rb_d _) | (with_reducible exact rb_r _) | ((with_reducible apply rb_ci); walk_at "hs") | ((with_reducible apply rb_ce); walk_at "hs") | (with_reducible assumption)))
local macro_rules | `(tactic| walk_at "nc") => `(tactic| (simp only [nice_l, nice_t, nice_i, nice_n, nice_tup, mem_map, implies_true, forall_const, List.forall_mem_cons, List.not_mem_nil, false_implies, and_true, true_and]; done))
-- import EV4 Dens V36
/-! ### no way is better than the plain one -/
def kp (row : List Int) (s : LSt) (j : Nat) : Nat := if fitB row s.last j = true then s.pile else s.pile + 1
def lx (a : Nat) (c : Int) (b : Nat) (d : Int) : Prop := a < b ∨ (a = b ∧ c ≤ d)
instance (a : Nat) (c : Int) (b : Nat) (d : Int) : Decidable (lx a c b d) := inferInstanceAs (Decidable (_ ∨ _))
def pl (row : List Int) (s : LSt) (j : Nat) : Nat := match s.way.find? (fun e => e.1 == j) with
  | some e => e.2
  | none => kp row s j

end
section
local macro_rules | `(tactic| walk_at "hs") => `(tactic| first | (with_reducible assumption) | exact rfl | (apply get_set; walk_at "hs"))
local macro_rules | `(tactic| walk_at "lk") => `(tactic| first | (with_reducible exact l_rI) | (with_reducible exact l_dI) | (with_reducible exact l_rE) | (with_reducible exact l_dE) | ((with_reducible apply l_c); walk_at "hs") | (with_reducible exact l_d) | (with_reducible exact l_r) | (with_reducible assumption))
local macro_rules | `(tactic| walk_at "lt") => `(tactic| first | (with_reducible exact lT_eR) | (with_reducible exact lT_eA) | (with_reducible exact lT_d) | (with_reducible exact lT_r) | (with_reducible assumption) | exact rfl)
local macro_rules | `(tactic| walk_at "ev1") => `(tactic| first
  | (with_reducible exact v_k) | (with_reducible exact a_nil) | (with_reducible exact g_nm) | (with_reducible exact v_I) | (with_reducible exact v_neg) | (with_reducible exact int_i) | (with_reducible exact int_b) | (with_reducible exact abs_i) | (with_reducible exact i2) | (with_reducible exact g_sN) | (with_reducible exact isN_n)
  | ((with_reducible apply v_var); exact rfl) | (with_reducible assumption)
  | (with_reducible apply v_op) | (with_reducible apply v_un) | (with_reducible apply a_cons) | (with_reducible apply v_cb) | (with_reducible apply v_call) | (with_reducible apply t_b) | (with_reducible apply v_tup) | (with_reducible apply v_lst) | (with_reducible apply g_sb)
  | ((with_reducible apply v_IC); first | decide | exact Or.inl (by decide) | exact ⟨by decide, by decide⟩ | exact ⟨by decide, by decide, by decide⟩ | (with_reducible assumption) | rotate_left)
  | ((with_reducible apply v_ix); walk_at "lk") | ((with_reducible apply v_ixT); exact rfl; walk_at "lt")
  | ((with_reducible apply len_c); walk_at "hs") | ((with_reducible apply len_l); walk_at "lk")
  | ((with_reducible apply set_c); walk_at "hs") | ((with_reducible apply b_append); walk_at "hs")
  | ((with_reducible apply tup3_lt'); exact rfl) | ((with_reducible apply v_isN); exact rfl) | ((with_reducible apply v_notN); exact rfl)
  | (with_reducible exact fEq_intF) | (with_reducible exact fEq_intT) | exact at_cd (by omega)
  | exact at0 | exact at1 | exact at2 | exact at3 | exact ix0 | exact ix1 | exact ix2 | exact ix3
  | ((with_reducible apply g_tp); walk_at "lt"; exact rfl) | (with_reducible apply g_sC)
  | exact atI_ints (by omega) (by omega) | (refine atI_ints ?_ ?_; rotate_left 2) | exact atI_last | exact atI_any (by omega) (by omega) | (refine atI_any ?_ ?_; rotate_left 2)
  | ((with_reducible apply c_I); exact rfl; (with_reducible assumption)) | ((with_reducible apply c_I); exact rfl) | exact Nat.le_of_ble_eq_true rfl)
local macro_rules | `(tactic| walk_at "ev") => `(tactic| repeat (walk_at "ev1"))
local macro_rules | `(tactic| walk_at "rb") => `(tactic| repeat (first | (with_reducible exact rbs_nil) | (with_reducible apply rbs_cons) | (with_reducible exact rb_d _) | (with_reducible exact rb_r _) | ((with_reducible apply rb_ci); walk_at "hs") | ((with_reducible apply rb_ce); walk_at "hs") | (with_reducible assumption)))
local macro_rules | `(tactic| walk_at "nc") => `(tactic| (simp only [nice_l, nice_t, nice_i, nice_n, nice_tup, mem_map, implies_true, forall_const, List.forall_mem_cons, List.not_mem_nil, false_implies, and_true, true_and]; done))
-- import EV4 Dens DSame V42
variable {C : Addr}
theorem okS_ent {es : List (Int × Int)} (h : es.length ≤ 1000) : okS (entD es) := by
  refine ⟨by simpa using h, ?_⟩
  clear h
  induction es with
  | nil => trivial
  | cons e r ih => exact ⟨⟨by simp, trivial, trivial, trivial⟩, ih⟩
theorem same_ent {es : List (Int × Int)} (h : es.length ≤ 1000) : RunP den__law_same [entD es, entD es] (.bool true) := v_same (d := entD es) (Nat.le_trans (depth_ent es) (by decide)) (okS_ent h)

end
section
local macro_rules | `(tactic| walk_at "hs") => `(tactic| first | (with_reducible assumption) | exact rfl | (apply get_set; walk_at "hs"))
local macro_rules | `(tactic| walk_at "lk") => `(tactic| first | (with_reducible exact l_rI) | (with_reducible exact l_dI) | (with_reducible exact l_rE) | (with_reducible exact l_dE) | ((with_reducible apply l_c); walk_at "hs") | (with_reducible exact l_d) | (with_reducible exact l_r) | (with_reducible assumption))
local macro_rules | `(tactic| walk_at "lt") => `(tactic| first | (with_reducible exact lT_eR) | (with_reducible exact lT_eA) | (with_reducible exact lT_d) | (with_reducible exact lT_r) | (with_reducible assumption) | exact rfl)
local macro_rules | `(tactic| walk_at "ev1") => `(tactic| first
  | (with_reducible exact v_k) | (with_reducible exact a_nil) | (with_reducible exact g_nm) | (with_reducible exact v_I) | (with_reducible exact v_neg) | (with_reducible exact int_i) | (with_reducible exact int_b) | (with_reducible exact abs_i) | (with_reducible exact i2) | (with_reducible exact g_sN) | (with_reducible exact isN_n)
  | ((with_reducible apply v_var); exact rfl) | (with_reducible assumption)
  | (with_reducible apply v_op) | (with_reducible apply v_un) | (with_reducible apply a_cons) | (with_reducible apply v_cb) | (with_reducible apply v_call) | (with_reducible apply t_b) | (with_reducible apply v_tup) | (with_reducible apply v_lst) | (with_reducible apply g_sb)
  | ((with_reducible apply v_IC); first | decide | exact Or.inl (by decide) | exact ⟨by decide, by decide⟩ | exact ⟨by decide, by decide, by decide⟩ | (with_reducible assumption) | rotate_left)
  | ((with_reducible apply v_ix); walk_at "lk") | ((with_reducible apply v_ixT); exact rfl; walk_at "lt")
  | ((with_reducible apply len_c); walk_at "hs") | ((with_reducible apply len_l); walk_at "lk")
  | ((with_reducible apply set_c); walk_at "hs") | ((with_reducible apply b_append); walk_at "hs")
  | ((with_reducible apply tup3_lt'); exact rfl) | ((with_reducible apply v_isN); exact rfl) | ((with_reducible apply v_notN); exact rfl)
  | (with_reducible exact fEq_intF) | (with_reducible exact fEq_intT) | exact at_cd (by omega)
  | exact at0 | exact at1 | exact at2 | exact at3 | exact ix0 | exact ix1 | exact ix2 | exact ix3
  | ((with_reducible apply g_tp); walk_at "lt"; exact rfl) | (with_reducible apply g_sC)
  | exact atI_ints (by omega) (by omega) | (refine atI_ints ?_ ?_; rotate_left 2) | exact atI_last | exact atI_any (by omega) (by omega) | (refine atI_any ?_ ?_; rotate_left 2)
  | ((with_reducible apply c_I); exact rfl; (with_reducible assumption)) | ((with_reducible apply c_I); exact rfl) | exact Nat.le_of_ble_eq_true rfl)
local macro_rules | `(tactic| walk_at "ev") => `(tactic| repeat (walk_at "ev1"))
local macro_rules | `(tactic| walk_at "rb") => `(tactic| repeat (first | (with_reducible exact rbs_nil) | (with_reducible apply rbs_cons) | (with_reducible exact rb_d _) | (with_reducible exact rb_r _) | ((with_reducible apply rb_ci); walk_at "hs") | ((with_reducible apply rb_ce); walk_at "hs") | (with_reducible assumption)))
local macro_rules | `(tactic| walk_at "nc") => `(tactic| (simp only [nice_l, nice_t, nice_i, nice_n, nice_tup, mem_map, implies_true, forall_const, List.forall_mem_cons, List.not_mem_nil, false_implies, and_true, true_and]; done))
-- import EV4 Dens DSame V48
variable {C : Addr}
theorem tkG {z m : Int} {G : Sto} (hz : 0 ≤ z) (m0 : 0 < m) (m1 : m < 2 ^ 200) : ∃ r z', (den__law_take [.c 0, .d (.int m)] (.lst [.d (.int z)] :: G) = .ok (.d (.int r)) (.lst [.d (.int z')] :: G)) ∧ 0 ≤ r ∧ r < m ∧ 0 ≤ z' := by
  obtain ⟨r, z', e, h0, h1, h2, _⟩ := tk (S := .lst [iA z] :: G) (n := 0) (m := m) rfl hz m0 m1
  exact ⟨r, z', e, h0, h1, h2⟩
abbrev poolS (z : Int) : Sto := [.lst [.d (.int z)]]

end
section
local macro_rules | `(tactic| walk_at "hs") => `(tactic| first | (with_reducible assumption) | exact rfl | (apply get_set; walk_at "hs"))
local macro_rules | `(tactic| walk_at "lk") => `(tactic| first | (with_reducible exact l_rI) | (with_reducible exact l_dI) | (with_reducible exact l_rE) | (with_reducible exact l_dE) | ((with_reducible apply l_c); walk_at "hs") | (with_reducible exact l_d) | (with_reducible exact l_r) | (with_reducible assumption))
local macro_rules | `(tactic| walk_at "lt") => `(tactic| first | (with_reducible exact lT_eR) | (with_reducible exact lT_eA) | (with_reducible exact lT_d) | (with_reducible exact lT_r) | (with_reducible assumption) | exact rfl)
local macro_rules | `(tactic| walk_at "ev1") => `(tactic| first
  | (with_reducible exact v_k) | (with_reducible exact a_nil) | (with_reducible exact g_nm) | (with_reducible exact v_I) | (with_reducible exact v_neg) | (with_reducible exact int_i) | (with_reducible exact int_b) | (with_reducible exact abs_i) | (with_reducible exact i2) | (with_reducible exact g_sN) | (with_reducible exact isN_n)
  | ((with_reducible apply v_var); exact rfl) | (with_reducible assumption)
  | (with_reducible apply v_op) | (with_reducible apply v_un) | (with_reducible apply a_cons) | (with_reducible apply v_cb) | (with_reducible apply v_call) | (with_reducible apply t_b) | (with_reducible apply v_tup) | (with_reducible apply v_lst) | (with_reducible apply g_sb)
  | ((with_reducible apply v_IC); first | decide | exact Or.inl (by decide) | exact ⟨by decide, by decide⟩ | exact ⟨by decide, by decide, by decide⟩ | (with_reducible assumption) | rotate_left)
  | ((with_reducible apply v_ix); walk_at "lk") | ((with_reducible apply v_ixT); exact rfl; walk_at "lt")
  | ((with_reducible apply len_c); walk_at "hs") | ((with_reducible apply len_l); walk_at "lk")
  | ((with_reducible apply set_c); walk_at "hs") | ((with_reducible apply b_append); walk_at "hs")
  | ((with_reducible apply tup3_lt'); exact rfl) | ((with_reducible apply v_isN); exact rfl) | ((with_reducible apply v_notN); exact rfl)
  | (with_reducible exact fEq_intF) | (with_reducible exact fEq_intT) | exact at_cd (by omega)
  | exact at0 | exact at1 | exact at2 | exact at3 | exact ix0 | exact ix1 | exact ix2 | exact ix3
  | ((with_reducible apply g_tp); walk_at "lt"; exact rfl) | (with_reducible apply g_sC)
  | exact atI_ints (by omega) (by omega) | (refine atI_ints ?_ ?_; rotate_left 2) | exact atI_last | exact atI_any (by omega) (by omega) | (refine atI_any ?_ ?_; rotate_left 2)
  | ((with_reducible apply c_I); exact rfl; (with_reducible assumption)) | ((with_reducible apply c_I); exact rfl) | exact Nat.le_of_ble_eq_true rfl)
local macro_rules | `(tactic| walk_at "ev") => `(tactic| repeat (walk_at "ev1"))
local macro_rules | `(tactic| walk_at "rb") => `(tactic| repeat (first | (with_reducible exact rbs_nil) | (with_reducible apply rbs_cons) | (with_reducible exact rb_d _) | (with_reducible exact rb_r _) | ((with_reducible apply rb_ci); walk_at "hs") | ((with_reducible apply rb_ce); walk_at "hs") | (with_reducible assumption)))
local macro_rules | `(tactic| walk_at "nc") => `(tactic| (simp only [nice_l, nice_t, nice_i, nice_n, nice_tup, mem_map, implies_true, forall_const, List.forall_mem_cons, List.not_mem_nil, false_implies, and_true, true_and]; done))
-- import EV4 Dens V33
/-! ### a laying whose hand changes -/
local macro_rules | `(tactic| walk_at "hs") => `(tactic| first | ((with_reducible apply putL_o); assumption) | ((with_reducible apply putL_h); assumption) | ((with_reducible apply putL_w); assumption))
local macro_rules | `(tactic| walk_at "ev1") => `(tactic| first
  | ((with_reducible apply v_fld); exact v_var rfl; ((with_reducible apply putL_o); assumption); exact rfl)
  | ((with_reducible apply len_l); (with_reducible assumption)) | ((with_reducible apply v_in); walk_at "lk"))
def dropL (row : List Int) (s : LSt) (i pl : Nat) : LSt := ⟨s.held.erase i, s.way ++ [(i, pl)], some (cd row i), pl, s.drawn⟩
section
variable {C : Addr} {x : AV} {h : Int} {n a b : Nat} {S : Sto} {s t : LSt} {row : List Int}
end


end
section
local macro_rules | `(tactic| walk_at "hs") => `(tactic| first | (with_reducible assumption) | exact rfl | (apply get_set; walk_at "hs"))
local macro_rules | `(tactic| walk_at "lk") => `(tactic| first | (with_reducible exact l_rI) | (with_reducible exact l_dI) | (with_reducible exact l_rE) | (with_reducible exact l_dE) | ((with_reducible apply l_c); walk_at "hs") | (with_reducible exact l_d) | (with_reducible exact l_r) | (with_reducible assumption))
local macro_rules | `(tactic| walk_at "lt") => `(tactic| first | (with_reducible exact lT_eR) | (with_reducible exact lT_eA) | (with_reducible exact lT_d) | (with_reducible exact lT_r) | (with_reducible assumption) | exact rfl)
local macro_rules | `(tactic| walk_at "ev1") => `(tactic| first
  | (with_reducible exact v_k) | (with_reducible exact a_nil) | (with_reducible exact g_nm) | (with_reducible exact v_I) | (with_reducible exact v_neg) | (with_reducible exact int_i) | (with_reducible exact int_b) | (with_reducible exact abs_i) | (with_reducible exact i2) | (with_reducible exact g_sN) | (with_reducible exact isN_n)
  | ((with_reducible apply v_var); exact rfl) | (with_reducible assumption)
  | (with_reducible apply v_op) | (with_reducible apply v_un) | (with_reducible apply a_cons) | (with_reducible apply v_cb) | (with_reducible apply v_call) | (with_reducible apply t_b) | (with_reducible apply v_tup) | (with_reducible apply v_lst) | (with_reducible apply g_sb)
  | ((with_reducible apply v_IC); first | decide | exact Or.inl (by decide) | exact ⟨by decide, by decide⟩ | exact ⟨by decide, by decide, by decide⟩ | (with_reducible assumption) | rotate_left)
  | ((with_reducible apply v_ix); walk_at "lk") | ((with_reducible apply v_ixT); exact rfl; walk_at "lt")
  | ((with_reducible apply len_c); walk_at "hs") | ((with_reducible apply len_l); walk_at "lk")
  | ((with_reducible apply set_c); walk_at "hs") | ((with_reducible apply b_append); walk_at "hs")
  | ((with_reducible apply tup3_lt'); exact rfl) | ((with_reducible apply v_isN); exact rfl) | ((with_reducible apply v_notN); exact rfl)
  | (with_reducible exact fEq_intF) | (with_reducible exact fEq_intT) | exact at_cd (by omega)
  | exact at0 | exact at1 | exact at2 | exact at3 | exact ix0 | exact ix1 | exact ix2 | exact ix3
  | ((with_reducible apply g_tp); walk_at "lt"; exact rfl) | (with_reducible apply g_sC)
  | exact atI_ints (by omega) (by omega) | (refine atI_ints ?_ ?_; rotate_left 2) | exact atI_last | exact atI_any (by omega) (by omega) | (refine atI_any ?_ ?_; rotate_left 2)
  | ((with_reducible apply c_I); exact rfl; (with_reducible assumption)) | ((with_reducible apply c_I); exact rfl) | exact Nat.le_of_ble_eq_true rfl)
local macro_rules | `(tactic| walk_at "ev") => `(tactic| repeat (walk_at "ev1"))
local macro_rules | `(tactic| walk_at "rb") => `(tactic| repeat (first | (with_reducible exact rbs_nil) | (with_reducible apply rbs_cons) | (with_reducible exact rb_d _) | (with_reducible exact rb_r _) | ((with_reducible apply rb_ci); walk_at "hs") | ((with_reducible apply rb_ce); walk_at "hs") | (with_reducible assumption)))
local macro_rules | `(tactic| walk_at "nc") => `(tactic| (simp only [nice_l, nice_t, nice_i, nice_n, nice_tup, mem_map, implies_true, forall_const, List.forall_mem_cons, List.not_mem_nil, false_implies, and_true, true_and]; done))
-- import EV5 Dens V50
/-! ### the states of a laying whose hand changes -/
structure PF (row : List Int) (s : LSt) : Prop where
  nd : s.held.Nodup
  lt : ∀ i ∈ s.held, i < s.drawn
  dr : s.drawn ≤ row.length
  len : s.way.length + s.held.length = s.drawn
  so : s.held.Pairwise (· < ·)
  l0 : s.way = [] → s.last = none ∧ s.pile = 0
  l1 : ∀ w e, s.way = w ++ [e] → s.last = some (cd row e.1) ∧ s.pile = e.2
  st : ∃ n, Sted s.way n ∧ (s.last = none → n = 0) ∧ (s.last ≠ none → n = s.pile + 1)
  wl : ∀ e ∈ s.way, e.1 < row.length
theorem PF.drop {row : List Int} {s : LSt} (F : PF row s) {i p : Nat} (hi : i ∈ s.held) (h0 : s.last = none → p = 0) (h1 : s.last ≠ none → p = s.pile ∨ p = s.pile + 1) : PF row (dropL row s i p) := by
  obtain ⟨nd, lt, dr, len, so, l0, l1, ⟨n, st, n0, n1⟩, wl⟩ := F
  have hl := List.length_erase_of_mem hi
  have hpos : 0 < s.held.length := List.length_pos_of_mem hi
  have sub : (s.held.erase i).Sublist s.held := List.erase_sublist
  refine ⟨nd.sublist sub, fun j hj => lt j (sub.subset hj), dr, ?_, so.sublist sub, fun e => ?_, fun w e he => ?_, ⟨p + 1, .snoc st ?_, (fun e => nomatch e), fun _ => rfl⟩, fun e he => ?_⟩
  · show (s.way ++ [(i, p)]).length + (s.held.erase i).length = s.drawn
    rw [List.length_append, List.length_singleton]
    omega
  · have e : s.way ++ [(i, p)] = [] := e
    simp at e
  · have he : s.way ++ [(i, p)] = w ++ [e] := he
    have := (List.append_inj' he rfl).2
    cases this
    exact ⟨rfl, rfl⟩
  · by_cases hl : s.last = none
    · left; rw [n0 hl, h0 hl]
    · have := n1 hl
      rcases h1 hl with e | e
      · right; omega
      · left; omega
  · rcases List.mem_append.mp (show e ∈ s.way ++ [(i, p)] from he) with m | m
    · exact wl e m
    · rw [List.mem_singleton.mp m]
      exact Nat.lt_of_lt_of_le (lt _ hi) dr
theorem PF.wf {row : List Int} {s : LSt} (F : PF row s) (h : s.held = [] → s.drawn = row.length) : WF row s := ⟨F.nd, F.lt, F.dr, F.len, h⟩

end
section
local macro_rules | `(tactic| walk_at "hs") => `(tactic| first | (with_reducible assumption) | exact rfl | (apply get_set; walk_at "hs"))
local macro_rules | `(tactic| walk_at "lk") => `(tactic| first | (with_reducible exact l_rI) | (with_reducible exact l_dI) | (with_reducible exact l_rE) | (with_reducible exact l_dE) | ((with_reducible apply l_c); walk_at "hs") | (with_reducible exact l_d) | (with_reducible exact l_r) | (with_reducible assumption))
local macro_rules | `(tactic| walk_at "lt") => `(tactic| first | (with_reducible exact lT_eR) | (with_reducible exact lT_eA) | (with_reducible exact lT_d) | (with_reducible exact lT_r) | (with_reducible assumption) | exact rfl)
local macro_rules | `(tactic| walk_at "ev1") => `(tactic| first
  | (with_reducible exact v_k) | (with_reducible exact a_nil) | (with_reducible exact g_nm) | (with_reducible exact v_I) | (with_reducible exact v_neg) | (with_reducible exact int_i) | (with_reducible exact int_b) | (with_reducible exact abs_i) | (with_reducible exact i2) | (with_reducible exact g_sN) | (with_reducible exact isN_n)
  | ((with_reducible apply v_var); exact rfl) | (with_reducible assumption)
  | (with_reducible apply v_op) | (with_reducible apply v_un) | (with_reducible apply a_cons) | (with_reducible apply v_cb) | (with_reducible apply v_call) | (with_reducible apply t_b) | (with_reducible apply v_tup) | (with_reducible apply v_lst) | (with_reducible apply g_sb)
  | ((with_reducible apply v_IC); first | decide | exact Or.inl (by decide) | exact ⟨by decide, by decide⟩ | exact ⟨by decide, by decide, by decide⟩ | (with_reducible assumption) | rotate_left)
  | ((with_reducible apply v_ix); walk_at "lk") | ((with_reducible apply v_ixT); exact rfl; walk_at "lt")
  | ((with_reducible apply len_c); walk_at "hs") | ((with_reducible apply len_l); walk_at "lk")
  | ((with_reducible apply set_c); walk_at "hs") | ((with_reducible apply b_append); walk_at "hs")
  | ((with_reducible apply tup3_lt'); exact rfl) | ((with_reducible apply v_isN); exact rfl) | ((with_reducible apply v_notN); exact rfl)
  | (with_reducible exact fEq_intF) | (with_reducible exact fEq_intT) | exact at_cd (by omega)
  | exact at0 | exact at1 | exact at2 | exact at3 | exact ix0 | exact ix1 | exact ix2 | exact ix3
  | ((with_reducible apply g_tp); walk_at "lt"; exact rfl) | (with_reducible apply g_sC)
  | exact atI_ints (by omega) (by omega) | (refine atI_ints ?_ ?_; rotate_left 2) | exact atI_last | exact atI_any (by omega) (by omega) | (refine atI_any ?_ ?_; rotate_left 2)
  | ((with_reducible apply c_I); exact rfl; (with_reducible assumption)) | ((with_reducible apply c_I); exact rfl) | exact Nat.le_of_ble_eq_true rfl)
local macro_rules | `(tactic| walk_at "ev") => `(tactic| repeat (walk_at "ev1"))
local macro_rules | `(tactic| walk_at "rb") => `(tactic| repeat (first | (with_reducible exact rbs_nil) | (with_reducible apply rbs_cons) | (with_reducible exact rb_d _) | (with_reducible exact rb_r _) | ((with_reducible apply rb_ci); walk_at "hs") | ((with_reducible apply rb_ce); walk_at "hs") | (with_reducible assumption)))
local macro_rules | `(tactic| walk_at "nc") => `(tactic| (simp only [nice_l, nice_t, nice_i, nice_n, nice_tup, mem_map, implies_true, forall_const, List.forall_mem_cons, List.not_mem_nil, false_implies, and_true, true_and]; done))
-- import EV5 Dens V63
theorem x_insert {S : Sto} {n : Nat} {i : Int} {y : AV} : fInsert (.c n) [.d (.int i), y] S = match cellL S (.c n) with
    | some ys => if 0 ≤ i ∧ i < 1000000 ∧ ys.length < 1000 then .ok nA (S.set n (.lst (ys.take i.toNat ++ [y] ++ ys.drop i.toNat))) else .no
    | none => .no := by
  unfold fInsert
  cases cellL S (.c n) <;> rfl
theorem cards41 {z many : Int} (hz : 0 ≤ z) (m0 : 0 ≤ many) (m1 : many ≤ 100) : ∃ row z', fzK 1 (noX (den__law_cards_6f25 [.c 0, .d (.int many)] (poolS z))) = .ok (.d (intsD row)) (poolS z') ∧ 0 ≤ z' ∧ row.Nodup ∧ (row.length : Int) = many := by
  have main : Ret (den__law_cards_6f25 [.c 0, .d (.int many)] (poolS z)) fun v T => ∃ row z' l, v = .c 2 ∧ T = [.lst [.d (.int z')], .lst (isA l), .lst (isA row)] ∧ 0 ≤ z' ∧ row.Nodup ∧ (row.length : Int) = many := by
    refine w_fn ?_
    obtain ⟨q1, z1, e1, b0, b1, p1⟩ := tkG (m := 3) (G := [.lst [iA 1, iA 3, iA (10 ^ Int.toNat 26)]]) hz (by decide) (by decide)
    obtain ⟨step, hst, er⟩ := at_pick (ns := [1, 3, 10 ^ Int.toNat 26]) b0 b1
    obtain ⟨q2, z2, e2, c0, c1, p2⟩ := tkG (m := 3) (G := [.lst [iA 0, iA (-4), iA (-(10 ^ Int.toNat 29))]]) p1 (by decide) (by decide)
    obtain ⟨low, hlow, el⟩ := at_pick (ns := [0, -4, -(10 ^ Int.toNat 29)]) c0 c1
    have hs : 1 ≤ step ∧ step ≤ 10 ^ Int.toNat 26 := by
      simp only [List.mem_cons, List.not_mem_nil, or_false] at hst
      rcases hst with rfl | rfl | rfl <;> decide
    have er' : atI [AV.d (.int 1), .d (.int 3), .d (.int (10 ^ Int.toNat 26))] q1 = some (.d (.int step)) := er
    have el' : atI [AV.d (.int 0), .d (.int (-4)), .d (.int (-(10 ^ Int.toNat 29)))] q2 = some (.d (.int low)) := el
    simp (disch := first | assumption | omega | walk_at "nc") only [x_get1, x_var, x_bok, x_bex, x_ook, x_oex, x_k, x_op, x_un, x_fI, x_fIC, x_fU, asI_i, asB_b, x_lookc, x_lookO, x_lookd, x_lookr, x_lookdt, x_lookrt, x_lookt, x_lookTd, x_lookTr, x_lookTt, x_cellL, x_relInt, x_relInts, x_dInt, x_isALen, rel_int, rel_bool, rel_none, rel_str, rel_list, rel_tup, x_ix, x_at0, x_at1, x_at2, x_at3, x_atL, x_atI, x_and, x_or, x_not, x_eif, x_bE, x_bAnd, x_bOr, x_bNot, x_bTru, x_bYes, x_iteOk, x_iteD, x_iteI, x_iteB, x_iteT, x_iteF, x_iteTp, x_iteFp, x_aNil, x_aCons, x_lst, x_tup, x_newL, x_mkT0, x_mkT1, x_mkT2, x_mkT3, x_mkT4, x_cb, x_call, x_callN, x_ck, x_bm, x_callI, x_noX, x_callP, x_callPK, x_callC, x_callCK, x_rbs0, x_rbs1, x_rbsK, x_rbd, x_rbr, x_rbc, x_rbCK, x_rbLK1, x_rbLK0, x_rbt, x_allD0, x_allD1, x_allDc, x_allDm, x_allDm', x_allDa, x_closed, x_ocM, x_ocM', x_ocA, x_ocC, x_oc0, x_ocO, x_rfd, x_rfr, x_rfg, x_rfc, x_env0, x_envN, x_envS, x_wipe0, x_wipe1, x_fz, x_fzK, x_frd, x_frr, x_frc, x_newS, x_gc, x_gcK, x_gcd, x_gcr, x_gcc, x_bgc, x_bgK, x_len, x_list, x_int, x_intb, x_abs, x_i2, x_ints, x_asInts, x_asInts0, x_asInts1, x_bools, x_asBools, x_append, x_pop, x_isN, x_notN, isN_n', isN_i, isN_b, isN_l, isN_t, isN_rl, isN_c, x_isB, x_rg1, x_rg2, x_oN, x_oS, x_sl, x_jSeq, x_jR1, x_jR2, x_jEn, x_jZp, W_seq, W_nxS, W_rtS, W_bkS, W_ctS, W_exS, W_nxI, W_rtI, W_bkI, W_ctI, W_as, x_gnm, x_gtp, x_gsN, x_gsC, x_gsb, x_fSet, x_ix0, x_ix1, x_ix10, x_ix20, x_ix21, x_ix30, x_ix31, x_ix32, x_ixI, W_ex, W_rt, W_rtN, W_if, W_dNx, W_dBk, W_dCt, W_au, W_auS, W_fg, W_nxC, W_ctC, W_rtC, W_bkC, W_nxL, W_ctL, W_bkL, W_rtL, W_rtK, W_nxK, x_CPow, x_CMul1, x_CMul2, x_CDiv, x_CDivW, x_rgOk, x_fEq, x_eqK, mapInt_inj, mapInt_nil, mapInts_inj, mapEnt_inj, ints_nil, x_isi, ty_di, ty_db, ty_dn, ty_ds, ty_dl, ty_dt, ty_rl, ty_rt, ty_c, tyO_l, isi_ii, isi_ib, isi_bb, isi_bi, isi_ll, isi_tl, isi_tt, isi_lt, isi_il, isi_nl, isi_ss, x_sort, x_sortK, x_cat, cut_toI, cut_fromI, x_ifno, x_ifno2, x_eqB, x_relNats, x_dNats, mapNat_inj, x_callD, x_callDK, x_rowsS, intsD, entD, natsD, PyData.list.injEq, PyData.tuple.injEq, PyData.int.injEq, PyData.bool.injEq, List.map_append, List.map_cons, List.map_nil, List.getElem?_cons_zero, List.getElem?_cons_succ, List.set_cons_zero, List.set_cons_succ, List.length_cons, List.length_nil, List.length_append, List.length_map, List.length_set, List.take_succ_cons, List.take_zero, List.nil_append, List.cons_append, List.append_nil, List.forall_mem_cons, List.not_mem_nil, List.getD_cons_zero, List.getD_cons_succ, Option.map_some, Option.bind_some, Nat.reduceAdd, Nat.reduceSub, Nat.reduceLT, Nat.reduceLeDiff, Nat.reduceEqDiff, Nat.zero_add, Nat.zero_le, Nat.le_refl, if_true, if_false, ite_true, ite_false, reduceIte, eq_self, true_and, and_true, true_or, or_true, false_or, or_false, decide_eq_true_eq, decide_true, decide_false, Bool.not_true, Bool.not_false, Bool.true_and, Bool.and_true, Bool.false_and, Bool.and_false, Bool.or_false, Bool.false_or, Bool.true_or, Bool.or_true, Bool.false_eq_true, false_implies, implies_true, forall_const, List.getElem?_set_self, List.set_set, Bool.decide_eq_true, List.replicate, e1, er', e2, el']
    refine w_forX (I := fun j ρ T => ∃ l z', ρ = [some (.c 0), some (.d (.int many)), some (.d (.int step)), some (.d (.int low)), some (.c 1), none] ∧ T = [.lst [.d (.int z')], .lst (isA l)] ∧ 0 ≤ z' ∧ l.Nodup ∧ l.length = j ∧ ∀ x ∈ l, 0 ≤ x ∧ x < (j : Int)) many.toNat (by omega) (by simp (disch := first | assumption | omega | walk_at "nc") only [x_get1, x_var, x_bok, x_bex, x_ook, x_oex, x_k, x_op, x_un, x_fI, x_fIC, x_fU, asI_i, asB_b, x_lookc, x_lookO, x_lookd, x_lookr, x_lookdt, x_lookrt, x_lookt, x_lookTd, x_lookTr, x_lookTt, x_cellL, x_relInt, x_relInts, x_dInt, x_isALen, rel_int, rel_bool, rel_none, rel_str, rel_list, rel_tup, x_ix, x_at0, x_at1, x_at2, x_at3, x_atL, x_atI, x_and, x_or, x_not, x_eif, x_bE, x_bAnd, x_bOr, x_bNot, x_bTru, x_bYes, x_iteOk, x_iteD, x_iteI, x_iteB, x_iteT, x_iteF, x_iteTp, x_iteFp, x_aNil, x_aCons, x_lst, x_tup, x_newL, x_mkT0, x_mkT1, x_mkT2, x_mkT3, x_mkT4, x_cb, x_call, x_callN, x_ck, x_bm, x_callI, x_noX, x_callP, x_callPK, x_callC, x_callCK, x_rbs0, x_rbs1, x_rbsK, x_rbd, x_rbr, x_rbc, x_rbCK, x_rbLK1, x_rbLK0, x_rbt, x_allD0, x_allD1, x_allDc, x_allDm, x_allDm', x_allDa, x_closed, x_ocM, x_ocM', x_ocA, x_ocC, x_oc0, x_ocO, x_rfd, x_rfr, x_rfg, x_rfc, x_env0, x_envN, x_envS, x_wipe0, x_wipe1, x_fz, x_fzK, x_frd, x_frr, x_frc, x_newS, x_gc, x_gcK, x_gcd, x_gcr, x_gcc, x_bgc, x_bgK, x_len, x_list, x_int, x_intb, x_abs, x_i2, x_ints, x_asInts, x_asInts0, x_asInts1, x_bools, x_asBools, x_append, x_pop, x_isN, x_notN, isN_n', isN_i, isN_b, isN_l, isN_t, isN_rl, isN_c, x_isB, x_rg1, x_rg2, x_oN, x_oS, x_sl, x_jSeq, x_jR1, x_jR2, x_jEn, x_jZp, W_seq, W_nxS, W_rtS, W_bkS, W_ctS, W_exS, W_nxI, W_rtI, W_bkI, W_ctI, W_as, x_gnm, x_gtp, x_gsN, x_gsC, x_gsb, x_fSet, x_ix0, x_ix1, x_ix10, x_ix20, x_ix21, x_ix30, x_ix31, x_ix32, x_ixI, W_ex, W_rt, W_rtN, W_if, W_dNx, W_dBk, W_dCt, W_au, W_auS, W_fg, W_nxC, W_ctC, W_rtC, W_bkC, W_nxL, W_ctL, W_bkL, W_rtL, W_rtK, W_nxK, x_CPow, x_CMul1, x_CMul2, x_CDiv, x_CDivW, x_rgOk, x_fEq, x_eqK, mapInt_inj, mapInt_nil, mapInts_inj, mapEnt_inj, ints_nil, x_isi, ty_di, ty_db, ty_dn, ty_ds, ty_dl, ty_dt, ty_rl, ty_rt, ty_c, tyO_l, isi_ii, isi_ib, isi_bb, isi_bi, isi_ll, isi_tl, isi_tt, isi_lt, isi_il, isi_nl, isi_ss, x_sort, x_sortK, x_cat, cut_toI, cut_fromI, x_ifno, x_ifno2, x_eqB, x_relNats, x_dNats, mapNat_inj, x_callD, x_callDK, x_rowsS, intsD, entD, natsD, PyData.list.injEq, PyData.tuple.injEq, PyData.int.injEq, PyData.bool.injEq, List.map_append, List.map_cons, List.map_nil, List.getElem?_cons_zero, List.getElem?_cons_succ, List.set_cons_zero, List.set_cons_succ, List.length_cons, List.length_nil, List.length_append, List.length_map, List.length_set, List.take_succ_cons, List.take_zero, List.nil_append, List.cons_append, List.append_nil, List.forall_mem_cons, List.not_mem_nil, List.getD_cons_zero, List.getD_cons_succ, Option.map_some, Option.bind_some, Nat.reduceAdd, Nat.reduceSub, Nat.reduceLT, Nat.reduceLeDiff, Nat.reduceEqDiff, Nat.zero_add, Nat.zero_le, Nat.le_refl, if_true, if_false, ite_true, ite_false, reduceIte, eq_self, true_and, and_true, true_or, or_true, false_or, or_false, decide_eq_true_eq, decide_true, decide_false, Bool.not_true, Bool.not_false, Bool.true_and, Bool.and_true, Bool.false_and, Bool.and_false, Bool.or_false, Bool.false_or, Bool.true_or, Bool.or_true, Bool.false_eq_true, false_implies, implies_true, forall_const, List.getElem?_set_self, List.set_set, Bool.decide_eq_true]; rfl) ⟨[], z2, rfl, rfl, p2, List.nodup_nil, rfl, nofun⟩ ?_ ?_
    · rintro j ρ T hj ⟨l, z3, rfl, rfl, p3, nd, hl, hb⟩
      refine ⟨_, it_rng hj, ?_⟩
      rw [Int.zero_add]
      obtain ⟨r, z4, e4, d0, d1, p4⟩ := tkG (m := (j : Int) + 1) (G := [.lst (isA l)]) p3 (by omega) (by omega)
      simp (disch := first | assumption | omega | walk_at "nc") only [x_get1, x_var, x_bok, x_bex, x_ook, x_oex, x_k, x_op, x_un, x_fI, x_fIC, x_fU, asI_i, asB_b, x_lookc, x_lookO, x_lookd, x_lookr, x_lookdt, x_lookrt, x_lookt, x_lookTd, x_lookTr, x_lookTt, x_cellL, x_relInt, x_relInts, x_dInt, x_isALen, rel_int, rel_bool, rel_none, rel_str, rel_list, rel_tup, x_ix, x_at0, x_at1, x_at2, x_at3, x_atL, x_atI, x_and, x_or, x_not, x_eif, x_bE, x_bAnd, x_bOr, x_bNot, x_bTru, x_bYes, x_iteOk, x_iteD, x_iteI, x_iteB, x_iteT, x_iteF, x_iteTp, x_iteFp, x_aNil, x_aCons, x_lst, x_tup, x_newL, x_mkT0, x_mkT1, x_mkT2, x_mkT3, x_mkT4, x_cb, x_call, x_callN, x_ck, x_bm, x_callI, x_noX, x_callP, x_callPK, x_callC, x_callCK, x_rbs0, x_rbs1, x_rbsK, x_rbd, x_rbr, x_rbc, x_rbCK, x_rbLK1, x_rbLK0, x_rbt, x_allD0, x_allD1, x_allDc, x_allDm, x_allDm', x_allDa, x_closed, x_ocM, x_ocM', x_ocA, x_ocC, x_oc0, x_ocO, x_rfd, x_rfr, x_rfg, x_rfc, x_env0, x_envN, x_envS, x_wipe0, x_wipe1, x_fz, x_fzK, x_frd, x_frr, x_frc, x_newS, x_gc, x_gcK, x_gcd, x_gcr, x_gcc, x_bgc, x_bgK, x_len, x_list, x_int, x_intb, x_abs, x_i2, x_ints, x_asInts, x_asInts0, x_asInts1, x_bools, x_asBools, x_append, x_pop, x_isN, x_notN, isN_n', isN_i, isN_b, isN_l, isN_t, isN_rl, isN_c, x_isB, x_rg1, x_rg2, x_oN, x_oS, x_sl, x_jSeq, x_jR1, x_jR2, x_jEn, x_jZp, W_seq, W_nxS, W_rtS, W_bkS, W_ctS, W_exS, W_nxI, W_rtI, W_bkI, W_ctI, W_as, x_gnm, x_gtp, x_gsN, x_gsC, x_gsb, x_fSet, x_ix0, x_ix1, x_ix10, x_ix20, x_ix21, x_ix30, x_ix31, x_ix32, x_ixI, W_ex, W_rt, W_rtN, W_if, W_dNx, W_dBk, W_dCt, W_au, W_auS, W_fg, W_nxC, W_ctC, W_rtC, W_bkC, W_nxL, W_ctL, W_bkL, W_rtL, W_rtK, W_nxK, x_CPow, x_CMul1, x_CMul2, x_CDiv, x_CDivW, x_rgOk, x_fEq, x_eqK, mapInt_inj, mapInt_nil, mapInts_inj, mapEnt_inj, ints_nil, x_isi, ty_di, ty_db, ty_dn, ty_ds, ty_dl, ty_dt, ty_rl, ty_rt, ty_c, tyO_l, isi_ii, isi_ib, isi_bb, isi_bi, isi_ll, isi_tl, isi_tt, isi_lt, isi_il, isi_nl, isi_ss, x_sort, x_sortK, x_cat, cut_toI, cut_fromI, x_ifno, x_ifno2, x_eqB, x_relNats, x_dNats, mapNat_inj, x_callD, x_callDK, x_rowsS, intsD, entD, natsD, PyData.list.injEq, PyData.tuple.injEq, PyData.int.injEq, PyData.bool.injEq, List.map_append, List.map_cons, List.map_nil, List.getElem?_cons_zero, List.getElem?_cons_succ, List.set_cons_zero, List.set_cons_succ, List.length_cons, List.length_nil, List.length_append, List.length_map, List.length_set, List.take_succ_cons, List.take_zero, List.nil_append, List.cons_append, List.append_nil, List.forall_mem_cons, List.not_mem_nil, List.getD_cons_zero, List.getD_cons_succ, Option.map_some, Option.bind_some, Nat.reduceAdd, Nat.reduceSub, Nat.reduceLT, Nat.reduceLeDiff, Nat.reduceEqDiff, Nat.zero_add, Nat.zero_le, Nat.le_refl, if_true, if_false, ite_true, ite_false, reduceIte, eq_self, true_and, and_true, true_or, or_true, false_or, or_false, decide_eq_true_eq, decide_true, decide_false, Bool.not_true, Bool.not_false, Bool.true_and, Bool.and_true, Bool.false_and, Bool.and_false, Bool.or_false, Bool.false_or, Bool.true_or, Bool.or_true, Bool.false_eq_true, false_implies, implies_true, forall_const, List.getElem?_set_self, List.set_set, Bool.decide_eq_true]
      refine w_sc ?_
      have l1 : r < 1000000 := by omega
      have l2 : l.length < 1000 := by omega
      have eL : (isA l).take r.toNat ++ [AV.d (.int (j : Int))] ++ (isA l).drop r.toNat = isA (l.take r.toNat ++ [(j : Int)] ++ l.drop r.toNat) := by
        simp [isA, List.map_take, List.map_drop]
      have pe : (l.take r.toNat ++ [(j : Int)] ++ l.drop r.toNat).Perm ((j : Int) :: l) := by
        rw [List.append_assoc, List.singleton_append]
        refine List.perm_middle.trans (.cons _ ?_)
        rw [List.take_append_drop]
      generalize l.take r.toNat ++ [(j : Int)] ++ l.drop r.toNat = l' at eL pe
      simp (disch := first | assumption | omega | walk_at "nc") only [x_get1, x_var, x_bok, x_bex, x_ook, x_oex, x_k, x_op, x_un, x_fI, x_fIC, x_fU, asI_i, asB_b, x_lookc, x_lookO, x_lookd, x_lookr, x_lookdt, x_lookrt, x_lookt, x_lookTd, x_lookTr, x_lookTt, x_cellL, x_relInt, x_relInts, x_dInt, x_isALen, rel_int, rel_bool, rel_none, rel_str, rel_list, rel_tup, x_ix, x_at0, x_at1, x_at2, x_at3, x_atL, x_atI, x_and, x_or, x_not, x_eif, x_bE, x_bAnd, x_bOr, x_bNot, x_bTru, x_bYes, x_iteOk, x_iteD, x_iteI, x_iteB, x_iteT, x_iteF, x_iteTp, x_iteFp, x_aNil, x_aCons, x_lst, x_tup, x_newL, x_mkT0, x_mkT1, x_mkT2, x_mkT3, x_mkT4, x_cb, x_call, x_callN, x_ck, x_bm, x_callI, x_noX, x_callP, x_callPK, x_callC, x_callCK, x_rbs0, x_rbs1, x_rbsK, x_rbd, x_rbr, x_rbc, x_rbCK, x_rbLK1, x_rbLK0, x_rbt, x_allD0, x_allD1, x_allDc, x_allDm, x_allDm', x_allDa, x_closed, x_ocM, x_ocM', x_ocA, x_ocC, x_oc0, x_ocO, x_rfd, x_rfr, x_rfg, x_rfc, x_env0, x_envN, x_envS, x_wipe0, x_wipe1, x_fz, x_fzK, x_frd, x_frr, x_frc, x_newS, x_gc, x_gcK, x_gcd, x_gcr, x_gcc, x_bgc, x_bgK, x_len, x_list, x_int, x_intb, x_abs, x_i2, x_ints, x_asInts, x_asInts0, x_asInts1, x_bools, x_asBools, x_append, x_pop, x_isN, x_notN, isN_n', isN_i, isN_b, isN_l, isN_t, isN_rl, isN_c, x_isB, x_rg1, x_rg2, x_oN, x_oS, x_sl, x_jSeq, x_jR1, x_jR2, x_jEn, x_jZp, W_seq, W_nxS, W_rtS, W_bkS, W_ctS, W_exS, W_nxI, W_rtI, W_bkI, W_ctI, W_as, x_gnm, x_gtp, x_gsN, x_gsC, x_gsb, x_fSet, x_ix0, x_ix1, x_ix10, x_ix20, x_ix21, x_ix30, x_ix31, x_ix32, x_ixI, W_ex, W_rt, W_rtN, W_if, W_dNx, W_dBk, W_dCt, W_au, W_auS, W_fg, W_nxC, W_ctC, W_rtC, W_bkC, W_nxL, W_ctL, W_bkL, W_rtL, W_rtK, W_nxK, x_CPow, x_CMul1, x_CMul2, x_CDiv, x_CDivW, x_rgOk, x_fEq, x_eqK, mapInt_inj, mapInt_nil, mapInts_inj, mapEnt_inj, ints_nil, x_isi, ty_di, ty_db, ty_dn, ty_ds, ty_dl, ty_dt, ty_rl, ty_rt, ty_c, tyO_l, isi_ii, isi_ib, isi_bb, isi_bi, isi_ll, isi_tl, isi_tt, isi_lt, isi_il, isi_nl, isi_ss, x_sort, x_sortK, x_cat, cut_toI, cut_fromI, x_ifno, x_ifno2, x_eqB, x_relNats, x_dNats, mapNat_inj, x_callD, x_callDK, x_rowsS, intsD, entD, natsD, PyData.list.injEq, PyData.tuple.injEq, PyData.int.injEq, PyData.bool.injEq, List.map_append, List.map_cons, List.map_nil, List.getElem?_cons_zero, List.getElem?_cons_succ, List.set_cons_zero, List.set_cons_succ, List.length_cons, List.length_nil, List.length_append, List.length_map, List.length_set, List.take_succ_cons, List.take_zero, List.nil_append, List.cons_append, List.append_nil, List.forall_mem_cons, List.not_mem_nil, List.getD_cons_zero, List.getD_cons_succ, Option.map_some, Option.bind_some, Nat.reduceAdd, Nat.reduceSub, Nat.reduceLT, Nat.reduceLeDiff, Nat.reduceEqDiff, Nat.zero_add, Nat.zero_le, Nat.le_refl, if_true, if_false, ite_true, ite_false, reduceIte, eq_self, true_and, and_true, true_or, or_true, false_or, or_false, decide_eq_true_eq, decide_true, decide_false, Bool.not_true, Bool.not_false, Bool.true_and, Bool.and_true, Bool.false_and, Bool.and_false, Bool.or_false, Bool.false_or, Bool.true_or, Bool.or_true, Bool.false_eq_true, false_implies, implies_true, forall_const, List.getElem?_set_self, List.set_set, Bool.decide_eq_true, e4, x_insert, d0, l1, l2, eL]
      refine ⟨l', z4, rfl, p4, pe.nodup_iff.mpr (List.nodup_cons.mpr ⟨fun h => by have := hb _ h; omega, nd⟩), by rw [pe.length_eq, List.length_cons, hl], fun x hx => ?_⟩
      rcases List.mem_cons.mp (pe.mem_iff.mp hx) with rfl | h
      · omega
      · have := hb x h; omega
    · rintro ρ T ⟨l, z3, rfl, rfl, p3, nd, hl, hb⟩
      refine ⟨it_rngE, ?_⟩
      have s0 : step.natAbs < 2 ^ 100 := by
        have : (10 : Int) ^ Int.toNat 26 < 2 ^ 100 := by decide
        omega
      have e := lc_map (ρ := [some (.c 0), some (.d (.int many)), some (.d (.int step)), some (.d (.int low)), some (.c 1), none]) (S := [.lst [.d (.int z3)], .lst (isA l)]) (S1 := [.lst [.d (.int z3)], .lst (isA l)]) (jt := .seq (.c 1)) (it := jSeq (eVar 4)) (g := gnm 5) (d := eOp (fI fun i j => .int (i + j)) (eVar 3) (eOp (fIC CMulW fun i j => .int (i * j)) (eOp (fIC CMulW fun i j => .int (i * j)) (eVar 2) (eVar 5)) (eVar 5))) (vs := [5]) (F := fun i : Int => .d (.int i)) (f := fun i : Int => .d (.int (low + step * i * i))) (l := l)
        (by simp (disch := first | assumption | omega | walk_at "nc") only [x_get1, x_var, x_bok, x_bex, x_ook, x_oex, x_k, x_op, x_un, x_fI, x_fIC, x_fU, asI_i, asB_b, x_lookc, x_lookO, x_lookd, x_lookr, x_lookdt, x_lookrt, x_lookt, x_lookTd, x_lookTr, x_lookTt, x_cellL, x_relInt, x_relInts, x_dInt, x_isALen, rel_int, rel_bool, rel_none, rel_str, rel_list, rel_tup, x_ix, x_at0, x_at1, x_at2, x_at3, x_atL, x_atI, x_and, x_or, x_not, x_eif, x_bE, x_bAnd, x_bOr, x_bNot, x_bTru, x_bYes, x_iteOk, x_iteD, x_iteI, x_iteB, x_iteT, x_iteF, x_iteTp, x_iteFp, x_aNil, x_aCons, x_lst, x_tup, x_newL, x_mkT0, x_mkT1, x_mkT2, x_mkT3, x_mkT4, x_cb, x_call, x_callN, x_ck, x_bm, x_callI, x_noX, x_callP, x_callPK, x_callC, x_callCK, x_rbs0, x_rbs1, x_rbsK, x_rbd, x_rbr, x_rbc, x_rbCK, x_rbLK1, x_rbLK0, x_rbt, x_allD0, x_allD1, x_allDc, x_allDm, x_allDm', x_allDa, x_closed, x_ocM, x_ocM', x_ocA, x_ocC, x_oc0, x_ocO, x_rfd, x_rfr, x_rfg, x_rfc, x_env0, x_envN, x_envS, x_wipe0, x_wipe1, x_fz, x_fzK, x_frd, x_frr, x_frc, x_newS, x_gc, x_gcK, x_gcd, x_gcr, x_gcc, x_bgc, x_bgK, x_len, x_list, x_int, x_intb, x_abs, x_i2, x_ints, x_asInts, x_asInts0, x_asInts1, x_bools, x_asBools, x_append, x_pop, x_isN, x_notN, isN_n', isN_i, isN_b, isN_l, isN_t, isN_rl, isN_c, x_isB, x_rg1, x_rg2, x_oN, x_oS, x_sl, x_jSeq, x_jR1, x_jR2, x_jEn, x_jZp, W_seq, W_nxS, W_rtS, W_bkS, W_ctS, W_exS, W_nxI, W_rtI, W_bkI, W_ctI, W_as, x_gnm, x_gtp, x_gsN, x_gsC, x_gsb, x_fSet, x_ix0, x_ix1, x_ix10, x_ix20, x_ix21, x_ix30, x_ix31, x_ix32, x_ixI, W_ex, W_rt, W_rtN, W_if, W_dNx, W_dBk, W_dCt, W_au, W_auS, W_fg, W_nxC, W_ctC, W_rtC, W_bkC, W_nxL, W_ctL, W_bkL, W_rtL, W_rtK, W_nxK, x_CPow, x_CMul1, x_CMul2, x_CDiv, x_CDivW, x_rgOk, x_fEq, x_eqK, mapInt_inj, mapInt_nil, mapInts_inj, mapEnt_inj, ints_nil, x_isi, ty_di, ty_db, ty_dn, ty_ds, ty_dl, ty_dt, ty_rl, ty_rt, ty_c, tyO_l, isi_ii, isi_ib, isi_bb, isi_bi, isi_ll, isi_tl, isi_tt, isi_lt, isi_il, isi_nl, isi_ss, x_sort, x_sortK, x_cat, cut_toI, cut_fromI, x_ifno, x_ifno2, x_eqB, x_relNats, x_dNats, mapNat_inj, x_callD, x_callDK, x_rowsS, intsD, entD, natsD, PyData.list.injEq, PyData.tuple.injEq, PyData.int.injEq, PyData.bool.injEq, List.map_append, List.map_cons, List.map_nil, List.getElem?_cons_zero, List.getElem?_cons_succ, List.set_cons_zero, List.set_cons_succ, List.length_cons, List.length_nil, List.length_append, List.length_map, List.length_set, List.take_succ_cons, List.take_zero, List.nil_append, List.cons_append, List.append_nil, List.forall_mem_cons, List.not_mem_nil, List.getD_cons_zero, List.getD_cons_succ, Option.map_some, Option.bind_some, Nat.reduceAdd, Nat.reduceSub, Nat.reduceLT, Nat.reduceLeDiff, Nat.reduceEqDiff, Nat.zero_add, Nat.zero_le, Nat.le_refl, if_true, if_false, ite_true, ite_false, reduceIte, eq_self, true_and, and_true, true_or, or_true, false_or, or_false, decide_eq_true_eq, decide_true, decide_false, Bool.not_true, Bool.not_false, Bool.true_and, Bool.and_true, Bool.false_and, Bool.and_false, Bool.or_false, Bool.false_or, Bool.true_or, Bool.or_true, Bool.false_eq_true, false_implies, implies_true, forall_const, List.getElem?_set_self, List.set_set, Bool.decide_eq_true]) (by omega) (fun acc i hi => it_cell (k := 1) (F := fun i : Int => AV.d (.int i)) (l := l) rfl hi) (fun acc => it_cellE (k := 1) (F := fun i : Int => AV.d (.int i)) (l := l) rfl) (fun x acc hx => ⟨_, g_nm, by
          have hx := hb x hx
          have x0 : x.natAbs < 2 ^ 10 := by omega
          have c1 : CMulW step x := wide_mul s0 x0 (by decide) (by decide) (by decide)
          have c2 : CMulW (step * x) x := wide_mul (wide_lt s0 x0) x0 (by decide) (by decide) (by decide)
          simp (disch := first | assumption | omega | walk_at "nc") only [x_get1, x_var, x_bok, x_bex, x_ook, x_oex, x_k, x_op, x_un, x_fI, x_fIC, x_fU, asI_i, asB_b, x_lookc, x_lookO, x_lookd, x_lookr, x_lookdt, x_lookrt, x_lookt, x_lookTd, x_lookTr, x_lookTt, x_cellL, x_relInt, x_relInts, x_dInt, x_isALen, rel_int, rel_bool, rel_none, rel_str, rel_list, rel_tup, x_ix, x_at0, x_at1, x_at2, x_at3, x_atL, x_atI, x_and, x_or, x_not, x_eif, x_bE, x_bAnd, x_bOr, x_bNot, x_bTru, x_bYes, x_iteOk, x_iteD, x_iteI, x_iteB, x_iteT, x_iteF, x_iteTp, x_iteFp, x_aNil, x_aCons, x_lst, x_tup, x_newL, x_mkT0, x_mkT1, x_mkT2, x_mkT3, x_mkT4, x_cb, x_call, x_callN, x_ck, x_bm, x_callI, x_noX, x_callP, x_callPK, x_callC, x_callCK, x_rbs0, x_rbs1, x_rbsK, x_rbd, x_rbr, x_rbc, x_rbCK, x_rbLK1, x_rbLK0, x_rbt, x_allD0, x_allD1, x_allDc, x_allDm, x_allDm', x_allDa, x_closed, x_ocM, x_ocM', x_ocA, x_ocC, x_oc0, x_ocO, x_rfd, x_rfr, x_rfg, x_rfc, x_env0, x_envN, x_envS, x_wipe0, x_wipe1, x_fz, x_fzK, x_frd, x_frr, x_frc, x_newS, x_gc, x_gcK, x_gcd, x_gcr, x_gcc, x_bgc, x_bgK, x_len, x_list, x_int, x_intb, x_abs, x_i2, x_ints, x_asInts, x_asInts0, x_asInts1, x_bools, x_asBools, x_append, x_pop, x_isN, x_notN, isN_n', isN_i, isN_b, isN_l, isN_t, isN_rl, isN_c, x_isB, x_rg1, x_rg2, x_oN, x_oS, x_sl, x_jSeq, x_jR1, x_jR2, x_jEn, x_jZp, W_seq, W_nxS, W_rtS, W_bkS, W_ctS, W_exS, W_nxI, W_rtI, W_bkI, W_ctI, W_as, x_gnm, x_gtp, x_gsN, x_gsC, x_gsb, x_fSet, x_ix0, x_ix1, x_ix10, x_ix20, x_ix21, x_ix30, x_ix31, x_ix32, x_ixI, W_ex, W_rt, W_rtN, W_if, W_dNx, W_dBk, W_dCt, W_au, W_auS, W_fg, W_nxC, W_ctC, W_rtC, W_bkC, W_nxL, W_ctL, W_bkL, W_rtL, W_rtK, W_nxK, x_CPow, x_CMul1, x_CMul2, x_CDiv, x_CDivW, x_rgOk, x_fEq, x_eqK, mapInt_inj, mapInt_nil, mapInts_inj, mapEnt_inj, ints_nil, x_isi, ty_di, ty_db, ty_dn, ty_ds, ty_dl, ty_dt, ty_rl, ty_rt, ty_c, tyO_l, isi_ii, isi_ib, isi_bb, isi_bi, isi_ll, isi_tl, isi_tt, isi_lt, isi_il, isi_nl, isi_ss, x_sort, x_sortK, x_cat, cut_toI, cut_fromI, x_ifno, x_ifno2, x_eqB, x_relNats, x_dNats, mapNat_inj, x_callD, x_callDK, x_rowsS, intsD, entD, natsD, PyData.list.injEq, PyData.tuple.injEq, PyData.int.injEq, PyData.bool.injEq, List.map_append, List.map_cons, List.map_nil, List.getElem?_cons_zero, List.getElem?_cons_succ, List.set_cons_zero, List.set_cons_succ, List.length_cons, List.length_nil, List.length_append, List.length_map, List.length_set, List.take_succ_cons, List.take_zero, List.nil_append, List.cons_append, List.append_nil, List.forall_mem_cons, List.not_mem_nil, List.getD_cons_zero, List.getD_cons_succ, Option.map_some, Option.bind_some, Nat.reduceAdd, Nat.reduceSub, Nat.reduceLT, Nat.reduceLeDiff, Nat.reduceEqDiff, Nat.zero_add, Nat.zero_le, Nat.le_refl, if_true, if_false, ite_true, ite_false, reduceIte, eq_self, true_and, and_true, true_or, or_true, false_or, or_false, decide_eq_true_eq, decide_true, decide_false, Bool.not_true, Bool.not_false, Bool.true_and, Bool.and_true, Bool.false_and, Bool.and_false, Bool.or_false, Bool.false_or, Bool.true_or, Bool.or_true, Bool.false_eq_true, false_implies, implies_true, forall_const, List.getElem?_set_self, List.set_set, Bool.decide_eq_true, c1, c2]⟩)
      simp (disch := first | assumption | omega | walk_at "nc") only [x_get1, x_var, x_bok, x_bex, x_ook, x_oex, x_k, x_op, x_un, x_fI, x_fIC, x_fU, asI_i, asB_b, x_lookc, x_lookO, x_lookd, x_lookr, x_lookdt, x_lookrt, x_lookt, x_lookTd, x_lookTr, x_lookTt, x_cellL, x_relInt, x_relInts, x_dInt, x_isALen, rel_int, rel_bool, rel_none, rel_str, rel_list, rel_tup, x_ix, x_at0, x_at1, x_at2, x_at3, x_atL, x_atI, x_and, x_or, x_not, x_eif, x_bE, x_bAnd, x_bOr, x_bNot, x_bTru, x_bYes, x_iteOk, x_iteD, x_iteI, x_iteB, x_iteT, x_iteF, x_iteTp, x_iteFp, x_aNil, x_aCons, x_lst, x_tup, x_newL, x_mkT0, x_mkT1, x_mkT2, x_mkT3, x_mkT4, x_cb, x_call, x_callN, x_ck, x_bm, x_callI, x_noX, x_callP, x_callPK, x_callC, x_callCK, x_rbs0, x_rbs1, x_rbsK, x_rbd, x_rbr, x_rbc, x_rbCK, x_rbLK1, x_rbLK0, x_rbt, x_allD0, x_allD1, x_allDc, x_allDm, x_allDm', x_allDa, x_closed, x_ocM, x_ocM', x_ocA, x_ocC, x_oc0, x_ocO, x_rfd, x_rfr, x_rfg, x_rfc, x_env0, x_envN, x_envS, x_wipe0, x_wipe1, x_fz, x_fzK, x_frd, x_frr, x_frc, x_newS, x_gc, x_gcK, x_gcd, x_gcr, x_gcc, x_bgc, x_bgK, x_len, x_list, x_int, x_intb, x_abs, x_i2, x_ints, x_asInts, x_asInts0, x_asInts1, x_bools, x_asBools, x_append, x_pop, x_isN, x_notN, isN_n', isN_i, isN_b, isN_l, isN_t, isN_rl, isN_c, x_isB, x_rg1, x_rg2, x_oN, x_oS, x_sl, x_jSeq, x_jR1, x_jR2, x_jEn, x_jZp, W_seq, W_nxS, W_rtS, W_bkS, W_ctS, W_exS, W_nxI, W_rtI, W_bkI, W_ctI, W_as, x_gnm, x_gtp, x_gsN, x_gsC, x_gsb, x_fSet, x_ix0, x_ix1, x_ix10, x_ix20, x_ix21, x_ix30, x_ix31, x_ix32, x_ixI, W_ex, W_rt, W_rtN, W_if, W_dNx, W_dBk, W_dCt, W_au, W_auS, W_fg, W_nxC, W_ctC, W_rtC, W_bkC, W_nxL, W_ctL, W_bkL, W_rtL, W_rtK, W_nxK, x_CPow, x_CMul1, x_CMul2, x_CDiv, x_CDivW, x_rgOk, x_fEq, x_eqK, mapInt_inj, mapInt_nil, mapInts_inj, mapEnt_inj, ints_nil, x_isi, ty_di, ty_db, ty_dn, ty_ds, ty_dl, ty_dt, ty_rl, ty_rt, ty_c, tyO_l, isi_ii, isi_ib, isi_bb, isi_bi, isi_ll, isi_tl, isi_tt, isi_lt, isi_il, isi_nl, isi_ss, x_sort, x_sortK, x_cat, cut_toI, cut_fromI, x_ifno, x_ifno2, x_eqB, x_relNats, x_dNats, mapNat_inj, x_callD, x_callDK, x_rowsS, intsD, entD, natsD, PyData.list.injEq, PyData.tuple.injEq, PyData.int.injEq, PyData.bool.injEq, List.map_append, List.map_cons, List.map_nil, List.getElem?_cons_zero, List.getElem?_cons_succ, List.set_cons_zero, List.set_cons_succ, List.length_cons, List.length_nil, List.length_append, List.length_map, List.length_set, List.take_succ_cons, List.take_zero, List.nil_append, List.cons_append, List.append_nil, List.forall_mem_cons, List.not_mem_nil, List.getD_cons_zero, List.getD_cons_succ, Option.map_some, Option.bind_some, Nat.reduceAdd, Nat.reduceSub, Nat.reduceLT, Nat.reduceLeDiff, Nat.reduceEqDiff, Nat.zero_add, Nat.zero_le, Nat.le_refl, if_true, if_false, ite_true, ite_false, reduceIte, eq_self, true_and, and_true, true_or, or_true, false_or, or_false, decide_eq_true_eq, decide_true, decide_false, Bool.not_true, Bool.not_false, Bool.true_and, Bool.and_true, Bool.false_and, Bool.and_false, Bool.or_false, Bool.false_or, Bool.true_or, Bool.or_true, Bool.false_eq_true, false_implies, implies_true, forall_const, List.getElem?_set_self, List.set_set, Bool.decide_eq_true, e]
      refine ⟨l.map fun i => low + step * i * i, z3, l, by simp, p3, ?_, by rw [List.length_map]; omega⟩
      refine List.Pairwise.map _ ?_ (List.Pairwise.and_mem.mp nd)
      rintro a b ⟨ha, hb', hab⟩ he
      have ha := hb a ha
      have hb' := hb b hb'
      have h1 : step * (a * a) = step * (b * b) := by rw [← Int.mul_assoc, ← Int.mul_assoc]; omega
      have h2 : a * a = b * b := Int.eq_of_mul_eq_mul_left (by omega) h1
      apply hab
      have h3 : (a - b) * (a + b) = 0 := by
        rw [Int.sub_mul, Int.mul_add, Int.mul_add, Int.mul_comm b a]
        omega
      rcases Int.mul_eq_zero.mp h3 with h | h
      · omega
      · omega
  obtain ⟨v, T, e, row, z', l, rfl, rfl, h1, h2, h3⟩ := main
  refine ⟨row, z', ?_, h1, h2, h3⟩
  rw [e]
  simp (disch := first | assumption | omega | walk_at "nc") only [x_get1, x_var, x_bok, x_bex, x_ook, x_oex, x_k, x_op, x_un, x_fI, x_fIC, x_fU, asI_i, asB_b, x_lookc, x_lookO, x_lookd, x_lookr, x_lookdt, x_lookrt, x_lookt, x_lookTd, x_lookTr, x_lookTt, x_cellL, x_relInt, x_relInts, x_dInt, x_isALen, rel_int, rel_bool, rel_none, rel_str, rel_list, rel_tup, x_ix, x_at0, x_at1, x_at2, x_at3, x_atL, x_atI, x_and, x_or, x_not, x_eif, x_bE, x_bAnd, x_bOr, x_bNot, x_bTru, x_bYes, x_iteOk, x_iteD, x_iteI, x_iteB, x_iteT, x_iteF, x_iteTp, x_iteFp, x_aNil, x_aCons, x_lst, x_tup, x_newL, x_mkT0, x_mkT1, x_mkT2, x_mkT3, x_mkT4, x_cb, x_call, x_callN, x_ck, x_bm, x_callI, x_noX, x_callP, x_callPK, x_callC, x_callCK, x_rbs0, x_rbs1, x_rbsK, x_rbd, x_rbr, x_rbc, x_rbCK, x_rbLK1, x_rbLK0, x_rbt, x_allD0, x_allD1, x_allDc, x_allDm, x_allDm', x_allDa, x_closed, x_ocM, x_ocM', x_ocA, x_ocC, x_oc0, x_ocO, x_rfd, x_rfr, x_rfg, x_rfc, x_env0, x_envN, x_envS, x_wipe0, x_wipe1, x_fz, x_fzK, x_frd, x_frr, x_frc, x_newS, x_gc, x_gcK, x_gcd, x_gcr, x_gcc, x_bgc, x_bgK, x_len, x_list, x_int, x_intb, x_abs, x_i2, x_ints, x_asInts, x_asInts0, x_asInts1, x_bools, x_asBools, x_append, x_pop, x_isN, x_notN, isN_n', isN_i, isN_b, isN_l, isN_t, isN_rl, isN_c, x_isB, x_rg1, x_rg2, x_oN, x_oS, x_sl, x_jSeq, x_jR1, x_jR2, x_jEn, x_jZp, W_seq, W_nxS, W_rtS, W_bkS, W_ctS, W_exS, W_nxI, W_rtI, W_bkI, W_ctI, W_as, x_gnm, x_gtp, x_gsN, x_gsC, x_gsb, x_fSet, x_ix0, x_ix1, x_ix10, x_ix20, x_ix21, x_ix30, x_ix31, x_ix32, x_ixI, W_ex, W_rt, W_rtN, W_if, W_dNx, W_dBk, W_dCt, W_au, W_auS, W_fg, W_nxC, W_ctC, W_rtC, W_bkC, W_nxL, W_ctL, W_bkL, W_rtL, W_rtK, W_nxK, x_CPow, x_CMul1, x_CMul2, x_CDiv, x_CDivW, x_rgOk, x_fEq, x_eqK, mapInt_inj, mapInt_nil, mapInts_inj, mapEnt_inj, ints_nil, x_isi, ty_di, ty_db, ty_dn, ty_ds, ty_dl, ty_dt, ty_rl, ty_rt, ty_c, tyO_l, isi_ii, isi_ib, isi_bb, isi_bi, isi_ll, isi_tl, isi_tt, isi_lt, isi_il, isi_nl, isi_ss, x_sort, x_sortK, x_cat, cut_toI, cut_fromI, x_ifno, x_ifno2, x_eqB, x_relNats, x_dNats, mapNat_inj, x_callD, x_callDK, x_rowsS, intsD, entD, natsD, PyData.list.injEq, PyData.tuple.injEq, PyData.int.injEq, PyData.bool.injEq, List.map_append, List.map_cons, List.map_nil, List.getElem?_cons_zero, List.getElem?_cons_succ, List.set_cons_zero, List.set_cons_succ, List.length_cons, List.length_nil, List.length_append, List.length_map, List.length_set, List.take_succ_cons, List.take_zero, List.nil_append, List.cons_append, List.append_nil, List.forall_mem_cons, List.not_mem_nil, List.getD_cons_zero, List.getD_cons_succ, Option.map_some, Option.bind_some, Nat.reduceAdd, Nat.reduceSub, Nat.reduceLT, Nat.reduceLeDiff, Nat.reduceEqDiff, Nat.zero_add, Nat.zero_le, Nat.le_refl, if_true, if_false, ite_true, ite_false, reduceIte, eq_self, true_and, and_true, true_or, or_true, false_or, or_false, decide_eq_true_eq, decide_true, decide_false, Bool.not_true, Bool.not_false, Bool.true_and, Bool.and_true, Bool.false_and, Bool.and_false, Bool.or_false, Bool.false_or, Bool.true_or, Bool.or_true, Bool.false_eq_true, false_implies, implies_true, forall_const, List.getElem?_set_self, List.set_set, Bool.decide_eq_true]


end
section
local macro_rules | `(tactic| walk_at "hs") => `(tactic| first | (with_reducible assumption) | exact rfl | (apply get_set; walk_at "hs"))
local macro_rules | `(tactic| walk_at "lk") => `(tactic| first | (with_reducible exact l_rI) | (with_reducible exact l_dI) | (with_reducible exact l_rE) | (with_reducible exact l_dE) | ((with_reducible apply l_c); walk_at "hs") | (with_reducible exact l_d) | (with_reducible exact l_r) | (with_reducible assumption))
local macro_rules | `(tactic| walk_at "lt") => `(tactic| first | (with_reducible exact lT_eR) | (with_reducible exact lT_eA) | (with_reducible exact lT_d) | (with_reducible exact lT_r) | (with_reducible assumption) | exact rfl)
local macro_rules | `(tactic| walk_at "ev1") => `(tactic| first
  | (with_reducible exact v_k) | (with_reducible exact a_nil) | (with_reducible exact g_nm) | (with_reducible exact v_I) | (with_reducible exact v_neg) | (with_reducible exact int_i) | (with_reducible exact int_b) | (with_reducible exact abs_i) | (with_reducible exact i2) | (with_reducible exact g_sN) | (with_reducible exact isN_n)
  | ((with_reducible apply v_var); exact rfl) | (with_reducible assumption)
  | (with_reducible apply v_op) | (with_reducible apply v_un) | (with_reducible apply a_cons) | (with_reducible apply v_cb) | (with_reducible apply v_call) | (with_reducible apply t_b) | (with_reducible apply v_tup) | (with_reducible apply v_lst) | (with_reducible apply g_sb)
  | ((with_reducible apply v_IC); first | decide | exact Or.inl (by decide) | exact ⟨by decide, by decide⟩ | exact ⟨by decide, by decide, by decide⟩ | (with_reducible assumption) | rotate_left)
  | ((with_reducible apply v_ix); walk_at "lk") | ((with_reducible apply v_ixT); exact rfl; walk_at "lt")
  | ((with_reducible apply len_c); walk_at "hs") | ((with_reducible apply len_l); walk_at "lk")
  | ((with_reducible apply set_c); walk_at "hs") | ((with_reducible apply b_append); walk_at "hs")
  | ((with_reducible apply tup3_lt'); exact rfl) | ((with_reducible apply v_isN); exact rfl) | ((with_reducible apply v_notN); exact rfl)
  | (with_reducible exact fEq_intF) | (with_reducible exact fEq_intT) | exact at_cd (by omega)
  | exact at0 | exact at1 | exact at2 | exact at3 | exact ix0 | exact ix1 | exact ix2 | exact ix3
  | ((with_reducible apply g_tp); walk_at "lt"; exact rfl) | (with_reducible apply g_sC)
  | exact atI_ints (by omega) (by omega) | (refine atI_ints ?_ ?_; rotate_left 2) | exact atI_last | exact atI_any (by omega) (by omega) | (refine atI_any ?_ ?_; rotate_left 2)
  | ((with_reducible apply c_I); exact rfl; (with_reducible assumption)) | ((with_reducible apply c_I); exact rfl) | exact Nat.le_of_ble_eq_true rfl)
local macro_rules | `(tactic| walk_at "ev") => `(tactic| repeat (walk_at "ev1"))
local macro_rules | `(tactic| walk_at "rb") => `(tactic| repeat (first | (with_reducible exact rbs_nil) | (with_reducible apply rbs_cons) | (with_reducible exact rb_d _) | (with_reducible exact rb_r _) | ((with_reducible apply rb_ci); walk_at "hs") | ((with_reducible apply rb_ce); walk_at "hs") | (with_reducible assumption)))
local macro_rules | `(tactic| walk_at "nc") => `(tactic| (simp only [nice_l, nice_t, nice_i, nice_n, nice_tup, mem_map, implies_true, forall_const, List.forall_mem_cons, List.not_mem_nil, false_implies, and_true, true_and]; done))
-- import EV5 Dens V89
variable {C : Addr}
theorem jR1_of {dl : LV} {ρ : En} {S S1 : Sto} {n : Int} {k : Nat} (h : dl ρ S = .ok [.d (.int n)] S1) (h0 : n = (k : Int)) (hk : k ≤ 1000000) : jR1 dl ρ S = .ok (.rng 0 k) S1 := by
  subst h0
  rw [x_jR1, h]
  show (if rgOk 0 (k : Int) then _ else _) = _
  rw [if_pos (show rgOk 0 (k : Int) from ⟨by decide, by decide, by omega, by omega⟩)]
  rfl

end
section
local macro_rules | `(tactic| walk_at "hs") => `(tactic| first | (with_reducible assumption) | exact rfl | (apply get_set; walk_at "hs"))
local macro_rules | `(tactic| walk_at "lk") => `(tactic| first | (with_reducible exact l_rI) | (with_reducible exact l_dI) | (with_reducible exact l_rE) | (with_reducible exact l_dE) | ((with_reducible apply l_c); walk_at "hs") | (with_reducible exact l_d) | (with_reducible exact l_r) | (with_reducible assumption))
local macro_rules | `(tactic| walk_at "lt") => `(tactic| first | (with_reducible exact lT_eR) | (with_reducible exact lT_eA) | (with_reducible exact lT_d) | (with_reducible exact lT_r) | (with_reducible assumption) | exact rfl)
local macro_rules | `(tactic| walk_at "ev1") => `(tactic| first
  | (with_reducible exact v_k) | (with_reducible exact a_nil) | (with_reducible exact g_nm) | (with_reducible exact v_I) | (with_reducible exact v_neg) | (with_reducible exact int_i) | (with_reducible exact int_b) | (with_reducible exact abs_i) | (with_reducible exact i2) | (with_reducible exact g_sN) | (with_reducible exact isN_n)
  | ((with_reducible apply v_var); exact rfl) | (with_reducible assumption)
  | (with_reducible apply v_op) | (with_reducible apply v_un) | (with_reducible apply a_cons) | (with_reducible apply v_cb) | (with_reducible apply v_call) | (with_reducible apply t_b) | (with_reducible apply v_tup) | (with_reducible apply v_lst) | (with_reducible apply g_sb)
  | ((with_reducible apply v_IC); first | decide | exact Or.inl (by decide) | exact ⟨by decide, by decide⟩ | exact ⟨by decide, by decide, by decide⟩ | (with_reducible assumption) | rotate_left)
  | ((with_reducible apply v_ix); walk_at "lk") | ((with_reducible apply v_ixT); exact rfl; walk_at "lt")
  | ((with_reducible apply len_c); walk_at "hs") | ((with_reducible apply len_l); walk_at "lk")
  | ((with_reducible apply set_c); walk_at "hs") | ((with_reducible apply b_append); walk_at "hs")
  | ((with_reducible apply tup3_lt'); exact rfl) | ((with_reducible apply v_isN); exact rfl) | ((with_reducible apply v_notN); exact rfl)
  | (with_reducible exact fEq_intF) | (with_reducible exact fEq_intT) | exact at_cd (by omega)
  | exact at0 | exact at1 | exact at2 | exact at3 | exact ix0 | exact ix1 | exact ix2 | exact ix3
  | ((with_reducible apply g_tp); walk_at "lt"; exact rfl) | (with_reducible apply g_sC)
  | exact atI_ints (by omega) (by omega) | (refine atI_ints ?_ ?_; rotate_left 2) | exact atI_last | exact atI_any (by omega) (by omega) | (refine atI_any ?_ ?_; rotate_left 2)
  | ((with_reducible apply c_I); exact rfl; (with_reducible assumption)) | ((with_reducible apply c_I); exact rfl) | exact Nat.le_of_ble_eq_true rfl)
local macro_rules | `(tactic| walk_at "ev") => `(tactic| repeat (walk_at "ev1"))
local macro_rules | `(tactic| walk_at "rb") => `(tactic| repeat (first | (with_reducible exact rbs_nil) | (with_reducible apply rbs_cons) | (with_reducible exact rb_d _) | (with_reducible exact rb_r _) | ((with_reducible apply rb_ci); walk_at "hs") | ((with_reducible apply rb_ce); walk_at "hs") | (with_reducible assumption)))
local macro_rules | `(tactic| walk_at "nc") => `(tactic| (simp only [nice_l, nice_t, nice_i, nice_n, nice_tup, mem_map, implies_true, forall_const, List.forall_mem_cons, List.not_mem_nil, false_implies, and_true, true_and]; done))
-- import EV5 Dens V98
/-! ### a beginning, and the keys of its hand -/
variable {C : Addr}
section
variable {S G : Sto} {h : Int} {n a b : Nat} {s : LSt} {row : List Int}
theorem gc_nil {ρ : En} (hc : closed S.length S) : eGc (eLst aNil) ρ S = .ok (.c S.length) (S ++ [.lst []]) := by
  have e : eLst aNil ρ S = .ok (.c S.length) (S ++ [.lst []]) := v_lst a_nil (by decide)
  rw [x_gc, e, x_gcK, x_gcc, if_neg (Nat.lt_irrefl _)]
  have g : (S ++ [OC.lst []])[S.length]? = some (.lst []) := by simp
  have tk : (S ++ [OC.lst []]).take S.length = S := by simp
  have hc2 : closed S.length (S ++ [.lst []]) := by
    intro oc ho
    rw [tk] at ho
    exact hc oc (by rwa [List.take_length])
  rw [g]
  show (if _ then _ else _) = _
  rw [if_pos ⟨hc2, (fun x hx => by cases hx), by simp⟩, tk]
end


end
section
local macro_rules | `(tactic| walk_at "hs") => `(tactic| first | (with_reducible assumption) | exact rfl | (apply get_set; walk_at "hs"))
local macro_rules | `(tactic| walk_at "lk") => `(tactic| first | (with_reducible exact l_rI) | (with_reducible exact l_dI) | (with_reducible exact l_rE) | (with_reducible exact l_dE) | ((with_reducible apply l_c); walk_at "hs") | (with_reducible exact l_d) | (with_reducible exact l_r) | (with_reducible assumption))
local macro_rules | `(tactic| walk_at "lt") => `(tactic| first | (with_reducible exact lT_eR) | (with_reducible exact lT_eA) | (with_reducible exact lT_d) | (with_reducible exact lT_r) | (with_reducible assumption) | exact rfl)
local macro_rules | `(tactic| walk_at "ev1") => `(tactic| first
  | (with_reducible exact v_k) | (with_reducible exact a_nil) | (with_reducible exact g_nm) | (with_reducible exact v_I) | (with_reducible exact v_neg) | (with_reducible exact int_i) | (with_reducible exact int_b) | (with_reducible exact abs_i) | (with_reducible exact i2) | (with_reducible exact g_sN) | (with_reducible exact isN_n)
  | ((with_reducible apply v_var); exact rfl) | (with_reducible assumption)
  | (with_reducible apply v_op) | (with_reducible apply v_un) | (with_reducible apply a_cons) | (with_reducible apply v_cb) | (with_reducible apply v_call) | (with_reducible apply t_b) | (with_reducible apply v_tup) | (with_reducible apply v_lst) | (with_reducible apply g_sb)
  | ((with_reducible apply v_IC); first | decide | exact Or.inl (by decide) | exact ⟨by decide, by decide⟩ | exact ⟨by decide, by decide, by decide⟩ | (with_reducible assumption) | rotate_left)
  | ((with_reducible apply v_ix); walk_at "lk") | ((with_reducible apply v_ixT); exact rfl; walk_at "lt")
  | ((with_reducible apply len_c); walk_at "hs") | ((with_reducible apply len_l); walk_at "lk")
  | ((with_reducible apply set_c); walk_at "hs") | ((with_reducible apply b_append); walk_at "hs")
  | ((with_reducible apply tup3_lt'); exact rfl) | ((with_reducible apply v_isN); exact rfl) | ((with_reducible apply v_notN); exact rfl)
  | (with_reducible exact fEq_intF) | (with_reducible exact fEq_intT) | exact at_cd (by omega)
  | exact at0 | exact at1 | exact at2 | exact at3 | exact ix0 | exact ix1 | exact ix2 | exact ix3
  | ((with_reducible apply g_tp); walk_at "lt"; exact rfl) | (with_reducible apply g_sC)
  | exact atI_ints (by omega) (by omega) | (refine atI_ints ?_ ?_; rotate_left 2) | exact atI_last | exact atI_any (by omega) (by omega) | (refine atI_any ?_ ?_; rotate_left 2)
  | ((with_reducible apply c_I); exact rfl; (with_reducible assumption)) | ((with_reducible apply c_I); exact rfl) | exact Nat.le_of_ble_eq_true rfl)
local macro_rules | `(tactic| walk_at "ev") => `(tactic| repeat (walk_at "ev1"))
local macro_rules | `(tactic| walk_at "rb") => `(tactic| repeat (first | (with_reducible exact rbs_nil) | (with_reducible apply rbs_cons) | (with_reducible exact rb_d _) | (with_reducible exact rb_r _) | ((with_reducible apply rb_ci); walk_at "hs") | ((with_reducible apply rb_ce); walk_at "hs") | (with_reducible assumption)))
local macro_rules | `(tactic| walk_at "nc") => `(tactic| (simp only [nice_l, nice_t, nice_i, nice_n, nice_tup, mem_map, implies_true, forall_const, List.forall_mem_cons, List.not_mem_nil, false_implies, and_true, true_and]; done))
-- import EV5 Dens V151
/-! ### law k20 -/
variable {C X : Addr}
theorem fz_list {da : EV} {ρ : En} {S G : Sto} {j k : Nat} {ds : List PyData} (h : da ρ S = .ok (.c k) (S ++ G)) (hc : closed S.length S) (hk : k = S.length + j) (hG : G[j]? = some (.lst (ds.map .d))) : eFz da ρ S = .ok (.d (.list ds)) S := v_fzC (j := j) h rfl hc hk hG
theorem bg_list {g : TV} {ρ : En} {S G : Sto} {c : Bool} (h : g ρ S = .ok c (S ++ G)) (hc : closed S.length S) : bGc g ρ S = .ok c S := by
  rw [x_bgc, h, x_bgK, if_pos (closed_left hc rfl), List.take_left' rfl]

end
section
local macro_rules | `(tactic| walk_at "hs") => `(tactic| first | (with_reducible assumption) | exact rfl | (apply get_set; walk_at "hs"))
local macro_rules | `(tactic| walk_at "lk") => `(tactic| first | (with_reducible exact l_rI) | (with_reducible exact l_dI) | (with_reducible exact l_rE) | (with_reducible exact l_dE) | ((with_reducible apply l_c); walk_at "hs") | (with_reducible exact l_d) | (with_reducible exact l_r) | (with_reducible assumption))
local macro_rules | `(tactic| walk_at "lt") => `(tactic| first | (with_reducible exact lT_eR) | (with_reducible exact lT_eA) | (with_reducible exact lT_d) | (with_reducible exact lT_r) | (with_reducible assumption) | exact rfl)
local macro_rules | `(tactic| walk_at "ev1") => `(tactic| first
  | (with_reducible exact v_k) | (with_reducible exact a_nil) | (with_reducible exact g_nm) | (with_reducible exact v_I) | (with_reducible exact v_neg) | (with_reducible exact int_i) | (with_reducible exact int_b) | (with_reducible exact abs_i) | (with_reducible exact i2) | (with_reducible exact g_sN) | (with_reducible exact isN_n)
  | ((with_reducible apply v_var); exact rfl) | (with_reducible assumption)
  | (with_reducible apply v_op) | (with_reducible apply v_un) | (with_reducible apply a_cons) | (with_reducible apply v_cb) | (with_reducible apply v_call) | (with_reducible apply t_b) | (with_reducible apply v_tup) | (with_reducible apply v_lst) | (with_reducible apply g_sb)
  | ((with_reducible apply v_IC); first | decide | exact Or.inl (by decide) | exact ⟨by decide, by decide⟩ | exact ⟨by decide, by decide, by decide⟩ | (with_reducible assumption) | rotate_left)
  | ((with_reducible apply v_ix); walk_at "lk") | ((with_reducible apply v_ixT); exact rfl; walk_at "lt")
  | ((with_reducible apply len_c); walk_at "hs") | ((with_reducible apply len_l); walk_at "lk")
  | ((with_reducible apply set_c); walk_at "hs") | ((with_reducible apply b_append); walk_at "hs")
  | ((with_reducible apply tup3_lt'); exact rfl) | ((with_reducible apply v_isN); exact rfl) | ((with_reducible apply v_notN); exact rfl)
  | (with_reducible exact fEq_intF) | (with_reducible exact fEq_intT) | exact at_cd (by omega)
  | exact at0 | exact at1 | exact at2 | exact at3 | exact ix0 | exact ix1 | exact ix2 | exact ix3
  | ((with_reducible apply g_tp); walk_at "lt"; exact rfl) | (with_reducible apply g_sC)
  | exact atI_ints (by omega) (by omega) | (refine atI_ints ?_ ?_; rotate_left 2) | exact atI_last | exact atI_any (by omega) (by omega) | (refine atI_any ?_ ?_; rotate_left 2)
  | ((with_reducible apply c_I); exact rfl; (with_reducible assumption)) | ((with_reducible apply c_I); exact rfl) | exact Nat.le_of_ble_eq_true rfl)
local macro_rules | `(tactic| walk_at "ev") => `(tactic| repeat (walk_at "ev1"))
local macro_rules | `(tactic| walk_at "rb") => `(tactic| repeat (first | (with_reducible exact rbs_nil) | (with_reducible apply rbs_cons) | (with_reducible exact rb_d _) | (with_reducible exact rb_r _) | ((with_reducible apply rb_ci); walk_at "hs") | ((with_reducible apply rb_ce); walk_at "hs") | (with_reducible assumption)))
local macro_rules | `(tactic| walk_at "nc") => `(tactic| (simp only [nice_l, nice_t, nice_i, nice_n, nice_tup, mem_map, implies_true, forall_const, List.forall_mem_cons, List.not_mem_nil, false_implies, and_true, true_and]; done))
-- import EV6 Dens V168
/-! ### tables (k30 to k33): values, places, the first breach -/
abbrev tblD (t : List (List Int)) : PyData := .list (t.map fun p => PyData.list (p.map PyData.int))

end
section
local macro_rules | `(tactic| walk_at "hs") => `(tactic| first | (with_reducible assumption) | exact rfl | (apply get_set; walk_at "hs"))
local macro_rules | `(tactic| walk_at "lk") => `(tactic| first | (with_reducible exact l_rI) | (with_reducible exact l_dI) | (with_reducible exact l_rE) | (with_reducible exact l_dE) | ((with_reducible apply l_c); walk_at "hs") | (with_reducible exact l_d) | (with_reducible exact l_r) | (with_reducible assumption))
local macro_rules | `(tactic| walk_at "lt") => `(tactic| first | (with_reducible exact lT_eR) | (with_reducible exact lT_eA) | (with_reducible exact lT_d) | (with_reducible exact lT_r) | (with_reducible assumption) | exact rfl)
local macro_rules | `(tactic| walk_at "ev1") => `(tactic| first
  | (with_reducible exact v_k) | (with_reducible exact a_nil) | (with_reducible exact g_nm) | (with_reducible exact v_I) | (with_reducible exact v_neg) | (with_reducible exact int_i) | (with_reducible exact int_b) | (with_reducible exact abs_i) | (with_reducible exact i2) | (with_reducible exact g_sN) | (with_reducible exact isN_n)
  | ((with_reducible apply v_var); exact rfl) | (with_reducible assumption)
  | (with_reducible apply v_op) | (with_reducible apply v_un) | (with_reducible apply a_cons) | (with_reducible apply v_cb) | (with_reducible apply v_call) | (with_reducible apply t_b) | (with_reducible apply v_tup) | (with_reducible apply v_lst) | (with_reducible apply g_sb)
  | ((with_reducible apply v_IC); first | decide | exact Or.inl (by decide) | exact ⟨by decide, by decide⟩ | exact ⟨by decide, by decide, by decide⟩ | (with_reducible assumption) | rotate_left)
  | ((with_reducible apply v_ix); walk_at "lk") | ((with_reducible apply v_ixT); exact rfl; walk_at "lt")
  | ((with_reducible apply len_c); walk_at "hs") | ((with_reducible apply len_l); walk_at "lk")
  | ((with_reducible apply set_c); walk_at "hs") | ((with_reducible apply b_append); walk_at "hs")
  | ((with_reducible apply tup3_lt'); exact rfl) | ((with_reducible apply v_isN); exact rfl) | ((with_reducible apply v_notN); exact rfl)
  | (with_reducible exact fEq_intF) | (with_reducible exact fEq_intT) | exact at_cd (by omega)
  | exact at0 | exact at1 | exact at2 | exact at3 | exact ix0 | exact ix1 | exact ix2 | exact ix3
  | ((with_reducible apply g_tp); walk_at "lt"; exact rfl) | (with_reducible apply g_sC)
  | exact atI_ints (by omega) (by omega) | (refine atI_ints ?_ ?_; rotate_left 2) | exact atI_last | exact atI_any (by omega) (by omega) | (refine atI_any ?_ ?_; rotate_left 2)
  | ((with_reducible apply c_I); exact rfl; (with_reducible assumption)) | ((with_reducible apply c_I); exact rfl) | exact Nat.le_of_ble_eq_true rfl)
local macro_rules | `(tactic| walk_at "ev") => `(tactic| repeat (walk_at "ev1"))
local macro_rules | `(tactic| walk_at "rb") => `(tactic| repeat (first | (with_reducible exact rbs_nil) | (with_reducible apply rbs_cons) | (with_reducible exact rb_d _) | (with_reducible exact rb_r _) | ((with_reducible apply rb_ci); walk_at "hs") | ((with_reducible apply rb_ce); walk_at "hs") | (with_reducible assumption)))
local macro_rules | `(tactic| walk_at "nc") => `(tactic| (simp only [nice_l, nice_t, nice_i, nice_n, nice_tup, mem_map, implies_true, forall_const, List.forall_mem_cons, List.not_mem_nil, false_implies, and_true, true_and]; done))
-- import EV6 Dens V173 V169
/-! ### k31: the first breach of a told table, behind a change too -/
theorem nice_tbl {k : Nat} {tb : List (List Int)} : nice (k + 2) (tblD tb) := by
  simp only [tblD, nice_l, mem_map, nice_i, implies_true]

end
section
local macro_rules | `(tactic| walk_at "hs") => `(tactic| first | (with_reducible assumption) | exact rfl | (apply get_set; walk_at "hs"))
local macro_rules | `(tactic| walk_at "lk") => `(tactic| first | (with_reducible exact l_rI) | (with_reducible exact l_dI) | (with_reducible exact l_rE) | (with_reducible exact l_dE) | ((with_reducible apply l_c); walk_at "hs") | (with_reducible exact l_d) | (with_reducible exact l_r) | (with_reducible assumption))
local macro_rules | `(tactic| walk_at "lt") => `(tactic| first | (with_reducible exact lT_eR) | (with_reducible exact lT_eA) | (with_reducible exact lT_d) | (with_reducible exact lT_r) | (with_reducible assumption) | exact rfl)
local macro_rules | `(tactic| walk_at "ev1") => `(tactic| first
  | (with_reducible exact v_k) | (with_reducible exact a_nil) | (with_reducible exact g_nm) | (with_reducible exact v_I) | (with_reducible exact v_neg) | (with_reducible exact int_i) | (with_reducible exact int_b) | (with_reducible exact abs_i) | (with_reducible exact i2) | (with_reducible exact g_sN) | (with_reducible exact isN_n)
  | ((with_reducible apply v_var); exact rfl) | (with_reducible assumption)
  | (with_reducible apply v_op) | (with_reducible apply v_un) | (with_reducible apply a_cons) | (with_reducible apply v_cb) | (with_reducible apply v_call) | (with_reducible apply t_b) | (with_reducible apply v_tup) | (with_reducible apply v_lst) | (with_reducible apply g_sb)
  | ((with_reducible apply v_IC); first | decide | exact Or.inl (by decide) | exact ⟨by decide, by decide⟩ | exact ⟨by decide, by decide, by decide⟩ | (with_reducible assumption) | rotate_left)
  | ((with_reducible apply v_ix); walk_at "lk") | ((with_reducible apply v_ixT); exact rfl; walk_at "lt")
  | ((with_reducible apply len_c); walk_at "hs") | ((with_reducible apply len_l); walk_at "lk")
  | ((with_reducible apply set_c); walk_at "hs") | ((with_reducible apply b_append); walk_at "hs")
  | ((with_reducible apply tup3_lt'); exact rfl) | ((with_reducible apply v_isN); exact rfl) | ((with_reducible apply v_notN); exact rfl)
  | (with_reducible exact fEq_intF) | (with_reducible exact fEq_intT) | exact at_cd (by omega)
  | exact at0 | exact at1 | exact at2 | exact at3 | exact ix0 | exact ix1 | exact ix2 | exact ix3
  | ((with_reducible apply g_tp); walk_at "lt"; exact rfl) | (with_reducible apply g_sC)
  | exact atI_ints (by omega) (by omega) | (refine atI_ints ?_ ?_; rotate_left 2) | exact atI_last | exact atI_any (by omega) (by omega) | (refine atI_any ?_ ?_; rotate_left 2)
  | ((with_reducible apply c_I); exact rfl; (with_reducible assumption)) | ((with_reducible apply c_I); exact rfl) | exact Nat.le_of_ble_eq_true rfl)
local macro_rules | `(tactic| walk_at "ev") => `(tactic| repeat (walk_at "ev1"))
local macro_rules | `(tactic| walk_at "rb") => `(tactic| repeat (first | (with_reducible exact rbs_nil) | (with_reducible apply rbs_cons) | (with_reducible exact rb_d _) | (with_reducible exact rb_r _) | ((with_reducible apply rb_ci); walk_at "hs") | ((with_reducible apply rb_ce); walk_at "hs") | (with_reducible assumption)))
local macro_rules | `(tactic| walk_at "nc") => `(tactic| (simp only [nice_l, nice_t, nice_i, nice_n, nice_tup, mem_map, implies_true, forall_const, List.forall_mem_cons, List.not_mem_nil, false_implies, and_true, true_and]; done))
-- import EV6 Dens V175
/-! ### k31 to k33: the drawn table -/
section
variable {xs ys : List AV} {J : Sto} {tb : List (List Int)} {e f : List Int}
end
theorem fz_datS {da : EV} {ρ : En} {S S1 G : Sto} {d : PyData} (h : da ρ S = .ok (.d d) (S1 ++ G)) (hc : closed S1.length S1) (hl : S1.length = S.length) : eFz da ρ S = .ok (.d d) S1 := by
  unfold eFz
  rw [h]
  simp only
  rw [← hl, if_pos ⟨closed_left hc rfl, by simp⟩]
  simp only [frzR]
  rw [List.take_left' rfl]

end
section
local macro_rules | `(tactic| walk_at "hs") => `(tactic| first | (with_reducible assumption) | exact rfl | (apply get_set; walk_at "hs"))
local macro_rules | `(tactic| walk_at "lk") => `(tactic| first | (with_reducible exact l_rI) | (with_reducible exact l_dI) | (with_reducible exact l_rE) | (with_reducible exact l_dE) | ((with_reducible apply l_c); walk_at "hs") | (with_reducible exact l_d) | (with_reducible exact l_r) | (with_reducible assumption))
local macro_rules | `(tactic| walk_at "lt") => `(tactic| first | (with_reducible exact lT_eR) | (with_reducible exact lT_eA) | (with_reducible exact lT_d) | (with_reducible exact lT_r) | (with_reducible assumption) | exact rfl)
local macro_rules | `(tactic| walk_at "ev1") => `(tactic| first
  | (with_reducible exact v_k) | (with_reducible exact a_nil) | (with_reducible exact g_nm) | (with_reducible exact v_I) | (with_reducible exact v_neg) | (with_reducible exact int_i) | (with_reducible exact int_b) | (with_reducible exact abs_i) | (with_reducible exact i2) | (with_reducible exact g_sN) | (with_reducible exact isN_n)
  | ((with_reducible apply v_var); exact rfl) | (with_reducible assumption)
  | (with_reducible apply v_op) | (with_reducible apply v_un) | (with_reducible apply a_cons) | (with_reducible apply v_cb) | (with_reducible apply v_call) | (with_reducible apply t_b) | (with_reducible apply v_tup) | (with_reducible apply v_lst) | (with_reducible apply g_sb)
  | ((with_reducible apply v_IC); first | decide | exact Or.inl (by decide) | exact ⟨by decide, by decide⟩ | exact ⟨by decide, by decide, by decide⟩ | (with_reducible assumption) | rotate_left)
  | ((with_reducible apply v_ix); walk_at "lk") | ((with_reducible apply v_ixT); exact rfl; walk_at "lt")
  | ((with_reducible apply len_c); walk_at "hs") | ((with_reducible apply len_l); walk_at "lk")
  | ((with_reducible apply set_c); walk_at "hs") | ((with_reducible apply b_append); walk_at "hs")
  | ((with_reducible apply tup3_lt'); exact rfl) | ((with_reducible apply v_isN); exact rfl) | ((with_reducible apply v_notN); exact rfl)
  | (with_reducible exact fEq_intF) | (with_reducible exact fEq_intT) | exact at_cd (by omega)
  | exact at0 | exact at1 | exact at2 | exact at3 | exact ix0 | exact ix1 | exact ix2 | exact ix3
  | ((with_reducible apply g_tp); walk_at "lt"; exact rfl) | (with_reducible apply g_sC)
  | exact atI_ints (by omega) (by omega) | (refine atI_ints ?_ ?_; rotate_left 2) | exact atI_last | exact atI_any (by omega) (by omega) | (refine atI_any ?_ ?_; rotate_left 2)
  | ((with_reducible apply c_I); exact rfl; (with_reducible assumption)) | ((with_reducible apply c_I); exact rfl) | exact Nat.le_of_ble_eq_true rfl)
local macro_rules | `(tactic| walk_at "ev") => `(tactic| repeat (walk_at "ev1"))
local macro_rules | `(tactic| walk_at "rb") => `(tactic| repeat (first | (with_reducible exact rbs_nil) | (with_reducible apply rbs_cons) | (with_reducible exact rb_d _) | (with_reducible exact rb_r _) | ((with_reducible apply rb_ci); walk_at "hs") | ((with_reducible apply rb_ce); walk_at "hs") | (with_reducible assumption)))
local macro_rules | `(tactic| walk_at "nc") => `(tactic| (simp only [nice_l, nice_t, nice_i, nice_n, nice_tup, mem_map, implies_true, forall_const, List.forall_mem_cons, List.not_mem_nil, false_implies, and_true, true_and]; done))
-- import EV6 Dens V180 V130
/-! ### laid_table, its lists as lists of their own -/
variable {C : Addr}
structure CellT (T : Sto) (ks : List Nat) (tb : List (List Int)) : Prop where
  len : ks.length = tb.length
  nd : ks.Nodup
  lo : ∀ k ∈ ks, 2 ≤ k
  g : ∀ i, i < tb.length → ∃ k, ks[i]? = some k ∧ T[k]? = some (.lst (isA (tb.getD i [])))
section
variable {T T' : Sto} {ks : List Nat} {tb : List (List Int)}
theorem CellT.lt (c : CellT T ks tb) : ∀ k ∈ ks, k < T.length := fun k hk => by
  obtain ⟨i, hi, e⟩ := List.mem_iff_getElem.mp hk
  obtain ⟨k2, e2, g⟩ := c.g i (by rw [← c.len]; exact hi)
  rw [List.getElem?_eq_getElem hi] at e2
  have := Option.some.inj e2
  have := (List.getElem?_eq_some_iff.mp g).1
  omega
end
section
variable {row : List Int}
end


end
section
local macro_rules | `(tactic| walk_at "hs") => `(tactic| first | (with_reducible assumption) | exact rfl | (apply get_set; walk_at "hs"))
local macro_rules | `(tactic| walk_at "lk") => `(tactic| first | (with_reducible exact l_rI) | (with_reducible exact l_dI) | (with_reducible exact l_rE) | (with_reducible exact l_dE) | ((with_reducible apply l_c); walk_at "hs") | (with_reducible exact l_d) | (with_reducible exact l_r) | (with_reducible assumption))
local macro_rules | `(tactic| walk_at "lt") => `(tactic| first | (with_reducible exact lT_eR) | (with_reducible exact lT_eA) | (with_reducible exact lT_d) | (with_reducible exact lT_r) | (with_reducible assumption) | exact rfl)
local macro_rules | `(tactic| walk_at "ev1") => `(tactic| first
  | (with_reducible exact v_k) | (with_reducible exact a_nil) | (with_reducible exact g_nm) | (with_reducible exact v_I) | (with_reducible exact v_neg) | (with_reducible exact int_i) | (with_reducible exact int_b) | (with_reducible exact abs_i) | (with_reducible exact i2) | (with_reducible exact g_sN) | (with_reducible exact isN_n)
  | ((with_reducible apply v_var); exact rfl) | (with_reducible assumption)
  | (with_reducible apply v_op) | (with_reducible apply v_un) | (with_reducible apply a_cons) | (with_reducible apply v_cb) | (with_reducible apply v_call) | (with_reducible apply t_b) | (with_reducible apply v_tup) | (with_reducible apply v_lst) | (with_reducible apply g_sb)
  | ((with_reducible apply v_IC); first | decide | exact Or.inl (by decide) | exact ⟨by decide, by decide⟩ | exact ⟨by decide, by decide, by decide⟩ | (with_reducible assumption) | rotate_left)
  | ((with_reducible apply v_ix); walk_at "lk") | ((with_reducible apply v_ixT); exact rfl; walk_at "lt")
  | ((with_reducible apply len_c); walk_at "hs") | ((with_reducible apply len_l); walk_at "lk")
  | ((with_reducible apply set_c); walk_at "hs") | ((with_reducible apply b_append); walk_at "hs")
  | ((with_reducible apply tup3_lt'); exact rfl) | ((with_reducible apply v_isN); exact rfl) | ((with_reducible apply v_notN); exact rfl)
  | (with_reducible exact fEq_intF) | (with_reducible exact fEq_intT) | exact at_cd (by omega)
  | exact at0 | exact at1 | exact at2 | exact at3 | exact ix0 | exact ix1 | exact ix2 | exact ix3
  | ((with_reducible apply g_tp); walk_at "lt"; exact rfl) | (with_reducible apply g_sC)
  | exact atI_ints (by omega) (by omega) | (refine atI_ints ?_ ?_; rotate_left 2) | exact atI_last | exact atI_any (by omega) (by omega) | (refine atI_any ?_ ?_; rotate_left 2)
  | ((with_reducible apply c_I); exact rfl; (with_reducible assumption)) | ((with_reducible apply c_I); exact rfl) | exact Nat.le_of_ble_eq_true rfl)
local macro_rules | `(tactic| walk_at "ev") => `(tactic| repeat (walk_at "ev1"))
local macro_rules | `(tactic| walk_at "rb") => `(tactic| repeat (first | (with_reducible exact rbs_nil) | (with_reducible apply rbs_cons) | (with_reducible exact rb_d _) | (with_reducible exact rb_r _) | ((with_reducible apply rb_ci); walk_at "hs") | ((with_reducible apply rb_ce); walk_at "hs") | (with_reducible assumption)))
local macro_rules | `(tactic| walk_at "nc") => `(tactic| (simp only [nice_l, nice_t, nice_i, nice_n, nice_tup, mem_map, implies_true, forall_const, List.forall_mem_cons, List.not_mem_nil, false_implies, and_true, true_and]; done))
-- import EV6 Dens V184 V182
/-! ### law k30 -/
variable {C : Addr}
theorem fEq_same {d : PyData} {a b : AV} {S : Sto} (h1 : rb true 8 S a = some d) (h2 : rb true 8 S b = some d) (n8 : nice 8 d) : fEq true a b S = .ok (bA false) S := by
  rw [x_fEq, h1, h2, x_eqK n8 n8, if_pos rfl, decide_eq_true rfl]
  rfl
theorem ints_of {S : Sto} {x : AV} {l : List Int} {f : List Int → Option PyData} {d : PyData} (h : look S x = some (isA l)) (e : f l = some d) : fInts f [x] S = .ok (.d d) S := by
  rw [x_ints, h]
  show (match (some (isA l)).bind asInts with | some ns => _ | none => _) = _
  rw [Option.bind_some, show asInts (isA l) = some l from asInts_map l]
  simp only [e]

end
section
local macro_rules | `(tactic| walk_at "hs") => `(tactic| first | (with_reducible assumption) | exact rfl | (apply get_set; walk_at "hs"))
local macro_rules | `(tactic| walk_at "lk") => `(tactic| first | (with_reducible exact l_rI) | (with_reducible exact l_dI) | (with_reducible exact l_rE) | (with_reducible exact l_dE) | ((with_reducible apply l_c); walk_at "hs") | (with_reducible exact l_d) | (with_reducible exact l_r) | (with_reducible assumption))
local macro_rules | `(tactic| walk_at "lt") => `(tactic| first | (with_reducible exact lT_eR) | (with_reducible exact lT_eA) | (with_reducible exact lT_d) | (with_reducible exact lT_r) | (with_reducible assumption) | exact rfl)
local macro_rules | `(tactic| walk_at "ev1") => `(tactic| first
  | (with_reducible exact v_k) | (with_reducible exact a_nil) | (with_reducible exact g_nm) | (with_reducible exact v_I) | (with_reducible exact v_neg) | (with_reducible exact int_i) | (with_reducible exact int_b) | (with_reducible exact abs_i) | (with_reducible exact i2) | (with_reducible exact g_sN) | (with_reducible exact isN_n)
  | ((with_reducible apply v_var); exact rfl) | (with_reducible assumption)
  | (with_reducible apply v_op) | (with_reducible apply v_un) | (with_reducible apply a_cons) | (with_reducible apply v_cb) | (with_reducible apply v_call) | (with_reducible apply t_b) | (with_reducible apply v_tup) | (with_reducible apply v_lst) | (with_reducible apply g_sb)
  | ((with_reducible apply v_IC); first | decide | exact Or.inl (by decide) | exact ⟨by decide, by decide⟩ | exact ⟨by decide, by decide, by decide⟩ | (with_reducible assumption) | rotate_left)
  | ((with_reducible apply v_ix); walk_at "lk") | ((with_reducible apply v_ixT); exact rfl; walk_at "lt")
  | ((with_reducible apply len_c); walk_at "hs") | ((with_reducible apply len_l); walk_at "lk")
  | ((with_reducible apply set_c); walk_at "hs") | ((with_reducible apply b_append); walk_at "hs")
  | ((with_reducible apply tup3_lt'); exact rfl) | ((with_reducible apply v_isN); exact rfl) | ((with_reducible apply v_notN); exact rfl)
  | (with_reducible exact fEq_intF) | (with_reducible exact fEq_intT) | exact at_cd (by omega)
  | exact at0 | exact at1 | exact at2 | exact at3 | exact ix0 | exact ix1 | exact ix2 | exact ix3
  | ((with_reducible apply g_tp); walk_at "lt"; exact rfl) | (with_reducible apply g_sC)
  | exact atI_ints (by omega) (by omega) | (refine atI_ints ?_ ?_; rotate_left 2) | exact atI_last | exact atI_any (by omega) (by omega) | (refine atI_any ?_ ?_; rotate_left 2)
  | ((with_reducible apply c_I); exact rfl; (with_reducible assumption)) | ((with_reducible apply c_I); exact rfl) | exact Nat.le_of_ble_eq_true rfl)
local macro_rules | `(tactic| walk_at "ev") => `(tactic| repeat (walk_at "ev1"))
local macro_rules | `(tactic| walk_at "rb") => `(tactic| repeat (first | (with_reducible exact rbs_nil) | (with_reducible apply rbs_cons) | (with_reducible exact rb_d _) | (with_reducible exact rb_r _) | ((with_reducible apply rb_ci); walk_at "hs") | ((with_reducible apply rb_ce); walk_at "hs") | (with_reducible assumption)))
local macro_rules | `(tactic| walk_at "nc") => `(tactic| (simp only [nice_l, nice_t, nice_i, nice_n, nice_tup, mem_map, implies_true, forall_const, List.forall_mem_cons, List.not_mem_nil, false_implies, and_true, true_and]; done))
-- import EV6 Dens V190 V165
/-! ### merges: each card is moved often enough -/
inductive Run (W many : Nat) : List (List Int) → List Int → Prop
  | init : Run W many [] ((List.range many).map fun i : Nat => (i : Int))
  | snoc {ms : List (List Int)} {there m rest : List Int} : Run W many ms there → m ≠ [] → m.length ≤ W → there.Perm (m ++ rest) → Run W many (ms ++ [m]) (rest ++ [((many + ms.length : Nat) : Int)])
abbrev upD (deep : List Int) (m : List Int) : Int := 1 + ((m.map fun i => deep.getD i.toNat 0).max?).getD 0
def deepL (many : Nat) (ms : List (List Int)) : List Int := ms.foldl (fun deep m => deep ++ [upD deep m]) (List.replicate many 0)
theorem deepL_snoc {many : Nat} {ms : List (List Int)} {m : List Int} : deepL many (ms ++ [m]) = deepL many ms ++ [upD (deepL many ms) m] := by
  unfold deepL
  rw [List.foldl_append]
  rfl
theorem deepL_len {many : Nat} : ∀ ms : List (List Int), (deepL many ms).length = many + ms.length := by
  have go : ∀ (ms : List (List Int)) (d : List Int), (ms.foldl (fun deep m => deep ++ [upD deep m]) d).length = d.length + ms.length := by
    intro ms
    induction ms with
    | nil => intro d; rfl
    | cons m ms ih =>
      intro d
      show (ms.foldl _ (d ++ [upD d m])).length = d.length + (ms.length + 1)
      rw [ih, List.length_append]
      show d.length + 1 + ms.length = _
      omega
  intro ms
  have := go ms (List.replicate many 0)
  rw [List.length_replicate] at this
  exact this
abbrev potL (W : Nat) (deep : List Int) (there : List Int) : Nat := (there.map fun p => W ^ (deep.getD p.toNat 0).toNat).sum
theorem max_le {l : List Int} {x : Int} (h : x ∈ l) : x ≤ (l.max?).getD 0 := by
  cases q : l.max? with
  | none => rw [List.max?_eq_none_iff.mp q] at h; cases h
  | some m => exact (List.max?_eq_some_iff.mp q).2 x h
theorem pot_le {W : Nat} (hW : 1 ≤ W) {deep : List Int} {x : Int} : ∀ m : List Int, (∀ p ∈ m, deep.getD p.toNat 0 ≤ x) → potL W deep m ≤ m.length * W ^ x.toNat
  | [], _ => Nat.zero_le _
  | p :: m, h => by
    have ih := pot_le hW m fun q hq => h q (List.mem_cons_of_mem _ hq)
    have h0 := h p List.mem_cons_self
    have : W ^ (deep.getD p.toNat 0).toNat ≤ W ^ x.toNat := Nat.pow_le_pow_right hW (by omega)
    show W ^ (deep.getD p.toNat 0).toNat + potL W deep m ≤ (m.length + 1) * W ^ x.toNat
    rw [Nat.add_mul, Nat.one_mul]
    omega
structure RunF (W many : Nat) (ms : List (List Int)) (there : List Int) : Prop where
  lt : ∀ p ∈ there, 0 ≤ p ∧ p < ((many + ms.length : Nat) : Int)
  nn : ∀ x ∈ deepL many ms, 0 ≤ x
  pot : many ≤ potL W (deepL many ms) there
  mlt : ∀ m ∈ ms, m ≠ [] ∧ m.length ≤ W
  ord : ∀ i (h : i < ms.length), ∀ p ∈ ms[i], 0 ≤ p ∧ p < ((many + i : Nat) : Int)
theorem Run.facts {W many : Nat} {ms : List (List Int)} {there : List Int} (hW : 2 ≤ W) (R : Run W many ms there) : RunF W many ms there := by
  induction R with
  | init =>
    refine ⟨fun p hp => ?_, fun x hx => ?_, ?_, nofun, fun i h => absurd h (Nat.not_lt_zero _)⟩
    · obtain ⟨i, hi, rfl⟩ := List.mem_map.mp hp
      have := List.mem_range.mp hi
      exact ⟨by omega, by show (i : Int) < ((many + 0 : Nat) : Int); omega⟩
    · have hx : x ∈ List.replicate many (0 : Int) := hx
      rw [(List.mem_replicate.mp hx).2]
      exact Int.le_refl _
    · show many ≤ (((List.range many).map fun i : Nat => (i : Int)).map fun p => W ^ ((List.replicate many (0 : Int)).getD p.toNat 0).toNat).sum
      have : ∀ l : List Int, l.length ≤ (l.map fun p => W ^ ((List.replicate many (0 : Int)).getD p.toNat 0).toNat).sum := by
        intro l
        induction l with
        | nil => exact Nat.le_refl _
        | cons p l ih =>
          have : 0 < W ^ ((List.replicate many (0 : Int)).getD p.toNat 0).toNat := Nat.pow_pos (by omega)
          show l.length + 1 ≤ W ^ ((List.replicate many (0 : Int)).getD p.toNat 0).toNat + (l.map fun p => W ^ ((List.replicate many (0 : Int)).getD p.toNat 0).toNat).sum
          omega
      have := this ((List.range many).map fun i : Nat => (i : Int))
      rw [List.length_map, List.length_range] at this
      exact this
  | @snoc ms there m rest R0 hne hlen hperm ih =>
    obtain ⟨lt, nn, pot, mlt, ord⟩ := ih
    have dl := deepL_len (many := many) ms
    have ltm : ∀ p ∈ m, 0 ≤ p ∧ p < ((many + ms.length : Nat) : Int) := fun p hp => lt p (hperm.mem_iff.mpr (List.mem_append_left _ hp))
    have ltr : ∀ p ∈ rest, 0 ≤ p ∧ p < ((many + ms.length : Nat) : Int) := fun p hp => lt p (hperm.mem_iff.mpr (List.mem_append_right _ hp))
    have up0 : 0 ≤ ((m.map fun i => (deepL many ms).getD i.toNat 0).max?).getD 0 := by
      cases hm : m with
      | nil => exact absurd hm hne
      | cons a b =>
        rw [← hm]
        have ha : a ∈ m := by rw [hm]; exact List.mem_cons_self
        have := max_le (List.mem_map.mpr ⟨a, ha, rfl⟩ : (deepL many ms).getD a.toNat 0 ∈ m.map fun i => (deepL many ms).getD i.toNat 0)
        have z : 0 ≤ (deepL many ms).getD a.toNat 0 := by
          have := ltm a ha
          rw [List.getD_eq_getElem?_getD, List.getElem?_eq_getElem (by omega)]
          exact nn _ (List.getElem_mem _)
        omega
    refine ⟨fun p hp => ?_, fun x hx => ?_, ?_, fun q hq => ?_, fun i hi q hq => ?_⟩
    · rw [List.length_append]
      rcases List.mem_append.mp hp with a | a
      · have := ltr p a
        exact ⟨this.1, by show p < ((many + (ms.length + 1) : Nat) : Int); omega⟩
      · rw [List.mem_singleton.mp a]
        exact ⟨by omega, by show ((many + ms.length : Nat) : Int) < ((many + (ms.length + 1) : Nat) : Int); omega⟩
    · rw [deepL_snoc] at hx
      rcases List.mem_append.mp hx with a | a
      · exact nn x a
      · rw [List.mem_singleton.mp a]
        show 0 ≤ 1 + _
        omega
    · rw [deepL_snoc]
      have same : ∀ p, (0 ≤ p ∧ p < ((many + ms.length : Nat) : Int)) → (deepL many ms ++ [upD (deepL many ms) m]).getD p.toNat 0 = (deepL many ms).getD p.toNat 0 := fun p hp => by
        rw [List.getD_eq_getElem?_getD, List.getElem?_append_left (by omega), ← List.getD_eq_getElem?_getD]
      have last : (deepL many ms ++ [upD (deepL many ms) m]).getD (((many + ms.length : Nat) : Int)).toNat 0 = upD (deepL many ms) m := by
        rw [Int.toNat_natCast, List.getD_eq_getElem?_getD, List.getElem?_append_right (by omega), dl, Nat.sub_self]
        rfl
      have e1 : potL W (deepL many ms ++ [upD (deepL many ms) m]) (rest ++ [((many + ms.length : Nat) : Int)]) = potL W (deepL many ms) rest + W ^ (upD (deepL many ms) m).toNat := by
        show ((rest ++ [((many + ms.length : Nat) : Int)]).map _).sum = _
        rw [List.map_append, List.sum_append, List.map_singleton, List.sum_singleton, last, List.map_congr_left fun p hp => by rw [same p (ltr p hp)]]
      have e2 : potL W (deepL many ms) there = potL W (deepL many ms) m + potL W (deepL many ms) rest := by
        show (there.map _).sum = _
        rw [(hperm.map _).sum_nat, List.map_append, List.sum_append]
      have e3 := pot_le (W := W) (by omega) (deep := deepL many ms) (x := ((m.map fun i => (deepL many ms).getD i.toNat 0).max?).getD 0) m fun p hp => max_le (List.mem_map.mpr ⟨p, hp, rfl⟩)
      have e4 : W ^ (upD (deepL many ms) m).toNat = W * W ^ (((m.map fun i => (deepL many ms).getD i.toNat 0).max?).getD 0).toNat := by
        rw [show (upD (deepL many ms) m).toNat = (((m.map fun i => (deepL many ms).getD i.toNat 0).max?).getD 0).toNat + 1 by have eu : upD (deepL many ms) m = 1 + ((m.map fun i => (deepL many ms).getD i.toNat 0).max?).getD 0 := rfl; omega, Nat.pow_succ, Nat.mul_comm]
      have e5 : m.length * W ^ (((m.map fun i => (deepL many ms).getD i.toNat 0).max?).getD 0).toNat ≤ W * W ^ (((m.map fun i => (deepL many ms).getD i.toNat 0).max?).getD 0).toNat := Nat.mul_le_mul_right _ hlen
      omega
    · rcases List.mem_append.mp hq with a | a
      · exact mlt q a
      · rw [List.mem_singleton.mp a]; exact ⟨hne, hlen⟩
    · rw [List.length_append] at hi
      by_cases c : i < ms.length
      · rw [List.getElem_append_left c] at hq
        exact ord i c q hq
      · have : i = ms.length := by have hi : i < ms.length + 1 := hi; omega
        subst this
        rw [List.getElem_append_right (Nat.le_refl _)] at hq
        have hq : q ∈ [m][ms.length - ms.length]'(by simp) := hq
        simp at hq
        exact ltm q hq

end
section
local macro_rules | `(tactic| walk_at "hs") => `(tactic| first | (with_reducible assumption) | exact rfl | (apply get_set; walk_at "hs"))
local macro_rules | `(tactic| walk_at "lk") => `(tactic| first | (with_reducible exact l_rI) | (with_reducible exact l_dI) | (with_reducible exact l_rE) | (with_reducible exact l_dE) | ((with_reducible apply l_c); walk_at "hs") | (with_reducible exact l_d) | (with_reducible exact l_r) | (with_reducible assumption))
local macro_rules | `(tactic| walk_at "lt") => `(tactic| first | (with_reducible exact lT_eR) | (with_reducible exact lT_eA) | (with_reducible exact lT_d) | (with_reducible exact lT_r) | (with_reducible assumption) | exact rfl)
local macro_rules | `(tactic| walk_at "ev1") => `(tactic| first
  | (with_reducible exact v_k) | (with_reducible exact a_nil) | (with_reducible exact g_nm) | (with_reducible exact v_I) | (with_reducible exact v_neg) | (with_reducible exact int_i) | (with_reducible exact int_b) | (with_reducible exact abs_i) | (with_reducible exact i2) | (with_reducible exact g_sN) | (with_reducible exact isN_n)
  | ((with_reducible apply v_var); exact rfl) | (with_reducible assumption)
  | (with_reducible apply v_op) | (with_reducible apply v_un) | (with_reducible apply a_cons) | (with_reducible apply v_cb) | (with_reducible apply v_call) | (with_reducible apply t_b) | (with_reducible apply v_tup) | (with_reducible apply v_lst) | (with_reducible apply g_sb)
  | ((with_reducible apply v_IC); first | decide | exact Or.inl (by decide) | exact ⟨by decide, by decide⟩ | exact ⟨by decide, by decide, by decide⟩ | (with_reducible assumption) | rotate_left)
  | ((with_reducible apply v_ix); walk_at "lk") | ((with_reducible apply v_ixT); exact rfl; walk_at "lt")
  | ((with_reducible apply len_c); walk_at "hs") | ((with_reducible apply len_l); walk_at "lk")
  | ((with_reducible apply set_c); walk_at "hs") | ((with_reducible apply b_append); walk_at "hs")
  | ((with_reducible apply tup3_lt'); exact rfl) | ((with_reducible apply v_isN); exact rfl) | ((with_reducible apply v_notN); exact rfl)
  | (with_reducible exact fEq_intF) | (with_reducible exact fEq_intT) | exact at_cd (by omega)
  | exact at0 | exact at1 | exact at2 | exact at3 | exact ix0 | exact ix1 | exact ix2 | exact ix3
  | ((with_reducible apply g_tp); walk_at "lt"; exact rfl) | (with_reducible apply g_sC)
  | exact atI_ints (by omega) (by omega) | (refine atI_ints ?_ ?_; rotate_left 2) | exact atI_last | exact atI_any (by omega) (by omega) | (refine atI_any ?_ ?_; rotate_left 2)
  | ((with_reducible apply c_I); exact rfl; (with_reducible assumption)) | ((with_reducible apply c_I); exact rfl) | exact Nat.le_of_ble_eq_true rfl)
local macro_rules | `(tactic| walk_at "ev") => `(tactic| repeat (walk_at "ev1"))
local macro_rules | `(tactic| walk_at "rb") => `(tactic| repeat (first | (with_reducible exact rbs_nil) | (with_reducible apply rbs_cons) | (with_reducible exact rb_d _) | (with_reducible exact rb_r _) | ((with_reducible apply rb_ci); walk_at "hs") | ((with_reducible apply rb_ce); walk_at "hs") | (with_reducible assumption)))
local macro_rules | `(tactic| walk_at "nc") => `(tactic| (simp only [nice_l, nice_t, nice_i, nice_n, nice_tup, mem_map, implies_true, forall_const, List.forall_mem_cons, List.not_mem_nil, false_implies, and_true, true_and]; done))
-- import EV6 Dens V193
/-! ### comprehensions with two for -/
section
variable {α β : Type} {ρ : En} {S1 : Sto}
theorem set_last {S : Sto} {o u : OC} : (S ++ [o]).set S.length u = S ++ [u] := by
  rw [List.set_append_right _ _ (Nat.le_refl _), Nat.sub_self]
  rfl
theorem lci_map {jt : ItA} {g : GV} {d : EV} {l : List β} {G f : β → AV} (hat : ∀ acc i (h : i < l.length), jt.at_ (S1 ++ [.lst acc]) i = some (some (G l[i]))) (hend : ∀ acc, jt.at_ (S1 ++ [.lst acc]) l.length = some none)
    (body : ∀ z ∈ l, ∀ acc, ∃ ρ1, g (G z) ρ (S1 ++ [.lst acc]) = .ok ρ1 (S1 ++ [.lst acc]) ∧ d ρ1 (S1 ++ [.lst acc]) = .ok (f z) (S1 ++ [.lst acc])) :
    ∀ (n i k : Nat) (acc : List AV), i + n = l.length → n < k → acc.length + n ≤ 1000 → lcI jt g bYes d S1.length ρ k i (S1 ++ [.lst acc]) = .ok () (S1 ++ [.lst (acc ++ (l.drop i).map f)]) := by
  intro n
  induction n with
  | zero =>
    intro i k acc hi hk _
    have : i = l.length := by omega
    subst this
    cases k with
    | zero => omega
    | succ k =>
      unfold lcI
      rw [hend, List.drop_length, List.map_nil, List.append_nil]
  | succ n ih =>
    intro i k acc hi hk ha
    cases k with
    | zero => omega
    | succ k =>
      have hlt : i < l.length := by omega
      obtain ⟨ρ1, b1, b2⟩ := body l[i] (List.getElem_mem hlt) acc
      unfold lcI
      rw [hat acc i hlt]
      simp only [b1, bind_ok]
      rw [show bYes ρ1 (S1 ++ [OC.lst acc]) = .ok true (S1 ++ [OC.lst acc]) from rfl, bind_ok, if_pos rfl, b2, bind_ok, show (S1 ++ [OC.lst acc])[S1.length]? = some (.lst acc) from app0 rfl]
      simp only
      rw [if_pos (by omega), set_last, ih (i + 1) k (acc ++ [f l[i]]) (by omega) (by omega) (by rw [List.length_append]; show acc.length + 1 + n ≤ 1000; omega), List.drop_eq_getElem_cons hlt, List.map_cons, List.append_assoc]
      rfl
theorem lc2_map {S : Sto} {it it1 : IV} {jt : ItA} {g g1 : GV} {d : EV} {vs vs1 : List Nat} {l : List α} {F : α → AV} {M : α → List β} {G : α → β → AV} {f : α → β → AV} (hit : it ρ S = .ok jt S1) (hn : l.length ≤ 1000) (ht : (l.map fun z => (M z).length).sum ≤ 1000)
    (hat : ∀ acc i (h : i < l.length), jt.at_ (S1 ++ [.lst acc]) i = some (some (F l[i]))) (hend : ∀ acc, jt.at_ (S1 ++ [.lst acc]) l.length = some none)
    (body : ∀ z ∈ l, ∃ ρ1 j1, (∀ acc, g (F z) (wipeA ρ vs) (S1 ++ [.lst acc]) = .ok ρ1 (S1 ++ [.lst acc]) ∧ it1 ρ1 (S1 ++ [.lst acc]) = .ok j1 (S1 ++ [.lst acc]) ∧ (∀ i (h : i < (M z).length), j1.at_ (S1 ++ [.lst acc]) i = some (some (G z (M z)[i]))) ∧ j1.at_ (S1 ++ [.lst acc]) (M z).length = some none) ∧
      (∀ y ∈ M z, ∀ acc, ∃ ρ2, g1 (G z y) (wipeA ρ1 vs1) (S1 ++ [.lst acc]) = .ok ρ2 (S1 ++ [.lst acc]) ∧ d ρ2 (S1 ++ [.lst acc]) = .ok (f z y) (S1 ++ [.lst acc]))) :
    eLc2 it g bYes it1 g1 bYes d vs vs1 ρ S = .ok (.c S1.length) (S1 ++ [.lst ((l.map fun z => (M z).map (f z)).flatten)]) := by
  have go : ∀ (n i k : Nat) (acc : List AV), i + n = l.length → n < k → acc.length + ((l.drop i).map fun z => (M z).length).sum ≤ 1000 → lcO jt g bYes it1 g1 bYes d vs1 S1.length (wipeA ρ vs) k i (S1 ++ [.lst acc]) = .ok (.c S1.length) (S1 ++ [.lst (acc ++ ((l.drop i).map fun z => (M z).map (f z)).flatten)]) := by
    intro n
    induction n with
    | zero =>
      intro i k acc hi hk _
      have : i = l.length := by omega
      subst this
      cases k with
      | zero => omega
      | succ k =>
        unfold lcO
        rw [hend, List.drop_length, List.map_nil, List.flatten_nil, List.append_nil]
    | succ n ih =>
      intro i k acc hi hk ha
      cases k with
      | zero => omega
      | succ k =>
        have hlt : i < l.length := by omega
        obtain ⟨ρ1, j1, b1, b2⟩ := body l[i] (List.getElem_mem hlt)
        rw [List.drop_eq_getElem_cons hlt] at ha ⊢
        rw [List.map_cons, List.sum_cons] at ha
        obtain ⟨c1, c2, _, _⟩ := b1 acc
        have inner := lci_map (ρ := wipeA ρ1 vs1) (S1 := S1) (jt := j1) (g := g1) (d := d) (l := M l[i]) (G := G l[i]) (f := f l[i]) (fun acc i h => (b1 acc).2.2.1 i h) (fun acc => (b1 acc).2.2.2) b2 (M l[i]).length 0 bigN acc (by omega) (by unfold bigN; omega) (by omega)
        rw [List.drop_zero] at inner
        unfold lcO
        rw [hat acc i hlt]
        simp only [c1, bind_ok]
        rw [show bYes ρ1 (S1 ++ [OC.lst acc]) = .ok true (S1 ++ [OC.lst acc]) from rfl, bind_ok, if_pos rfl, c2, bind_ok, inner, bind_ok, ih (i + 1) k _ (by omega) (by omega) (by rw [List.length_append, List.length_map]; omega), List.map_cons, List.flatten_cons, List.append_assoc]
  unfold eLc2
  rw [hit, bind_ok, go l.length 0 bigN [] (by omega) (by unfold bigN; omega) (by rw [List.drop_zero]; show 0 + _ ≤ 1000; omega), List.drop_zero, List.nil_append]
end


end
section
local macro_rules | `(tactic| walk_at "hs") => `(tactic| first | (with_reducible assumption) | exact rfl | (apply get_set; walk_at "hs"))
local macro_rules | `(tactic| walk_at "lk") => `(tactic| first | (with_reducible exact l_rI) | (with_reducible exact l_dI) | (with_reducible exact l_rE) | (with_reducible exact l_dE) | ((with_reducible apply l_c); walk_at "hs") | (with_reducible exact l_d) | (with_reducible exact l_r) | (with_reducible assumption))
local macro_rules | `(tactic| walk_at "lt") => `(tactic| first | (with_reducible exact lT_eR) | (with_reducible exact lT_eA) | (with_reducible exact lT_d) | (with_reducible exact lT_r) | (with_reducible assumption) | exact rfl)
local macro_rules | `(tactic| walk_at "ev1") => `(tactic| first
  | (with_reducible exact v_k) | (with_reducible exact a_nil) | (with_reducible exact g_nm) | (with_reducible exact v_I) | (with_reducible exact v_neg) | (with_reducible exact int_i) | (with_reducible exact int_b) | (with_reducible exact abs_i) | (with_reducible exact i2) | (with_reducible exact g_sN) | (with_reducible exact isN_n)
  | ((with_reducible apply v_var); exact rfl) | (with_reducible assumption)
  | (with_reducible apply v_op) | (with_reducible apply v_un) | (with_reducible apply a_cons) | (with_reducible apply v_cb) | (with_reducible apply v_call) | (with_reducible apply t_b) | (with_reducible apply v_tup) | (with_reducible apply v_lst) | (with_reducible apply g_sb)
  | ((with_reducible apply v_IC); first | decide | exact Or.inl (by decide) | exact ⟨by decide, by decide⟩ | exact ⟨by decide, by decide, by decide⟩ | (with_reducible assumption) | rotate_left)
  | ((with_reducible apply v_ix); walk_at "lk") | ((with_reducible apply v_ixT); exact rfl; walk_at "lt")
  | ((with_reducible apply len_c); walk_at "hs") | ((with_reducible apply len_l); walk_at "lk")
  | ((with_reducible apply set_c); walk_at "hs") | ((with_reducible apply b_append); walk_at "hs")
  | ((with_reducible apply tup3_lt'); exact rfl) | ((with_reducible apply v_isN); exact rfl) | ((with_reducible apply v_notN); exact rfl)
  | (with_reducible exact fEq_intF) | (with_reducible exact fEq_intT) | exact at_cd (by omega)
  | exact at0 | exact at1 | exact at2 | exact at3 | exact ix0 | exact ix1 | exact ix2 | exact ix3
  | ((with_reducible apply g_tp); walk_at "lt"; exact rfl) | (with_reducible apply g_sC)
  | exact atI_ints (by omega) (by omega) | (refine atI_ints ?_ ?_; rotate_left 2) | exact atI_last | exact atI_any (by omega) (by omega) | (refine atI_any ?_ ?_; rotate_left 2)
  | ((with_reducible apply c_I); exact rfl; (with_reducible assumption)) | ((with_reducible apply c_I); exact rfl) | exact Nat.le_of_ble_eq_true rfl)
local macro_rules | `(tactic| walk_at "ev") => `(tactic| repeat (walk_at "ev1"))
local macro_rules | `(tactic| walk_at "rb") => `(tactic| repeat (first | (with_reducible exact rbs_nil) | (with_reducible apply rbs_cons) | (with_reducible exact rb_d _) | (with_reducible exact rb_r _) | ((with_reducible apply rb_ci); walk_at "hs") | ((with_reducible apply rb_ce); walk_at "hs") | (with_reducible assumption)))
local macro_rules | `(tactic| walk_at "nc") => `(tactic| (simp only [nice_l, nice_t, nice_i, nice_n, nice_tup, mem_map, implies_true, forall_const, List.forall_mem_cons, List.not_mem_nil, false_implies, and_true, true_and]; done))
-- import EV6 Dens V194 V34
/-! ### k56: told piles and where they begin -/
def RP : List (List Int) → Prop
  | [] => True
  | p :: r => (p ≠ [] ∧ p.Pairwise (· ≤ ·)) ∧ (∀ q r', r = q :: r' → q.getD 0 0 < p.getD (p.length - 1) 0) ∧ RP r
def bgL (PS : List (List Int)) : List Bool := (PS.map fun p => (List.range p.length).map fun i => decide (i = 0)).flatten
theorem getD_l {a b : List Int} {i : Nat} (h : i < a.length) : (a ++ b).getD i 0 = a.getD i 0 := by
  rw [List.getD_eq_getElem?_getD, List.getElem?_append_left h, ← List.getD_eq_getElem?_getD]
theorem getD_r {a b : List Int} {i : Nat} (h : a.length ≤ i) : (a ++ b).getD i 0 = b.getD (i - a.length) 0 := by
  rw [List.getD_eq_getElem?_getD, List.getElem?_append_right h, ← List.getD_eq_getElem?_getD]
theorem asc_le {p : List Int} (h : p.Pairwise (· ≤ ·)) {i j : Nat} (hij : i ≤ j) (hj : j < p.length) : p.getD i 0 ≤ p.getD j 0 := by
  have e1 : p.getD i 0 = p[i]'(by omega) := by rw [List.getD_eq_getElem?_getD, List.getElem?_eq_getElem (by omega)]; rfl
  have e2 : p.getD j 0 = p[j] := by rw [List.getD_eq_getElem?_getD, List.getElem?_eq_getElem hj]; rfl
  rw [e1, e2]
  rcases Nat.eq_or_lt_of_le hij with e | e
  · subst e; exact Int.le_refl _
  · exact List.pairwise_iff_getElem.mp h i j (by omega) hj e
theorem bg_at : ∀ (PS : List (List Int)), RP PS → ∀ i, i < PS.flatten.length → (bgL PS)[i]? = some (decide (i = 0 ∨ PS.flatten.getD i 0 < PS.flatten.getD (i - 1) 0))
  | [], _, i, h => absurd h (Nat.not_lt_zero _)
  | p :: r, ⟨⟨ne, asc⟩, nx, rr⟩, i, h => by
    have hp : 0 < p.length := List.length_pos_iff.mpr ne
    show ((List.range p.length).map (fun i => decide (i = 0)) ++ bgL r)[i]? = some (decide (i = 0 ∨ (p ++ r.flatten).getD i 0 < (p ++ r.flatten).getD (i - 1) 0))
    by_cases c : i < p.length
    · rw [List.getElem?_append_left (by rw [List.length_map, List.length_range]; exact c), List.getElem?_map, List.getElem?_range c, getD_l c, getD_l (by omega)]
      have := asc_le asc (show i - 1 ≤ i by omega) c
      exact congrArg some (decide_eq_decide.mpr ⟨fun e => .inl e, fun e => by omega⟩)
    · have h : i < (p ++ r.flatten).length := h
      rw [List.length_append] at h
      rw [List.getElem?_append_right (by rw [List.length_map, List.length_range]; omega), List.length_map, List.length_range, bg_at r rr (i - p.length) (by omega), getD_r (by omega)]
      refine congrArg some (decide_eq_decide.mpr ?_)
      by_cases z : i = p.length
      · subst z
        rw [Nat.sub_self, getD_l (show p.length - 1 < p.length by omega)]
        have : r.flatten.getD 0 0 < p.getD (p.length - 1) 0 := by
          cases r with
          | nil => simp at h
          | cons q r' =>
            have a := nx q r' rfl
            have qne : 0 < q.length := List.length_pos_iff.mpr rr.1.1
            show (q ++ r'.flatten).getD 0 0 < _
            rw [getD_l qne]
            exact a
        exact ⟨fun _ => .inr this, fun _ => .inl rfl⟩
      · rw [getD_r (show p.length ≤ i - 1 by omega), show i - 1 - p.length = i - p.length - 1 by omega]
        constructor
        · rintro (e | e)
          · omega
          · exact .inr e
        · rintro (e | e)
          · omega
          · exact .inr e
def goesB (cs : List Int) (i : Nat) (c : Int) : Bool := if i = 0 then decide (c < cs.getD 0 0) else if cs.getD i 0 < cs.getD (i - 1) 0 then decide (c < cs.getD i 0) || decide (cs.getD (i - 1) 0 ≤ c) else decide (cs.getD (i - 1) 0 ≤ c) && decide (c < cs.getD i 0)
abbrev boolsD (l : List Bool) : PyData := .list (l.map .bool)
theorem v_chain1 {f g : AV → AV → Sto → Res AV} {da db dc : EV} {ρ : En} {S S1 S2 S3 S4 : Sto} {x y u z : AV} (ha : da ρ S = .ok x S1) (hb : db ρ S1 = .ok y S2) (hf : f x y S2 = .ok (.d (.bool true)) S3) (hc : dc ρ S3 = .ok u S4) {S5 : Sto} (hg : g y u S4 = .ok z S5) : eChain f g da db dc ρ S = .ok z S5 := by
  unfold eChain
  rw [ha, bind_ok, hb, bind_ok, hf, bind_ok]
  show (dc ρ S3).bind _ = _
  rw [hc, bind_ok, hg]
theorem v_chain0 {f g : AV → AV → Sto → Res AV} {da db dc : EV} {ρ : En} {S S1 S2 S3 : Sto} {x y : AV} (ha : da ρ S = .ok x S1) (hb : db ρ S1 = .ok y S2) (hf : f x y S2 = .ok (.d (.bool false)) S3) : eChain f g da db dc ρ S = .ok (bA false) S3 := by
  unfold eChain
  rw [ha, bind_ok, hb, bind_ok, hf, bind_ok]
  rfl
theorem v_goesFirst {cs : List Int} {bg : List Bool} {i : Nat} {c : Int} (hi : i < cs.length) (hb : bg[i]? = some (decide (i = 0 ∨ cs.getD i 0 < cs.getD (i - 1) 0))) : RunP den__goes_first [intsD cs, boolsD bg, .int (i : Int), .int c] (.bool (goesB cs i c)) := by
  have main : Ret (den__goes_first [.r (intsD cs), .r (boolsD bg), .d (.int (i : Int)), .d (.int c)] []) fun v T => v = .d (.bool (goesB cs i c)) := by
    refine w_fn ?_
    have ga : ∀ j, j < cs.length → atI (isA cs) (j : Int) = some (.d (.int (cs.getD j 0))) := fun j hj => atI_nat (by unfold isA; rw [List.getElem?_map, List.getElem?_eq_getElem hj, List.getD_eq_getElem?_getD, List.getElem?_eq_getElem hj]; rfl)
    unfold goesB
    apply w_seq
    apply w_as (v_op (v_var rfl) (v_var rfl) (v_ix l_rI (ga i hi))) g_nm
    apply w_nx
    apply w_seq
    refine w_if (t_b (v_op (v_var rfl) v_k v_I)) (fun hq => ?_) fun hq => ?_
    · have q : i = 0 := by have := of_decide_eq_true hq; omega
      subst q
      rw [if_pos rfl]
      exact w_rt (v_op (v_var rfl) (v_var rfl) v_I) rfl
    · have q : i ≠ 0 := by have := of_decide_eq_false hq; omega
      rw [if_neg q]
      apply w_dNx
      apply w_nx
      apply w_seq
      have gp : ∀ (ρ : En), ρ[0]? = some (some (.r (intsD cs))) → ρ[2]? = some (some (.d (.int (i : Int)))) → eOp fIx (eVar 0) (eOp (fI fun i j => .int (i - j)) (eVar 2) (eK (iA 1))) ρ [] = .ok (.d (.int (cs.getD (i - 1) 0))) [] := fun ρ a b => v_op (v_var a) (v_op (v_var b) v_k v_I) (v_ix l_rI (by rw [show (i : Int) - 1 = ((i - 1 : Nat) : Int) by omega]; exact ga (i - 1) (by omega)))
      have gb : atI ((bg.map PyData.bool).map rel) (i : Int) = some (.d (.bool (decide (i = 0 ∨ cs.getD i 0 < cs.getD (i - 1) 0)))) := atI_nat (by rw [List.getElem?_map, List.getElem?_map, hb]; rfl)
      refine w_if (t_b (v_op (v_var rfl) (v_var rfl) (v_ix l_r gb))) (fun hq => ?_) fun hq => ?_
      · have l := (of_decide_eq_true hq).resolve_left q
        rw [if_pos l]
        have g2 := gp [some (.r (intsD cs)), some (.r (boolsD bg)), some (.d (.int (i : Int))), some (.d (.int c)), some (.d (.int (cs.getD i 0)))] rfl rfl
        by_cases c1 : c < cs.getD i 0
        · rw [decide_eq_true c1, Bool.true_or]
          exact w_rt (v_or1 ((v_op (v_var rfl) (v_var rfl) v_I).trans (by rw [decide_eq_true c1]))) rfl
        · rw [decide_eq_false c1, Bool.false_or]
          exact w_rt (v_or0 ((v_op (v_var rfl) (v_var rfl) v_I).trans (by rw [decide_eq_false c1])) (v_op (v_var rfl) g2 v_I)) rfl
      · have l : ¬ cs.getD i 0 < cs.getD (i - 1) 0 := fun e => of_decide_eq_false hq (.inr e)
        rw [if_neg l]
        apply w_dNx
        apply w_nx
        have g2 := gp [some (.r (intsD cs)), some (.r (boolsD bg)), some (.d (.int (i : Int))), some (.d (.int c)), some (.d (.int (cs.getD i 0)))] rfl rfl
        by_cases c1 : cs.getD (i - 1) 0 ≤ c
        · rw [decide_eq_true c1, Bool.true_and]
          exact w_rt (v_chain1 g2 (v_var rfl) (v_I.trans (by rw [decide_eq_true c1])) (v_var rfl) v_I) rfl
        · rw [decide_eq_false c1, Bool.false_and]
          exact w_rt (v_chain0 g2 (v_var rfl) (v_I.trans (by rw [decide_eq_false c1]))) rfl
  obtain ⟨v, T, e, rfl⟩ := main
  exact runP_of e (rb_d _)


end
section
local macro_rules | `(tactic| walk_at "hs") => `(tactic| first | (with_reducible assumption) | exact rfl | (apply get_set; walk_at "hs"))
local macro_rules | `(tactic| walk_at "lk") => `(tactic| first | (with_reducible exact l_rI) | (with_reducible exact l_dI) | (with_reducible exact l_rE) | (with_reducible exact l_dE) | ((with_reducible apply l_c); walk_at "hs") | (with_reducible exact l_d) | (with_reducible exact l_r) | (with_reducible assumption))
local macro_rules | `(tactic| walk_at "lt") => `(tactic| first | (with_reducible exact lT_eR) | (with_reducible exact lT_eA) | (with_reducible exact lT_d) | (with_reducible exact lT_r) | (with_reducible assumption) | exact rfl)
local macro_rules | `(tactic| walk_at "ev1") => `(tactic| first
  | (with_reducible exact v_k) | (with_reducible exact a_nil) | (with_reducible exact g_nm) | (with_reducible exact v_I) | (with_reducible exact v_neg) | (with_reducible exact int_i) | (with_reducible exact int_b) | (with_reducible exact abs_i) | (with_reducible exact i2) | (with_reducible exact g_sN) | (with_reducible exact isN_n)
  | ((with_reducible apply v_var); exact rfl) | (with_reducible assumption)
  | (with_reducible apply v_op) | (with_reducible apply v_un) | (with_reducible apply a_cons) | (with_reducible apply v_cb) | (with_reducible apply v_call) | (with_reducible apply t_b) | (with_reducible apply v_tup) | (with_reducible apply v_lst) | (with_reducible apply g_sb)
  | ((with_reducible apply v_IC); first | decide | exact Or.inl (by decide) | exact ⟨by decide, by decide⟩ | exact ⟨by decide, by decide, by decide⟩ | (with_reducible assumption) | rotate_left)
  | ((with_reducible apply v_ix); walk_at "lk") | ((with_reducible apply v_ixT); exact rfl; walk_at "lt")
  | ((with_reducible apply len_c); walk_at "hs") | ((with_reducible apply len_l); walk_at "lk")
  | ((with_reducible apply set_c); walk_at "hs") | ((with_reducible apply b_append); walk_at "hs")
  | ((with_reducible apply tup3_lt'); exact rfl) | ((with_reducible apply v_isN); exact rfl) | ((with_reducible apply v_notN); exact rfl)
  | (with_reducible exact fEq_intF) | (with_reducible exact fEq_intT) | exact at_cd (by omega)
  | exact at0 | exact at1 | exact at2 | exact at3 | exact ix0 | exact ix1 | exact ix2 | exact ix3
  | ((with_reducible apply g_tp); walk_at "lt"; exact rfl) | (with_reducible apply g_sC)
  | exact atI_ints (by omega) (by omega) | (refine atI_ints ?_ ?_; rotate_left 2) | exact atI_last | exact atI_any (by omega) (by omega) | (refine atI_any ?_ ?_; rotate_left 2)
  | ((with_reducible apply c_I); exact rfl; (with_reducible assumption)) | ((with_reducible apply c_I); exact rfl) | exact Nat.le_of_ble_eq_true rfl)
local macro_rules | `(tactic| walk_at "ev") => `(tactic| repeat (walk_at "ev1"))
local macro_rules | `(tactic| walk_at "rb") => `(tactic| repeat (first | (with_reducible exact rbs_nil) | (with_reducible apply rbs_cons) | (with_reducible exact rb_d _) | (with_reducible exact rb_r _) | ((with_reducible apply rb_ci); walk_at "hs") | ((with_reducible apply rb_ce); walk_at "hs") | (with_reducible assumption)))
local macro_rules | `(tactic| walk_at "nc") => `(tactic| (simp only [nice_l, nice_t, nice_i, nice_n, nice_tup, mem_map, implies_true, forall_const, List.forall_mem_cons, List.not_mem_nil, false_implies, and_true, true_and]; done))
-- import EV6 Dens V195
/-! ### whether a card goes first, by the law -/
def lgP (last : List Int) (one : Int) : Bool := decide (last = []) || decide (last.getD 0 0 ≤ one)
def lgB (last : List Int) (there c : Int) : Bool := if [there, c].filter (lgP last) = [] then decide (c < there) else decide ((([there, c].filter (lgP last)).min?).getD 0 = c)
theorem lg_nil {there c : Int} (h : there ≠ c) : lgB [] there c = decide (c < there) := by
  have e : [there, c].filter (lgP []) = [there, c] := List.filter_eq_self.mpr fun _ _ => rfl
  unfold lgB
  rw [e, if_neg (by simp)]
  refine decide_eq_decide.mpr ?_
  show min there c = c ↔ _
  omega
theorem lg_one {l there c : Int} (h : there ≠ c) : lgB [l] there c = if there < l then decide (c < there) || decide (l ≤ c) else decide (l ≤ c) && decide (c < there) := by
  have p : ∀ x : Int, lgP [l] x = decide (l ≤ x) := fun x => by
    unfold lgP
    rw [decide_eq_false (by simp), Bool.false_or]
    rfl
  unfold lgB
  by_cases a : l ≤ there <;> by_cases b : l ≤ c
  · have e : [there, c].filter (lgP [l]) = [there, c] := by simp [p, a, b]
    rw [e, if_neg (by simp), if_neg (by omega), decide_eq_true b, Bool.true_and]
    refine decide_eq_decide.mpr ?_
    show min there c = c ↔ _
    omega
  · have e : [there, c].filter (lgP [l]) = [there] := by simp [p, a, b]
    rw [e, if_neg (by simp), if_neg (by omega), decide_eq_false b, Bool.false_and]
    exact decide_eq_false h
  · have e : [there, c].filter (lgP [l]) = [c] := by simp [p, a, b]
    rw [e, if_neg (by simp), if_pos (by omega), decide_eq_true b, Bool.or_true]
    exact decide_eq_true rfl
  · have e : [there, c].filter (lgP [l]) = [] := by simp [p, a, b]
    rw [e, if_pos rfl, if_pos (by omega), decide_eq_false b, Bool.or_false]
theorem goes_same {cs : List Int} {i : Nat} {c : Int} (h : cs.getD i 0 ≠ c) : lgB (if i = 0 then [] else [cs.getD (i - 1) 0]) (cs.getD i 0) c = goesB cs i c := by
  unfold goesB
  by_cases q : i = 0
  · subst q
    rw [if_pos rfl, if_pos rfl, lg_nil h]
  · rw [if_neg q, if_neg q, lg_one h]
theorem v_lawGoes {last : List Int} {there c : Int} (hl : last.length ≤ 1) : RunP den__law_goes [intsD last, .int there, .int c] (.bool (lgB last there c)) := by
  have main : Ret (den__law_goes [.r (intsD last), .d (.int there), .d (.int c)] []) fun v T => v = .d (.bool (lgB last there c)) := by
    refine w_fn ?_
    have eJ : ∀ ρ : En, ρ[1]? = some (some (.d (.int there))) → ρ[2]? = some (some (.d (.int c))) → jSeq (eFz (eLst (aCons (eVar 1) (aCons (eVar 2) aNil)))) ρ [] = .ok (.seq (.d (intsD [there, c]))) [] := fun ρ a b => j_seqDI (fz_list (S := []) (j := 0) (k := 0) (G := [.lst (isA [there, c])]) (ds := [.int there, .int c]) (v_lst (a_cons (v_var a) (a_cons (v_var b) a_nil)) (Nat.le_of_ble_eq_true rfl)) closed_nil rfl rfl)
    have eL := lc_filterA (ρ := [some (.r (intsD last)), some (.d (.int there)), some (.d (.int c)), none, none]) (S := []) (S1 := []) (it := jSeq (eFz (eLst (aCons (eVar 1) (aCons (eVar 2) aNil))))) (jt := .seq (.d (intsD [there, c]))) (g := gnm 4) (c := bGc (bOr (bE (eOp (fEq false) (eVar 0) (eLst aNil))) (bE (eOp (fI fun i j => .bool (decide (j ≤ i))) (eVar 4) (eOp fIx (eVar 0) (eK (iA 0))))))) (d := eVar 4) (vs := [4]) (l := [there, c]) (F := fun z => AV.d (.int z)) (f := fun z => AV.d (.int z)) (lgP last)
      (eJ _ rfl rfl) (Nat.le_of_ble_eq_true rfl) (fun acc i hi => it_d (F := PyData.int) hi) (fun acc => it_dE) (fun z acc k hz ha => ⟨_, g_nm, by
        have dA : Dat (.lst acc) := ⟨acc, rfl, fun x hx => by rw [ha] at hx; obtain ⟨_, _, rfl⟩ := List.mem_map.mp hx; exact ⟨_, rfl⟩⟩
        have cl : closed 1 [OC.lst acc] := closed_dat0 fun oc ho => by rw [List.mem_singleton.mp ho]; exact dA
        refine bg_list (S := [.lst acc]) (G := [.lst []]) ?_ cl
        have f1 : eOp (fEq false) (eVar 0) (eLst aNil) [some (.r (intsD last)), some (.d (.int there)), some (.d (.int c)), none, some (.d (.int z))] [.lst acc] = .ok (.d (.bool (decide (last = [])))) [.lst acc, .lst []] := v_op (v_var rfl) (v_lst a_nil (Nat.zero_le _)) ((fEq_ints (a := last) (b := []) (rb_r 8) (rb_ci (k := 7) (ns := []) rfl)).trans (by rw [if_neg (by decide)]; rfl))
        unfold lgP
        by_cases q : last = []
        · rw [decide_eq_true q, Bool.true_or]
          exact t_or1' (t_b f1) (decide_eq_true q)
        · rw [decide_eq_false q, Bool.false_or]
          have h0 : 0 < last.length := List.length_pos_iff.mpr q
          have a0 : atI (isA last) ((0 : Nat) : Int) = some (.d (.int (last.getD 0 0))) := atI_nat (by unfold isA; rw [List.getElem?_map, List.getElem?_eq_getElem h0, List.getD_eq_getElem?_getD, List.getElem?_eq_getElem h0]; rfl)
          exact t_or0' (t_b f1) (decide_eq_false q) (t_b (v_op (v_var rfl) (v_op (v_var rfl) v_k (v_ix l_rI a0)) v_I)), fun _ => v_var rfl⟩)
    unfold lgB
    generalize hft : [there, c].filter (lgP last) = ft at *
    have e3 : eFz (eLc (jSeq (eFz (eLst (aCons (eVar 1) (aCons (eVar 2) aNil))))) (gnm 4) (bGc (bOr (bE (eOp (fEq false) (eVar 0) (eLst aNil))) (bE (eOp (fI fun i j => .bool (decide (j ≤ i))) (eVar 4) (eOp fIx (eVar 0) (eK (iA 0))))))) (eVar 4) [4]) [some (.r (intsD last)), some (.d (.int there)), some (.d (.int c)), none, none] [] = .ok (.d (intsD ft)) [] :=
      fz_list (S := []) (j := 0) (k := 0) (G := [.lst (ft.map fun z => AV.d (.int z))]) (ds := ft.map .int) eL closed_nil rfl (by rw [List.map_map]; rfl)
    apply w_seq
    apply w_as e3 g_nm
    apply w_nx
    apply w_seq
    have c3 : bGc (bE (eOp (fEq false) (eVar 3) (eLst aNil))) [some (.r (intsD last)), some (.d (.int there)), some (.d (.int c)), some (.d (intsD ft)), none] [] = .ok (decide (ft = [])) [] :=
      bg_list (S := []) (G := [.lst []]) (t_b (v_op (v_var rfl) (v_lst a_nil (Nat.zero_le _)) ((fEq_ints (a := ft) (b := []) (rb_d 8) (rb_ci (k := 7) (ns := []) rfl)).trans (by rw [if_neg (by decide)])))) closed_nil
    refine w_if c3 (fun hq => ?_) fun hq => ?_
    · rw [if_pos (of_decide_eq_true hq)]
      exact w_rt (v_op (v_var rfl) (v_var rfl) v_I) rfl
    · have q := of_decide_eq_false hq
      rw [if_neg q]
      apply w_dNx
      apply w_nx
      obtain ⟨m, hm⟩ : ∃ m, ft.min? = some m := by
        cases h : ft.min? with
        | none => exact absurd (List.min?_eq_none_iff.mp h) q
        | some m => exact ⟨m, rfl⟩
      rw [hm]
      exact w_rt (v_op (v_cb (a_cons (v_var rfl) a_nil) (ints_of l_dI (by rw [hm]; rfl))) (v_var rfl) v_I) rfl
  obtain ⟨v, T, e, rfl⟩ := main
  exact runP_of e (rb_d _)


end
section
local macro_rules | `(tactic| walk_at "hs") => `(tactic| first | (with_reducible assumption) | exact rfl | (apply get_set; walk_at "hs"))
local macro_rules | `(tactic| walk_at "lk") => `(tactic| first | (with_reducible exact l_rI) | (with_reducible exact l_dI) | (with_reducible exact l_rE) | (with_reducible exact l_dE) | ((with_reducible apply l_c); walk_at "hs") | (with_reducible exact l_d) | (with_reducible exact l_r) | (with_reducible assumption))
local macro_rules | `(tactic| walk_at "lt") => `(tactic| first | (with_reducible exact lT_eR) | (with_reducible exact lT_eA) | (with_reducible exact lT_d) | (with_reducible exact lT_r) | (with_reducible assumption) | exact rfl)
local macro_rules | `(tactic| walk_at "ev1") => `(tactic| first
  | (with_reducible exact v_k) | (with_reducible exact a_nil) | (with_reducible exact g_nm) | (with_reducible exact v_I) | (with_reducible exact v_neg) | (with_reducible exact int_i) | (with_reducible exact int_b) | (with_reducible exact abs_i) | (with_reducible exact i2) | (with_reducible exact g_sN) | (with_reducible exact isN_n)
  | ((with_reducible apply v_var); exact rfl) | (with_reducible assumption)
  | (with_reducible apply v_op) | (with_reducible apply v_un) | (with_reducible apply a_cons) | (with_reducible apply v_cb) | (with_reducible apply v_call) | (with_reducible apply t_b) | (with_reducible apply v_tup) | (with_reducible apply v_lst) | (with_reducible apply g_sb)
  | ((with_reducible apply v_IC); first | decide | exact Or.inl (by decide) | exact ⟨by decide, by decide⟩ | exact ⟨by decide, by decide, by decide⟩ | (with_reducible assumption) | rotate_left)
  | ((with_reducible apply v_ix); walk_at "lk") | ((with_reducible apply v_ixT); exact rfl; walk_at "lt")
  | ((with_reducible apply len_c); walk_at "hs") | ((with_reducible apply len_l); walk_at "lk")
  | ((with_reducible apply set_c); walk_at "hs") | ((with_reducible apply b_append); walk_at "hs")
  | ((with_reducible apply tup3_lt'); exact rfl) | ((with_reducible apply v_isN); exact rfl) | ((with_reducible apply v_notN); exact rfl)
  | (with_reducible exact fEq_intF) | (with_reducible exact fEq_intT) | exact at_cd (by omega)
  | exact at0 | exact at1 | exact at2 | exact at3 | exact ix0 | exact ix1 | exact ix2 | exact ix3
  | ((with_reducible apply g_tp); walk_at "lt"; exact rfl) | (with_reducible apply g_sC)
  | exact atI_ints (by omega) (by omega) | (refine atI_ints ?_ ?_; rotate_left 2) | exact atI_last | exact atI_any (by omega) (by omega) | (refine atI_any ?_ ?_; rotate_left 2)
  | ((with_reducible apply c_I); exact rfl; (with_reducible assumption)) | ((with_reducible apply c_I); exact rfl) | exact Nat.le_of_ble_eq_true rfl)
local macro_rules | `(tactic| walk_at "ev") => `(tactic| repeat (walk_at "ev1"))
local macro_rules | `(tactic| walk_at "rb") => `(tactic| repeat (first | (with_reducible exact rbs_nil) | (with_reducible apply rbs_cons) | (with_reducible exact rb_d _) | (with_reducible exact rb_r _) | ((with_reducible apply rb_ci); walk_at "hs") | ((with_reducible apply rb_ce); walk_at "hs") | (with_reducible assumption)))
local macro_rules | `(tactic| walk_at "nc") => `(tactic| (simp only [nice_l, nice_t, nice_i, nice_n, nice_tup, mem_map, implies_true, forall_const, List.forall_mem_cons, List.not_mem_nil, false_implies, and_true, true_and]; done))
-- import EV6 Dens V196 V24
/-! ### the windows of told piles -/
def firstT (cs : List Int) (size : Int) (c : Int) : Nat → Int
  | 0 => 0
  | i + 1 => if goesB cs i c = true then size + (i : Int) else firstT cs size c i
def spanT (cs : List Int) (size : Int) (k : Nat) : Int × Int := (firstT cs size (cs.getD k 0) k, if size + (k : Int) - 1 < (cs.length : Int) - 1 then size + (k : Int) - 1 else (cs.length : Int) - 1)
abbrev spansL (cs : List Int) (size : Int) : List (Int × Int) := (List.range cs.length).map (spanT cs size)
theorem getD_at {cs : List Int} {j : Nat} (hj : j < cs.length) : atI (isA cs) (j : Int) = some (.d (.int (cs.getD j 0))) := atI_nat (by unfold isA; rw [List.getElem?_map, List.getElem?_eq_getElem hj, List.getD_eq_getElem?_getD, List.getElem?_eq_getElem hj]; rfl)
theorem nd_ne {cs : List Int} (h : cs.Nodup) {i k : Nat} (hi : i < k) (hk : k < cs.length) : cs.getD i 0 ≠ cs.getD k 0 := by
  have e1 : cs.getD i 0 = cs[i]'(by omega) := by rw [List.getD_eq_getElem?_getD, List.getElem?_eq_getElem (by omega)]; rfl
  have e2 : cs.getD k 0 = cs[k] := by rw [List.getD_eq_getElem?_getD, List.getElem?_eq_getElem hk]; rfl
  rw [e1, e2]
  exact List.pairwise_iff_getElem.mp h i k (by omega) hk hi
theorem last_slice {cs : List Int} {i : Nat} (hi : i < cs.length) : ((isA cs).drop (min (i - 1) (isA cs).length)).take (min i (isA cs).length - min (i - 1) (isA cs).length) = isA (if i = 0 then [] else [cs.getD (i - 1) 0]) := by
  have ll : (isA cs).length = cs.length := List.length_map _
  rw [ll, Nat.min_eq_left (by omega), Nat.min_eq_left (by omega)]
  by_cases q : i = 0
  · subst q; rfl
  · rw [if_neg q, show i - (i - 1) = 1 by omega]
    unfold isA
    rw [← List.map_drop, ← List.map_take, List.drop_eq_getElem_cons (by omega), List.take_succ_cons, List.take_zero, List.getD_eq_getElem?_getD, List.getElem?_eq_getElem (by omega)]
    rfl
theorem flat_snoc {PS : List (List Int)} {t : Nat} (ht : t < PS.length) : (PS.take (t + 1)).flatten = (PS.take t).flatten ++ PS[t] := by
  rw [List.take_add_one, List.getElem?_eq_getElem ht, List.flatten_append]
  simp
theorem v_lawSpans {PS : List (List Int)} {size : Int} (hl : PS.length ≤ 100) (hf : PS.flatten.length ≤ 100) (nd : PS.flatten.Nodup) : RunP den__law_spans [tblD PS, .int size] (entD (spansL PS.flatten size)) := by
  have flt : ∀ t, t ≤ PS.length → (PS.take t).flatten.length ≤ 100 := fun t _ => by
    have : PS.flatten = (PS.take t).flatten ++ (PS.drop t).flatten := by rw [← List.flatten_append, List.take_append_drop]
    have := congrArg List.length this
    rw [List.length_append] at this
    omega
  obtain ⟨cs, hcs⟩ : ∃ cs, cs = PS.flatten := ⟨_, rfl⟩
  have main : Ret (den__law_spans [.r (tblD PS), .d (.int size)] []) fun v T => v = .c 0 ∧ T = [.lst ((spansL cs size).map eA)] := by
    refine w_fn ?_
    apply w_seq
    apply w_as (fz_list (S := []) (j := 0) (k := 0) (G := [.lst []]) (ds := []) (v_lst a_nil (Nat.zero_le _)) closed_nil rfl rfl) g_nm
    apply w_nx
    apply w_mid (fun ρ T => T = [] ∧ ρ = [some (.r (tblD PS)), some (.d (.int size)), some (.d (intsD cs)), none, none, none, none, none])
    · apply w_fg
      refine w_forX (S1 := []) (jt := .seq (.r (tblD PS))) (I := fun t ρ T => T = [] ∧ ρ = [some (.r (tblD PS)), some (.d (.int size)), some (.d (intsD (PS.take t).flatten)), none, none, none, none, none]) PS.length (by omega) (by simp (disch := first | assumption | omega | walk_at "nc") only [x_get1, x_var, x_bok, x_bex, x_ook, x_oex, x_k, x_op, x_un, x_fI, x_fIC, x_fU, asI_i, asB_b, x_lookc, x_lookO, x_lookd, x_lookr, x_lookdt, x_lookrt, x_lookt, x_lookTd, x_lookTr, x_lookTt, x_cellL, x_relInt, x_relInts, x_dInt, x_isALen, rel_int, rel_bool, rel_none, rel_str, rel_list, rel_tup, x_ix, x_at0, x_at1, x_at2, x_at3, x_atL, x_atI, x_and, x_or, x_not, x_eif, x_bE, x_bAnd, x_bOr, x_bNot, x_bTru, x_bYes, x_iteOk, x_iteD, x_iteI, x_iteB, x_iteT, x_iteF, x_iteTp, x_iteFp, x_aNil, x_aCons, x_lst, x_tup, x_newL, x_mkT0, x_mkT1, x_mkT2, x_mkT3, x_mkT4, x_cb, x_call, x_callN, x_ck, x_bm, x_callI, x_noX, x_callP, x_callPK, x_callC, x_callCK, x_rbs0, x_rbs1, x_rbsK, x_rbd, x_rbr, x_rbc, x_rbCK, x_rbLK1, x_rbLK0, x_rbt, x_allD0, x_allD1, x_allDc, x_allDm, x_allDm', x_allDa, x_closed, x_ocM, x_ocM', x_ocA, x_ocC, x_oc0, x_ocO, x_rfd, x_rfr, x_rfg, x_rfc, x_env0, x_envN, x_envS, x_wipe0, x_wipe1, x_fz, x_fzK, x_frd, x_frr, x_frc, x_newS, x_gc, x_gcK, x_gcd, x_gcr, x_gcc, x_bgc, x_bgK, x_len, x_list, x_int, x_intb, x_abs, x_i2, x_ints, x_asInts, x_asInts0, x_asInts1, x_bools, x_asBools, x_append, x_pop, x_isN, x_notN, isN_n', isN_i, isN_b, isN_l, isN_t, isN_rl, isN_c, x_isB, x_rg1, x_rg2, x_oN, x_oS, x_sl, x_jSeq, x_jR1, x_jR2, x_jEn, x_jZp, W_seq, W_nxS, W_rtS, W_bkS, W_ctS, W_exS, W_nxI, W_rtI, W_bkI, W_ctI, W_as, x_gnm, x_gtp, x_gsN, x_gsC, x_gsb, x_fSet, x_ix0, x_ix1, x_ix10, x_ix20, x_ix21, x_ix30, x_ix31, x_ix32, x_ixI, W_ex, W_rt, W_rtN, W_if, W_dNx, W_dBk, W_dCt, W_au, W_auS, W_fg, W_nxC, W_ctC, W_rtC, W_bkC, W_nxL, W_ctL, W_bkL, W_rtL, W_rtK, W_nxK, x_CPow, x_CMul1, x_CMul2, x_CDiv, x_CDivW, x_rgOk, x_fEq, x_eqK, mapInt_inj, mapInt_nil, mapInts_inj, mapEnt_inj, ints_nil, x_isi, ty_di, ty_db, ty_dn, ty_ds, ty_dl, ty_dt, ty_rl, ty_rt, ty_c, tyO_l, isi_ii, isi_ib, isi_bb, isi_bi, isi_ll, isi_tl, isi_tt, isi_lt, isi_il, isi_nl, isi_ss, x_sort, x_sortK, x_cat, cut_toI, cut_fromI, x_ifno, x_ifno2, x_eqB, x_relNats, x_dNats, mapNat_inj, x_callD, x_callDK, x_rowsS, intsD, entD, natsD, PyData.list.injEq, PyData.tuple.injEq, PyData.int.injEq, PyData.bool.injEq, List.map_append, List.map_cons, List.map_nil, List.getElem?_cons_zero, List.getElem?_cons_succ, List.set_cons_zero, List.set_cons_succ, List.length_cons, List.length_nil, List.length_append, List.length_map, List.length_set, List.take_succ_cons, List.take_zero, List.nil_append, List.cons_append, List.append_nil, List.forall_mem_cons, List.not_mem_nil, List.getD_cons_zero, List.getD_cons_succ, Option.map_some, Option.bind_some, Nat.reduceAdd, Nat.reduceSub, Nat.reduceLT, Nat.reduceLeDiff, Nat.reduceEqDiff, Nat.zero_add, Nat.zero_le, Nat.le_refl, if_true, if_false, ite_true, ite_false, reduceIte, eq_self, true_and, and_true, true_or, or_true, false_or, or_false, decide_eq_true_eq, decide_true, decide_false, Bool.not_true, Bool.not_false, Bool.true_and, Bool.and_true, Bool.false_and, Bool.and_false, Bool.or_false, Bool.false_or, Bool.true_or, Bool.or_true, Bool.false_eq_true, false_implies, implies_true, forall_const, List.getElem?_set_self, List.set_set, Bool.decide_eq_true]) ⟨rfl, rfl⟩ ?_ ?_
      · rintro t ρ T ht ⟨rfl, rfl⟩
        refine ⟨_, it_r (F := fun p : List Int => PyData.list (p.map PyData.int)) (l := PS) ht, ?_⟩
        rw [flat_snoc ht]
        have f1 := flt (t + 1) ht
        rw [flat_snoc ht, List.length_append] at f1
        generalize (PS.take t).flatten = u at *
        generalize PS[t] = p at *
        simp only [x_gnm, x_ook, List.set_cons_succ, List.set_cons_zero]
        refine w_sc ?_
        have e : eFz (eOp fCat (eVar 2) (eVar 3)) [some (.r (tblD PS)), some (.d (.int size)), some (.d (intsD u)), some (.r (.list (p.map .int))), none, none, none, none] [] = .ok (.d (intsD (u ++ p))) [] := by
          refine fz_list (S := []) (j := 0) (k := 0) (G := [.lst (isA u ++ isA p)]) (ds := (u ++ p).map .int) (v_op (v_var rfl) (v_var rfl) (v_cat l_dI l_rI (by rw [List.length_map, List.length_map]; omega))) closed_nil rfl ?_
          show some (OC.lst _) = some (.lst _)
          rw [← isA_d]
          unfold isA
          rw [List.map_append]
        apply w_as e g_nm
        exact ⟨closed_nil, envOk_cons rf_r (envOk_cons rf_d (envOk_cons rf_d (envOk_cons rf_n (envOk_cons rf_n (envOk_cons rf_n (envOk_cons rf_n (envOk_cons rf_n envOk_nil))))))), rfl, rfl⟩
      · rintro ρ T ⟨rfl, rfl⟩
        refine ⟨it_rE (F := fun p : List Int => PyData.list (p.map PyData.int)) (l := PS), w_nxI ⟨rfl, ?_⟩⟩
        rw [List.take_length, hcs]
    rintro ρ T ⟨rfl, rfl⟩
    rw [← hcs] at nd hf
    apply w_seq
    apply w_as (gc_nil (S := []) closed_nil) g_nm
    apply w_nx
    apply w_seq
    apply w_fg
    have DE : ∀ es : List (Int × Int), Dat (.lst (es.map eA)) := fun es => ⟨_, rfl, fun x hx => by obtain ⟨_, _, rfl⟩ := List.mem_map.mp hx; exact ⟨_, rfl⟩⟩
    have CE : ∀ es : List (Int × Int), closed 1 [OC.lst (es.map eA)] := fun es => closed_dat0 fun oc ho => by rw [List.mem_singleton.mp ho]; exact DE es
    have lenC : ∀ (ρ : En) (T : Sto), ρ[2]? = some (some (.d (intsD cs))) → eCB fLen (aCons (eVar 2) aNil) ρ T = .ok (iA (cs.length : Int)) T := fun ρ T q => (v_cb (a_cons (v_var q) a_nil) (len_l l_dI)).trans (by rw [show (isA cs).length = cs.length from List.length_map _])
    refine w_forX (S1 := [.lst []]) (jt := .rng 0 cs.length) (I := fun t ρ T => T = [.lst (((List.range t).map (spanT cs size)).map eA)] ∧ ρ = [some (.r (tblD PS)), some (.d (.int size)), some (.d (intsD cs)), none, some (.c 0), none, none, none]) cs.length (by omega) (jR1_of (a_cons (lenC _ _ rfl) a_nil) rfl (by omega)) ⟨rfl, rfl⟩ ?_ ?_
    · rintro k ρ T hk ⟨rfl, rfl⟩
      refine ⟨_, it_rng hk, ?_⟩
      rw [Int.zero_add]
      simp only [x_gnm, x_ook, List.set_cons_succ, List.set_cons_zero]
      refine w_sc ?_
      have ls : ((List.range k).map (spanT cs size)).length = k := by rw [List.length_map, List.length_range]
      have sp : ((List.range (k + 1)).map (spanT cs size)).map eA = ((List.range k).map (spanT cs size)).map eA ++ [eA (spanT cs size k)] := by rw [List.range_succ, List.map_append, List.map_append]; rfl
      rw [sp]
      generalize (List.range k).map (spanT cs size) = es at *
      apply w_seq
      apply w_as v_k g_nm
      apply w_nx
      apply w_mid (fun ρ T => T = [.lst (es.map eA)] ∧ ρ = [some (.r (tblD PS)), some (.d (.int size)), some (.d (intsD cs)), none, some (.c 0), some (.d (.int (k : Int))), some (.d (.int (firstT cs size (cs.getD k 0) k))), none])
      · apply w_fg
        refine w_forX (S1 := [.lst (es.map eA)]) (jt := .rng 0 k) (I := fun i ρ T => T = [.lst (es.map eA)] ∧ ρ = [some (.r (tblD PS)), some (.d (.int size)), some (.d (intsD cs)), none, some (.c 0), some (.d (.int (k : Int))), some (.d (.int (firstT cs size (cs.getD k 0) i))), none]) k (by omega) (jR1_of (a_cons (v_var rfl) a_nil) rfl (by omega)) ⟨rfl, rfl⟩ ?_ ?_
        · rintro i ρ T hi ⟨rfl, rfl⟩
          refine ⟨_, it_rng hi, ?_⟩
          rw [Int.zero_add]
          simp only [x_gnm, x_ook, List.set_cons_succ, List.set_cons_zero]
          refine w_sc ?_
          have vg := v_lawGoes (last := if i = 0 then [] else [cs.getD (i - 1) 0]) (there := cs.getD i 0) (c := cs.getD k 0) (by split; exact Nat.zero_le _; exact Nat.le_refl _)
          rw [goes_same (nd_ne nd hi hk)] at vg
          have fs : firstT cs size (cs.getD k 0) (i + 1) = if goesB cs i (cs.getD k 0) = true then size + (i : Int) else firstT cs size (cs.getD k 0) i := rfl
          rw [fs]
          generalize firstT cs size (cs.getD k 0) i = fi at *
          generalize goesB cs i (cs.getD k 0) = gb at *
          have s1 := v_slMid (ρ := [some (.r (tblD PS)), some (.d (.int size)), some (.d (intsD cs)), none, some (.c 0), some (.d (.int (k : Int))), some (.d (.int fi)), some (.d (.int (i : Int)))]) (S := [.lst (es.map eA)]) (da := eVar 2) (db := eCB (fI2 fun i j => if j > i then j else i) (aCons (eK (iA 0)) (aCons (eOp (fI fun i j => .int (i - j)) (eVar 7) (eK (iA 1))) aNil))) (dc := eVar 7) (x := .d (intsD cs)) (i := i - 1) (j := i) (v_var rfl) ((v_cb (a_cons v_k (a_cons (v_op (v_var rfl) v_k v_I) a_nil)) i2).trans (by rw [show (if (i : Int) - 1 > 0 then (i : Int) - 1 else 0) = ((i - 1 : Nat) : Int) by split <;> omega])) (v_var rfl) l_dI
          rw [last_slice (by omega)] at s1
          have cnd : bGc (bE (eCall (fCallP 3 den__law_goes) (aCons (eSl (eVar 2) (oS (eCB (fI2 fun i j => if j > i then j else i) (aCons (eK (iA 0)) (aCons (eOp (fI fun i j => .int (i - j)) (eVar 7) (eK (iA 1))) aNil)))) (oS (eVar 7))) (aCons (eOp fIx (eVar 2) (eVar 7)) (aCons (eOp fIx (eVar 2) (eVar 5)) aNil))))) [some (.r (tblD PS)), some (.d (.int size)), some (.d (intsD cs)), none, some (.c 0), some (.d (.int (k : Int))), some (.d (.int fi)), some (.d (.int (i : Int)))] [.lst (es.map eA)] = .ok gb [.lst (es.map eA)] :=
            bg_list (S := [.lst (es.map eA)]) (G := [.lst (isA (if i = 0 then [] else [cs.getD (i - 1) 0]))]) (t_b (v_call (a_cons s1 (a_cons (v_op (v_var rfl) (v_var rfl) (v_ix l_dI (getD_at (by omega)))) (a_cons (v_op (v_var rfl) (v_var rfl) (v_ix l_dI (getD_at hk))) a_nil))) (c_P rfl (rbs_cons (rb_ci (k := 7) rfl) (rbs_cons (rb_d _) (rbs_cons (rb_d _) rbs_nil))) vg))) (CE es)
          have eo : ∀ x : Int, envOk 1 [some (.r (tblD PS)), some (.d (.int size)), some (.d (intsD cs)), none, some (.c 0), some (.d (.int (k : Int))), some (.d (.int x)), none] := fun x => envOk_cons rf_r (envOk_cons rf_d (envOk_cons rf_d (envOk_cons rf_n (envOk_cons (rf_c (Nat.zero_lt_succ 0)) (envOk_cons rf_d (envOk_cons rf_d (envOk_cons rf_n envOk_nil)))))))
          refine w_if cnd (fun hq => ?_) fun hq => ?_
          · rw [if_pos hq]
            apply w_as (v_op (v_var rfl) (v_var rfl) v_I) g_nm
            exact ⟨CE es, eo _, rfl, rfl⟩
          · rw [if_neg (by rw [hq]; decide)]
            apply w_dNx
            exact ⟨CE es, eo _, rfl, rfl⟩
        · rintro ρ T ⟨rfl, rfl⟩
          exact ⟨it_rngE, w_nxI ⟨rfl, rfl⟩⟩
      rintro ρ T ⟨rfl, rfl⟩
      have em : eCB (fI2 fun i j => if j < i then j else i) (aCons (eOp (fI fun i j => .int (i - j)) (eCB fLen (aCons (eVar 2) aNil)) (eK (iA 1))) (aCons (eOp (fI fun i j => .int (i - j)) (eOp (fI fun i j => .int (i + j)) (eVar 1) (eVar 5)) (eK (iA 1))) aNil)) [some (.r (tblD PS)), some (.d (.int size)), some (.d (intsD cs)), none, some (.c 0), some (.d (.int (k : Int))), some (.d (.int (firstT cs size (cs.getD k 0) k))), none] [.lst (es.map eA)] = .ok (.d (.int (if size + (k : Int) - 1 < (cs.length : Int) - 1 then size + (k : Int) - 1 else (cs.length : Int) - 1))) [.lst (es.map eA)] := v_cb (a_cons (v_op (lenC _ _ rfl) v_k v_I) (a_cons (v_op (v_op (v_var rfl) (v_var rfl) v_I) v_k v_I) a_nil)) i2
      apply w_ex (v_bm (v_var rfl) (l_c rfl) (a_cons (v_tup (a_cons (v_var rfl) (a_cons em a_nil)) (Nat.le_of_ble_eq_true rfl)) a_nil) (b_append (S := [.lst (es.map eA)]) (k := 0) rfl (by rw [List.length_map, ls]; omega)))
      have cl := CE (es ++ [spanT cs size k])
      rw [List.map_append] at cl
      exact ⟨cl, envOk_cons rf_r (envOk_cons rf_d (envOk_cons rf_d (envOk_cons rf_n (envOk_cons (rf_c (Nat.zero_lt_succ 0)) (envOk_cons rf_n (envOk_cons rf_n (envOk_cons rf_n envOk_nil))))))), rfl, rfl⟩
    · rintro ρ T ⟨rfl, rfl⟩
      exact ⟨it_rngE, w_nxI (w_rt (v_var rfl) ⟨rfl, rfl⟩)⟩
  obtain ⟨v, T, e, rfl, rfl⟩ := main
  rw [← hcs]
  exact runP_of e (rb_ce rfl)


end
section
local macro_rules | `(tactic| walk_at "hs") => `(tactic| first | (with_reducible assumption) | exact rfl | (apply get_set; walk_at "hs"))
local macro_rules | `(tactic| walk_at "lk") => `(tactic| first | (with_reducible exact l_rI) | (with_reducible exact l_dI) | (with_reducible exact l_rE) | (with_reducible exact l_dE) | ((with_reducible apply l_c); walk_at "hs") | (with_reducible exact l_d) | (with_reducible exact l_r) | (with_reducible assumption))
local macro_rules | `(tactic| walk_at "lt") => `(tactic| first | (with_reducible exact lT_eR) | (with_reducible exact lT_eA) | (with_reducible exact lT_d) | (with_reducible exact lT_r) | (with_reducible assumption) | exact rfl)
local macro_rules | `(tactic| walk_at "ev1") => `(tactic| first
  | (with_reducible exact v_k) | (with_reducible exact a_nil) | (with_reducible exact g_nm) | (with_reducible exact v_I) | (with_reducible exact v_neg) | (with_reducible exact int_i) | (with_reducible exact int_b) | (with_reducible exact abs_i) | (with_reducible exact i2) | (with_reducible exact g_sN) | (with_reducible exact isN_n)
  | ((with_reducible apply v_var); exact rfl) | (with_reducible assumption)
  | (with_reducible apply v_op) | (with_reducible apply v_un) | (with_reducible apply a_cons) | (with_reducible apply v_cb) | (with_reducible apply v_call) | (with_reducible apply t_b) | (with_reducible apply v_tup) | (with_reducible apply v_lst) | (with_reducible apply g_sb)
  | ((with_reducible apply v_IC); first | decide | exact Or.inl (by decide) | exact ⟨by decide, by decide⟩ | exact ⟨by decide, by decide, by decide⟩ | (with_reducible assumption) | rotate_left)
  | ((with_reducible apply v_ix); walk_at "lk") | ((with_reducible apply v_ixT); exact rfl; walk_at "lt")
  | ((with_reducible apply len_c); walk_at "hs") | ((with_reducible apply len_l); walk_at "lk")
  | ((with_reducible apply set_c); walk_at "hs") | ((with_reducible apply b_append); walk_at "hs")
  | ((with_reducible apply tup3_lt'); exact rfl) | ((with_reducible apply v_isN); exact rfl) | ((with_reducible apply v_notN); exact rfl)
  | (with_reducible exact fEq_intF) | (with_reducible exact fEq_intT) | exact at_cd (by omega)
  | exact at0 | exact at1 | exact at2 | exact at3 | exact ix0 | exact ix1 | exact ix2 | exact ix3
  | ((with_reducible apply g_tp); walk_at "lt"; exact rfl) | (with_reducible apply g_sC)
  | exact atI_ints (by omega) (by omega) | (refine atI_ints ?_ ?_; rotate_left 2) | exact atI_last | exact atI_any (by omega) (by omega) | (refine atI_any ?_ ?_; rotate_left 2)
  | ((with_reducible apply c_I); exact rfl; (with_reducible assumption)) | ((with_reducible apply c_I); exact rfl) | exact Nat.le_of_ble_eq_true rfl)
local macro_rules | `(tactic| walk_at "ev") => `(tactic| repeat (walk_at "ev1"))
local macro_rules | `(tactic| walk_at "rb") => `(tactic| repeat (first | (with_reducible exact rbs_nil) | (with_reducible apply rbs_cons) | (with_reducible exact rb_d _) | (with_reducible exact rb_r _) | ((with_reducible apply rb_ci); walk_at "hs") | ((with_reducible apply rb_ce); walk_at "hs") | (with_reducible assumption)))
local macro_rules | `(tactic| walk_at "nc") => `(tactic| (simp only [nice_l, nice_t, nice_i, nice_n, nice_tup, mem_map, implies_true, forall_const, List.forall_mem_cons, List.not_mem_nil, false_implies, and_true, true_and]; done))
-- import EV6 Dens V197 V35
/-! ### windows -/
theorem sort_of {S : Sto} {x : AV} {l : List Int} (h : look S x = some (isA l)) (hl : l.length ≤ 1000) : fSort false [x] S = .ok (.c S.length) (S ++ [.lst (isA (sortI l))]) := by
  rw [x_sort, h, Option.bind_some, show asInts (isA l) = some l from asInts_map l]
  show (if l.length ≤ 1000 then newL _ S else .no) = _
  rw [if_pos hl]
  rfl
theorem at_neg {q : List Int} (h : q ≠ []) : atI (isA q) (-1) = some (.d (.int (q.getD (q.length - 1) 0))) := by
  rcases List.eq_nil_or_concat q with e | ⟨l, x, e⟩
  · exact absurd e h
  · have e : q = l ++ [x] := by simpa using e
    subst e
    rw [show isA (l ++ [x]) = isA l ++ [AV.d (.int x)] by unfold isA; rw [List.map_append]; rfl, atI_last, List.length_append]
    show _ = some (AV.d (.int ((l ++ [x]).getD (l.length + 1 - 1) 0)))
    rw [Nat.add_sub_cancel, getD_r (Nat.le_refl _), Nat.sub_self]
    rfl
theorem rp_mem : ∀ {PS : List (List Int)}, RP PS → ∀ p ∈ PS, p ≠ [] ∧ p.Pairwise (· ≤ ·)
  | [], _, p, h => nomatch h
  | q :: r, ⟨a, _, b⟩, p, h => by
    rcases List.mem_cons.mp h with e | e
    · rw [e]; exact a
    · exact rp_mem b p e
theorem rp_next : ∀ {PS : List (List Int)}, RP PS → ∀ t (h : t + 1 < PS.length), (PS[t + 1]).getD 0 0 < (PS[t]).getD ((PS[t]).length - 1) 0
  | [], _, t, h => absurd h (Nat.not_lt_zero _)
  | p :: r, ⟨a, nx, b⟩, 0, h => by
    cases r with
    | nil => exact absurd h (by show ¬ 1 < 1; omega)
    | cons q r' => exact nx q r' rfl
  | p :: r, ⟨a, nx, b⟩, t + 1, h => rp_next b t (Nat.lt_of_succ_lt_succ h)
theorem rp_len : ∀ {PS : List (List Int)}, RP PS → PS.length ≤ PS.flatten.length
  | [], _ => Nat.le_refl _
  | p :: r, ⟨a, _, b⟩ => by
    have := rp_len b
    have hp : 0 < p.length := List.length_pos_iff.mpr a.1
    show r.length + 1 ≤ (p ++ r.flatten).length
    rw [List.length_append]
    omega
theorem mem_lenF {PS : List (List Int)} {p : List Int} (h : p ∈ PS) : p.length ≤ PS.flatten.length := by
  obtain ⟨a, b, rfl⟩ := List.append_of_mem h
  rw [List.flatten_append, List.flatten_cons, List.length_append, List.length_append]
  omega
theorem sum_flat (PS : List (List Int)) : (PS.map fun z => z.length).sum = PS.flatten.length := by
  induction PS with
  | nil => rfl
  | cons p r ih => rw [List.map_cons, List.sum_cons, ih, List.flatten_cons, List.length_append]
theorem v_checkPiles {PS : List (List Int)} (hp : RP PS) (hf : PS.flatten.length ≤ 100) : RunP den__check_piles [tblD PS] .none := by
  have hl := rp_len hp
  have main : Ret (den__check_piles [.r (tblD PS)] []) fun v T => v = nA ∧ T = [] := by
    refine w_fn ?_
    apply w_fg
    have lk : ∀ S : Sto, look S (.r (tblD PS)) = some (PS.map fun p => AV.r (intsD p)) := fun S => by
      rw [l_r, List.map_map]
      rfl
    refine w_forX (S1 := []) (jt := .enum (.r (tblD PS))) (I := fun t ρ T => T = [] ∧ ρ = [some (.r (tblD PS)), none, none]) PS.length (by omega) (by simp (disch := first | assumption | omega | walk_at "nc") only [x_get1, x_var, x_bok, x_bex, x_ook, x_oex, x_k, x_op, x_un, x_fI, x_fIC, x_fU, asI_i, asB_b, x_lookc, x_lookO, x_lookd, x_lookr, x_lookdt, x_lookrt, x_lookt, x_lookTd, x_lookTr, x_lookTt, x_cellL, x_relInt, x_relInts, x_dInt, x_isALen, rel_int, rel_bool, rel_none, rel_str, rel_list, rel_tup, x_ix, x_at0, x_at1, x_at2, x_at3, x_atL, x_atI, x_and, x_or, x_not, x_eif, x_bE, x_bAnd, x_bOr, x_bNot, x_bTru, x_bYes, x_iteOk, x_iteD, x_iteI, x_iteB, x_iteT, x_iteF, x_iteTp, x_iteFp, x_aNil, x_aCons, x_lst, x_tup, x_newL, x_mkT0, x_mkT1, x_mkT2, x_mkT3, x_mkT4, x_cb, x_call, x_callN, x_ck, x_bm, x_callI, x_noX, x_callP, x_callPK, x_callC, x_callCK, x_rbs0, x_rbs1, x_rbsK, x_rbd, x_rbr, x_rbc, x_rbCK, x_rbLK1, x_rbLK0, x_rbt, x_allD0, x_allD1, x_allDc, x_allDm, x_allDm', x_allDa, x_closed, x_ocM, x_ocM', x_ocA, x_ocC, x_oc0, x_ocO, x_rfd, x_rfr, x_rfg, x_rfc, x_env0, x_envN, x_envS, x_wipe0, x_wipe1, x_fz, x_fzK, x_frd, x_frr, x_frc, x_newS, x_gc, x_gcK, x_gcd, x_gcr, x_gcc, x_bgc, x_bgK, x_len, x_list, x_int, x_intb, x_abs, x_i2, x_ints, x_asInts, x_asInts0, x_asInts1, x_bools, x_asBools, x_append, x_pop, x_isN, x_notN, isN_n', isN_i, isN_b, isN_l, isN_t, isN_rl, isN_c, x_isB, x_rg1, x_rg2, x_oN, x_oS, x_sl, x_jSeq, x_jR1, x_jR2, x_jEn, x_jZp, W_seq, W_nxS, W_rtS, W_bkS, W_ctS, W_exS, W_nxI, W_rtI, W_bkI, W_ctI, W_as, x_gnm, x_gtp, x_gsN, x_gsC, x_gsb, x_fSet, x_ix0, x_ix1, x_ix10, x_ix20, x_ix21, x_ix30, x_ix31, x_ix32, x_ixI, W_ex, W_rt, W_rtN, W_if, W_dNx, W_dBk, W_dCt, W_au, W_auS, W_fg, W_nxC, W_ctC, W_rtC, W_bkC, W_nxL, W_ctL, W_bkL, W_rtL, W_rtK, W_nxK, x_CPow, x_CMul1, x_CMul2, x_CDiv, x_CDivW, x_rgOk, x_fEq, x_eqK, mapInt_inj, mapInt_nil, mapInts_inj, mapEnt_inj, ints_nil, x_isi, ty_di, ty_db, ty_dn, ty_ds, ty_dl, ty_dt, ty_rl, ty_rt, ty_c, tyO_l, isi_ii, isi_ib, isi_bb, isi_bi, isi_ll, isi_tl, isi_tt, isi_lt, isi_il, isi_nl, isi_ss, x_sort, x_sortK, x_cat, cut_toI, cut_fromI, x_ifno, x_ifno2, x_eqB, x_relNats, x_dNats, mapNat_inj, x_callD, x_callDK, x_rowsS, intsD, entD, natsD, PyData.list.injEq, PyData.tuple.injEq, PyData.int.injEq, PyData.bool.injEq, List.map_append, List.map_cons, List.map_nil, List.getElem?_cons_zero, List.getElem?_cons_succ, List.set_cons_zero, List.set_cons_succ, List.length_cons, List.length_nil, List.length_append, List.length_map, List.length_set, List.take_succ_cons, List.take_zero, List.nil_append, List.cons_append, List.append_nil, List.forall_mem_cons, List.not_mem_nil, List.getD_cons_zero, List.getD_cons_succ, Option.map_some, Option.bind_some, Nat.reduceAdd, Nat.reduceSub, Nat.reduceLT, Nat.reduceLeDiff, Nat.reduceEqDiff, Nat.zero_add, Nat.zero_le, Nat.le_refl, if_true, if_false, ite_true, ite_false, reduceIte, eq_self, true_and, and_true, true_or, or_true, false_or, or_false, decide_eq_true_eq, decide_true, decide_false, Bool.not_true, Bool.not_false, Bool.true_and, Bool.and_true, Bool.false_and, Bool.and_false, Bool.or_false, Bool.false_or, Bool.true_or, Bool.or_true, Bool.false_eq_true, false_implies, implies_true, forall_const, List.getElem?_set_self, List.set_set, Bool.decide_eq_true]) ⟨rfl, rfl⟩ ?_ ?_
    · rintro t ρ T ht ⟨rfl, rfl⟩
      refine ⟨_, it_en (F := fun p => AV.r (intsD p)) (l := PS) (lk _) ht, ?_⟩
      obtain ⟨pne, pasc⟩ := rp_mem hp _ (List.getElem_mem ht)
      have plen := mem_lenF (List.getElem_mem ht)
      have eg : gtp 2 (gsC (gnm 1) (gsC (gnm 2) gsN)) (mkT [.d (.int (t : Int)), .r (intsD PS[t])]) [some (.r (tblD PS)), none, none] [] = .ok [some (.r (tblD PS)), some (.d (.int (t : Int))), some (.r (intsD PS[t]))] [] := rfl
      rw [eg, out_ok]
      refine w_sc ?_
      apply w_seq
      have hE : (isA PS[t]).isEmpty = false := by
        cases h : PS[t] with
        | nil => exact absurd h pne
        | cons a b => rfl
      have hT : bTru (eVar 2) [some (.r (tblD PS)), some (.d (.int (t : Int))), some (.r (intsD PS[t]))] [] = .ok true [] := by simp (disch := first | assumption | omega | walk_at "nc") only [x_get1, x_var, x_bok, x_bex, x_ook, x_oex, x_k, x_op, x_un, x_fI, x_fIC, x_fU, asI_i, asB_b, x_lookc, x_lookO, x_lookd, x_lookr, x_lookdt, x_lookrt, x_lookt, x_lookTd, x_lookTr, x_lookTt, x_cellL, x_relInt, x_relInts, x_dInt, x_isALen, rel_int, rel_bool, rel_none, rel_str, rel_list, rel_tup, x_ix, x_at0, x_at1, x_at2, x_at3, x_atL, x_atI, x_and, x_or, x_not, x_eif, x_bE, x_bAnd, x_bOr, x_bNot, x_bTru, x_bYes, x_iteOk, x_iteD, x_iteI, x_iteB, x_iteT, x_iteF, x_iteTp, x_iteFp, x_aNil, x_aCons, x_lst, x_tup, x_newL, x_mkT0, x_mkT1, x_mkT2, x_mkT3, x_mkT4, x_cb, x_call, x_callN, x_ck, x_bm, x_callI, x_noX, x_callP, x_callPK, x_callC, x_callCK, x_rbs0, x_rbs1, x_rbsK, x_rbd, x_rbr, x_rbc, x_rbCK, x_rbLK1, x_rbLK0, x_rbt, x_allD0, x_allD1, x_allDc, x_allDm, x_allDm', x_allDa, x_closed, x_ocM, x_ocM', x_ocA, x_ocC, x_oc0, x_ocO, x_rfd, x_rfr, x_rfg, x_rfc, x_env0, x_envN, x_envS, x_wipe0, x_wipe1, x_fz, x_fzK, x_frd, x_frr, x_frc, x_newS, x_gc, x_gcK, x_gcd, x_gcr, x_gcc, x_bgc, x_bgK, x_len, x_list, x_int, x_intb, x_abs, x_i2, x_ints, x_asInts, x_asInts0, x_asInts1, x_bools, x_asBools, x_append, x_pop, x_isN, x_notN, isN_n', isN_i, isN_b, isN_l, isN_t, isN_rl, isN_c, x_isB, x_rg1, x_rg2, x_oN, x_oS, x_sl, x_jSeq, x_jR1, x_jR2, x_jEn, x_jZp, W_seq, W_nxS, W_rtS, W_bkS, W_ctS, W_exS, W_nxI, W_rtI, W_bkI, W_ctI, W_as, x_gnm, x_gtp, x_gsN, x_gsC, x_gsb, x_fSet, x_ix0, x_ix1, x_ix10, x_ix20, x_ix21, x_ix30, x_ix31, x_ix32, x_ixI, W_ex, W_rt, W_rtN, W_if, W_dNx, W_dBk, W_dCt, W_au, W_auS, W_fg, W_nxC, W_ctC, W_rtC, W_bkC, W_nxL, W_ctL, W_bkL, W_rtL, W_rtK, W_nxK, x_CPow, x_CMul1, x_CMul2, x_CDiv, x_CDivW, x_rgOk, x_fEq, x_eqK, mapInt_inj, mapInt_nil, mapInts_inj, mapEnt_inj, ints_nil, x_isi, ty_di, ty_db, ty_dn, ty_ds, ty_dl, ty_dt, ty_rl, ty_rt, ty_c, tyO_l, isi_ii, isi_ib, isi_bb, isi_bi, isi_ll, isi_tl, isi_tt, isi_lt, isi_il, isi_nl, isi_ss, x_sort, x_sortK, x_cat, cut_toI, cut_fromI, x_ifno, x_ifno2, x_eqB, x_relNats, x_dNats, mapNat_inj, x_callD, x_callDK, x_rowsS, intsD, entD, natsD, PyData.list.injEq, PyData.tuple.injEq, PyData.int.injEq, PyData.bool.injEq, List.map_append, List.map_cons, List.map_nil, List.getElem?_cons_zero, List.getElem?_cons_succ, List.set_cons_zero, List.set_cons_succ, List.length_cons, List.length_nil, List.length_append, List.length_map, List.length_set, List.take_succ_cons, List.take_zero, List.nil_append, List.cons_append, List.append_nil, List.forall_mem_cons, List.not_mem_nil, List.getD_cons_zero, List.getD_cons_succ, Option.map_some, Option.bind_some, Nat.reduceAdd, Nat.reduceSub, Nat.reduceLT, Nat.reduceLeDiff, Nat.reduceEqDiff, Nat.zero_add, Nat.zero_le, Nat.le_refl, if_true, if_false, ite_true, ite_false, reduceIte, eq_self, true_and, and_true, true_or, or_true, false_or, or_false, decide_eq_true_eq, decide_true, decide_false, Bool.not_true, Bool.not_false, Bool.true_and, Bool.and_true, Bool.false_and, Bool.and_false, Bool.or_false, Bool.false_or, Bool.true_or, Bool.or_true, Bool.false_eq_true, false_implies, implies_true, forall_const, List.getElem?_set_self, List.set_set, Bool.decide_eq_true, hE]
      have c1 : bGc (bOr (bNot (bTru (eVar 2))) (bE (eOp (fEq true) (eVar 2) (eCB (fSort false) (aCons (eVar 2) aNil))))) [some (.r (tblD PS)), some (.d (.int (t : Int))), some (.r (intsD PS[t]))] [] = .ok false [] :=
        bg_list (S := []) (G := [.lst (isA (sortI PS[t]))]) (t_or0 (t_not (c := true) hT) ((t_b (v_op (v_var rfl) (v_cb (a_cons (v_var rfl) a_nil) (sort_of l_rI (by omega))) (fEq_ints (neg := true) (a := PS[t]) (b := sortI PS[t]) (rb_r 8) (rb_ci (k := 7) rfl)))).trans (by rw [if_pos rfl, sort_same pasc, decide_eq_true rfl]; rfl))) closed_nil
      refine w_if c1 (fun hq => by cases hq) fun _ => ?_
      apply w_nx
      have c2 : bAnd (bE (eOp (fI fun i j => .bool (decide (j < i))) (eVar 1) (eK (iA 0)))) (bE (eOp (fI fun i j => .bool (decide (j < i))) (eOp fIx (eVar 2) (eK (iA 0))) (eOp fIx (eOp fIx (eVar 0) (eOp (fI fun i j => .int (i - j)) (eVar 1) (eK (iA 1)))) (eUn (fU fun i => -i) (eK (iA 1)))))) [some (.r (tblD PS)), some (.d (.int (t : Int))), some (.r (intsD PS[t]))] [] = .ok false [] := by
        by_cases z : t = 0
        · exact t_and0' (t_b (v_op (v_var rfl) v_k v_I)) (decide_eq_false (by omega))
        · obtain ⟨u, rfl⟩ : ∃ u, t = u + 1 := ⟨t - 1, by omega⟩
          have nx := rp_next hp u ht
          obtain ⟨qne, _⟩ := rp_mem hp _ (List.getElem_mem (show u < PS.length by omega))
          have a0 : atI (isA PS[u + 1]) ((0 : Nat) : Int) = some (.d (.int ((PS[u + 1]).getD 0 0))) := getD_at (List.length_pos_iff.mpr pne)
          have a1 : atI ((PS.map fun p => PyData.list (p.map PyData.int)).map rel) (((u : Nat) : Int)) = some (.r (intsD PS[u])) := atI_nat (by rw [List.getElem?_map, List.getElem?_map, List.getElem?_eq_getElem (by omega)]; rfl)
          refine t_and1' (t_b (v_op (v_var rfl) v_k v_I)) (decide_eq_true (by omega)) ((t_b (v_op (v_op (v_var rfl) v_k (v_ix l_rI a0)) (v_op (v_op (v_var rfl) (v_op (x := iA ((u + 1 : Nat) : Int)) (y := iA 1) (v_var rfl) v_k (show fI (fun i j => .int (i - j)) (iA ((u + 1 : Nat) : Int)) (iA 1) [] = .ok (iA (u : Int)) [] from by rw [show iA (u : Int) = AV.d (.int (((u + 1 : Nat) : Int) - 1)) by rw [show ((u + 1 : Nat) : Int) - 1 = (u : Int) by omega]]; rfl)) (v_ix l_r a1)) (v_un v_k (show fU (fun i => -i) (iA 1) _ = .ok (iA (-1)) _ from rfl)) (v_ix l_rI (at_neg qne))) v_I)).trans ?_)
          rw [decide_eq_false (by omega)]
      refine w_if c2 (fun hq => by cases hq) fun _ => ?_
      apply w_dNx
      exact ⟨closed_nil, envOk_cons rf_r (envOk_cons rf_n (envOk_cons rf_n envOk_nil)), rfl, rfl⟩
    · rintro ρ T ⟨rfl, rfl⟩
      exact ⟨it_enE (F := fun p => AV.r (intsD p)) (l := PS) (lk _), rfl, rfl⟩
  obtain ⟨v, T, e, rfl, rfl⟩ := main
  exact runP_of e (rb_d _)
theorem v_cardsOf {PS : List (List Int)} (hl : PS.length ≤ 100) (hf : PS.flatten.length ≤ 100) : RunP den__cards_of [tblD PS] (intsD PS.flatten) := by
  have main : Ret (den__cards_of [.r (tblD PS)] []) fun v T => v = .c 0 ∧ T = [.lst (isA PS.flatten)] := by
    refine w_fn ?_
    have e := lc2_map (ρ := [some (.r (tblD PS)), none, none]) (S := []) (S1 := []) (it := jSeq (eVar 0)) (it1 := jSeq (eVar 1)) (jt := .seq (.r (tblD PS))) (g := gnm 1) (g1 := gnm 2) (d := eVar 2) (vs := [1, 2]) (vs1 := [2]) (l := PS) (F := fun p => AV.r (intsD p)) (M := fun p : List Int => p) (G := fun _ y => AV.d (.int y)) (f := fun _ y => AV.d (.int y)) (by simp (disch := first | assumption | omega | walk_at "nc") only [x_get1, x_var, x_bok, x_bex, x_ook, x_oex, x_k, x_op, x_un, x_fI, x_fIC, x_fU, asI_i, asB_b, x_lookc, x_lookO, x_lookd, x_lookr, x_lookdt, x_lookrt, x_lookt, x_lookTd, x_lookTr, x_lookTt, x_cellL, x_relInt, x_relInts, x_dInt, x_isALen, rel_int, rel_bool, rel_none, rel_str, rel_list, rel_tup, x_ix, x_at0, x_at1, x_at2, x_at3, x_atL, x_atI, x_and, x_or, x_not, x_eif, x_bE, x_bAnd, x_bOr, x_bNot, x_bTru, x_bYes, x_iteOk, x_iteD, x_iteI, x_iteB, x_iteT, x_iteF, x_iteTp, x_iteFp, x_aNil, x_aCons, x_lst, x_tup, x_newL, x_mkT0, x_mkT1, x_mkT2, x_mkT3, x_mkT4, x_cb, x_call, x_callN, x_ck, x_bm, x_callI, x_noX, x_callP, x_callPK, x_callC, x_callCK, x_rbs0, x_rbs1, x_rbsK, x_rbd, x_rbr, x_rbc, x_rbCK, x_rbLK1, x_rbLK0, x_rbt, x_allD0, x_allD1, x_allDc, x_allDm, x_allDm', x_allDa, x_closed, x_ocM, x_ocM', x_ocA, x_ocC, x_oc0, x_ocO, x_rfd, x_rfr, x_rfg, x_rfc, x_env0, x_envN, x_envS, x_wipe0, x_wipe1, x_fz, x_fzK, x_frd, x_frr, x_frc, x_newS, x_gc, x_gcK, x_gcd, x_gcr, x_gcc, x_bgc, x_bgK, x_len, x_list, x_int, x_intb, x_abs, x_i2, x_ints, x_asInts, x_asInts0, x_asInts1, x_bools, x_asBools, x_append, x_pop, x_isN, x_notN, isN_n', isN_i, isN_b, isN_l, isN_t, isN_rl, isN_c, x_isB, x_rg1, x_rg2, x_oN, x_oS, x_sl, x_jSeq, x_jR1, x_jR2, x_jEn, x_jZp, W_seq, W_nxS, W_rtS, W_bkS, W_ctS, W_exS, W_nxI, W_rtI, W_bkI, W_ctI, W_as, x_gnm, x_gtp, x_gsN, x_gsC, x_gsb, x_fSet, x_ix0, x_ix1, x_ix10, x_ix20, x_ix21, x_ix30, x_ix31, x_ix32, x_ixI, W_ex, W_rt, W_rtN, W_if, W_dNx, W_dBk, W_dCt, W_au, W_auS, W_fg, W_nxC, W_ctC, W_rtC, W_bkC, W_nxL, W_ctL, W_bkL, W_rtL, W_rtK, W_nxK, x_CPow, x_CMul1, x_CMul2, x_CDiv, x_CDivW, x_rgOk, x_fEq, x_eqK, mapInt_inj, mapInt_nil, mapInts_inj, mapEnt_inj, ints_nil, x_isi, ty_di, ty_db, ty_dn, ty_ds, ty_dl, ty_dt, ty_rl, ty_rt, ty_c, tyO_l, isi_ii, isi_ib, isi_bb, isi_bi, isi_ll, isi_tl, isi_tt, isi_lt, isi_il, isi_nl, isi_ss, x_sort, x_sortK, x_cat, cut_toI, cut_fromI, x_ifno, x_ifno2, x_eqB, x_relNats, x_dNats, mapNat_inj, x_callD, x_callDK, x_rowsS, intsD, entD, natsD, PyData.list.injEq, PyData.tuple.injEq, PyData.int.injEq, PyData.bool.injEq, List.map_append, List.map_cons, List.map_nil, List.getElem?_cons_zero, List.getElem?_cons_succ, List.set_cons_zero, List.set_cons_succ, List.length_cons, List.length_nil, List.length_append, List.length_map, List.length_set, List.take_succ_cons, List.take_zero, List.nil_append, List.cons_append, List.append_nil, List.forall_mem_cons, List.not_mem_nil, List.getD_cons_zero, List.getD_cons_succ, Option.map_some, Option.bind_some, Nat.reduceAdd, Nat.reduceSub, Nat.reduceLT, Nat.reduceLeDiff, Nat.reduceEqDiff, Nat.zero_add, Nat.zero_le, Nat.le_refl, if_true, if_false, ite_true, ite_false, reduceIte, eq_self, true_and, and_true, true_or, or_true, false_or, or_false, decide_eq_true_eq, decide_true, decide_false, Bool.not_true, Bool.not_false, Bool.true_and, Bool.and_true, Bool.false_and, Bool.and_false, Bool.or_false, Bool.false_or, Bool.true_or, Bool.or_true, Bool.false_eq_true, false_implies, implies_true, forall_const, List.getElem?_set_self, List.set_set, Bool.decide_eq_true]) (by omega) (by rw [sum_flat]; omega) (fun acc i hi => it_r (F := fun p : List Int => PyData.list (p.map PyData.int)) hi) (fun acc => it_rE) (fun z hz => ⟨[some (.r (tblD PS)), some (.r (intsD z)), none], .seq (.r (intsD z)), fun acc => ⟨rfl, by simp (disch := first | assumption | omega | walk_at "nc") only [x_get1, x_var, x_bok, x_bex, x_ook, x_oex, x_k, x_op, x_un, x_fI, x_fIC, x_fU, asI_i, asB_b, x_lookc, x_lookO, x_lookd, x_lookr, x_lookdt, x_lookrt, x_lookt, x_lookTd, x_lookTr, x_lookTt, x_cellL, x_relInt, x_relInts, x_dInt, x_isALen, rel_int, rel_bool, rel_none, rel_str, rel_list, rel_tup, x_ix, x_at0, x_at1, x_at2, x_at3, x_atL, x_atI, x_and, x_or, x_not, x_eif, x_bE, x_bAnd, x_bOr, x_bNot, x_bTru, x_bYes, x_iteOk, x_iteD, x_iteI, x_iteB, x_iteT, x_iteF, x_iteTp, x_iteFp, x_aNil, x_aCons, x_lst, x_tup, x_newL, x_mkT0, x_mkT1, x_mkT2, x_mkT3, x_mkT4, x_cb, x_call, x_callN, x_ck, x_bm, x_callI, x_noX, x_callP, x_callPK, x_callC, x_callCK, x_rbs0, x_rbs1, x_rbsK, x_rbd, x_rbr, x_rbc, x_rbCK, x_rbLK1, x_rbLK0, x_rbt, x_allD0, x_allD1, x_allDc, x_allDm, x_allDm', x_allDa, x_closed, x_ocM, x_ocM', x_ocA, x_ocC, x_oc0, x_ocO, x_rfd, x_rfr, x_rfg, x_rfc, x_env0, x_envN, x_envS, x_wipe0, x_wipe1, x_fz, x_fzK, x_frd, x_frr, x_frc, x_newS, x_gc, x_gcK, x_gcd, x_gcr, x_gcc, x_bgc, x_bgK, x_len, x_list, x_int, x_intb, x_abs, x_i2, x_ints, x_asInts, x_asInts0, x_asInts1, x_bools, x_asBools, x_append, x_pop, x_isN, x_notN, isN_n', isN_i, isN_b, isN_l, isN_t, isN_rl, isN_c, x_isB, x_rg1, x_rg2, x_oN, x_oS, x_sl, x_jSeq, x_jR1, x_jR2, x_jEn, x_jZp, W_seq, W_nxS, W_rtS, W_bkS, W_ctS, W_exS, W_nxI, W_rtI, W_bkI, W_ctI, W_as, x_gnm, x_gtp, x_gsN, x_gsC, x_gsb, x_fSet, x_ix0, x_ix1, x_ix10, x_ix20, x_ix21, x_ix30, x_ix31, x_ix32, x_ixI, W_ex, W_rt, W_rtN, W_if, W_dNx, W_dBk, W_dCt, W_au, W_auS, W_fg, W_nxC, W_ctC, W_rtC, W_bkC, W_nxL, W_ctL, W_bkL, W_rtL, W_rtK, W_nxK, x_CPow, x_CMul1, x_CMul2, x_CDiv, x_CDivW, x_rgOk, x_fEq, x_eqK, mapInt_inj, mapInt_nil, mapInts_inj, mapEnt_inj, ints_nil, x_isi, ty_di, ty_db, ty_dn, ty_ds, ty_dl, ty_dt, ty_rl, ty_rt, ty_c, tyO_l, isi_ii, isi_ib, isi_bb, isi_bi, isi_ll, isi_tl, isi_tt, isi_lt, isi_il, isi_nl, isi_ss, x_sort, x_sortK, x_cat, cut_toI, cut_fromI, x_ifno, x_ifno2, x_eqB, x_relNats, x_dNats, mapNat_inj, x_callD, x_callDK, x_rowsS, intsD, entD, natsD, PyData.list.injEq, PyData.tuple.injEq, PyData.int.injEq, PyData.bool.injEq, List.map_append, List.map_cons, List.map_nil, List.getElem?_cons_zero, List.getElem?_cons_succ, List.set_cons_zero, List.set_cons_succ, List.length_cons, List.length_nil, List.length_append, List.length_map, List.length_set, List.take_succ_cons, List.take_zero, List.nil_append, List.cons_append, List.append_nil, List.forall_mem_cons, List.not_mem_nil, List.getD_cons_zero, List.getD_cons_succ, Option.map_some, Option.bind_some, Nat.reduceAdd, Nat.reduceSub, Nat.reduceLT, Nat.reduceLeDiff, Nat.reduceEqDiff, Nat.zero_add, Nat.zero_le, Nat.le_refl, if_true, if_false, ite_true, ite_false, reduceIte, eq_self, true_and, and_true, true_or, or_true, false_or, or_false, decide_eq_true_eq, decide_true, decide_false, Bool.not_true, Bool.not_false, Bool.true_and, Bool.and_true, Bool.false_and, Bool.and_false, Bool.or_false, Bool.false_or, Bool.true_or, Bool.or_true, Bool.false_eq_true, false_implies, implies_true, forall_const, List.getElem?_set_self, List.set_set, Bool.decide_eq_true], fun i hi => it_r (F := PyData.int) hi, it_rE⟩, fun y hy acc => ⟨_, g_nm, v_var rfl⟩⟩)
    rw [show (PS.map fun z => z.map fun y => AV.d (.int y)).flatten = isA PS.flatten by unfold isA; rw [List.map_flatten]] at e
    exact w_rt e ⟨rfl, rfl⟩
  obtain ⟨v, T, e, rfl, rfl⟩ := main
  exact runP_of e (rb_ci (k := 7) rfl)


end
section
local macro_rules | `(tactic| walk_at "hs") => `(tactic| first | (with_reducible assumption) | exact rfl | (apply get_set; walk_at "hs"))
local macro_rules | `(tactic| walk_at "lk") => `(tactic| first | (with_reducible exact l_rI) | (with_reducible exact l_dI) | (with_reducible exact l_rE) | (with_reducible exact l_dE) | ((with_reducible apply l_c); walk_at "hs") | (with_reducible exact l_d) | (with_reducible exact l_r) | (with_reducible assumption))
local macro_rules | `(tactic| walk_at "lt") => `(tactic| first | (with_reducible exact lT_eR) | (with_reducible exact lT_eA) | (with_reducible exact lT_d) | (with_reducible exact lT_r) | (with_reducible assumption) | exact rfl)
local macro_rules | `(tactic| walk_at "ev1") => `(tactic| first
  | (with_reducible exact v_k) | (with_reducible exact a_nil) | (with_reducible exact g_nm) | (with_reducible exact v_I) | (with_reducible exact v_neg) | (with_reducible exact int_i) | (with_reducible exact int_b) | (with_reducible exact abs_i) | (with_reducible exact i2) | (with_reducible exact g_sN) | (with_reducible exact isN_n)
  | ((with_reducible apply v_var); exact rfl) | (with_reducible assumption)
  | (with_reducible apply v_op) | (with_reducible apply v_un) | (with_reducible apply a_cons) | (with_reducible apply v_cb) | (with_reducible apply v_call) | (with_reducible apply t_b) | (with_reducible apply v_tup) | (with_reducible apply v_lst) | (with_reducible apply g_sb)
  | ((with_reducible apply v_IC); first | decide | exact Or.inl (by decide) | exact ⟨by decide, by decide⟩ | exact ⟨by decide, by decide, by decide⟩ | (with_reducible assumption) | rotate_left)
  | ((with_reducible apply v_ix); walk_at "lk") | ((with_reducible apply v_ixT); exact rfl; walk_at "lt")
  | ((with_reducible apply len_c); walk_at "hs") | ((with_reducible apply len_l); walk_at "lk")
  | ((with_reducible apply set_c); walk_at "hs") | ((with_reducible apply b_append); walk_at "hs")
  | ((with_reducible apply tup3_lt'); exact rfl) | ((with_reducible apply v_isN); exact rfl) | ((with_reducible apply v_notN); exact rfl)
  | (with_reducible exact fEq_intF) | (with_reducible exact fEq_intT) | exact at_cd (by omega)
  | exact at0 | exact at1 | exact at2 | exact at3 | exact ix0 | exact ix1 | exact ix2 | exact ix3
  | ((with_reducible apply g_tp); walk_at "lt"; exact rfl) | (with_reducible apply g_sC)
  | exact atI_ints (by omega) (by omega) | (refine atI_ints ?_ ?_; rotate_left 2) | exact atI_last | exact atI_any (by omega) (by omega) | (refine atI_any ?_ ?_; rotate_left 2)
  | ((with_reducible apply c_I); exact rfl; (with_reducible assumption)) | ((with_reducible apply c_I); exact rfl) | exact Nat.le_of_ble_eq_true rfl)
local macro_rules | `(tactic| walk_at "ev") => `(tactic| repeat (walk_at "ev1"))
local macro_rules | `(tactic| walk_at "rb") => `(tactic| repeat (first | (with_reducible exact rbs_nil) | (with_reducible apply rbs_cons) | (with_reducible exact rb_d _) | (with_reducible exact rb_r _) | ((with_reducible apply rb_ci); walk_at "hs") | ((with_reducible apply rb_ce); walk_at "hs") | (with_reducible assumption)))
local macro_rules | `(tactic| walk_at "nc") => `(tactic| (simp only [nice_l, nice_t, nice_i, nice_n, nice_tup, mem_map, implies_true, forall_const, List.forall_mem_cons, List.not_mem_nil, false_implies, and_true, true_and]; done))
-- import EV6 Dens V198
theorem v_windows {PS : List (List Int)} {size : Int} (hp : RP PS) (hf : PS.flatten.length ≤ 100) (h1 : 1 ≤ size) : RunP den_windows [tblD PS, .int size] (entD (spansL PS.flatten size)) := by
  have hl := rp_len hp
  have vc := v_checkPiles hp hf
  have va := v_cardsOf (PS := PS) (by omega) hf
  have bA_ := bg_at PS hp
  obtain ⟨cs, hcs⟩ : ∃ cs, cs = PS.flatten := ⟨_, rfl⟩
  have main : Ret (den_windows [.r (tblD PS), .d (.int size)] []) fun v T => v = .c 0 ∧ T = [.lst ((spansL cs size).map eA)] := by
    refine w_fn ?_
    apply w_seq
    apply w_ex (v_call (a_cons (v_var rfl) a_nil) (c_P rfl (rbs_cons (rb_r _) rbs_nil) vc))
    apply w_nx
    apply w_seq
    apply w_ex (v_call (a_cons (v_var rfl) a_nil) (c_P rfl (rbs_cons (rb_d _) rbs_nil) (v_check h1)))
    apply w_nx
    apply w_seq
    apply w_as (v_call (a_cons (v_var rfl) a_nil) (c_P rfl (rbs_cons (rb_r _) rbs_nil) va)) g_nm
    apply w_nx
    apply w_seq
    have e := lc2_map (ρ := [some (.r (tblD PS)), some (.d (.int size)), some (.d (intsD PS.flatten)), none, none, none, none, none, none, none, none]) (S := []) (S1 := []) (it := jSeq (eVar 0)) (it1 := jR1 (aCons (eCB fLen (aCons (eVar 9) aNil)) aNil)) (jt := .seq (.r (tblD PS))) (g := gnm 9) (g1 := gnm 10) (d := eOp (fI fun i j => .bool (decide (i = j))) (eVar 10) (eK (iA 0))) (vs := [9, 10]) (vs1 := [10]) (l := PS) (F := fun p => AV.r (intsD p)) (M := fun p : List Int => List.range p.length) (G := fun _ i => AV.d (.int (0 + (i : Int)))) (f := fun _ i => AV.d (.bool (decide ((0 : Int) + (i : Int) = 0)))) (by simp (disch := first | assumption | omega | walk_at "nc") only [x_get1, x_var, x_bok, x_bex, x_ook, x_oex, x_k, x_op, x_un, x_fI, x_fIC, x_fU, asI_i, asB_b, x_lookc, x_lookO, x_lookd, x_lookr, x_lookdt, x_lookrt, x_lookt, x_lookTd, x_lookTr, x_lookTt, x_cellL, x_relInt, x_relInts, x_dInt, x_isALen, rel_int, rel_bool, rel_none, rel_str, rel_list, rel_tup, x_ix, x_at0, x_at1, x_at2, x_at3, x_atL, x_atI, x_and, x_or, x_not, x_eif, x_bE, x_bAnd, x_bOr, x_bNot, x_bTru, x_bYes, x_iteOk, x_iteD, x_iteI, x_iteB, x_iteT, x_iteF, x_iteTp, x_iteFp, x_aNil, x_aCons, x_lst, x_tup, x_newL, x_mkT0, x_mkT1, x_mkT2, x_mkT3, x_mkT4, x_cb, x_call, x_callN, x_ck, x_bm, x_callI, x_noX, x_callP, x_callPK, x_callC, x_callCK, x_rbs0, x_rbs1, x_rbsK, x_rbd, x_rbr, x_rbc, x_rbCK, x_rbLK1, x_rbLK0, x_rbt, x_allD0, x_allD1, x_allDc, x_allDm, x_allDm', x_allDa, x_closed, x_ocM, x_ocM', x_ocA, x_ocC, x_oc0, x_ocO, x_rfd, x_rfr, x_rfg, x_rfc, x_env0, x_envN, x_envS, x_wipe0, x_wipe1, x_fz, x_fzK, x_frd, x_frr, x_frc, x_newS, x_gc, x_gcK, x_gcd, x_gcr, x_gcc, x_bgc, x_bgK, x_len, x_list, x_int, x_intb, x_abs, x_i2, x_ints, x_asInts, x_asInts0, x_asInts1, x_bools, x_asBools, x_append, x_pop, x_isN, x_notN, isN_n', isN_i, isN_b, isN_l, isN_t, isN_rl, isN_c, x_isB, x_rg1, x_rg2, x_oN, x_oS, x_sl, x_jSeq, x_jR1, x_jR2, x_jEn, x_jZp, W_seq, W_nxS, W_rtS, W_bkS, W_ctS, W_exS, W_nxI, W_rtI, W_bkI, W_ctI, W_as, x_gnm, x_gtp, x_gsN, x_gsC, x_gsb, x_fSet, x_ix0, x_ix1, x_ix10, x_ix20, x_ix21, x_ix30, x_ix31, x_ix32, x_ixI, W_ex, W_rt, W_rtN, W_if, W_dNx, W_dBk, W_dCt, W_au, W_auS, W_fg, W_nxC, W_ctC, W_rtC, W_bkC, W_nxL, W_ctL, W_bkL, W_rtL, W_rtK, W_nxK, x_CPow, x_CMul1, x_CMul2, x_CDiv, x_CDivW, x_rgOk, x_fEq, x_eqK, mapInt_inj, mapInt_nil, mapInts_inj, mapEnt_inj, ints_nil, x_isi, ty_di, ty_db, ty_dn, ty_ds, ty_dl, ty_dt, ty_rl, ty_rt, ty_c, tyO_l, isi_ii, isi_ib, isi_bb, isi_bi, isi_ll, isi_tl, isi_tt, isi_lt, isi_il, isi_nl, isi_ss, x_sort, x_sortK, x_cat, cut_toI, cut_fromI, x_ifno, x_ifno2, x_eqB, x_relNats, x_dNats, mapNat_inj, x_callD, x_callDK, x_rowsS, intsD, entD, natsD, PyData.list.injEq, PyData.tuple.injEq, PyData.int.injEq, PyData.bool.injEq, List.map_append, List.map_cons, List.map_nil, List.getElem?_cons_zero, List.getElem?_cons_succ, List.set_cons_zero, List.set_cons_succ, List.length_cons, List.length_nil, List.length_append, List.length_map, List.length_set, List.take_succ_cons, List.take_zero, List.nil_append, List.cons_append, List.append_nil, List.forall_mem_cons, List.not_mem_nil, List.getD_cons_zero, List.getD_cons_succ, Option.map_some, Option.bind_some, Nat.reduceAdd, Nat.reduceSub, Nat.reduceLT, Nat.reduceLeDiff, Nat.reduceEqDiff, Nat.zero_add, Nat.zero_le, Nat.le_refl, if_true, if_false, ite_true, ite_false, reduceIte, eq_self, true_and, and_true, true_or, or_true, false_or, or_false, decide_eq_true_eq, decide_true, decide_false, Bool.not_true, Bool.not_false, Bool.true_and, Bool.and_true, Bool.false_and, Bool.and_false, Bool.or_false, Bool.false_or, Bool.true_or, Bool.or_true, Bool.false_eq_true, false_implies, implies_true, forall_const, List.getElem?_set_self, List.set_set, Bool.decide_eq_true]) (by omega) (by rw [List.map_congr_left (g := fun z : List Int => z.length) fun z _ => List.length_range, sum_flat]; omega) (fun acc i hi => it_r (F := fun p : List Int => PyData.list (p.map PyData.int)) hi) (fun acc => it_rE) (fun z hz => ⟨[some (.r (tblD PS)), some (.d (.int size)), some (.d (intsD PS.flatten)), none, none, none, none, none, none, some (.r (intsD z)), none], .rng 0 z.length, fun acc => ⟨rfl, jR1_of (a_cons ((v_cb (a_cons (v_var rfl) a_nil) (len_l l_rI)).trans (by rw [show (isA z).length = z.length from List.length_map _])) a_nil) rfl (by have := mem_lenF hz; omega), (fun i hi => by rw [List.getElem_range]; rw [List.length_range] at hi; exact it_rng hi), by rw [List.length_range]; exact it_rngE⟩, fun y hy acc => ⟨_, g_nm, v_op (v_var rfl) v_k v_I⟩⟩)
    have eb : (PS.map fun z => (List.range z.length).map fun i : Nat => AV.d (.bool (decide ((0 : Int) + (i : Int) = 0)))).flatten = ((bgL PS).map PyData.bool).map AV.d := by
      unfold bgL
      rw [List.map_map, List.map_flatten, List.map_map]
      refine congrArg List.flatten (List.map_congr_left fun z _ => ?_)
      show _ = ((List.range z.length).map fun i => decide (i = 0)).map _
      rw [List.map_map]
      refine List.map_congr_left fun i _ => ?_
      show AV.d (.bool (decide ((0 : Int) + (i : Int) = 0))) = AV.d (.bool (decide (i = 0)))
      rw [show decide ((0 : Int) + (i : Int) = 0) = decide (i = 0) from decide_eq_decide.mpr (by omega)]
    rw [eb] at e
    apply w_as (fz_list (S := []) (j := 0) (k := 0) (G := [.lst (((bgL PS).map PyData.bool).map AV.d)]) (ds := (bgL PS).map PyData.bool) e closed_nil rfl rfl) g_nm
    apply w_nx
    rw [← hcs] at bA_ hf
    apply w_seq
    apply w_as (gc_nil (S := []) closed_nil) g_nm
    apply w_nx
    apply w_seq
    apply w_fg
    have hcs2 : intsD PS.flatten = intsD cs := by rw [hcs]
    rw [hcs2]
    generalize bgL PS = bg at *
    have DE : ∀ es : List (Int × Int), Dat (.lst (es.map eA)) := fun es => ⟨_, rfl, fun x hx => by obtain ⟨_, _, rfl⟩ := List.mem_map.mp hx; exact ⟨_, rfl⟩⟩
    have CE : ∀ es : List (Int × Int), closed 1 [OC.lst (es.map eA)] := fun es => closed_dat0 fun oc ho => by rw [List.mem_singleton.mp ho]; exact DE es
    have lenC : ∀ (ρ : En) (T : Sto), ρ[2]? = some (some (.d (intsD cs))) → eCB fLen (aCons (eVar 2) aNil) ρ T = .ok (iA (cs.length : Int)) T := fun ρ T q => (v_cb (a_cons (v_var q) a_nil) (len_l l_dI)).trans (by rw [show (isA cs).length = cs.length from List.length_map _])
    have lk : ∀ S : Sto, look S (.d (intsD cs)) = some (cs.map fun c => AV.d (.int c)) := fun S => l_dI
    refine w_forX (S1 := [.lst []]) (jt := .enum (.d (intsD cs))) (I := fun t ρ T => T = [.lst (((List.range t).map (spanT cs size)).map eA)] ∧ ρ = [some (.r (tblD PS)), some (.d (.int size)), some (.d (intsD cs)), some (.d (boolsD bg)), some (.c 0), none, none, none, none, none, none]) cs.length (by omega) (by simp (disch := first | assumption | omega | walk_at "nc") only [x_get1, x_var, x_bok, x_bex, x_ook, x_oex, x_k, x_op, x_un, x_fI, x_fIC, x_fU, asI_i, asB_b, x_lookc, x_lookO, x_lookd, x_lookr, x_lookdt, x_lookrt, x_lookt, x_lookTd, x_lookTr, x_lookTt, x_cellL, x_relInt, x_relInts, x_dInt, x_isALen, rel_int, rel_bool, rel_none, rel_str, rel_list, rel_tup, x_ix, x_at0, x_at1, x_at2, x_at3, x_atL, x_atI, x_and, x_or, x_not, x_eif, x_bE, x_bAnd, x_bOr, x_bNot, x_bTru, x_bYes, x_iteOk, x_iteD, x_iteI, x_iteB, x_iteT, x_iteF, x_iteTp, x_iteFp, x_aNil, x_aCons, x_lst, x_tup, x_newL, x_mkT0, x_mkT1, x_mkT2, x_mkT3, x_mkT4, x_cb, x_call, x_callN, x_ck, x_bm, x_callI, x_noX, x_callP, x_callPK, x_callC, x_callCK, x_rbs0, x_rbs1, x_rbsK, x_rbd, x_rbr, x_rbc, x_rbCK, x_rbLK1, x_rbLK0, x_rbt, x_allD0, x_allD1, x_allDc, x_allDm, x_allDm', x_allDa, x_closed, x_ocM, x_ocM', x_ocA, x_ocC, x_oc0, x_ocO, x_rfd, x_rfr, x_rfg, x_rfc, x_env0, x_envN, x_envS, x_wipe0, x_wipe1, x_fz, x_fzK, x_frd, x_frr, x_frc, x_newS, x_gc, x_gcK, x_gcd, x_gcr, x_gcc, x_bgc, x_bgK, x_len, x_list, x_int, x_intb, x_abs, x_i2, x_ints, x_asInts, x_asInts0, x_asInts1, x_bools, x_asBools, x_append, x_pop, x_isN, x_notN, isN_n', isN_i, isN_b, isN_l, isN_t, isN_rl, isN_c, x_isB, x_rg1, x_rg2, x_oN, x_oS, x_sl, x_jSeq, x_jR1, x_jR2, x_jEn, x_jZp, W_seq, W_nxS, W_rtS, W_bkS, W_ctS, W_exS, W_nxI, W_rtI, W_bkI, W_ctI, W_as, x_gnm, x_gtp, x_gsN, x_gsC, x_gsb, x_fSet, x_ix0, x_ix1, x_ix10, x_ix20, x_ix21, x_ix30, x_ix31, x_ix32, x_ixI, W_ex, W_rt, W_rtN, W_if, W_dNx, W_dBk, W_dCt, W_au, W_auS, W_fg, W_nxC, W_ctC, W_rtC, W_bkC, W_nxL, W_ctL, W_bkL, W_rtL, W_rtK, W_nxK, x_CPow, x_CMul1, x_CMul2, x_CDiv, x_CDivW, x_rgOk, x_fEq, x_eqK, mapInt_inj, mapInt_nil, mapInts_inj, mapEnt_inj, ints_nil, x_isi, ty_di, ty_db, ty_dn, ty_ds, ty_dl, ty_dt, ty_rl, ty_rt, ty_c, tyO_l, isi_ii, isi_ib, isi_bb, isi_bi, isi_ll, isi_tl, isi_tt, isi_lt, isi_il, isi_nl, isi_ss, x_sort, x_sortK, x_cat, cut_toI, cut_fromI, x_ifno, x_ifno2, x_eqB, x_relNats, x_dNats, mapNat_inj, x_callD, x_callDK, x_rowsS, intsD, entD, natsD, PyData.list.injEq, PyData.tuple.injEq, PyData.int.injEq, PyData.bool.injEq, List.map_append, List.map_cons, List.map_nil, List.getElem?_cons_zero, List.getElem?_cons_succ, List.set_cons_zero, List.set_cons_succ, List.length_cons, List.length_nil, List.length_append, List.length_map, List.length_set, List.take_succ_cons, List.take_zero, List.nil_append, List.cons_append, List.append_nil, List.forall_mem_cons, List.not_mem_nil, List.getD_cons_zero, List.getD_cons_succ, Option.map_some, Option.bind_some, Nat.reduceAdd, Nat.reduceSub, Nat.reduceLT, Nat.reduceLeDiff, Nat.reduceEqDiff, Nat.zero_add, Nat.zero_le, Nat.le_refl, if_true, if_false, ite_true, ite_false, reduceIte, eq_self, true_and, and_true, true_or, or_true, false_or, or_false, decide_eq_true_eq, decide_true, decide_false, Bool.not_true, Bool.not_false, Bool.true_and, Bool.and_true, Bool.false_and, Bool.and_false, Bool.or_false, Bool.false_or, Bool.true_or, Bool.or_true, Bool.false_eq_true, false_implies, implies_true, forall_const, List.getElem?_set_self, List.set_set, Bool.decide_eq_true]) ⟨rfl, rfl⟩ ?_ ?_
    · rintro k ρ T hk ⟨rfl, rfl⟩
      refine ⟨_, it_en (F := fun c => AV.d (.int c)) (l := cs) (lk _) hk, ?_⟩
      have ck : cs[k] = cs.getD k 0 := by rw [List.getD_eq_getElem?_getD, List.getElem?_eq_getElem hk]; rfl
      rw [ck]
      have ls : ((List.range k).map (spanT cs size)).length = k := by rw [List.length_map, List.length_range]
      have sp : ((List.range (k + 1)).map (spanT cs size)).map eA = ((List.range k).map (spanT cs size)).map eA ++ [eA (spanT cs size k)] := by rw [List.range_succ, List.map_append, List.map_append]; rfl
      rw [sp]
      generalize (List.range k).map (spanT cs size) = es at *
      have eg : gtp 2 (gsC (gnm 5) (gsC (gnm 6) gsN)) (mkT [.d (.int (k : Int)), .d (.int (cs.getD k 0))]) [some (.r (tblD PS)), some (.d (.int size)), some (.d (intsD cs)), some (.d (boolsD bg)), some (.c 0), none, none, none, none, none, none] [.lst (es.map eA)] = .ok [some (.r (tblD PS)), some (.d (.int size)), some (.d (intsD cs)), some (.d (boolsD bg)), some (.c 0), some (.d (.int (k : Int))), some (.d (.int (cs.getD k 0))), none, none, none, none] [.lst (es.map eA)] := rfl
      rw [eg, out_ok]
      refine w_sc ?_
      apply w_seq
      apply w_as v_k g_nm
      apply w_nx
      apply w_mid (fun ρ T => T = [.lst (es.map eA)] ∧ ρ = [some (.r (tblD PS)), some (.d (.int size)), some (.d (intsD cs)), some (.d (boolsD bg)), some (.c 0), some (.d (.int (k : Int))), some (.d (.int (cs.getD k 0))), some (.d (.int (firstT cs size (cs.getD k 0) k))), none, none, none])
      · apply w_fg
        refine w_forX (S1 := [.lst (es.map eA)]) (jt := .rng 0 k) (I := fun i ρ T => T = [.lst (es.map eA)] ∧ ρ = [some (.r (tblD PS)), some (.d (.int size)), some (.d (intsD cs)), some (.d (boolsD bg)), some (.c 0), some (.d (.int (k : Int))), some (.d (.int (cs.getD k 0))), some (.d (.int (firstT cs size (cs.getD k 0) i))), none, none, none]) k (by omega) (jR1_of (a_cons (v_var rfl) a_nil) rfl (by omega)) ⟨rfl, rfl⟩ ?_ ?_
        · rintro i ρ T hi ⟨rfl, rfl⟩
          refine ⟨_, it_rng hi, ?_⟩
          rw [Int.zero_add]
          simp only [x_gnm, x_ook, List.set_cons_succ, List.set_cons_zero]
          refine w_sc ?_
          have vg := v_goesFirst (c := cs.getD k 0) (show i < cs.length by omega) (bA_ i (by omega))
          have fs : firstT cs size (cs.getD k 0) (i + 1) = if goesB cs i (cs.getD k 0) = true then size + (i : Int) else firstT cs size (cs.getD k 0) i := rfl
          rw [fs]
          generalize firstT cs size (cs.getD k 0) i = fi at *
          generalize goesB cs i (cs.getD k 0) = gb at *
          have eo : ∀ x : Int, envOk 1 [some (.r (tblD PS)), some (.d (.int size)), some (.d (intsD cs)), some (.d (boolsD bg)), some (.c 0), some (.d (.int (k : Int))), some (.d (.int (cs.getD k 0))), some (.d (.int x)), none, none, none] := fun x => envOk_cons rf_r (envOk_cons rf_d (envOk_cons rf_d (envOk_cons rf_d (envOk_cons (rf_c (Nat.zero_lt_succ 0)) (envOk_cons rf_d (envOk_cons rf_d (envOk_cons rf_d (envOk_cons rf_n (envOk_cons rf_n (envOk_cons rf_n envOk_nil))))))))))
          refine w_if (t_b (v_call (a_cons (v_var rfl) (a_cons (v_var rfl) (a_cons (v_var rfl) (a_cons (v_var rfl) a_nil)))) (c_P rfl (rbs_cons (rb_d _) (rbs_cons (rb_d _) (rbs_cons (rb_d _) (rbs_cons (rb_d _) rbs_nil)))) vg))) (fun hq => ?_) fun hq => ?_
          · rw [if_pos hq]
            apply w_as (v_op (v_var rfl) (v_var rfl) v_I) g_nm
            exact ⟨CE es, eo _, rfl, rfl⟩
          · rw [if_neg (by rw [hq]; decide)]
            apply w_dNx
            exact ⟨CE es, eo _, rfl, rfl⟩
        · rintro ρ T ⟨rfl, rfl⟩
          exact ⟨it_rngE, w_nxI ⟨rfl, rfl⟩⟩
      rintro ρ T ⟨rfl, rfl⟩
      have em : eCB (fI2 fun i j => if j < i then j else i) (aCons (eOp (fI fun i j => .int (i - j)) (eCB fLen (aCons (eVar 2) aNil)) (eK (iA 1))) (aCons (eOp (fI fun i j => .int (i - j)) (eOp (fI fun i j => .int (i + j)) (eVar 1) (eVar 5)) (eK (iA 1))) aNil)) [some (.r (tblD PS)), some (.d (.int size)), some (.d (intsD cs)), some (.d (boolsD bg)), some (.c 0), some (.d (.int (k : Int))), some (.d (.int (cs.getD k 0))), some (.d (.int (firstT cs size (cs.getD k 0) k))), none, none, none] [.lst (es.map eA)] = .ok (.d (.int (if size + (k : Int) - 1 < (cs.length : Int) - 1 then size + (k : Int) - 1 else (cs.length : Int) - 1))) [.lst (es.map eA)] := v_cb (a_cons (v_op (lenC _ _ rfl) v_k v_I) (a_cons (v_op (v_op (v_var rfl) (v_var rfl) v_I) v_k v_I) a_nil)) i2
      apply w_ex (v_bm (v_var rfl) (l_c rfl) (a_cons (v_tup (a_cons (v_var rfl) (a_cons em a_nil)) (Nat.le_of_ble_eq_true rfl)) a_nil) (b_append (S := [.lst (es.map eA)]) (k := 0) rfl (by rw [List.length_map, ls]; omega)))
      have cl := CE (es ++ [spanT cs size k])
      rw [List.map_append] at cl
      exact ⟨cl, envOk_cons rf_r (envOk_cons rf_d (envOk_cons rf_d (envOk_cons rf_d (envOk_cons (rf_c (Nat.zero_lt_succ 0)) (envOk_cons rf_n (envOk_cons rf_n (envOk_cons rf_n (envOk_cons rf_n (envOk_cons rf_n (envOk_cons rf_n envOk_nil)))))))))), rfl, rfl⟩
    · rintro ρ T ⟨rfl, rfl⟩
      exact ⟨it_enE (F := fun c => AV.d (.int c)) (l := cs) (lk _), w_nxI (w_rt (v_var rfl) ⟨rfl, rfl⟩)⟩
  obtain ⟨v, T, e, rfl, rfl⟩ := main
  rw [← hcs]
  exact runP_of e (rb_ce rfl)


end
section
local macro_rules | `(tactic| walk_at "hs") => `(tactic| first | (with_reducible assumption) | exact rfl | (apply get_set; walk_at "hs"))
local macro_rules | `(tactic| walk_at "lk") => `(tactic| first | (with_reducible exact l_rI) | (with_reducible exact l_dI) | (with_reducible exact l_rE) | (with_reducible exact l_dE) | ((with_reducible apply l_c); walk_at "hs") | (with_reducible exact l_d) | (with_reducible exact l_r) | (with_reducible assumption))
local macro_rules | `(tactic| walk_at "lt") => `(tactic| first | (with_reducible exact lT_eR) | (with_reducible exact lT_eA) | (with_reducible exact lT_d) | (with_reducible exact lT_r) | (with_reducible assumption) | exact rfl)
local macro_rules | `(tactic| walk_at "ev1") => `(tactic| first
  | (with_reducible exact v_k) | (with_reducible exact a_nil) | (with_reducible exact g_nm) | (with_reducible exact v_I) | (with_reducible exact v_neg) | (with_reducible exact int_i) | (with_reducible exact int_b) | (with_reducible exact abs_i) | (with_reducible exact i2) | (with_reducible exact g_sN) | (with_reducible exact isN_n)
  | ((with_reducible apply v_var); exact rfl) | (with_reducible assumption)
  | (with_reducible apply v_op) | (with_reducible apply v_un) | (with_reducible apply a_cons) | (with_reducible apply v_cb) | (with_reducible apply v_call) | (with_reducible apply t_b) | (with_reducible apply v_tup) | (with_reducible apply v_lst) | (with_reducible apply g_sb)
  | ((with_reducible apply v_IC); first | decide | exact Or.inl (by decide) | exact ⟨by decide, by decide⟩ | exact ⟨by decide, by decide, by decide⟩ | (with_reducible assumption) | rotate_left)
  | ((with_reducible apply v_ix); walk_at "lk") | ((with_reducible apply v_ixT); exact rfl; walk_at "lt")
  | ((with_reducible apply len_c); walk_at "hs") | ((with_reducible apply len_l); walk_at "lk")
  | ((with_reducible apply set_c); walk_at "hs") | ((with_reducible apply b_append); walk_at "hs")
  | ((with_reducible apply tup3_lt'); exact rfl) | ((with_reducible apply v_isN); exact rfl) | ((with_reducible apply v_notN); exact rfl)
  | (with_reducible exact fEq_intF) | (with_reducible exact fEq_intT) | exact at_cd (by omega)
  | exact at0 | exact at1 | exact at2 | exact at3 | exact ix0 | exact ix1 | exact ix2 | exact ix3
  | ((with_reducible apply g_tp); walk_at "lt"; exact rfl) | (with_reducible apply g_sC)
  | exact atI_ints (by omega) (by omega) | (refine atI_ints ?_ ?_; rotate_left 2) | exact atI_last | exact atI_any (by omega) (by omega) | (refine atI_any ?_ ?_; rotate_left 2)
  | ((with_reducible apply c_I); exact rfl; (with_reducible assumption)) | ((with_reducible apply c_I); exact rfl) | exact Nat.le_of_ble_eq_true rfl)
local macro_rules | `(tactic| walk_at "ev") => `(tactic| repeat (walk_at "ev1"))
local macro_rules | `(tactic| walk_at "rb") => `(tactic| repeat (first | (with_reducible exact rbs_nil) | (with_reducible apply rbs_cons) | (with_reducible exact rb_d _) | (with_reducible exact rb_r _) | ((with_reducible apply rb_ci); walk_at "hs") | ((with_reducible apply rb_ce); walk_at "hs") | (with_reducible assumption)))
local macro_rules | `(tactic| walk_at "nc") => `(tactic| (simp only [nice_l, nice_t, nice_i, nice_n, nice_tup, mem_map, implies_true, forall_const, List.forall_mem_cons, List.not_mem_nil, false_implies, and_true, true_and]; done))
-- import EV6 Dens V199 V32 V18
/-! ### the piles that a law lays -/
theorem d_lawPiles {row : List Int} {h : Int} (h1 : 1 ≤ h) (hl : row.length ≤ 900) :
    den__law_piles_0003 [.r (intsD row), .d (.int h)] [] = .ok (.c 0) (heapT (heapsL row (plainW row h.toNat))) := by
  have hh : 1 ≤ h.toNat := by omega
  have vw := v_lawWay (row := row) (h := h) h1 hl
  obtain ⟨n, hs⟩ := plainW_sted row hh
  have hw : (plainW row h.toNat).length ≤ 900 := by rw [plain_len hh]; exact hl
  have hlt := plainW_lt (row := row) hh
  generalize plainW row h.toNat = w at *
  have main : Ret (den__law_piles_0003 [.r (intsD row), .d (.int h)] []) fun v T => v = .c 0 ∧ T = heapT (heapsL row w) := by
    refine w_fn ?_
    refine w_seq ?_
    refine w_as (v_gcL (j := 0) (S1 := []) (G := [.lst []]) (k := 0) (v_lst a_nil (by decide)) rfl (fun oc h => by cases h) rfl rfl (dat_isA (ns := []))) g_nm ?_
    refine w_nx ?_
    show Wp (dSeq _ _ [some (.r (intsD row)), some (.d (.int h)), some (.c 0), none, none] (heapT [])) _
    refine w_mid (fun ρ T => ∃ v3 v4, ρ = [some (.r (intsD row)), some (.d (.int h)), some (.c 0), v3, v4] ∧ T = heapT (heapsL row w)) ?_ ?_
    · refine w_fg ?_
      refine w_for (I := fun t ρ T => ∃ v3 v4, ρ = [some (.r (intsD row)), some (.d (.int h)), some (.c 0), v3, v4] ∧ T = heapT (heapsL row (w.take t))) w.length (by omega) (j_seqD (v_call (a_cons (v_var rfl) (a_cons (v_var rfl) a_nil)) (c_P rfl (rbs_cons (rb_r _) (rbs_cons (rb_d _) rbs_nil)) vw))) ⟨none, none, rfl, rfl⟩ ?_ ?_
      · rintro t ρ T ht ⟨v3, v4, rfl, rfl⟩
        have ht2 : t < (w.map cst).length := by rw [List.length_map]; exact ht
        obtain ⟨m, hm, hp⟩ := hs.at t ht
        have hil := hlt _ (List.getElem_mem ht)
        have hlen := heapsL_len row hm
        have small := pile_small row hm (by rw [List.length_take]; omega)
        have e1 : (w.map cst)[t] = cst w[t] := by simp
        refine ⟨_, _, _, at_seqD ht2, g_tp lT_eA rfl (g_sC g_nm (g_sC g_nm g_sN)), ?_⟩
        rw [e1, Sted.take_next ht, heapsL_snoc]
        have mle := hm.le
        rw [List.length_take] at mle
        generalize w[t] = e at *
        generalize heapsL row (w.take t) = H at *
        show Wp (dSeq _ _ [some (.r (intsD row)), some (.d (.int h)), some (.c 0), some (iA (e.1 : Int)), some (iA (e.2 : Int))] (heapT H)) _
        have ac := at_cd (row := row) hil
        have ll : (((refsA H.length).length : Nat) : Int) = (H.length : Int) := by simp
        refine w_mid (fun ρ T => ∃ H' : List (List Int), H' = (if e.2 = H.length then H ++ [[]] else H) ∧ ρ = [some (.r (intsD row)), some (.d (.int h)), some (.c 0), some (iA (e.1 : Int)), some (iA (e.2 : Int))] ∧ T = heapT H') ?_ ?_
        · refine w_if (t_b (v_op (v_var rfl) (v_cb (a_cons (v_var rfl) a_nil) (len_c (xs := refsA H.length) rfl)) v_I)) (fun hq => ?_) (fun hq => ?_)
          · have hq := of_decide_eq_true hq
            rw [ll] at hq
            have hq : e.2 = H.length := by omega
            have el : eLst aNil [some (.r (intsD row)), some (.d (.int h)), some (.c 0), some (iA (e.1 : Int)), some (iA (e.2 : Int))] (heapT H) = .ok (.c (H.length + 1)) (heapT H ++ [.lst []]) := by
              have := v_lst (dl := aNil) (ρ := [some (.r (intsD row)), some (.d (.int h)), some (.c 0), some (iA (e.1 : Int)), some (iA (e.2 : Int))]) (S := heapT H) a_nil (by decide)
              rwa [show (heapT H).length = H.length + 1 by simp [heapT]] at this
            refine w_ex (v_bm (v_var rfl) (l_c (xs := refsA H.length) rfl) (a_cons el a_nil) (b_append (xs := refsA H.length) rfl (by simp; omega))) ?_
            rw [heapT_new]
            refine w_nxI ?_
            exact ⟨_, (if_pos hq).symm, rfl, rfl⟩
          · have hq := of_decide_eq_false hq
            rw [ll] at hq
            refine w_dNx ?_
            refine w_nxI ?_
            exact ⟨H, (if_neg (by omega)).symm, rfl, rfl⟩
        rintro ρ T ⟨H', eH, rfl, rfl⟩
        have hk : e.2 < H'.length := by
          rw [eH]; split
          · rw [List.length_append]; simp; omega
          · omega
        have sm : (H'.getD e.2 []).length ≤ 900 := by
          rw [eH]; split
          · rename_i he
            rw [List.getD_eq_getElem?_getD, List.getElem?_append_right (by omega), he]
            simp
          · exact small _
        refine w_ex (v_bm (v_op (v_var rfl) (v_var rfl) (v_ix (l_c (xs := refsA H'.length) rfl) (refs_at hk rfl))) (l_c (heapT_at hk)) (a_cons (v_op (v_var rfl) (v_var rfl) (v_ix l_rI ac)) a_nil) (b_append (heapT_at hk) (by rw [List.length_map]; omega))) ?_
        rw [← isA_snoc, heapT_set]
        refine ⟨some (iA (e.1 : Int)), some (iA (e.2 : Int)), rfl, ?_⟩
        unfold stepH
        rw [← eH]
      · rintro ρ T ⟨v3, v4, rfl, rfl⟩
        refine ⟨?_, v3, v4, rfl, ?_⟩
        · have := at_seqD0 (S := heapT (heapsL row (w.take w.length))) (es := w.map cst)
          rwa [List.length_map] at this
        · rw [List.take_length]
    · rintro ρ T ⟨v3, v4, rfl, rfl⟩
      refine w_rt (v_var rfl) ?_
      exact ⟨rfl, rfl⟩
  obtain ⟨v, T, e, rfl, rfl⟩ := main
  exact e
theorem v_lawPiles {row : List Int} {h : Int} (h1 : 1 ≤ h) (hl : row.length ≤ 900) : RunP den__law_piles_0003 [intsD row, .int h] (tblD (heapsL row (plainW row h.toNat))) := by
  have e := d_lawPiles h1 hl
  refine runP_of (den := den__law_piles_0003) (ds := [intsD row, .int h]) e ?_
  generalize heapsL row (plainW row h.toNat) = H
  have := rb_rows (al := false) (k := 6) (m := 0) (n := 1) (S := heapT H) (dss := H.map fun p => p.map PyData.int) (by
    rw [List.length_map]
    show some (OC.lst (refsA H.length)) = some (OC.lst (refsN 1 H.length))
    refine congrArg (fun l => some (OC.lst l)) (List.map_congr_left fun i _ => ?_)
    rw [Nat.add_comm]) (fun i hi => by
    rw [List.length_map] at hi
    rw [Nat.add_comm, heapT_at hi, List.getElem_map, isA_d, List.getD_eq_getElem?_getD, List.getElem?_eq_getElem hi]
    rfl)
  rw [this, List.map_map]
  rfl


end
section
local macro_rules | `(tactic| walk_at "hs") => `(tactic| first | (with_reducible assumption) | exact rfl | (apply get_set; walk_at "hs"))
local macro_rules | `(tactic| walk_at "lk") => `(tactic| first | (with_reducible exact l_rI) | (with_reducible exact l_dI) | (with_reducible exact l_rE) | (with_reducible exact l_dE) | ((with_reducible apply l_c); walk_at "hs") | (with_reducible exact l_d) | (with_reducible exact l_r) | (with_reducible assumption))
local macro_rules | `(tactic| walk_at "lt") => `(tactic| first | (with_reducible exact lT_eR) | (with_reducible exact lT_eA) | (with_reducible exact lT_d) | (with_reducible exact lT_r) | (with_reducible assumption) | exact rfl)
local macro_rules | `(tactic| walk_at "ev1") => `(tactic| first
  | (with_reducible exact v_k) | (with_reducible exact a_nil) | (with_reducible exact g_nm) | (with_reducible exact v_I) | (with_reducible exact v_neg) | (with_reducible exact int_i) | (with_reducible exact int_b) | (with_reducible exact abs_i) | (with_reducible exact i2) | (with_reducible exact g_sN) | (with_reducible exact isN_n)
  | ((with_reducible apply v_var); exact rfl) | (with_reducible assumption)
  | (with_reducible apply v_op) | (with_reducible apply v_un) | (with_reducible apply a_cons) | (with_reducible apply v_cb) | (with_reducible apply v_call) | (with_reducible apply t_b) | (with_reducible apply v_tup) | (with_reducible apply v_lst) | (with_reducible apply g_sb)
  | ((with_reducible apply v_IC); first | decide | exact Or.inl (by decide) | exact ⟨by decide, by decide⟩ | exact ⟨by decide, by decide, by decide⟩ | (with_reducible assumption) | rotate_left)
  | ((with_reducible apply v_ix); walk_at "lk") | ((with_reducible apply v_ixT); exact rfl; walk_at "lt")
  | ((with_reducible apply len_c); walk_at "hs") | ((with_reducible apply len_l); walk_at "lk")
  | ((with_reducible apply set_c); walk_at "hs") | ((with_reducible apply b_append); walk_at "hs")
  | ((with_reducible apply tup3_lt'); exact rfl) | ((with_reducible apply v_isN); exact rfl) | ((with_reducible apply v_notN); exact rfl)
  | (with_reducible exact fEq_intF) | (with_reducible exact fEq_intT) | exact at_cd (by omega)
  | exact at0 | exact at1 | exact at2 | exact at3 | exact ix0 | exact ix1 | exact ix2 | exact ix3
  | ((with_reducible apply g_tp); walk_at "lt"; exact rfl) | (with_reducible apply g_sC)
  | exact atI_ints (by omega) (by omega) | (refine atI_ints ?_ ?_; rotate_left 2) | exact atI_last | exact atI_any (by omega) (by omega) | (refine atI_any ?_ ?_; rotate_left 2)
  | ((with_reducible apply c_I); exact rfl; (with_reducible assumption)) | ((with_reducible apply c_I); exact rfl) | exact Nat.le_of_ble_eq_true rfl)
local macro_rules | `(tactic| walk_at "ev") => `(tactic| repeat (walk_at "ev1"))
local macro_rules | `(tactic| walk_at "rb") => `(tactic| repeat (first | (with_reducible exact rbs_nil) | (with_reducible apply rbs_cons) | (with_reducible exact rb_d _) | (with_reducible exact rb_r _) | ((with_reducible apply rb_ci); walk_at "hs") | ((with_reducible apply rb_ce); walk_at "hs") | (with_reducible assumption)))
local macro_rules | `(tactic| walk_at "nc") => `(tactic| (simp only [nice_l, nice_t, nice_i, nice_n, nice_tup, mem_map, implies_true, forall_const, List.forall_mem_cons, List.not_mem_nil, false_implies, and_true, true_and]; done))
-- import EV6 Dens V200 V34
theorem rp_idx : ∀ {PS : List (List Int)}, (∀ k (hk : k < PS.length), PS[k] ≠ [] ∧ PS[k].Pairwise (· ≤ ·)) → (∀ t (h : t + 1 < PS.length), (PS[t + 1]).getD 0 0 < (PS[t]).getD ((PS[t]).length - 1) 0) → RP PS
  | [], _, _ => trivial
  | p :: r, h1, h2 => ⟨h1 0 (Nat.succ_pos _), (fun q r' e => by subst e; exact h2 0 (by show 1 < r'.length + 2; omega)), rp_idx (fun k hk => h1 (k + 1) (Nat.succ_lt_succ hk)) fun t ht => h2 (t + 1) (Nat.succ_lt_succ ht)⟩
theorem rp_runs {hs : List (List Int)} (h : RunsOk hs) : RP hs := by
  refine rp_idx (fun k hk => ⟨(h k hk).1, (h k hk).2.1⟩) fun t ht => ?_
  obtain ⟨f, l, hf, hl, lt⟩ := (h (t + 1) ht).2.2 (Nat.succ_pos _)
  have ne := (h t (by omega)).1
  have e1 : (hs[t + 1]).getD 0 0 = f := by
    cases q : hs[t + 1] with
    | nil => rw [q] at hf; cases hf
    | cons a b => rw [q] at hf; exact Option.some.inj hf
  have e2 : (hs[t]).getD ((hs[t]).length - 1) 0 = l := by
    rw [flat_snoc (by omega)] at hl
    rcases List.eq_nil_or_concat hs[t] with q | ⟨u, x, q⟩
    · exact absurd q ne
    · have q : hs[t] = u ++ [x] := by simpa using q
      rw [q, ← List.append_assoc] at hl
      rw [q, List.length_append]
      simp at hl
      rw [← hl]
      show (u ++ [x]).getD (u.length + 1 - 1) 0 = x
      rw [Nat.add_sub_cancel, getD_r (Nat.le_refl _), Nat.sub_self]
      rfl
  rw [e1, e2]
  exact lt
theorem rp_heaps {row : List Int} {h : Nat} (hh : 1 ≤ h) : RP (heapsL row (plainW row h)) ∧ (heapsL row (plainW row h)).flatten = laidL row h := by
  rw [heaps_runs row hh]
  have R := runI (laidL row h)
  refine ⟨rp_runs ?_, ?_⟩
  · exact R.ok
  · exact R.fl


end
section
local macro_rules | `(tactic| walk_at "hs") => `(tactic| first | (with_reducible assumption) | exact rfl | (apply get_set; walk_at "hs"))
local macro_rules | `(tactic| walk_at "lk") => `(tactic| first | (with_reducible exact l_rI) | (with_reducible exact l_dI) | (with_reducible exact l_rE) | (with_reducible exact l_dE) | ((with_reducible apply l_c); walk_at "hs") | (with_reducible exact l_d) | (with_reducible exact l_r) | (with_reducible assumption))
local macro_rules | `(tactic| walk_at "lt") => `(tactic| first | (with_reducible exact lT_eR) | (with_reducible exact lT_eA) | (with_reducible exact lT_d) | (with_reducible exact lT_r) | (with_reducible assumption) | exact rfl)
local macro_rules | `(tactic| walk_at "ev1") => `(tactic| first
  | (with_reducible exact v_k) | (with_reducible exact a_nil) | (with_reducible exact g_nm) | (with_reducible exact v_I) | (with_reducible exact v_neg) | (with_reducible exact int_i) | (with_reducible exact int_b) | (with_reducible exact abs_i) | (with_reducible exact i2) | (with_reducible exact g_sN) | (with_reducible exact isN_n)
  | ((with_reducible apply v_var); exact rfl) | (with_reducible assumption)
  | (with_reducible apply v_op) | (with_reducible apply v_un) | (with_reducible apply a_cons) | (with_reducible apply v_cb) | (with_reducible apply v_call) | (with_reducible apply t_b) | (with_reducible apply v_tup) | (with_reducible apply v_lst) | (with_reducible apply g_sb)
  | ((with_reducible apply v_IC); first | decide | exact Or.inl (by decide) | exact ⟨by decide, by decide⟩ | exact ⟨by decide, by decide, by decide⟩ | (with_reducible assumption) | rotate_left)
  | ((with_reducible apply v_ix); walk_at "lk") | ((with_reducible apply v_ixT); exact rfl; walk_at "lt")
  | ((with_reducible apply len_c); walk_at "hs") | ((with_reducible apply len_l); walk_at "lk")
  | ((with_reducible apply set_c); walk_at "hs") | ((with_reducible apply b_append); walk_at "hs")
  | ((with_reducible apply tup3_lt'); exact rfl) | ((with_reducible apply v_isN); exact rfl) | ((with_reducible apply v_notN); exact rfl)
  | (with_reducible exact fEq_intF) | (with_reducible exact fEq_intT) | exact at_cd (by omega)
  | exact at0 | exact at1 | exact at2 | exact at3 | exact ix0 | exact ix1 | exact ix2 | exact ix3
  | ((with_reducible apply g_tp); walk_at "lt"; exact rfl) | (with_reducible apply g_sC)
  | exact atI_ints (by omega) (by omega) | (refine atI_ints ?_ ?_; rotate_left 2) | exact atI_last | exact atI_any (by omega) (by omega) | (refine atI_any ?_ ?_; rotate_left 2)
  | ((with_reducible apply c_I); exact rfl; (with_reducible assumption)) | ((with_reducible apply c_I); exact rfl) | exact Nat.le_of_ble_eq_true rfl)
local macro_rules | `(tactic| walk_at "ev") => `(tactic| repeat (walk_at "ev1"))
local macro_rules | `(tactic| walk_at "rb") => `(tactic| repeat (first | (with_reducible exact rbs_nil) | (with_reducible apply rbs_cons) | (with_reducible exact rb_d _) | (with_reducible exact rb_r _) | ((with_reducible apply rb_ci); walk_at "hs") | ((with_reducible apply rb_ce); walk_at "hs") | (with_reducible assumption)))
local macro_rules | `(tactic| walk_at "nc") => `(tactic| (simp only [nice_l, nice_t, nice_i, nice_n, nice_tup, mem_map, implies_true, forall_const, List.forall_mem_cons, List.not_mem_nil, false_implies, and_true, true_and]; done))
-- import EV6 Dens V201 V64 V22 V185 V43
/-! ### law k56 -/
theorem v_told56 {z many : Int} (hz : 0 ≤ z) (m0 : 0 ≤ many) (m1 : many ≤ 100) : ∃ (PS : List (List Int)) (sz z' : Int), den__law_told_f85c [.c 0, .d (.int many)] [.lst [iA z]] = .ok (.d (.tuple [tblD PS, .int sz])) [.lst [iA z']] ∧ 0 ≤ z' ∧ 1 ≤ sz ∧ RP PS ∧ PS.flatten.Nodup ∧ PS.flatten.length ≤ 100 := by
  have d0 : ∀ z : Int, ∀ oc ∈ [OC.lst [iA z]], Dat oc := fun z => dat_one dat_z
  have c0 : ∀ z : Int, closed 1 [OC.lst [iA z]] := fun z => closed_dat0 (d0 z)
  have main : Ret (den__law_told_f85c [.c 0, .d (.int many)] [.lst [iA z]]) fun v T => ∃ (PS : List (List Int)) (sz z' : Int), v = .d (.tuple [tblD PS, .int sz]) ∧ T = [.lst [iA z']] ∧ 0 ≤ z' ∧ 1 ≤ sz ∧ RP PS ∧ PS.flatten.Nodup ∧ PS.flatten.length ≤ 100 := by
    refine w_fn ?_
    obtain ⟨r1, z1, e1, a1, b1, p1, _⟩ := tk (S := [.lst [iA z]]) (n := 0) (m := 4) rfl hz (by decide) (by decide)
    apply w_seq
    apply w_as (v_op v_k (v_call (a_cons (v_var rfl) (a_cons v_k a_nil)) (c_I rfl e1)) v_I) g_nm
    apply w_nx
    obtain ⟨r2, z2, e2, a2, b2, p2, _⟩ := tk (S := [.lst [iA z1], .lst (isA [1, 1 + r1, many])]) (n := 0) (m := 3) rfl p1 (by decide) (by decide)
    obtain ⟨sz, hsz, em⟩ := at_pick (ns := [1, 1 + r1, many]) a2 b2
    have q2 : eFz (eOp fIx (eLst (aCons (eK (iA 1)) (aCons (eVar 2) (aCons (eVar 1) aNil)))) (eCall (fCallI 2 den__law_take) (aCons (eVar 0) (aCons (eK (iA 3)) aNil)))) [some (.c 0), some (.d (.int many)), some (.d (.int (1 + r1))), none] [.lst [iA z1]] = .ok (.d (.int sz)) [.lst [iA z2]] :=
      fz_datS (S1 := [.lst [iA z2]]) (G := [.lst (isA [1, 1 + r1, many])]) (v_op (v_lst (a_cons v_k (a_cons (v_var rfl) (a_cons (v_var rfl) a_nil))) (Nat.le_of_ble_eq_true rfl)) (v_call (a_cons (v_var rfl) (a_cons v_k a_nil)) (c_I rfl e2)) (v_ix (l_c rfl) em)) (c0 z2) rfl
    apply w_seq
    apply w_as q2 g_nm
    apply w_nx
    obtain ⟨row, z3, e3, p3, nd, rl⟩ := cards41 (z := z2) (many := many) p2 m0 m1
    have q3 : eFz (eCall (fCallI 2 den__law_cards_6f25) (aCons (eVar 0) (aCons (eVar 1) aNil))) [some (.c 0), some (.d (.int many)), some (.d (.int sz)), none] [.lst [iA z2]] = .ok (.d (intsD row)) [.lst [iA z3]] := by
      have e3 : fzK 1 (noX (den__law_cards_6f25 [.c 0, .d (.int many)] [.lst [.d (.int z2)]])) = .ok (.d (intsD row)) [.lst [.d (.int z3)]] := e3
      simp (disch := first | assumption | omega | walk_at "nc") only [x_get1, x_var, x_bok, x_bex, x_ook, x_oex, x_k, x_op, x_un, x_fI, x_fIC, x_fU, asI_i, asB_b, x_lookc, x_lookO, x_lookd, x_lookr, x_lookdt, x_lookrt, x_lookt, x_lookTd, x_lookTr, x_lookTt, x_cellL, x_relInt, x_relInts, x_dInt, x_isALen, rel_int, rel_bool, rel_none, rel_str, rel_list, rel_tup, x_ix, x_at0, x_at1, x_at2, x_at3, x_atL, x_atI, x_and, x_or, x_not, x_eif, x_bE, x_bAnd, x_bOr, x_bNot, x_bTru, x_bYes, x_iteOk, x_iteD, x_iteI, x_iteB, x_iteT, x_iteF, x_iteTp, x_iteFp, x_aNil, x_aCons, x_lst, x_tup, x_newL, x_mkT0, x_mkT1, x_mkT2, x_mkT3, x_mkT4, x_cb, x_call, x_callN, x_ck, x_bm, x_callI, x_noX, x_callP, x_callPK, x_callC, x_callCK, x_rbs0, x_rbs1, x_rbsK, x_rbd, x_rbr, x_rbc, x_rbCK, x_rbLK1, x_rbLK0, x_rbt, x_allD0, x_allD1, x_allDc, x_allDm, x_allDm', x_allDa, x_closed, x_ocM, x_ocM', x_ocA, x_ocC, x_oc0, x_ocO, x_rfd, x_rfr, x_rfg, x_rfc, x_env0, x_envN, x_envS, x_wipe0, x_wipe1, x_fz, x_fzK, x_frd, x_frr, x_frc, x_newS, x_gc, x_gcK, x_gcd, x_gcr, x_gcc, x_bgc, x_bgK, x_len, x_list, x_int, x_intb, x_abs, x_i2, x_ints, x_asInts, x_asInts0, x_asInts1, x_bools, x_asBools, x_append, x_pop, x_isN, x_notN, isN_n', isN_i, isN_b, isN_l, isN_t, isN_rl, isN_c, x_isB, x_rg1, x_rg2, x_oN, x_oS, x_sl, x_jSeq, x_jR1, x_jR2, x_jEn, x_jZp, W_seq, W_nxS, W_rtS, W_bkS, W_ctS, W_exS, W_nxI, W_rtI, W_bkI, W_ctI, W_as, x_gnm, x_gtp, x_gsN, x_gsC, x_gsb, x_fSet, x_ix0, x_ix1, x_ix10, x_ix20, x_ix21, x_ix30, x_ix31, x_ix32, x_ixI, W_ex, W_rt, W_rtN, W_if, W_dNx, W_dBk, W_dCt, W_au, W_auS, W_fg, W_nxC, W_ctC, W_rtC, W_bkC, W_nxL, W_ctL, W_bkL, W_rtL, W_rtK, W_nxK, x_CPow, x_CMul1, x_CMul2, x_CDiv, x_CDivW, x_rgOk, x_fEq, x_eqK, mapInt_inj, mapInt_nil, mapInts_inj, mapEnt_inj, ints_nil, x_isi, ty_di, ty_db, ty_dn, ty_ds, ty_dl, ty_dt, ty_rl, ty_rt, ty_c, tyO_l, isi_ii, isi_ib, isi_bb, isi_bi, isi_ll, isi_tl, isi_tt, isi_lt, isi_il, isi_nl, isi_ss, x_sort, x_sortK, x_cat, cut_toI, cut_fromI, x_ifno, x_ifno2, x_eqB, x_relNats, x_dNats, mapNat_inj, x_callD, x_callDK, x_rowsS, intsD, entD, natsD, PyData.list.injEq, PyData.tuple.injEq, PyData.int.injEq, PyData.bool.injEq, List.map_append, List.map_cons, List.map_nil, List.getElem?_cons_zero, List.getElem?_cons_succ, List.set_cons_zero, List.set_cons_succ, List.length_cons, List.length_nil, List.length_append, List.length_map, List.length_set, List.take_succ_cons, List.take_zero, List.nil_append, List.cons_append, List.append_nil, List.forall_mem_cons, List.not_mem_nil, List.getD_cons_zero, List.getD_cons_succ, Option.map_some, Option.bind_some, Nat.reduceAdd, Nat.reduceSub, Nat.reduceLT, Nat.reduceLeDiff, Nat.reduceEqDiff, Nat.zero_add, Nat.zero_le, Nat.le_refl, if_true, if_false, ite_true, ite_false, reduceIte, eq_self, true_and, and_true, true_or, or_true, false_or, or_false, decide_eq_true_eq, decide_true, decide_false, Bool.not_true, Bool.not_false, Bool.true_and, Bool.and_true, Bool.false_and, Bool.and_false, Bool.or_false, Bool.false_or, Bool.true_or, Bool.or_true, Bool.false_eq_true, false_implies, implies_true, forall_const, List.getElem?_set_self, List.set_set, Bool.decide_eq_true, e3]
    apply w_seq
    apply w_as q3 g_nm
    apply w_nx
    obtain ⟨h, hh⟩ : ∃ h : Int, h = if sz > 1 then sz else 1 := ⟨_, rfl⟩
    have h1 : 1 ≤ h := by rw [hh]; split <;> omega
    have em2 : ∀ T, eCB (fI2 fun i j => if j > i then j else i) (aCons (eK (iA 1)) (aCons (eVar 2) aNil)) [some (.c 0), some (.d (.int many)), some (.d (.int sz)), some (.d (intsD row))] T = .ok (.d (.int h)) T := fun T => (v_cb (a_cons v_k (a_cons (v_var rfl) a_nil)) i2).trans (by rw [← hh])
    have vp := v_lawPiles (row := row) h1 (by omega)
    obtain ⟨rp, fl⟩ := rp_heaps (row := row) (h := h.toNat) (by omega)
    have pm := laidL_perm (row := row) (h := h.toNat) (by omega)
    exact w_rt (v_tup (a_cons (v_call (a_cons (v_var rfl) (a_cons (em2 _) a_nil)) (c_P rfl (rbs_cons (rb_d _) (rbs_cons (rb_d _) rbs_nil)) vp)) (a_cons (em2 _) a_nil)) (Nat.le_of_ble_eq_true rfl)) ⟨heapsL row (plainW row h.toNat), h, z3, rfl, rfl, p3, h1, rp, by rw [fl]; exact pm.nodup_iff.mpr nd, by rw [fl, pm.length_eq]; omega⟩
  obtain ⟨v, T, e, PS, sz, z', rfl, rfl, h⟩ := main
  exact ⟨PS, sz, z', e, h⟩
theorem v_law_k56 {ns : List Int} (hn : ns.length ≤ 900) (hb : ∀ z ∈ ns, Builtin.Int.intBits z ≤ 1048576) : Ret (den_law_k56 [.r (intsD ns)] []) fun v _ => v = bA true := by
  refine w_fn ?_
  apply w_seq
  apply w_fg
  obtain ⟨cells, cb, cl, ej⟩ := v_cells (m := 6) (ρ := [some (.r (intsD ns)), none, none, none, none, none, none, none, none, none, none]) (by decide) hn hb rfl
  have d0 : ∀ z : Int, ∀ oc ∈ [OC.lst [iA z]], Dat oc := fun z => dat_one dat_z
  have c0 : ∀ z : Int, closed 1 [OC.lst [iA z]] := fun z => closed_dat0 (d0 z)
  refine w_forX (S1 := []) (jt := .enum (.d (intsD cells))) (I := fun t ρ T => T = [] ∧ ρ = [some (.r (intsD ns)), none, none, none, none, none, none, none, none, none, none]) cells.length (by omega) ej ⟨rfl, rfl⟩ ?_ ?_
  · rintro t ρ T ht ⟨rfl, rfl⟩
    refine ⟨_, at_enum ht, ?_⟩
    have hcb := cb _ (List.getElem_mem ht)
    generalize cells[t] = cell at *
    have eg : gtp 2 (gsC (gnm 1) (gsC (gnm 2) gsN)) (mkT [iA (t : Int), iA cell]) [some (.r (intsD ns)), none, none, none, none, none, none, none, none, none, none] [] = .ok [some (.r (intsD ns)), some (.d (.int (t : Int))), some (.d (.int cell)), none, none, none, none, none, none, none, none] [] := rfl
    rw [eg, out_ok]
    refine w_sc ?_
    obtain ⟨z, hz, vp⟩ := v_pool (cell := cell) (turn := (t : Int)) hcb (by omega) (by omega)
    apply w_seq
    have q3 : eCall (fCallC 2 den__law_pool) (aCons (eVar 2) (aCons (eVar 1) aNil)) [some (.r (intsD ns)), some (.d (.int (t : Int))), some (.d (.int cell)), none, none, none, none, none, none, none, none] [] = .ok (.c 0) [.lst [iA z]] := v_call (a_cons (v_var rfl) (a_cons (v_var rfl) a_nil)) (c_C rfl (rbs_cons (rb_d _) (rbs_cons (rb_d _) rbs_nil)) vp)
    apply w_as q3 g_nm
    apply w_nx
    obtain ⟨many, z1, e1, a1, b1, p1, _⟩ := tk (S := [.lst [iA z]]) (n := 0) (m := 13) rfl hz (by decide) (by decide)
    apply w_seq
    apply w_as (v_call (a_cons (v_var rfl) (a_cons v_k a_nil)) (c_I rfl e1)) g_nm
    apply w_nx
    apply w_mid (fun ρ T => ∃ many z : Int, 0 ≤ z ∧ 0 ≤ many ∧ many ≤ 60 ∧ T = [.lst [iA z]] ∧ ρ = [some (.r (intsD ns)), some (.d (.int (t : Int))), some (.d (.int cell)), some (.c 0), some (.d (.int many)), none, none, none, none, none, none])
    · obtain ⟨r2, z2, e2, a2, b2, p2, _⟩ := tk (S := [.lst [iA z1]]) (n := 0) (m := 2) rfl p1 (by decide) (by decide)
      by_cases q : many = 12
      · refine w_if (t_and1' (t_b (v_op (v_var rfl) v_k v_I)) (decide_eq_true q) (t_b (v_op (v_call (a_cons (v_var rfl) (a_cons v_k a_nil)) (c_I rfl e2)) v_k v_I))) (fun _ => ?_) fun _ => ?_
        · apply w_as v_k g_nm
          exact w_nxI ⟨60, z2, p2, by decide, by decide, rfl, rfl⟩
        · exact w_nxI ⟨many, z2, p2, a1, by omega, rfl, rfl⟩
      · refine w_if (t_and0' (t_b (v_op (v_var rfl) v_k v_I)) (decide_eq_false q)) (fun hq => by cases hq) fun _ => ?_
        exact w_nxI ⟨many, z1, p1, a1, by omega, rfl, rfl⟩
    clear e1
    rintro ρ T ⟨many, z, hz, m0, m1, rfl, rfl⟩
    obtain ⟨PS, first, z2, e2, p2, f1, rp, nd, fl⟩ := v_told56 hz m0 (show many ≤ 100 by omega)
    have pl := rp_len rp
    apply w_seq
    have q5 : eFz (eCall (fCallI 2 den__law_told_f85c) (aCons (eVar 3) (aCons (eVar 4) aNil))) [some (.r (intsD ns)), some (.d (.int (t : Int))), some (.d (.int cell)), some (.c 0), some (.d (.int many)), none, none, none, none, none, none] [.lst [iA z]] = .ok (.d (.tuple [tblD PS, .int first])) [.lst [iA z2]] := fz_datS (S1 := [.lst [iA z2]]) (G := []) (v_call (a_cons (v_var rfl) (a_cons (v_var rfl) a_nil)) (c_I rfl e2)) (c0 z2) rfl
    have g5 : gtp 2 (gsC (gnm 5) (gsC (gnm 6) gsN)) (.d (.tuple [tblD PS, .int first])) [some (.r (intsD ns)), some (.d (.int (t : Int))), some (.d (.int cell)), some (.c 0), some (.d (.int many)), none, none, none, none, none, none] [.lst [iA z2]] = .ok [some (.r (intsD ns)), some (.d (.int (t : Int))), some (.d (.int cell)), some (.c 0), some (.d (.int many)), some (.d (tblD PS)), some (.d (.int first)), none, none, none, none] [.lst [iA z2]] := rfl
    apply w_as q5 g5
    apply w_nx
    obtain ⟨_, _, e3, h, z3, rfl, rfl, hh, p3⟩ := v_size (S := [.lst [iA z2]]) (n := 0) (many := many) rfl p2 m0 (by omega)
    obtain ⟨r4, z4, e4, a4, b4, p4, _⟩ := tk (S := [.lst [iA z3], .lst (isA [first, h])]) (n := 0) (m := 2) rfl p3 (by decide) (by decide)
    obtain ⟨size, hs, em⟩ := at_pick (ns := [first, h]) a4 b4
    have s1 : 1 ≤ size := by
      simp only [List.mem_cons, List.not_mem_nil, or_false] at hs
      rcases hs with rfl | rfl
      · exact f1
      · exact hh
    have q7 : eFz (eOp fIx (eLst (aCons (eVar 6) (aCons (eCall (fCallI 2 den__law_size) (aCons (eVar 3) (aCons (eVar 4) aNil))) aNil))) (eCall (fCallI 2 den__law_take) (aCons (eVar 3) (aCons (eK (iA 2)) aNil)))) [some (.r (intsD ns)), some (.d (.int (t : Int))), some (.d (.int cell)), some (.c 0), some (.d (.int many)), some (.d (tblD PS)), some (.d (.int first)), none, none, none, none] [.lst [iA z2]] = .ok (.d (.int size)) [.lst [iA z4]] :=
      fz_datS (S1 := [.lst [iA z4]]) (G := [.lst (isA [first, h])]) (v_op (v_lst (a_cons (v_var rfl) (a_cons (v_call (a_cons (v_var rfl) (a_cons (v_var rfl) a_nil)) (c_I rfl e3)) a_nil)) (Nat.le_of_ble_eq_true rfl)) (v_call (a_cons (v_var rfl) (a_cons v_k a_nil)) (c_I rfl e4)) (v_ix (l_c rfl) em)) (c0 z4) rfl
    apply w_seq
    apply w_as q7 g_nm
    apply w_nx
    have bPS : ∀ p ∈ PS, p.length ≤ 100 := fun p hp => Nat.le_trans (mem_lenF hp) fl
    have q8 : eFz (eLc (jSeq (eVar 5)) (gnm 10) bYes (eFz (eCB fList (aCons (eVar 10) aNil))) [10]) [some (.r (intsD ns)), some (.d (.int (t : Int))), some (.d (.int cell)), some (.c 0), some (.d (.int many)), some (.d (tblD PS)), some (.d (.int first)), some (.d (.int size)), none, none, none] [.lst [iA z4]] = .ok (.d (tblD PS)) [.lst [iA z4]] := by
      have eL := lc_mapA (ρ := [some (.r (intsD ns)), some (.d (.int (t : Int))), some (.d (.int cell)), some (.c 0), some (.d (.int many)), some (.d (tblD PS)), some (.d (.int first)), some (.d (.int size)), none, none, none]) (S := [.lst [iA z4]]) (S1 := [.lst [iA z4]]) (it := jSeq (eVar 5)) (jt := .seq (.d (tblD PS))) (g := gnm 10) (d := eFz (eCB fList (aCons (eVar 10) aNil))) (vs := [10]) (l := PS) (F := fun e => AV.d (intsD e)) (f := fun e => AV.d (intsD e))
        (by simp (disch := first | assumption | omega | walk_at "nc") only [x_get1, x_var, x_bok, x_bex, x_ook, x_oex, x_k, x_op, x_un, x_fI, x_fIC, x_fU, asI_i, asB_b, x_lookc, x_lookO, x_lookd, x_lookr, x_lookdt, x_lookrt, x_lookt, x_lookTd, x_lookTr, x_lookTt, x_cellL, x_relInt, x_relInts, x_dInt, x_isALen, rel_int, rel_bool, rel_none, rel_str, rel_list, rel_tup, x_ix, x_at0, x_at1, x_at2, x_at3, x_atL, x_atI, x_and, x_or, x_not, x_eif, x_bE, x_bAnd, x_bOr, x_bNot, x_bTru, x_bYes, x_iteOk, x_iteD, x_iteI, x_iteB, x_iteT, x_iteF, x_iteTp, x_iteFp, x_aNil, x_aCons, x_lst, x_tup, x_newL, x_mkT0, x_mkT1, x_mkT2, x_mkT3, x_mkT4, x_cb, x_call, x_callN, x_ck, x_bm, x_callI, x_noX, x_callP, x_callPK, x_callC, x_callCK, x_rbs0, x_rbs1, x_rbsK, x_rbd, x_rbr, x_rbc, x_rbCK, x_rbLK1, x_rbLK0, x_rbt, x_allD0, x_allD1, x_allDc, x_allDm, x_allDm', x_allDa, x_closed, x_ocM, x_ocM', x_ocA, x_ocC, x_oc0, x_ocO, x_rfd, x_rfr, x_rfg, x_rfc, x_env0, x_envN, x_envS, x_wipe0, x_wipe1, x_fz, x_fzK, x_frd, x_frr, x_frc, x_newS, x_gc, x_gcK, x_gcd, x_gcr, x_gcc, x_bgc, x_bgK, x_len, x_list, x_int, x_intb, x_abs, x_i2, x_ints, x_asInts, x_asInts0, x_asInts1, x_bools, x_asBools, x_append, x_pop, x_isN, x_notN, isN_n', isN_i, isN_b, isN_l, isN_t, isN_rl, isN_c, x_isB, x_rg1, x_rg2, x_oN, x_oS, x_sl, x_jSeq, x_jR1, x_jR2, x_jEn, x_jZp, W_seq, W_nxS, W_rtS, W_bkS, W_ctS, W_exS, W_nxI, W_rtI, W_bkI, W_ctI, W_as, x_gnm, x_gtp, x_gsN, x_gsC, x_gsb, x_fSet, x_ix0, x_ix1, x_ix10, x_ix20, x_ix21, x_ix30, x_ix31, x_ix32, x_ixI, W_ex, W_rt, W_rtN, W_if, W_dNx, W_dBk, W_dCt, W_au, W_auS, W_fg, W_nxC, W_ctC, W_rtC, W_bkC, W_nxL, W_ctL, W_bkL, W_rtL, W_rtK, W_nxK, x_CPow, x_CMul1, x_CMul2, x_CDiv, x_CDivW, x_rgOk, x_fEq, x_eqK, mapInt_inj, mapInt_nil, mapInts_inj, mapEnt_inj, ints_nil, x_isi, ty_di, ty_db, ty_dn, ty_ds, ty_dl, ty_dt, ty_rl, ty_rt, ty_c, tyO_l, isi_ii, isi_ib, isi_bb, isi_bi, isi_ll, isi_tl, isi_tt, isi_lt, isi_il, isi_nl, isi_ss, x_sort, x_sortK, x_cat, cut_toI, cut_fromI, x_ifno, x_ifno2, x_eqB, x_relNats, x_dNats, mapNat_inj, x_callD, x_callDK, x_rowsS, intsD, entD, natsD, PyData.list.injEq, PyData.tuple.injEq, PyData.int.injEq, PyData.bool.injEq, List.map_append, List.map_cons, List.map_nil, List.getElem?_cons_zero, List.getElem?_cons_succ, List.set_cons_zero, List.set_cons_succ, List.length_cons, List.length_nil, List.length_append, List.length_map, List.length_set, List.take_succ_cons, List.take_zero, List.nil_append, List.cons_append, List.append_nil, List.forall_mem_cons, List.not_mem_nil, List.getD_cons_zero, List.getD_cons_succ, Option.map_some, Option.bind_some, Nat.reduceAdd, Nat.reduceSub, Nat.reduceLT, Nat.reduceLeDiff, Nat.reduceEqDiff, Nat.zero_add, Nat.zero_le, Nat.le_refl, if_true, if_false, ite_true, ite_false, reduceIte, eq_self, true_and, and_true, true_or, or_true, false_or, or_false, decide_eq_true_eq, decide_true, decide_false, Bool.not_true, Bool.not_false, Bool.true_and, Bool.and_true, Bool.false_and, Bool.and_false, Bool.or_false, Bool.false_or, Bool.true_or, Bool.or_true, Bool.false_eq_true, false_implies, implies_true, forall_const, List.getElem?_set_self, List.set_set, Bool.decide_eq_true]) (by omega) (fun acc i hi => it_d (F := fun p : List Int => PyData.list (p.map PyData.int)) hi) (fun acc => it_dE) (fun z acc k hz ha => ⟨_, g_nm, by
          have dA : Dat (.lst acc) := ⟨acc, rfl, fun x hx => by rw [ha] at hx; obtain ⟨_, _, rfl⟩ := List.mem_map.mp hx; exact ⟨_, rfl⟩⟩
          exact fz_list (S := [.lst [iA z4], .lst acc]) (j := 0) (k := 2) (G := [.lst (isA z)]) (ds := z.map .int) (v_cb (a_cons (v_var rfl) a_nil) (v_list l_dI)) (closed_dat0 fun oc ho => by
            rcases List.mem_cons.mp ho with rfl | ho
            · exact d0 z4 _ (List.mem_singleton.mpr rfl)
            · rw [List.mem_singleton.mp ho]; exact dA) rfl (by rw [← isA_d]; rfl)⟩)
      exact fz_list (S := [.lst [iA z4]]) (j := 0) (k := 1) (G := [.lst (PS.map fun e => AV.d (intsD e))]) (ds := PS.map fun e => intsD e) eL (c0 z4) rfl (by rw [List.map_map]; rfl)
    apply w_seq
    apply w_as q8 g_nm
    apply w_nx
    have vs := v_lawSpans (PS := PS) (size := size) (by omega) fl nd
    have vw := v_windows (size := size) rp fl s1
    have ls : (spansL PS.flatten size).length ≤ 1000 := by rw [List.length_map, List.length_range]; omega
    have sm : RunP den__law_same [entD (spansL PS.flatten size), entD (spansL PS.flatten size)] (.bool true) := same_ent ls
    generalize spansL PS.flatten size = es at *
    apply w_seq
    apply w_as (v_call (a_cons (v_var rfl) (a_cons (v_var rfl) a_nil)) (c_P rfl (rbs_cons (rb_d _) (rbs_cons (rb_d _) rbs_nil)) vs)) g_nm
    apply w_nx
    apply w_seq
    refine w_if (t_or0 (t_not (c := true) (t_b (v_call (a_cons (v_call (a_cons (v_var rfl) (a_cons (v_var rfl) a_nil)) (c_P rfl (rbs_cons (rb_d _) (rbs_cons (rb_d _) rbs_nil)) vw)) (a_cons (v_var rfl) a_nil)) (c_P rfl (rbs_cons (rb_d _) (rbs_cons (rb_d _) rbs_nil)) sm)))) (t_b (c := false) (v_op (v_var rfl) (v_var rfl) (fEq_same (rb_d _) (rb_d _) nice_tbl)))) (fun hq => by cases hq) fun _ => ?_
    apply w_nx
    refine w_if (t_or0 (t_not (c := true) (t_b (v_call (a_cons (v_callN a_nil (a_cons (v_var rfl) (a_cons (v_var rfl) a_nil)) rfl rfl (c_P rfl (rbs_cons (rb_d _) (rbs_cons (rb_d _) rbs_nil)) vw)) (a_cons (v_var rfl) a_nil)) (c_P rfl (rbs_cons (rb_d _) (rbs_cons (rb_d _) rbs_nil)) sm)))) (t_b (c := false) (v_op (v_var rfl) (v_var rfl) (fEq_same (rb_d _) (rb_d _) nice_tbl)))) (fun hq => by cases hq) fun _ => ?_
    apply w_dNx
    exact ⟨(fun oc ho => absurd ho List.not_mem_nil), envOk_cons rf_r (envOk_cons rf_n (envOk_cons rf_n (envOk_cons rf_n (envOk_cons rf_n (envOk_cons rf_n (envOk_cons rf_n (envOk_cons rf_n (envOk_cons rf_n (envOk_cons rf_n (envOk_cons rf_n envOk_nil)))))))))), rfl, rfl⟩
  · rintro ρ T ⟨rfl, rfl⟩
    exact ⟨at_enum0, w_nxI (w_rt v_k rfl)⟩


end
def sp_law (K : PySem.W.Frag) : Sp := fun vs H Q _ => ∃ (a : Addr) (ns : List Int), vs = [.ref a] ∧ SqL K H a (ns.map V.int) ∧ ns.length ≤ 63 ∧ (∀ z ∈ ns, Builtin.Int.intBits z ≤ 1048576) ∧ ∀ H', Q (.bl true) H'
theorem hook {K : PySem.W.Frag} {den : List AV → Sto → Res AV} (hd : ∀ ns : List Int, ns.length ≤ 900 → (∀ z ∈ ns, Builtin.Int.intBits z ≤ 1048576) → Ret (den [.r (intsD ns)] []) fun v _ => v = bA true) {vs : List V} {H : Hp} {Q : VK} {E : L2.XK} (h : sp_law K vs H Q E) : sp_d K 1 den vs H Q E := by
  obtain ⟨a, ns, rfl, hS, hn, hb, q⟩ := h
  obtain ⟨v, T, e, rfl⟩ := hd ns (by omega) hb
  refine ⟨rfl, ⟨H, H, H, []⟩, [], [.r (intsD ns)], rfl, ⟨Same.refl _, Same.refl _, List.nodup_nil, fun a ha => (nomatch ha), rfl, fun n oc hn => (nomatch hn)⟩, .cons (.r (dpIntL hS)) .nil, ?_⟩
  rw [e]
  intro u W' e' w' r'
  cases r' with
  | d d => cases d; exact q _
end My
namespace My
open PySem PySem.Spec L2
open PyProof.Rows (envOfC)
open Classical
def top (i : Nat) : Stmt := PySem.Challenge.pw_handpiles_k56_windows.main.body.getD i (.Pass ⟨0, 0, 0, 0⟩)
abbrev s__law_pool : Stmt := (top 12)
abbrev s__law_take : Stmt := (top 13)
abbrev s__law_cards : Stmt := (top 14)
abbrev s__law_way : Stmt := (top 17)
abbrev s__law_piles : Stmt := (top 18)
abbrev s__law_told : Stmt := (top 19)
abbrev s__law_goes : Stmt := (top 20)
abbrev s__law_spans : Stmt := (top 21)
abbrev s__law_size : Stmt := (top 15)
abbrev s__law_like : Stmt := (top 16)
abbrev s__check_piles : Stmt := (top 8)
abbrev s_check_hand : Stmt := (top 5)
abbrev s__cards_of : Stmt := (top 9)
abbrev s__goes_first : Stmt := (top 10)
abbrev s_windows : Stmt := (top 7)
abbrev s_law : Stmt := (top 22)
structure Ad where
  f__law_pool : Addr
  d__law_pool : FuncData
  f__law_take : Addr
  d__law_take : FuncData
  f__law_cards : Addr
  d__law_cards : FuncData
  f__law_way : Addr
  d__law_way : FuncData
  f__law_piles : Addr
  d__law_piles : FuncData
  f__law_told : Addr
  d__law_told : FuncData
  f__law_goes : Addr
  d__law_goes : FuncData
  f__law_spans : Addr
  d__law_spans : FuncData
  f__law_size : Addr
  d__law_size : FuncData
  f__law_like : Addr
  d__law_like : FuncData
  f__check_piles : Addr
  d__check_piles : FuncData
  f_check_hand : Addr
  d_check_hand : FuncData
  f__cards_of : Addr
  d__cards_of : FuncData
  f__goes_first : Addr
  d__goes_first : FuncData
  f_windows : Addr
  d_windows : FuncData
  f_law : Addr
  d_law : FuncData
structure Txt (K : PySem.W.Frag) (mg : Str → Option Value) (A : Ad) : Prop where
  F__law_pool : Fun K "_law_pool" "_law_pool" s__law_pool A.f__law_pool A.d__law_pool
  b__law_pool : Binds K A.d__law_pool ["cell", "turn"] []
  m__law_pool : mg "_law_pool" = some (.ref A.f__law_pool)
  F__law_take : Fun K "_law_take" "_law_take" s__law_take A.f__law_take A.d__law_take
  b__law_take : Binds K A.d__law_take ["pool", "many"] []
  m__law_take : mg "_law_take" = some (.ref A.f__law_take)
  F__law_cards : Fun K "_law_cards" "_law_cards" s__law_cards A.f__law_cards A.d__law_cards
  b__law_cards : Binds K A.d__law_cards ["pool", "many"] []
  m__law_cards : mg "_law_cards" = some (.ref A.f__law_cards)
  F__law_way : Fun K "_law_way" "_law_way" s__law_way A.f__law_way A.d__law_way
  b__law_way : Binds K A.d__law_way ["cards", "size"] []
  m__law_way : mg "_law_way" = some (.ref A.f__law_way)
  F__law_piles : Fun K "_law_piles" "_law_piles" s__law_piles A.f__law_piles A.d__law_piles
  b__law_piles : Binds K A.d__law_piles ["cards", "size"] []
  m__law_piles : mg "_law_piles" = some (.ref A.f__law_piles)
  F__law_told : Fun K "_law_told" "_law_told" s__law_told A.f__law_told A.d__law_told
  b__law_told : Binds K A.d__law_told ["pool", "many"] []
  m__law_told : mg "_law_told" = some (.ref A.f__law_told)
  F__law_goes : Fun K "_law_goes" "_law_goes" s__law_goes A.f__law_goes A.d__law_goes
  b__law_goes : Binds K A.d__law_goes ["last", "told0", "card"] []
  m__law_goes : mg "_law_goes" = some (.ref A.f__law_goes)
  F__law_spans : Fun K "_law_spans" "_law_spans" s__law_spans A.f__law_spans A.d__law_spans
  b__law_spans : Binds K A.d__law_spans ["piles", "size"] []
  m__law_spans : mg "_law_spans" = some (.ref A.f__law_spans)
  F__law_size : Fun K "_law_size" "_law_size" s__law_size A.f__law_size A.d__law_size
  b__law_size : Binds K A.d__law_size ["pool", "many"] []
  m__law_size : mg "_law_size" = some (.ref A.f__law_size)
  F__law_like : Fun K "_law_like" "_law_like" s__law_like A.f__law_like A.d__law_like
  b__law_like : Binds K A.d__law_like ["found", "due"] []
  m__law_like : mg "_law_like" = some (.ref A.f__law_like)
  F__check_piles : Fun K "_check_piles" "_check_piles" s__check_piles A.f__check_piles A.d__check_piles
  b__check_piles : Binds K A.d__check_piles ["told"] []
  m__check_piles : mg "_check_piles" = some (.ref A.f__check_piles)
  F_check_hand : Fun K "check_hand" "check_hand" s_check_hand A.f_check_hand A.d_check_hand
  b_check_hand : Binds K A.d_check_hand ["hand"] []
  m_check_hand : mg "check_hand" = some (.ref A.f_check_hand)
  F__cards_of : Fun K "_cards_of" "_cards_of" s__cards_of A.f__cards_of A.d__cards_of
  b__cards_of : Binds K A.d__cards_of ["told"] []
  m__cards_of : mg "_cards_of" = some (.ref A.f__cards_of)
  F__goes_first : Fun K "_goes_first" "_goes_first" s__goes_first A.f__goes_first A.d__goes_first
  b__goes_first : Binds K A.d__goes_first ["cards", "begins", "before", "card"] []
  m__goes_first : mg "_goes_first" = some (.ref A.f__goes_first)
  F_windows : Fun K "windows" "windows" s_windows A.f_windows A.d_windows
  b_windows : Binds K A.d_windows ["told", "hand"] []
  m_windows : mg "windows" = some (.ref A.f_windows)
  F_law : Fun K "law" "law" s_law A.f_law A.d_law
  b_law : Binds K A.d_law ["script"] []
  m_law : mg "law" = some (.ref A.f_law)
  b_int : mg "int" = none
  b_range : mg "range" = none
  b_len : mg "len" = none
  b_list : mg "list" = none
  b_min : mg "min" = none
  b_max : mg "max" = none
  b_isinstance : mg "isinstance" = none
  b_bool : mg "bool" = none
  b_tuple : mg "tuple" = none
  b_enumerate : mg "enumerate" = none
  b_sorted : mg "sorted" = none
  kb_windows_hand_told : KBn K A.d_windows ["told", "hand"] 0 ["hand", "told"] (fun vs zs => [zs.getD 1 .none, zs.getD 0 .none]) (fun vs zs => [zs.getD 1 .non, zs.getD 0 .non])
theorem sc__law_pool : FnScope ["cell", "turn", "number"] ["cell", "turn"] (defScope s__law_pool) := ⟨rfl, rfl, rfl, by decide +kernel, rfl, by decide +kernel, by decide +kernel⟩
theorem sc__law_take : FnScope ["pool", "many", "found"] ["pool", "many"] (defScope s__law_take) := ⟨rfl, rfl, rfl, by decide +kernel, rfl, by decide +kernel, by decide +kernel⟩
theorem sc__law_cards : FnScope ["pool", "many", "step", "low", "order", "k"] ["pool", "many"] (defScope s__law_cards) := ⟨rfl, rfl, rfl, by decide +kernel, rfl, by decide +kernel, by decide +kernel⟩
theorem sc__law_way : FnScope ["cards", "size", "held", "drawn", "way", "pile", "step", "fits", "best", "k"] ["cards", "size"] (defScope s__law_way) := ⟨rfl, rfl, rfl, by decide +kernel, rfl, by decide +kernel, by decide +kernel⟩
theorem sc__law_piles : FnScope ["cards", "size", "piles", "k", "pile"] ["cards", "size"] (defScope s__law_piles) := ⟨rfl, rfl, rfl, by decide +kernel, rfl, by decide +kernel, by decide +kernel⟩
theorem sc__law_told : FnScope ["pool", "many", "size", "cards"] ["pool", "many"] (defScope s__law_told) := ⟨rfl, rfl, rfl, by decide +kernel, rfl, by decide +kernel, by decide +kernel⟩
theorem sc__law_goes : FnScope ["last", "told0", "card", "fits", "one"] ["last", "told0", "card"] (defScope s__law_goes) := ⟨rfl, rfl, rfl, by decide +kernel, rfl, by decide +kernel, by decide +kernel⟩
theorem sc__law_spans : FnScope ["piles", "size", "cards", "pile", "spans", "k", "first", "i"] ["piles", "size"] (defScope s__law_spans) := ⟨rfl, rfl, rfl, by decide +kernel, rfl, by decide +kernel, by decide +kernel⟩
theorem sc__law_size : FnScope ["pool", "many", "kind"] ["pool", "many"] (defScope s__law_size) := ⟨rfl, rfl, rfl, by decide +kernel, rfl, by decide +kernel, by decide +kernel⟩
theorem sc__law_like : FnScope ["found", "due", "k"] ["found", "due"] (defScope s__law_like) := ⟨rfl, rfl, rfl, by decide +kernel, rfl, by decide +kernel, by decide +kernel⟩
theorem sc__check_piles : FnScope ["told", "index", "pile"] ["told"] (defScope s__check_piles) := ⟨rfl, rfl, rfl, by decide +kernel, rfl, by decide +kernel, by decide +kernel⟩
theorem sc_check_hand : FnScope ["hand"] ["hand"] (defScope s_check_hand) := ⟨rfl, rfl, rfl, by decide +kernel, rfl, by decide +kernel, by decide +kernel⟩
theorem sc__cards_of : FnScope ["told", "pile", "card"] ["told"] (defScope s__cards_of) := ⟨rfl, rfl, rfl, by decide +kernel, rfl, by decide +kernel, by decide +kernel⟩
theorem sc__goes_first : FnScope ["cards", "begins", "before", "card", "there"] ["cards", "begins", "before", "card"] (defScope s__goes_first) := ⟨rfl, rfl, rfl, by decide +kernel, rfl, by decide +kernel, by decide +kernel⟩
theorem sc_windows : FnScope ["told", "hand", "cards", "begins", "found", "place", "card", "first", "before", "pile", "index"] ["told", "hand"] (defScope s_windows) := ⟨rfl, rfl, rfl, by decide +kernel, rfl, by decide +kernel, by decide +kernel⟩
theorem sc_law : FnScope ["script", "turn", "cell", "pool", "many", "piles", "first", "size", "handed", "due", "pile"] ["script"] (defScope s_law) := ⟨rfl, rfl, rfl, by decide +kernel, rfl, by decide +kernel, by decide +kernel⟩
local macro_rules | `(tactic| walk_at "vc") => `(tactic| simp only [ cst, prI, prV, tSeq, tIfS, tTest, tOp, tUn, tVar, tCB, tCons, tNil, L2.start, rI0, rI, rU, rEq, tRet, tRetN, tBreak, tCont, tC, tNext, tAsg, gName, tDrop, tFld, sFld, sFldAug, rAdd, rSub, tLst, tTup, tCall, tCallN, tMeth, tMake, tB, tAnd, tOr, tNot, tAndV, tOrV, tNotV, tIf, tAug, ipI, gSub, gTup, gCons, gNil, rSetL, rIxL, rIxT, tBM, tBM0, rAppend, tSl, tNoPart, tPart, rSlL, tFor_eq, tLc_eq, iList, iRng1, iRng2, iEnum, iZip, RZ.iZipA, iTup, tYes, wipe, nV, tLstRg, tRg1, tRg2, tRemX, cxK, List.map_cons, List.map_nil, List.length_cons, List.length_nil, List.replicate_succ, List.replicate_zero, List.nil_append, List.cons_append, List.append_nil, List.getD_cons_zero, List.getD_cons_succ, List.getElem?_cons_zero, List.getElem?_cons_succ, List.set_cons_zero, List.set_cons_succ, Option.some.injEq, exists_eq_left', exists_eq_left, V.int.injEq, V.bl.injEq, V.ref.injEq, V.str.injEq, List.cons.injEq, and_true, true_and, and_assoc, Nat.reduceAdd, Nat.reduceSub, Nat.zero_add, Int.zero_add, if_true, if_false, ite_true, ite_false, Bool.false_eq_true, reduceIte, Bool.not_true, Bool.not_false, exists_and_left, decide_eq_true_eq, exists_eq, Nat.add_one_sub_one, forall_const, imp_false])
local macro_rules | `(tactic| walk_at "hp") => `(tactic| first | with_reducible assumption | exact upd_same | (refine upd_keep ?_ (by with_reducible assumption); walk_at "hp") | (refine upd_other ?_ (by first | with_reducible assumption | exact Ne.symm (by with_reducible assumption)); walk_at "hp") | (refine L2.Same.get (by with_reducible assumption) ?_; walk_at "hp"))
local macro_rules | `(tactic| walk_at "sq") => `(tactic| first | with_reducible assumption | exact SqL.of (by walk_at "hp") | exact SqT.of (by walk_at "hp") | (refine Same.seq (by with_reducible assumption) ?_; walk_at "sq"))
local macro_rules | `(tactic| walk_at "go1") => `(tactic| first | (refine ⟨_, _, by walk_at "hp", by rfl, ?_⟩) | (refine ⟨_, _, _, by walk_at "hp", by walk_at "cl", by walk_at "na", _, by rfl, ?_⟩) | (refine ⟨_, _, _, by walk_at "hp", by walk_at "cl", by walk_at "na", Nat.le_of_ble_eq_true rfl, ?_⟩) | (refine ⟨_, by walk_at "sq", ?_⟩) | (refine ⟨.inl ⟨rfl, _, by walk_at "sq"⟩, ?_⟩) | (refine ⟨_, getI_row (by with_reducible assumption), ?_⟩) | (refine ⟨_, rfl, ?_⟩) | (refine ⟨_, at_of (j := 0) rfl rfl, ?_⟩) | (refine ⟨_, at_of (j := 1) rfl rfl, ?_⟩) | (refine ⟨_, at_of (j := 2) rfl rfl, ?_⟩) | (refine ⟨_, at_of (j := 3) rfl rfl, ?_⟩) | (refine ⟨_, ixN4 _ 0 rfl (by decide), ?_⟩) | (refine ⟨_, ixN4 _ 1 rfl (by decide), ?_⟩) | (refine ⟨_, ixN4 _ 2 rfl (by decide), ?_⟩) | (refine ⟨_, ixN4 _ 3 rfl (by decide), ?_⟩))
local macro_rules | `(tactic| walk_at "go") => `(tactic| repeat (walk_at "go1"))
local macro_rules | `(tactic| walk_at "cl") => `(tactic| first | fail)
local macro_rules | `(tactic| walk_at "na") => `(tactic| first | fail)
section
variable {P : Program} {w : World} {K : PySem.W.Frag} {mg : Str → Option Value} {base : Heap} {A : Ad}
def sp_like (K : PySem.W.Frag) (k : Nat) : Sp := fun vs H Q _ => ∃ (v u : V) (d : PyData), vs = [v, u] ∧ Dp K H v d ∧ Dp K H u d ∧ d.depth ≤ k ∧ okS d ∧ ∀ H', Same H H' → Q (.bl true) H'
theorem ok_like_0 (T : Txt K mg A) : FnOk P w K mg base (L2.CX P w) 1 A.f__law_like A.d__law_like ["found", "due"] (sp_like K 0) := by
  refine okN T.F__law_like sc__law_like (fun vs H Q E h => ?_) (fun cdv A' outer s H vs Q E hr h => ?_)
  · obtain ⟨v, u, d, rfl, _⟩ := h; rfl
  · obtain ⟨v, u, d, rfl, hv, hu, hk, hd, q⟩ := h
    have q0 := q H (Same.refl H)
    refine ⟨_, (pss_cons (ps_if (pt_cmpR op_isN (pv 1) pe_non (nomark _)) (pss_one (ps_ret (pe_cmpR op_isN (pv 0) pe_non (nomark _)))) pss_nil) (pss_cons (ps_if (pt_val (pe_callB (call_isD (K := K)) (by rfl) T.b_isinstance (by decide +kernel) (pa_cons (pv 1) (pa_cons (pe_bltn (v := .ty "bool") (by rfl) T.b_bool (by decide +kernel) rfl) pa_nil)))) (pss_one (ps_ret (pe_and (pe_callB (call_isD (K := K)) (by rfl) T.b_isinstance (by decide +kernel) (pa_cons (pv 0) (pa_cons (pe_bltn (v := .ty "bool") (by rfl) T.b_bool (by decide +kernel) rfl) pa_nil))) (pe_one (pe_cmpR op_eq (pv 0) (pv 1) (nomark _)))))) pss_nil) (pss_cons (ps_if (pt_val (pe_callB (call_isD (K := K)) (by rfl) T.b_isinstance (by decide +kernel) (pa_cons (pv 1) (pa_cons (pe_bltn (v := .ty "int") (by rfl) T.b_int (by decide +kernel) rfl) pa_nil)))) (pss_one (ps_ret (pe_and (pe_callB (call_isD (K := K)) (by rfl) T.b_isinstance (by decide +kernel) (pa_cons (pv 0) (pa_cons (pe_bltn (v := .ty "int") (by rfl) T.b_int (by decide +kernel) rfl) pa_nil))) (pe_and (pe_not (pe_callB (call_isD (K := K)) (by rfl) T.b_isinstance (by decide +kernel) (pa_cons (pv 0) (pa_cons (pe_bltn (v := .ty "bool") (by rfl) T.b_bool (by decide +kernel) rfl) pa_nil)))) (pe_one (pe_cmpR op_eq (pv 0) (pv 1) (nomark _))))))) pss_nil) (pss_cons (ps_if (pw_and (pt_val (pe_callB (call_isD (K := K)) (by rfl) T.b_isinstance (by decide +kernel) (pa_cons (pv 1) (pa_cons (pe_bltn (v := .ty "list") (by rfl) T.b_list (by decide +kernel) rfl) pa_nil)))) (pw_and1 (pt_not (pt_val (pe_callB (call_isD (K := K)) (by rfl) T.b_isinstance (by decide +kernel) (pa_cons (pv 0) (pa_cons (pe_bltn (v := .ty "list") (by rfl) T.b_list (by decide +kernel) rfl) pa_nil))))))).pt (pss_one (ps_ret pe_bl)) pss_nil) (pss_cons (ps_if (pw_and (pt_val (pe_callB (call_isD (K := K)) (by rfl) T.b_isinstance (by decide +kernel) (pa_cons (pv 1) (pa_cons (pe_bltn (v := .ty "tuple") (by rfl) T.b_tuple (by decide +kernel) rfl) pa_nil)))) (pw_and1 (pt_not (pt_val (pe_callB (call_isD (K := K)) (by rfl) T.b_isinstance (by decide +kernel) (pa_cons (pv 0) (pa_cons (pe_bltn (v := .ty "tuple") (by rfl) T.b_tuple (by decide +kernel) rfl) pa_nil))))))).pt (pss_one (ps_ret pe_bl)) pss_nil) (pss_cons (ps_if (pt_cmpR op_neI (pe_callB (call_lenSK (K := K)) (by rfl) T.b_len (by decide +kernel) (pa_cons (pv 0) pa_nil)) (pe_callB (call_lenSK (K := K)) (by rfl) T.b_len (by decide +kernel) (pa_cons (pv 1) pa_nil)) (nomark _)) (pss_one (ps_ret pe_bl)) pss_nil) pss_never)))))), ?_⟩
    refine seq_step fun Z hZ => ?_; walk_at "vc"
    cases hv with
    | non =>
      cases hu
      walk_at "vc"
      exact q0
    | bl b =>
      cases hu
      rw [if_neg nofun]; refine hZ _ _ ?_; clear hZ Z
      refine seq_step fun Z hZ => ?_; walk_at "vc"
      repeat (refine isd (b := true) (.bl b) (by rfl) ?_; walk_at "vc")
      exact ⟨rfl, q0⟩
    | int i =>
      cases hu
      rw [if_neg nofun]; refine hZ _ _ ?_; clear hZ Z
      refine seq_step fun Z hZ => ?_; walk_at "vc"
      refine isd (b := false) (.int i) (by rfl) ?_; walk_at "vc"
      refine hZ _ _ ?_; clear hZ Z
      refine seq_step fun Z hZ => ?_; walk_at "vc"
      repeat ((first | refine isd (b := true) (.int i) (by rfl) ?_ | refine isd (b := false) (.int i) (by rfl) ?_); walk_at "vc")
      exact ⟨rfl, q0⟩
    | str x => exact hd.elim
    | lst _ _ => exact absurd hk (by show ¬ _ + 1 ≤ 0; omega)
    | tup _ _ => exact absurd hk (by show ¬ _ + 1 ≤ 0; omega)
def likeI (H : Hp) (v u : V) (_ : Nat) (σ : L2.St) (H' : Hp) : Prop := ∃ w, σ = [some v, some u, w] ∧ Same H H'
theorem ok_like_k (T : Txt K mg A) : ∀ k : Nat, FnOk P w K mg base (L2.CX P w) (k + 1) A.f__law_like A.d__law_like ["found", "due"] (sp_like K k) := by
  intro k
  induction k with
  | zero => exact ok_like_0 T
  | succ k ih =>
    have G : FnOk P w K mg base (L2.CX P w) (k + 2) A.f__law_like A.d__law_like ["found", "due"] (fun vs H Q _ => ∃ (v u : V) (d : PyData), vs = [v, u] ∧ Dp K H v d ∧ Dp K H u d ∧ d.depth ≤ k + 1 ∧ okS d ∧ ((∃ xs, d = .list xs) ∨ ∃ xs, d = .tuple xs) ∧ ∀ H', Same H H' → Q (.bl true) H') := by
      refine okN T.F__law_like sc__law_like (fun vs H Q E h => ?_) (fun cdv A' outer s H vs Q E hr h => ?_)
      · obtain ⟨v, u, d, rfl, _⟩ := h; rfl
      · obtain ⟨v, u, d, rfl, hv, hu, hk, hd, hc, q⟩ := h
        refine ⟨_, (pss_cons (ps_if (pt_cmpR op_isN (pv 1) pe_non (nomark _)) (pss_one (ps_ret (pe_cmpR op_isN (pv 0) pe_non (nomark _)))) pss_nil) (pss_cons (ps_if (pt_val (pe_callB (call_isD (K := K)) (by rfl) T.b_isinstance (by decide +kernel) (pa_cons (pv 1) (pa_cons (pe_bltn (v := .ty "bool") (by rfl) T.b_bool (by decide +kernel) rfl) pa_nil)))) (pss_one (ps_ret (pe_and (pe_callB (call_isD (K := K)) (by rfl) T.b_isinstance (by decide +kernel) (pa_cons (pv 0) (pa_cons (pe_bltn (v := .ty "bool") (by rfl) T.b_bool (by decide +kernel) rfl) pa_nil))) (pe_one (pe_cmpR op_eq (pv 0) (pv 1) (nomark _)))))) pss_nil) (pss_cons (ps_if (pt_val (pe_callB (call_isD (K := K)) (by rfl) T.b_isinstance (by decide +kernel) (pa_cons (pv 1) (pa_cons (pe_bltn (v := .ty "int") (by rfl) T.b_int (by decide +kernel) rfl) pa_nil)))) (pss_one (ps_ret (pe_and (pe_callB (call_isD (K := K)) (by rfl) T.b_isinstance (by decide +kernel) (pa_cons (pv 0) (pa_cons (pe_bltn (v := .ty "int") (by rfl) T.b_int (by decide +kernel) rfl) pa_nil))) (pe_and (pe_not (pe_callB (call_isD (K := K)) (by rfl) T.b_isinstance (by decide +kernel) (pa_cons (pv 0) (pa_cons (pe_bltn (v := .ty "bool") (by rfl) T.b_bool (by decide +kernel) rfl) pa_nil)))) (pe_one (pe_cmpR op_eq (pv 0) (pv 1) (nomark _))))))) pss_nil) (pss_cons (ps_if (pw_and (pt_val (pe_callB (call_isD (K := K)) (by rfl) T.b_isinstance (by decide +kernel) (pa_cons (pv 1) (pa_cons (pe_bltn (v := .ty "list") (by rfl) T.b_list (by decide +kernel) rfl) pa_nil)))) (pw_and1 (pt_not (pt_val (pe_callB (call_isD (K := K)) (by rfl) T.b_isinstance (by decide +kernel) (pa_cons (pv 0) (pa_cons (pe_bltn (v := .ty "list") (by rfl) T.b_list (by decide +kernel) rfl) pa_nil))))))).pt (pss_one (ps_ret pe_bl)) pss_nil) (pss_cons (ps_if (pw_and (pt_val (pe_callB (call_isD (K := K)) (by rfl) T.b_isinstance (by decide +kernel) (pa_cons (pv 1) (pa_cons (pe_bltn (v := .ty "tuple") (by rfl) T.b_tuple (by decide +kernel) rfl) pa_nil)))) (pw_and1 (pt_not (pt_val (pe_callB (call_isD (K := K)) (by rfl) T.b_isinstance (by decide +kernel) (pa_cons (pv 0) (pa_cons (pe_bltn (v := .ty "tuple") (by rfl) T.b_tuple (by decide +kernel) rfl) pa_nil))))))).pt (pss_one (ps_ret pe_bl)) pss_nil) (pss_cons (ps_if (pt_cmpR op_neI (pe_callB (call_lenSK (K := K)) (by rfl) T.b_len (by decide +kernel) (pa_cons (pv 0) pa_nil)) (pe_callB (call_lenSK (K := K)) (by rfl) T.b_len (by decide +kernel) (pa_cons (pv 1) pa_nil)) (nomark _)) (pss_one (ps_ret pe_bl)) pss_nil) (pss_cons (ps_for PassesOwn.never rfl (pi_range1 (by rfl) T.b_range (pa_cons (pe_callB (call_lenSK (K := K)) (by rfl) T.b_len (by decide +kernel) (pa_cons (pv 1) pa_nil)) pa_nil)) (pg_name (i := 2) sc__law_like.nd rfl (Or.inl rfl)) (pss_one (ps_if (pt_not (pt_val (pe_call ih hr (by rfl) T.m__law_like T.F__law_like.kp T.b__law_like .nil passL (pa_cons (pe_ix ((ix_listK (K := K)).or (ix_tupK (K := K))) (pv 0) (pv 2) (fun _ _ => rfl)) (pa_cons (pe_ix ((ix_listK (K := K)).or (ix_tupK (K := K))) (pv 1) (pv 2) (fun _ _ => rfl)) pa_nil))))) (pss_one (ps_ret pe_bl)) pss_nil))) (pss_one (ps_ret pe_bl))))))))), ?_⟩
        refine seq_step fun Z hZ => ?_; walk_at "vc"
        rcases hc with ⟨ds, rfl⟩ | ⟨ds, rfl⟩
        · have hv0 := hv
          have hu0 := hu
          cases hv with
          | lst h1 h2 =>
          cases hu with
          | lst h3 h4 =>
            have l1 := DpAll.len h2
            have l2 := DpAll.len h4
            obtain ⟨hd1, hd2⟩ := hd
            rw [if_neg nofun]; refine hZ _ _ ?_; clear hZ Z
            refine seq_step fun Z hZ => ?_; walk_at "vc"
            refine isd (b := false) hu0 (by rfl) ?_; walk_at "vc"; refine hZ _ _ ?_; clear hZ Z
            refine seq_step fun Z hZ => ?_; walk_at "vc"
            refine isd (b := false) hu0 (by rfl) ?_; walk_at "vc"; refine hZ _ _ ?_; clear hZ Z
            refine seq_step fun Z hZ => ?_; walk_at "vc"
            refine isd (b := true) hu0 (by rfl) ?_; walk_at "vc"
            refine isd (b := true) hv0 (by rfl) ?_; walk_at "vc"; refine hZ _ _ ?_; clear hZ Z
            refine seq_step fun Z hZ => ?_; walk_at "vc"
            refine isd (b := false) hu0 (by rfl) ?_; walk_at "vc"; refine hZ _ _ ?_; clear hZ Z
            refine seq_step fun Z hZ => ?_; walk_at "vc"
            refine ⟨_, .inl h1, _, .inl h3, ?_⟩
            rw [if_neg (by rw [l1, l2]; simp)]
            refine hZ _ _ ?_; clear hZ Z
            refine seq_step fun Z hZ => ?_; walk_at "vc"
            refine ⟨_, .inl h3, by omega, by omega, ?_⟩
            rw [show ((_ : List V).length : Int).toNat = _ from Int.toNat_natCast _]
            refine forB (walk_range (lo := 0)) (likeI H _ _) ⟨_, rfl, Same.refl _⟩ (fun _ _ _ _ _ => trivial) ?_ ?_
            · rintro i x σ H1 H' hi ⟨v2, rfl, S⟩ ⟨rfl, rfl⟩
              obtain ⟨d, ed⟩ : ∃ d, ds[i]? = some d := ⟨_, List.getElem?_eq_getElem (by omega)⟩
              obtain ⟨x1, e1, p1⟩ := dpAll_len_get h2 ed
              obtain ⟨x2, e2, p2⟩ := dpAll_len_get h4 ed
              simp only [gName, List.set_cons_succ, List.set_cons_zero, Int.zero_add]
              refine if_step fun T1 U1 hT hU => ?_
              walk_at "vc"
              exact .inl ⟨_, S.seq h1, _, at_of rfl e1, .inl ⟨_, S.seq h3, _, at_of rfl e2, x1, x2, d, rfl, Dp.same S p1, Dp.same S p2, Nat.le_trans (depth_get ed) (Nat.le_of_succ_le_succ hk), okSs_get hd2 ed, fun H4 S4 => ⟨true, rfl, (if_neg (by decide)).mpr (hU _ _ ⟨_, rfl, S.trans S4⟩)⟩⟩⟩
            · rintro σ H' ⟨v2, rfl, S⟩
              refine hZ _ _ ?_
              walk_at "vc"
              exact q _ S
        · have hv0 := hv
          have hu0 := hu
          cases hv with
          | tup h1 h2 =>
          cases hu with
          | tup h3 h4 =>
            have l1 := DpAll.len h2
            have l2 := DpAll.len h4
            obtain ⟨hd1, hd2⟩ := hd
            rw [if_neg nofun]; refine hZ _ _ ?_; clear hZ Z
            refine seq_step fun Z hZ => ?_; walk_at "vc"
            refine isd (b := false) hu0 (by rfl) ?_; walk_at "vc"; refine hZ _ _ ?_; clear hZ Z
            refine seq_step fun Z hZ => ?_; walk_at "vc"
            refine isd (b := false) hu0 (by rfl) ?_; walk_at "vc"; refine hZ _ _ ?_; clear hZ Z
            refine seq_step fun Z hZ => ?_; walk_at "vc"
            refine isd (b := false) hu0 (by rfl) ?_; walk_at "vc"; refine hZ _ _ ?_; clear hZ Z
            refine seq_step fun Z hZ => ?_; walk_at "vc"
            refine isd (b := true) hu0 (by rfl) ?_; walk_at "vc"
            refine isd (b := true) hv0 (by rfl) ?_; walk_at "vc"; refine hZ _ _ ?_; clear hZ Z
            refine seq_step fun Z hZ => ?_; walk_at "vc"
            refine ⟨_, .inr h1, _, .inr h3, ?_⟩
            rw [if_neg (by rw [l1, l2]; simp)]
            refine hZ _ _ ?_; clear hZ Z
            refine seq_step fun Z hZ => ?_; walk_at "vc"
            refine ⟨_, .inr h3, by omega, by omega, ?_⟩
            rw [show ((_ : List V).length : Int).toNat = _ from Int.toNat_natCast _]
            refine forB (walk_range (lo := 0)) (likeI H _ _) ⟨_, rfl, Same.refl _⟩ (fun _ _ _ _ _ => trivial) ?_ ?_
            · rintro i x σ H1 H' hi ⟨v2, rfl, S⟩ ⟨rfl, rfl⟩
              obtain ⟨d, ed⟩ : ∃ d, ds[i]? = some d := ⟨_, List.getElem?_eq_getElem (by omega)⟩
              obtain ⟨x1, e1, p1⟩ := dpAll_len_get h2 ed
              obtain ⟨x2, e2, p2⟩ := dpAll_len_get h4 ed
              simp only [gName, List.set_cons_succ, List.set_cons_zero, Int.zero_add]
              refine if_step fun T1 U1 hT hU => ?_
              walk_at "vc"
              exact .inr ⟨_, sqT_same S h1, _, at_of rfl e1, .inr ⟨_, sqT_same S h3, _, at_of rfl e2, x1, x2, d, rfl, Dp.same S p1, Dp.same S p2, Nat.le_trans (depth_get ed) (Nat.le_of_succ_le_succ hk), okSs_get hd2 ed, fun H4 S4 => ⟨true, rfl, (if_neg (by decide)).mpr (hU _ _ ⟨_, rfl, S.trans S4⟩)⟩⟩⟩
            · rintro σ H' ⟨v2, rfl, S⟩
              refine hZ _ _ ?_
              walk_at "vc"
              exact q _ S
    refine (okOr (ih.mono (Nat.le_succ _)) G).imp fun vs H Q E h => ?_
    obtain ⟨v, u, d, rfl, hv, hu, hk, hd, q⟩ := h
    by_cases h0 : d.depth ≤ k
    · exact .inl ⟨v, u, d, rfl, hv, hu, h0, hd, q⟩
    · refine .inr ⟨v, u, d, rfl, hv, hu, hk, hd, ?_, q⟩
      cases d with
      | list xs => exact .inl ⟨xs, rfl⟩
      | tuple xs => exact .inr ⟨xs, rfl⟩
      | dict _ => exact hd.elim
      | _ => exact absurd (Nat.zero_le k) h0
theorem ok_same_old (T : Txt K mg A) : FnOk P w K mg base (L2.CX P w) 5 A.f__law_like A.d__law_like ["found", "due"] (sp_like K 4) := ok_like_k T 4
theorem ok__law_like (T : Txt K mg A) : FnOk P w K mg base (L2.CX P w) 5 A.f__law_like A.d__law_like ["found", "due"] (sp_d K 2 den__law_same) := (ok_same_old T).imp fun vs H Q E h => same_imp h
end
section
variable {P : Program} {w : World} {K : PySem.W.Frag} {mg : Str → Option Value} {base : Heap} {A : Ad}
theorem ok__law_pool (T : Txt K mg A) : FnOk P w K mg base (L2.CX P w) 1 A.f__law_pool A.d__law_pool ["cell", "turn"] (sp_d K 2 den__law_pool) :=
  fnOkD T.F__law_pool sc__law_pool rfl rfl fun cdv A' outer s H E hr => ⟨_, (pss_cons (ps_if (pt_cmpR op_ge (pv 0) (pe_op op_pow pe_int pe_int) (nomark _)) (pss_one (ps_ret (pe_lst (pa_cons (pe_op op_sub (pv 0) (pe_op op_pow pe_int pe_int)) pa_nil)))) pss_nil) (pss_cons (ps_set (i := 2) sc__law_pool.nd rfl (Or.inl rfl) (pe_op op_add (pe_callTy call_int1 (by rfl) T.b_int (by decide +kernel) (pa_cons (pe_op op_add (pe_op op_mulX (pv 0) pe_int) (pe_op op_mul (pv 1) pe_int)) pa_nil)) (pe_op op_pow pe_int pe_int))) (pss_cons (ps_set (i := 2) sc__law_pool.nd rfl (Or.inl rfl) (pe_op op_mod (pe_callTy call_int1 (by rfl) T.b_int (by decide +kernel) (pa_cons (pv 2) pa_nil)) (pe_op op_add (pe_op op_pow pe_int pe_int) pe_int))) (pss_cons (ps_set (i := 2) sc__law_pool.nd rfl (Or.inl rfl) (pe_op op_add (pe_op op_add (pe_op op_mulW (pv 2) (pv 2)) (pe_op op_mul pe_int (pv 2))) (pv 1))) (pss_one (ps_ret (pe_lst (pa_cons (pe_op op_fdiv (pe_op op_mulW (pe_op op_mulW (pv 2) (pv 2)) (pv 2)) pe_int) pa_nil)))))))), (rs_seq (rs_if (rt_test (re_op rr_bl re_var (re_op rr_IC re_int re_int))) (rs_ret (re_lst (ra_cons (re_op rr_int re_var (re_op rr_IC re_int re_int)) ra_nil))) rs_next) (rs_seq (rs_asg (vs := [2]) (re_op rr_int (re_cb cr_int (ra_cons (re_op rr_int (re_op rr_IC re_var re_int) (re_op rr_IC re_var re_int)) ra_nil)) (re_op rr_IC re_int re_int)) rg_name) (rs_seq (rs_asg (vs := [2]) (re_op rr_IC (re_cb cr_int (ra_cons re_var ra_nil)) (re_op rr_int (re_op rr_IC re_int re_int) re_int)) rg_name) (rs_seq (rs_asg (vs := [2]) (re_op rr_int (re_op rr_int (re_op rr_IC re_var re_var) (re_op rr_IC re_int re_var)) re_var) rg_name) (rs_ret (re_lst (ra_cons (re_op rr_IC (re_op rr_IC (re_op rr_IC re_var re_var) re_var) re_int) ra_nil)))))))⟩
theorem ok__law_take (T : Txt K mg A) : FnOk P w K mg base (L2.CX P w) 1 A.f__law_take A.d__law_take ["pool", "many"] (sp_d K 2 den__law_take) :=
  fnOkD T.F__law_take sc__law_take rfl rfl fun cdv A' outer s H E hr => ⟨_, (pss_cons (ps_set (i := 2) sc__law_take.nd rfl (Or.inl rfl) (pe_op op_mod (pe_callTy call_int1 (by rfl) T.b_int (by decide +kernel) (pa_cons (pe_ix ((ix_listK (K := K)).or (ix_tupK (K := K))) (pv 0) pe_int (fun _ _ => rfl)) pa_nil)) (pv 1))) (pss_cons (ps_asg (pe_op op_fdivW (pe_ix ((ix_listK (K := K)).or (ix_tupK (K := K))) (pv 0) pe_int (fun _ _ => rfl)) (pv 1)) (pg_sub (pv 0) pe_int set_list)) (pss_one (ps_ret (pv 2))))), (rs_seq (rs_asg (vs := [2]) (re_op rr_IC (re_cb cr_int (ra_cons (re_op rr_ix re_var re_int) ra_nil)) re_var) rg_name) (rs_seq (rs_asg (vs := []) (re_op rr_IC (re_op rr_ix re_var re_int) re_var) (rg_sub re_var re_int)) (rs_ret re_var)))⟩
theorem ok__law_cards (T : Txt K mg A) : FnOk P w K mg base (L2.CX P w) 2 A.f__law_cards A.d__law_cards ["pool", "many"] (sp_d K 2 den__law_cards_6f25) :=
  fnOkD T.F__law_cards sc__law_cards rfl rfl fun cdv A' outer s H E hr => ⟨_, (pss_cons (ps_set (i := 2) sc__law_cards.nd rfl (Or.inr rfl) (pe_ix ((ix_listK (K := K)).or (ix_tupK (K := K))) (pe_lst (pa_cons pe_int (pa_cons pe_int (pa_cons (pe_op op_pow pe_int pe_int) pa_nil)))) (pe_call (ok__law_take T) (hr.mono (by decide)) (by rfl) T.m__law_take T.F__law_take.kp T.b__law_take .nil passL (pa_cons (pv 0) (pa_cons pe_int pa_nil))) (fun _ _ => rfl))) (pss_cons (ps_set (i := 3) sc__law_cards.nd rfl (Or.inr rfl) (pe_ix ((ix_listK (K := K)).or (ix_tupK (K := K))) (pe_lst (pa_cons pe_int (pa_cons (pe_un un_neg pe_int) (pa_cons (pe_un un_neg (pe_op op_pow pe_int pe_int)) pa_nil)))) (pe_call (ok__law_take T) (hr.mono (by decide)) (by rfl) T.m__law_take T.F__law_take.kp T.b__law_take .nil passL (pa_cons (pv 0) (pa_cons pe_int pa_nil))) (fun _ _ => rfl))) (pss_cons (ps_set (i := 4) sc__law_cards.nd rfl (Or.inl rfl) (pe_lst pa_nil)) (pss_cons (ps_for PassesOwn.never rfl (pi_range1 (by rfl) T.b_range (pa_cons (pv 1) pa_nil)) (pg_name (i := 5) sc__law_cards.nd rfl (Or.inl rfl)) (pss_one (ps_expr (pe_bmK (K := K) PySem.F.plainAttrs_list PySem.F.slot_list_insert PySem.F.type_list_insert mt_insert (pv 4) (pa_cons (pe_call (ok__law_take T) (hr.mono (by decide)) (by rfl) T.m__law_take T.F__law_take.kp T.b__law_take .nil passL (pa_cons (pv 0) (pa_cons (pe_op op_add (pv 5) pe_int) pa_nil))) (pa_cons (pv 5) pa_nil)))))) (pss_one (ps_ret (pe_lc (own := [("k", 5)]) rfl sc__law_cards.nd (pi_listK (K := K) (pv 4)) (blkOk_by (own := [("k", 5)]) (N := ["pool", "many", "step", "low", "order", "k"]) (sc := defScope s__law_cards) (by decide +kernel)) (fun _ _ _ _ _ => by exact (pg_name (i := 5) sc__law_cards.nd rfl (Or.inl rfl))) (fun _ _ _ _ _ => by exact pts_nil) (fun _ _ _ _ _ => by exact (pe_op op_add (pv 3) (pe_op op_mulW (pe_op op_mulW (pv 2) (pv 5)) (pv 5))))))))))), (rs_seq (rs_asg (vs := [2]) (re_fz (re_op rr_ix (re_lst (ra_cons re_int (ra_cons re_int (ra_cons (re_op rr_IC re_int re_int) ra_nil)))) (re_callI (ra_cons re_var (ra_cons re_int ra_nil))))) rg_name) (rs_seq (rs_asg (vs := [3]) (re_fz (re_op rr_ix (re_lst (ra_cons re_int (ra_cons (re_un ur_int re_int) (ra_cons (re_un ur_int (re_op rr_IC re_int re_int)) ra_nil)))) (re_callI (ra_cons re_var (ra_cons re_int ra_nil))))) rg_name) (rs_seq (rs_asg (vs := [4]) (re_gc (re_lst ra_nil)) rg_name) (rs_seq (rs_fg (rs_for (vs := [5]) (ri_r1 (ra_cons re_var ra_nil)) rg_name (rs_sc (ks := [5]) (rs_expr (re_bm mr_insert re_var (ra_cons (re_callI (ra_cons re_var (ra_cons (re_op rr_int re_var re_int) ra_nil))) (ra_cons re_var ra_nil))))))) (rs_ret (re_lc (vs := [5]) (ri_list re_var) rg_name rt_yes (re_op rr_int re_var (re_op rr_IC (re_op rr_IC re_var re_var) re_var))))))))⟩
theorem ok__law_way (T : Txt K mg A) : FnOk P w K mg base (L2.CX P w) 1 A.f__law_way A.d__law_way ["cards", "size"] (sp_d K 2 den__law_way_b403) :=
  fnOkD T.F__law_way sc__law_way rfl rfl fun cdv A' outer s H E hr => ⟨_, (pss_cons (ps_setLc (i := 2) (own := [("k", 9)]) rfl sc__law_way.nd rfl rfl (sw_true rfl rfl rfl (by decide +kernel)) (pi_range1 (by rfl) T.b_range (pa_cons (pe_callB (call_min2 rfl) (by rfl) T.b_min (by decide +kernel) (pa_cons (pv 1) (pa_cons (pe_callB (call_lenSK (K := K)) (by rfl) T.b_len (by decide +kernel) (pa_cons (pv 0) pa_nil)) pa_nil))) pa_nil)) (blkOk_by (own := [("k", 9)]) (N := ["cards", "size", "held", "drawn", "way", "pile", "step", "fits", "best", "k"]) (sc := defScope s__law_way) (by decide +kernel)) (fun _ _ _ _ _ => by exact (pg_name (i := 9) sc__law_way.nd rfl (Or.inl rfl))) (fun _ _ _ _ _ => by exact pts_nil) (fun _ _ _ _ _ => by exact (pv 9))) (pss_cons (ps_set (i := 3) sc__law_way.nd rfl (Or.inl rfl) (pe_callB (call_lenSK (K := K)) (by rfl) T.b_len (by decide +kernel) (pa_cons (pv 2) pa_nil))) (pss_cons (ps_set (i := 4) sc__law_way.nd rfl (Or.inr rfl) (pe_lst pa_nil)) (pss_cons (ps_set (i := 5) sc__law_way.nd rfl (Or.inl rfl) pe_int) (pss_cons (ps_for PassesOwn.never rfl (pi_range1 (by rfl) T.b_range (pa_cons (pe_callB (call_lenSK (K := K)) (by rfl) T.b_len (by decide +kernel) (pa_cons (pv 0) pa_nil)) pa_nil)) (pg_name (i := 6) sc__law_way.nd rfl (Or.inl rfl)) (pss_cons (ps_setLc (i := 7) (own := [("k", 9)]) rfl sc__law_way.nd rfl rfl (sw_true rfl rfl rfl (by decide +kernel)) (pi_listK (K := K) (pv 2)) (blkOk_by (own := [("k", 9)]) (N := ["cards", "size", "held", "drawn", "way", "pile", "step", "fits", "best", "k"]) (sc := defScope s__law_way) (by decide +kernel)) (fun _ _ _ _ _ => by exact (pg_name (i := 9) sc__law_way.nd rfl (Or.inl rfl))) (fun _ _ _ _ _ => by exact (pts_one (pw_or (pt_cmpR (op_eqDK (K := K) hr.units) (pv 4) (pe_lst pa_nil) (nomark _)) (pw_or1 (pt_cmpR op_ge (pe_ix ((ix_listK (K := K)).or (ix_tupK (K := K))) (pv 0) (pv 9) (fun _ _ => rfl)) (pe_ix ((ix_listK (K := K)).or (ix_tupK (K := K))) (pv 0) (pe_ix ((ix_listK (K := K)).or (ix_tupK (K := K))) (pe_ix ((ix_listK (K := K)).or (ix_tupK (K := K))) (pv 4) (pe_un un_neg pe_int) (fun _ _ => rfl)) pe_int (fun _ _ => rfl)) (fun _ _ => rfl)) (nomark _)))).pt)) (fun _ _ _ _ _ => by exact (pv 9))) (pss_cons (ps_if (pt_cmpR (op_eqDK (K := K) hr.units) (pv 7) (pe_lst pa_nil) (nomark _)) (pss_cons (ps_set (i := 5) sc__law_way.nd rfl (Or.inl rfl) (pe_op op_add (pv 5) pe_int)) (pss_one (ps_set (i := 7) sc__law_way.nd rfl (Or.inl rfl) (pe_callTy (call_listSK (K := K)) (by rfl) T.b_list (by decide +kernel) (pa_cons (pv 2) pa_nil))))) pss_nil) (pss_cons (ps_set (i := 8) sc__law_way.nd rfl (Or.inl rfl) (pe_ix ((ix_listK (K := K)).or (ix_tupK (K := K))) (pv 7) pe_int (fun _ _ => rfl))) (pss_cons (ps_for PassesOwn.never rfl (pi_listK (K := K) (pv 7)) (pg_name (i := 9) sc__law_way.nd rfl (Or.inl rfl)) (pss_one (ps_if (pt_cmpR op_lt (pe_ix ((ix_listK (K := K)).or (ix_tupK (K := K))) (pv 0) (pv 9) (fun _ _ => rfl)) (pe_ix ((ix_listK (K := K)).or (ix_tupK (K := K))) (pv 0) (pv 8) (fun _ _ => rfl)) (nomark _)) (pss_one (ps_set (i := 8) sc__law_way.nd rfl (Or.inl rfl) (pv 9))) pss_nil))) (pss_cons (ps_expr (pe_bmK (K := K) PySem.F.plainAttrs_list PySem.F.slot_list_append PySem.F.type_list_append mt_append (pv 4) (pa_cons (pe_tup (pa_cons (pv 8) (pa_cons (pv 5) pa_nil))) pa_nil))) (pss_cons (ps_expr (pe_remXK (K := K) rfl tk0 (pv 2) (pv 8))) (pss_one (ps_if (pt_cmpR op_lt (pv 3) (pe_callB (call_lenSK (K := K)) (by rfl) T.b_len (by decide +kernel) (pa_cons (pv 0) pa_nil)) (nomark _)) (pss_cons (ps_expr (pe_bmK (K := K) PySem.F.plainAttrs_list PySem.F.slot_list_append PySem.F.type_list_append mt_append (pv 2) (pa_cons (pv 3) pa_nil))) (pss_one (ps_set (i := 3) sc__law_way.nd rfl (Or.inl rfl) (pe_op op_add (pv 3) pe_int)))) pss_nil))))))))) (pss_one (ps_ret (pv 4)))))))), (rs_seq (rs_asg (vs := [2]) (re_gc (re_lc (vs := [9]) (ri_r1 (ra_cons (re_cb cr_min2 (ra_cons re_var (ra_cons (re_cb cr_len (ra_cons re_var ra_nil)) ra_nil))) ra_nil)) rg_name rt_yes re_var)) rg_name) (rs_seq (rs_asg (vs := [3]) (re_cb cr_len (ra_cons re_var ra_nil)) rg_name) (rs_seq (rs_asg (vs := [4]) (re_gc (re_lst ra_nil)) rg_name) (rs_seq (rs_asg (vs := [5]) re_int rg_name) (rs_seq (rs_fg (rs_for (vs := [6]) (ri_r1 (ra_cons (re_cb cr_len (ra_cons re_var ra_nil)) ra_nil)) rg_name (rs_sc (ks := [6, 7, 8, 9]) (rs_seq (rs_asg (vs := [7]) (re_fz (re_lc (vs := [9]) (ri_list re_var) rg_name (rt_gc (rt_or (rt_test (re_op rr_eqD re_var (re_lst ra_nil))) (rt_test (re_op rr_bl (re_op rr_ix re_var re_var) (re_op rr_ix re_var (re_op rr_ix (re_op rr_ix re_var (re_un ur_int re_int)) re_int)))))) re_var)) rg_name) (rs_seq (rs_if (rt_gc (rt_test (re_op rr_eqD re_var (re_lst ra_nil)))) (rs_seq (rs_asg (vs := [5]) (re_op rr_int re_var re_int) rg_name) (rs_asg (vs := [7]) (re_fz (re_cb cr_list (ra_cons re_var ra_nil))) rg_name)) rs_next) (rs_seq (rs_asg (vs := [8]) (re_op rr_ix re_var re_int) rg_name) (rs_seq (rs_fg (rs_for (vs := [9]) (ri_list re_var) rg_name (rs_sc (ks := [9]) (rs_if (rt_test (re_op rr_bl (re_op rr_ix re_var re_var) (re_op rr_ix re_var re_var))) (rs_asg (vs := [8]) re_var rg_name) rs_next)))) (rs_seq (rs_expr (re_bm mr_append re_var (ra_cons (re_tup (ra_cons re_var (ra_cons re_var ra_nil))) ra_nil))) (rs_seq (rs_expr (re_rem re_var re_var)) (rs_if (rt_test (re_op rr_bl re_var (re_cb cr_len (ra_cons re_var ra_nil)))) (rs_seq (rs_expr (re_bm mr_append re_var (ra_cons re_var ra_nil))) (rs_asg (vs := [3]) (re_op rr_int re_var re_int) rg_name)) rs_next)))))))))) (rs_ret re_var))))))⟩
theorem ok__law_piles (T : Txt K mg A) : FnOk P w K mg base (L2.CX P w) 2 A.f__law_piles A.d__law_piles ["cards", "size"] (sp_d K 2 den__law_piles_0003) :=
  fnOkD T.F__law_piles sc__law_piles rfl rfl fun cdv A' outer s H E hr => ⟨_, (pss_cons (ps_set (i := 2) sc__law_piles.nd rfl (Or.inl rfl) (pe_lst pa_nil)) (pss_cons (ps_for PassesOwn.never rfl (pi_listK (K := K) (pe_call (ok__law_way T) (hr.mono (by decide)) (by rfl) T.m__law_way T.F__law_way.kp T.b__law_way .nil passL (pa_cons (pv 0) (pa_cons (pv 1) pa_nil)))) (pg_tupK (K := K) (n := 2) rfl (pgs_cons (pg_name (i := 3) sc__law_piles.nd rfl (Or.inl rfl)) (pgs_cons (pg_name (i := 4) sc__law_piles.nd rfl (Or.inl rfl)) pgs_nil))) (pss_cons (ps_if (pt_cmpR op_eqI (pv 4) (pe_callB (call_lenSK (K := K)) (by rfl) T.b_len (by decide +kernel) (pa_cons (pv 2) pa_nil)) (nomark _)) (pss_one (ps_expr (pe_bmK (K := K) PySem.F.plainAttrs_list PySem.F.slot_list_append PySem.F.type_list_append mt_append (pv 2) (pa_cons (pe_lst pa_nil) pa_nil)))) pss_nil) (pss_one (ps_expr (pe_bmK (K := K) PySem.F.plainAttrs_list PySem.F.slot_list_append PySem.F.type_list_append mt_append (pe_ix ((ix_listK (K := K)).or (ix_tupK (K := K))) (pv 2) (pv 4) (fun _ _ => rfl)) (pa_cons (pe_ix ((ix_listK (K := K)).or (ix_tupK (K := K))) (pv 0) (pv 3) (fun _ _ => rfl)) pa_nil)))))) (pss_one (ps_ret (pv 2))))), (rs_seq (rs_asg (vs := [2]) (re_gc (re_lst ra_nil)) rg_name) (rs_seq (rs_fg (rs_for (vs := [3, 4]) (ri_list (re_callP (ra_cons re_var (ra_cons re_var ra_nil)))) (rg_tup (rgs_cons rg_name (rgs_cons rg_name rgs_nil))) (rs_seq (rs_if (rt_test (re_op rr_bl re_var (re_cb cr_len (ra_cons re_var ra_nil)))) (rs_expr (re_bm mr_append re_var (ra_cons (re_lst ra_nil) ra_nil))) rs_next) (rs_expr (re_bm mr_append (re_op rr_ix re_var re_var) (ra_cons (re_op rr_ix re_var re_var) ra_nil)))))) (rs_ret re_var)))⟩
theorem ok__law_told (T : Txt K mg A) : FnOk P w K mg base (L2.CX P w) 3 A.f__law_told A.d__law_told ["pool", "many"] (sp_d K 2 den__law_told_f85c) :=
  fnOkD T.F__law_told sc__law_told rfl rfl fun cdv A' outer s H E hr => ⟨_, (pss_cons (ps_set (i := 2) sc__law_told.nd rfl (Or.inl rfl) (pe_op op_add pe_int (pe_call (ok__law_take T) (hr.mono (by decide)) (by rfl) T.m__law_take T.F__law_take.kp T.b__law_take .nil passL (pa_cons (pv 0) (pa_cons pe_int pa_nil))))) (pss_cons (ps_set (i := 2) sc__law_told.nd rfl (Or.inl rfl) (pe_ix ((ix_listK (K := K)).or (ix_tupK (K := K))) (pe_lst (pa_cons pe_int (pa_cons (pv 2) (pa_cons (pv 1) pa_nil)))) (pe_call (ok__law_take T) (hr.mono (by decide)) (by rfl) T.m__law_take T.F__law_take.kp T.b__law_take .nil passL (pa_cons (pv 0) (pa_cons pe_int pa_nil))) (fun _ _ => rfl))) (pss_cons (ps_set (i := 3) sc__law_told.nd rfl (Or.inl rfl) (pe_call (ok__law_cards T) (hr.mono (by decide)) (by rfl) T.m__law_cards T.F__law_cards.kp T.b__law_cards .nil passL (pa_cons (pv 0) (pa_cons (pv 1) pa_nil)))) (pss_one (ps_ret (pe_tup (pa_cons (pe_call (ok__law_piles T) (hr.mono (by decide)) (by rfl) T.m__law_piles T.F__law_piles.kp T.b__law_piles .nil passL (pa_cons (pv 3) (pa_cons (pe_callB (call_max2 rfl) (by rfl) T.b_max (by decide +kernel) (pa_cons pe_int (pa_cons (pv 2) pa_nil))) pa_nil))) (pa_cons (pe_callB (call_max2 rfl) (by rfl) T.b_max (by decide +kernel) (pa_cons pe_int (pa_cons (pv 2) pa_nil))) pa_nil)))))))), (rs_seq (rs_asg (vs := [2]) (re_op rr_int re_int (re_callI (ra_cons re_var (ra_cons re_int ra_nil)))) rg_name) (rs_seq (rs_asg (vs := [2]) (re_fz (re_op rr_ix (re_lst (ra_cons re_int (ra_cons re_var (ra_cons re_var ra_nil)))) (re_callI (ra_cons re_var (ra_cons re_int ra_nil))))) rg_name) (rs_seq (rs_asg (vs := [3]) (re_fz (re_callI (ra_cons re_var (ra_cons re_var ra_nil)))) rg_name) (rs_ret (re_tup (ra_cons (re_callP (ra_cons re_var (ra_cons (re_cb cr_max2 (ra_cons re_int (ra_cons re_var ra_nil))) ra_nil))) (ra_cons (re_cb cr_max2 (ra_cons re_int (ra_cons re_var ra_nil))) ra_nil)))))))⟩
theorem ok__law_goes (T : Txt K mg A) : FnOk P w K mg base (L2.CX P w) 1 A.f__law_goes A.d__law_goes ["last", "told0", "card"] (sp_d K 3 den__law_goes) :=
  fnOkD T.F__law_goes sc__law_goes rfl rfl fun cdv A' outer s H E hr => ⟨_, (pss_cons (ps_setLc (i := 3) (own := [("one", 4)]) rfl sc__law_goes.nd rfl rfl (sw_true rfl rfl rfl (by decide +kernel)) (pi_listK (K := K) (pe_lst (pa_cons (pv 1) (pa_cons (pv 2) pa_nil)))) (blkOk_by (own := [("one", 4)]) (N := ["last", "told0", "card", "fits", "one"]) (sc := defScope s__law_goes) (by decide +kernel)) (fun _ _ _ _ _ => by exact (pg_name (i := 4) sc__law_goes.nd rfl (Or.inl rfl))) (fun _ _ _ _ _ => by exact (pts_one (pw_or (pt_cmpR (op_eqDK (K := K) hr.units) (pv 0) (pe_lst pa_nil) (nomark _)) (pw_or1 (pt_cmpR op_ge (pv 4) (pe_ix ((ix_listK (K := K)).or (ix_tupK (K := K))) (pv 0) pe_int (fun _ _ => rfl)) (nomark _)))).pt)) (fun _ _ _ _ _ => by exact (pv 4))) (pss_cons (ps_if (pt_cmpR (op_eqDK (K := K) hr.units) (pv 3) (pe_lst pa_nil) (nomark _)) (pss_one (ps_ret (pe_cmpR op_lt (pv 2) (pv 1) (nomark _)))) pss_nil) (pss_one (ps_ret (pe_cmpR op_eqI (pe_callB (cr_minK1 (K := K) rfl) (by rfl) T.b_min (by decide +kernel) (pa_cons (pv 3) pa_nil)) (pv 2) (nomark _)))))), (rs_seq (rs_asg (vs := [3]) (re_fz (re_lc (vs := [4]) (ri_list (re_fz (re_lst (ra_cons re_var (ra_cons re_var ra_nil))))) rg_name (rt_gc (rt_or (rt_test (re_op rr_eqD re_var (re_lst ra_nil))) (rt_test (re_op rr_bl re_var (re_op rr_ix re_var re_int))))) re_var)) rg_name) (rs_seq (rs_if (rt_gc (rt_test (re_op rr_eqD re_var (re_lst ra_nil)))) (rs_ret (re_op rr_bl re_var re_var)) rs_next) (rs_ret (re_op rr_bl (re_cb cr_minD (ra_cons re_var ra_nil)) re_var))))⟩
theorem ok__law_spans (T : Txt K mg A) : FnOk P w K mg base (L2.CX P w) 2 A.f__law_spans A.d__law_spans ["piles", "size"] (sp_d K 2 den__law_spans) :=
  fnOkD T.F__law_spans sc__law_spans rfl rfl fun cdv A' outer s H E hr => ⟨_, (pss_cons (ps_set (i := 2) sc__law_spans.nd rfl (Or.inl rfl) (pe_lst pa_nil)) (pss_cons (ps_for PassesOwn.never rfl (pi_listK (K := K) (pv 0)) (pg_name (i := 3) sc__law_spans.nd rfl (Or.inl rfl)) (pss_one (ps_set (i := 2) sc__law_spans.nd rfl (Or.inl rfl) (pe_op op_catS (pv 2) (pv 3))))) (pss_cons (ps_set (i := 4) sc__law_spans.nd rfl (Or.inl rfl) (pe_lst pa_nil)) (pss_cons (ps_for PassesOwn.never rfl (pi_range1 (by rfl) T.b_range (pa_cons (pe_callB (call_lenSK (K := K)) (by rfl) T.b_len (by decide +kernel) (pa_cons (pv 2) pa_nil)) pa_nil)) (pg_name (i := 5) sc__law_spans.nd rfl (Or.inl rfl)) (pss_cons (ps_set (i := 6) sc__law_spans.nd rfl (Or.inl rfl) pe_int) (pss_cons (ps_for PassesOwn.never rfl (pi_range1 (by rfl) T.b_range (pa_cons (pv 5) pa_nil)) (pg_name (i := 7) sc__law_spans.nd rfl (Or.inl rfl)) (pss_one (ps_if (pt_val (pe_call (ok__law_goes T) (hr.mono (by decide)) (by rfl) T.m__law_goes T.F__law_goes.kp T.b__law_goes .nil passL (pa_cons (pe_slice (sl_listK (K := K)) (pv 2) (po_some (pe_callB (call_max2 rfl) (by rfl) T.b_max (by decide +kernel) (pa_cons pe_int (pa_cons (pe_op op_sub (pv 7) pe_int) pa_nil)))) (po_some (pv 7))) (pa_cons (pe_ix ((ix_listK (K := K)).or (ix_tupK (K := K))) (pv 2) (pv 7) (fun _ _ => rfl)) (pa_cons (pe_ix ((ix_listK (K := K)).or (ix_tupK (K := K))) (pv 2) (pv 5) (fun _ _ => rfl)) pa_nil))))) (pss_one (ps_set (i := 6) sc__law_spans.nd rfl (Or.inl rfl) (pe_op op_add (pv 1) (pv 7)))) pss_nil))) (pss_one (ps_expr (pe_bmK (K := K) PySem.F.plainAttrs_list PySem.F.slot_list_append PySem.F.type_list_append mt_append (pv 4) (pa_cons (pe_tup (pa_cons (pv 6) (pa_cons (pe_callB (call_min2 rfl) (by rfl) T.b_min (by decide +kernel) (pa_cons (pe_op op_sub (pe_callB (call_lenSK (K := K)) (by rfl) T.b_len (by decide +kernel) (pa_cons (pv 2) pa_nil)) pe_int) (pa_cons (pe_op op_sub (pe_op op_add (pv 1) (pv 5)) pe_int) pa_nil))) pa_nil))) pa_nil))))))) (pss_one (ps_ret (pv 4))))))), (rs_seq (rs_asg (vs := [2]) (re_fz (re_lst ra_nil)) rg_name) (rs_seq (rs_fg (rs_for (vs := [3]) (ri_list re_var) rg_name (rs_sc (ks := [3]) (rs_asg (vs := [2]) (re_fz (re_op rr_cat re_var re_var)) rg_name)))) (rs_seq (rs_asg (vs := [4]) (re_gc (re_lst ra_nil)) rg_name) (rs_seq (rs_fg (rs_for (vs := [5]) (ri_r1 (ra_cons (re_cb cr_len (ra_cons re_var ra_nil)) ra_nil)) rg_name (rs_sc (ks := [5, 6, 7]) (rs_seq (rs_asg (vs := [6]) re_int rg_name) (rs_seq (rs_fg (rs_for (vs := [7]) (ri_r1 (ra_cons re_var ra_nil)) rg_name (rs_sc (ks := [7]) (rs_if (rt_gc (rt_b (re_callP (ra_cons (re_sl re_var (ro_s (re_cb cr_max2 (ra_cons re_int (ra_cons (re_op rr_int re_var re_int) ra_nil)))) (ro_s re_var)) (ra_cons (re_op rr_ix re_var re_var) (ra_cons (re_op rr_ix re_var re_var) ra_nil)))))) (rs_asg (vs := [6]) (re_op rr_int re_var re_var) rg_name) rs_next)))) (rs_expr (re_bm mr_append re_var (ra_cons (re_tup (ra_cons re_var (ra_cons (re_cb cr_min2 (ra_cons (re_op rr_int (re_cb cr_len (ra_cons re_var ra_nil)) re_int) (ra_cons (re_op rr_int (re_op rr_int re_var re_var) re_int) ra_nil))) ra_nil))) ra_nil)))))))) (rs_ret re_var)))))⟩
theorem ok__law_size (T : Txt K mg A) : FnOk P w K mg base (L2.CX P w) 2 A.f__law_size A.d__law_size ["pool", "many"] (sp_d K 2 den__law_size) :=
  fnOkD T.F__law_size sc__law_size rfl rfl fun cdv A' outer s H E hr => ⟨_, (pss_cons (ps_set (i := 2) sc__law_size.nd rfl (Or.inl rfl) (pe_call (ok__law_take T) (hr.mono (by decide)) (by rfl) T.m__law_take T.F__law_take.kp T.b__law_take .nil passL (pa_cons (pv 0) (pa_cons pe_int pa_nil)))) (pss_cons (ps_if (pt_cmpR op_eqI (pv 2) pe_int (nomark _)) (pss_one (ps_ret pe_int)) pss_nil) (pss_cons (ps_if (pt_cmpR op_eqI (pv 2) pe_int (nomark _)) (pss_one (ps_ret (pe_op op_add (pe_op op_pow pe_int pe_int) (pe_call (ok__law_take T) (hr.mono (by decide)) (by rfl) T.m__law_take T.F__law_take.kp T.b__law_take .nil passL (pa_cons (pv 0) (pa_cons (pe_op op_pow pe_int pe_int) pa_nil)))))) pss_nil) (pss_one (ps_ret (pe_op op_add pe_int (pe_call (ok__law_take T) (hr.mono (by decide)) (by rfl) T.m__law_take T.F__law_take.kp T.b__law_take .nil passL (pa_cons (pv 0) (pa_cons (pe_op op_add (pv 1) pe_int) pa_nil))))))))), (rs_seq (rs_asg (vs := [2]) (re_callI (ra_cons re_var (ra_cons re_int ra_nil))) rg_name) (rs_seq (rs_if (rt_test (re_op rr_bl re_var re_int)) (rs_ret re_int) rs_next) (rs_seq (rs_if (rt_test (re_op rr_bl re_var re_int)) (rs_ret (re_op rr_int (re_op rr_IC re_int re_int) (re_callI (ra_cons re_var (ra_cons (re_op rr_IC re_int re_int) ra_nil))))) rs_next) (rs_ret (re_op rr_int re_int (re_callI (ra_cons re_var (ra_cons (re_op rr_int re_var re_int) ra_nil))))))))⟩
theorem ok__check_piles (T : Txt K mg A) : FnOk P w K mg base (L2.CX P w) 1 A.f__check_piles A.d__check_piles ["told"] (sp_d K 1 den__check_piles) :=
  fnOkD T.F__check_piles sc__check_piles rfl rfl fun cdv A' outer s H E hr => ⟨_, (pss_one (ps_for PassesOwn.never rfl (pi_enumK (K := K) (by rfl) T.b_enumerate (pa_cons (pv 0) pa_nil)) (pg_tupK (K := K) (n := 2) rfl (pgs_cons (pg_name (i := 1) sc__check_piles.nd rfl (Or.inl rfl)) (pgs_cons (pg_name (i := 2) sc__check_piles.nd rfl (Or.inl rfl)) pgs_nil))) (pss_cons (ps_if (pw_or (pt_not (pt_truLK (K := K) (pv 2))) (pw_or1 (pt_cmpR (op_neDK (K := K) hr.units) (pv 2) (pe_callB (cr_sortedRR (K := K)) (by rfl) T.b_sorted (by decide +kernel) (pa_cons (pv 2) pa_nil)) (nomark _)))).pt (pss_one ps_never) pss_nil) (pss_one (ps_if (pw_and (pt_cmpR op_gt (pv 1) pe_int (nomark _)) (pw_and1 (pt_cmpR op_gt (pe_ix ((ix_listK (K := K)).or (ix_tupK (K := K))) (pv 2) pe_int (fun _ _ => rfl)) (pe_ix ((ix_listK (K := K)).or (ix_tupK (K := K))) (pe_ix ((ix_listK (K := K)).or (ix_tupK (K := K))) (pv 0) (pe_op op_sub (pv 1) pe_int) (fun _ _ => rfl)) (pe_un un_neg pe_int) (fun _ _ => rfl)) (nomark _)))).pt (pss_one ps_never) pss_nil))))), (rs_fg (rs_for (vs := [1, 2]) (ri_enum (ra_cons re_var ra_nil)) (rg_tup (rgs_cons rg_name (rgs_cons rg_name rgs_nil))) (rs_sc (ks := [1, 2]) (rs_seq (rs_if (rt_gc (rt_or (rt_not (rt_tru re_var)) (rt_test (re_op rr_neD re_var (re_cb cr_sort (ra_cons re_var ra_nil)))))) rs_never rs_next) (rs_if (rt_and (rt_test (re_op rr_bl re_var re_int)) (rt_test (re_op rr_bl (re_op rr_ix re_var re_int) (re_op rr_ix (re_op rr_ix re_var (re_op rr_int re_var re_int)) (re_un ur_int re_int))))) rs_never rs_next)))))⟩
theorem ok_check_hand (T : Txt K mg A) : FnOk P w K mg base (L2.CX P w) 1 A.f_check_hand A.d_check_hand ["hand"] (sp_d K 1 den_check_hand) :=
  fnOkD T.F_check_hand sc_check_hand rfl rfl fun cdv A' outer s H E hr => ⟨_, (pss_one (ps_if (pt_cmpR op_lt (pv 0) pe_int (nomark _)) (pss_one ps_never) pss_nil)), (rs_if (rt_test (re_op rr_bl re_var re_int)) rs_never rs_next)⟩
theorem ok__cards_of (T : Txt K mg A) : FnOk P w K mg base (L2.CX P w) 1 A.f__cards_of A.d__cards_of ["told"] (sp_d K 1 den__cards_of) :=
  fnOkD T.F__cards_of sc__cards_of rfl rfl fun cdv A' outer s H E hr => ⟨_, (pss_one (ps_ret (pe_lc2 (own := [("pile", 1), ("card", 2)]) (vs1 := [2]) rfl sc__cards_of.nd (pi_listK (K := K) (pv 0)) (blkOk_by (own := [("pile", 1), ("card", 2)]) (N := ["told", "pile", "card"]) (sc := defScope s__cards_of) (by decide +kernel)) (by decide) (fun _ _ _ _ _ => by exact (pg_name (i := 1) sc__cards_of.nd rfl (Or.inl rfl))) (fun _ _ _ _ _ => by exact pts_nil) (fun _ _ _ _ _ => by exact (pi_listK (K := K) (pv 1))) (fun _ _ _ _ _ => by exact (pg_name (i := 2) sc__cards_of.nd rfl (Or.inl rfl))) (fun _ _ _ _ _ => by exact pts_nil) (fun _ _ _ _ _ => by exact (pv 2))))), (rs_ret (re_lc2 (vs := [1, 2]) (vs1 := [2]) (ri_list re_var) rg_name rt_yes (ri_list re_var) rg_name rt_yes re_var))⟩
theorem ok__goes_first (T : Txt K mg A) : FnOk P w K mg base (L2.CX P w) 1 A.f__goes_first A.d__goes_first ["cards", "begins", "before", "card"] (sp_d K 4 den__goes_first) :=
  fnOkD T.F__goes_first sc__goes_first rfl rfl fun cdv A' outer s H E hr => ⟨_, (pss_cons (ps_set (i := 4) sc__goes_first.nd rfl (Or.inl rfl) (pe_ix ((ix_listK (K := K)).or (ix_tupK (K := K))) (pv 0) (pv 2) (fun _ _ => rfl))) (pss_cons (ps_if (pt_cmpR op_eqI (pv 2) pe_int (nomark _)) (pss_one (ps_ret (pe_cmpR op_lt (pv 3) (pv 4) (nomark _)))) pss_nil) (pss_cons (ps_if (pt_val (pe_ix ((ix_listK (K := K)).or (ix_tupK (K := K))) (pv 1) (pv 2) (fun _ _ => rfl))) (pss_one (ps_ret (pe_or (pe_cmpR op_lt (pv 3) (pv 4) (nomark _)) (pe_one (pe_cmpR op_ge (pv 3) (pe_ix ((ix_listK (K := K)).or (ix_tupK (K := K))) (pv 0) (pe_op op_sub (pv 2) pe_int) (fun _ _ => rfl)) (nomark _)))))) pss_nil) (pss_one (ps_ret (pe_chain op_le op_lt (pe_ix ((ix_listK (K := K)).or (ix_tupK (K := K))) (pv 0) (pe_op op_sub (pv 2) pe_int) (fun _ _ => rfl)) (pv 3) (pv 4))))))), (rs_seq (rs_asg (vs := [4]) (re_op rr_ix re_var re_var) rg_name) (rs_seq (rs_if (rt_test (re_op rr_bl re_var re_int)) (rs_ret (re_op rr_bl re_var re_var)) rs_next) (rs_seq (rs_if (rt_b (re_op rr_ix re_var re_var)) (rs_ret (re_or (re_op rr_bl re_var re_var) (re_op rr_bl re_var (re_op rr_ix re_var (re_op rr_int re_var re_int))))) rs_next) (rs_ret (re_chain rr_bl rr_bl (re_op rr_ix re_var (re_op rr_int re_var re_int)) re_var re_var)))))⟩
theorem ok_windows (T : Txt K mg A) : FnOk P w K mg base (L2.CX P w) 2 A.f_windows A.d_windows ["told", "hand"] (sp_d K 2 den_windows) :=
  fnOkD T.F_windows sc_windows rfl rfl fun cdv A' outer s H E hr => ⟨_, (pss_cons (ps_expr (pe_call (ok__check_piles T) (hr.mono (by decide)) (by rfl) T.m__check_piles T.F__check_piles.kp T.b__check_piles .nil passL (pa_cons (pv 0) pa_nil))) (pss_cons (ps_expr (pe_call (ok_check_hand T) (hr.mono (by decide)) (by rfl) T.m_check_hand T.F_check_hand.kp T.b_check_hand .nil passL (pa_cons (pv 1) pa_nil))) (pss_cons (ps_set (i := 2) sc_windows.nd rfl (Or.inl rfl) (pe_call (ok__cards_of T) (hr.mono (by decide)) (by rfl) T.m__cards_of T.F__cards_of.kp T.b__cards_of .nil passL (pa_cons (pv 0) pa_nil))) (pss_cons (ps_setLc2 (i := 3) (own := [("pile", 9), ("index", 10)]) (vs1 := [10]) rfl sc_windows.nd rfl rfl (sw_true rfl rfl rfl (by decide +kernel)) (pi_listK (K := K) (pv 0)) (blkOk_by (own := [("pile", 9), ("index", 10)]) (N := ["told", "hand", "cards", "begins", "found", "place", "card", "first", "before", "pile", "index"]) (sc := defScope s_windows) (by decide +kernel)) (by decide) (fun _ _ _ _ _ => by exact (pg_name (i := 9) sc_windows.nd rfl (Or.inl rfl))) (fun _ _ _ _ _ => by exact pts_nil) (fun _ _ _ _ _ => by exact (pi_range1 (by rfl) T.b_range (pa_cons (pe_callB (call_lenSK (K := K)) (by rfl) T.b_len (by decide +kernel) (pa_cons (pv 9) pa_nil)) pa_nil))) (fun _ _ _ _ _ => by exact (pg_name (i := 10) sc_windows.nd rfl (Or.inl rfl))) (fun _ _ _ _ _ => by exact pts_nil) (fun _ _ _ _ _ => by exact (pe_cmpR op_eqI (pv 10) pe_int (nomark _)))) (pss_cons (ps_set (i := 4) sc_windows.nd rfl (Or.inl rfl) (pe_lst pa_nil)) (pss_cons (ps_for PassesOwn.never rfl (pi_enumK (K := K) (by rfl) T.b_enumerate (pa_cons (pv 2) pa_nil)) (pg_tupK (K := K) (n := 2) rfl (pgs_cons (pg_name (i := 5) sc_windows.nd rfl (Or.inl rfl)) (pgs_cons (pg_name (i := 6) sc_windows.nd rfl (Or.inl rfl)) pgs_nil))) (pss_cons (ps_set (i := 7) sc_windows.nd rfl (Or.inl rfl) pe_int) (pss_cons (ps_for PassesOwn.never rfl (pi_range1 (by rfl) T.b_range (pa_cons (pv 5) pa_nil)) (pg_name (i := 8) sc_windows.nd rfl (Or.inl rfl)) (pss_one (ps_if (pt_val (pe_call (ok__goes_first T) (hr.mono (by decide)) (by rfl) T.m__goes_first T.F__goes_first.kp T.b__goes_first .nil passL (pa_cons (pv 2) (pa_cons (pv 3) (pa_cons (pv 8) (pa_cons (pv 6) pa_nil)))))) (pss_one (ps_set (i := 7) sc_windows.nd rfl (Or.inl rfl) (pe_op op_add (pv 1) (pv 8)))) pss_nil))) (pss_one (ps_expr (pe_bmK (K := K) PySem.F.plainAttrs_list PySem.F.slot_list_append PySem.F.type_list_append mt_append (pv 4) (pa_cons (pe_tup (pa_cons (pv 7) (pa_cons (pe_callB (call_min2 rfl) (by rfl) T.b_min (by decide +kernel) (pa_cons (pe_op op_sub (pe_callB (call_lenSK (K := K)) (by rfl) T.b_len (by decide +kernel) (pa_cons (pv 2) pa_nil)) pe_int) (pa_cons (pe_op op_sub (pe_op op_add (pv 1) (pv 5)) pe_int) pa_nil))) pa_nil))) pa_nil))))))) (pss_one (ps_ret (pv 4))))))))), (rs_seq (rs_expr (re_callP (ra_cons re_var ra_nil))) (rs_seq (rs_expr (re_callP (ra_cons re_var ra_nil))) (rs_seq (rs_asg (vs := [2]) (re_callP (ra_cons re_var ra_nil)) rg_name) (rs_seq (rs_asg (vs := [3]) (re_fz (re_lc2 (vs := [9, 10]) (vs1 := [10]) (ri_list re_var) rg_name rt_yes (ri_r1 (ra_cons (re_cb cr_len (ra_cons re_var ra_nil)) ra_nil)) rg_name rt_yes (re_op rr_bl re_var re_int))) rg_name) (rs_seq (rs_asg (vs := [4]) (re_gc (re_lst ra_nil)) rg_name) (rs_seq (rs_fg (rs_for (vs := [5, 6]) (ri_enum (ra_cons re_var ra_nil)) (rg_tup (rgs_cons rg_name (rgs_cons rg_name rgs_nil))) (rs_sc (ks := [5, 6, 7, 8]) (rs_seq (rs_asg (vs := [7]) re_int rg_name) (rs_seq (rs_fg (rs_for (vs := [8]) (ri_r1 (ra_cons re_var ra_nil)) rg_name (rs_sc (ks := [8]) (rs_if (rt_b (re_callP (ra_cons re_var (ra_cons re_var (ra_cons re_var (ra_cons re_var ra_nil)))))) (rs_asg (vs := [7]) (re_op rr_int re_var re_var) rg_name) rs_next)))) (rs_expr (re_bm mr_append re_var (ra_cons (re_tup (ra_cons re_var (ra_cons (re_cb cr_min2 (ra_cons (re_op rr_int (re_cb cr_len (ra_cons re_var ra_nil)) re_int) (ra_cons (re_op rr_int (re_op rr_int re_var re_var) re_int) ra_nil))) ra_nil))) ra_nil)))))))) (rs_ret re_var)))))))⟩
theorem ok_lawD (T : Txt K mg A) : FnOk P w K mg base (L2.CX P w) 6 A.f_law A.d_law ["script"] (sp_d K 1 den_law_k56) :=
  fnOkD T.F_law sc_law rfl rfl fun cdv A' outer s H E hr => ⟨_, (pss_cons (ps_for PassesOwn.never rfl (pi_enumK (K := K) (by rfl) T.b_enumerate (pa_cons (pe_op op_catS (pe_lst (pa_cons (pe_callB (call_lenSK (K := K)) (by rfl) T.b_len (by decide +kernel) (pa_cons (pv 0) pa_nil)) pa_nil)) (pe_slice (sl_listK (K := K)) (pv 0) po_none (po_some pe_int))) pa_nil)) (pg_tupK (K := K) (n := 2) rfl (pgs_cons (pg_name (i := 1) sc_law.nd rfl (Or.inl rfl)) (pgs_cons (pg_name (i := 2) sc_law.nd rfl (Or.inl rfl)) pgs_nil))) (pss_cons (ps_set (i := 3) sc_law.nd rfl (Or.inl rfl) (pe_call (ok__law_pool T) (hr.mono (by decide)) (by rfl) T.m__law_pool T.F__law_pool.kp T.b__law_pool .nil passL (pa_cons (pv 2) (pa_cons (pv 1) pa_nil)))) (pss_cons (ps_set (i := 4) sc_law.nd rfl (Or.inl rfl) (pe_call (ok__law_take T) (hr.mono (by decide)) (by rfl) T.m__law_take T.F__law_take.kp T.b__law_take .nil passL (pa_cons (pv 3) (pa_cons pe_int pa_nil)))) (pss_cons (ps_if (pw_and (pt_cmpR op_eqI (pv 4) pe_int (nomark _)) (pw_and1 (pt_cmpR op_eqI (pe_call (ok__law_take T) (hr.mono (by decide)) (by rfl) T.m__law_take T.F__law_take.kp T.b__law_take .nil passL (pa_cons (pv 3) (pa_cons pe_int pa_nil))) pe_int (nomark _)))).pt (pss_one (ps_set (i := 4) sc_law.nd rfl (Or.inl rfl) pe_int)) pss_nil) (pss_cons (ps_asg (pe_call (ok__law_told T) (hr.mono (by decide)) (by rfl) T.m__law_told T.F__law_told.kp T.b__law_told .nil passL (pa_cons (pv 3) (pa_cons (pv 4) pa_nil))) (pg_tupK (K := K) (n := 2) rfl (pgs_cons (pg_name (i := 5) sc_law.nd rfl (Or.inl rfl)) (pgs_cons (pg_name (i := 6) sc_law.nd rfl (Or.inl rfl)) pgs_nil)))) (pss_cons (ps_set (i := 7) sc_law.nd rfl (Or.inl rfl) (pe_ix ((ix_listK (K := K)).or (ix_tupK (K := K))) (pe_lst (pa_cons (pv 6) (pa_cons (pe_call (ok__law_size T) (hr.mono (by decide)) (by rfl) T.m__law_size T.F__law_size.kp T.b__law_size .nil passL (pa_cons (pv 3) (pa_cons (pv 4) pa_nil))) pa_nil))) (pe_call (ok__law_take T) (hr.mono (by decide)) (by rfl) T.m__law_take T.F__law_take.kp T.b__law_take .nil passL (pa_cons (pv 3) (pa_cons pe_int pa_nil))) (fun _ _ => rfl))) (pss_cons (ps_setLc (i := 8) (own := [("pile", 10)]) rfl sc_law.nd rfl rfl (sw_true rfl rfl rfl (by decide +kernel)) (pi_listK (K := K) (pv 5)) (blkOk_by (own := [("pile", 10)]) (N := ["script", "turn", "cell", "pool", "many", "piles", "first", "size", "handed", "due", "pile"]) (sc := defScope s_law) (by decide +kernel)) (fun _ _ _ _ _ => by exact (pg_name (i := 10) sc_law.nd rfl (Or.inl rfl))) (fun _ _ _ _ _ => by exact pts_nil) (fun _ _ _ _ _ => by exact (pe_callTy (call_listSK (K := K)) (by rfl) T.b_list (by decide +kernel) (pa_cons (pv 10) pa_nil)))) (pss_cons (ps_set (i := 9) sc_law.nd rfl (Or.inl rfl) (pe_call (ok__law_spans T) (hr.mono (by decide)) (by rfl) T.m__law_spans T.F__law_spans.kp T.b__law_spans .nil passL (pa_cons (pv 5) (pa_cons (pv 7) pa_nil)))) (pss_cons (ps_if (pw_or (pt_not (pt_val (pe_call (ok__law_like T) (hr.mono (by decide)) (by rfl) T.m__law_like T.F__law_like.kp T.b__law_like .nil passL (pa_cons (pe_call (ok_windows T) (hr.mono (by decide)) (by rfl) T.m_windows T.F_windows.kp T.b_windows .nil passL (pa_cons (pv 8) (pa_cons (pv 7) pa_nil))) (pa_cons (pv 9) pa_nil))))) (pw_or1 (pt_cmpR (op_neDK (K := K) hr.units) (pv 8) (pv 5) (nomark _)))).pt (pss_one (ps_ret pe_bl)) pss_nil) (pss_one (ps_if (pw_or (pt_not (pt_val (pe_call (ok__law_like T) (hr.mono (by decide)) (by rfl) T.m__law_like T.F__law_like.kp T.b__law_like .nil passL (pa_cons (pe_callN0 (ok_windows T) (hr.mono (by decide)) (by rfl) T.m_windows T.F_windows.kp T.kb_windows_hand_told passL (pk_cons (pv 7) (pk_cons (pv 8) pk_nil))) (pa_cons (pv 9) pa_nil))))) (pw_or1 (pt_cmpR (op_neDK (K := K) hr.units) (pv 8) (pv 5) (nomark _)))).pt (pss_one (ps_ret pe_bl)) pss_nil))))))))))) (pss_one (ps_ret pe_bl))), (rs_seq (rs_fg (rs_for (vs := [1, 2]) (ri_enum (ra_cons (re_fz (re_op rr_cat (re_lst (ra_cons (re_cb cr_len (ra_cons re_var ra_nil)) ra_nil)) (re_sl re_var ro_n (ro_s re_int)))) ra_nil)) (rg_tup (rgs_cons rg_name (rgs_cons rg_name rgs_nil))) (rs_sc (ks := [1, 2, 3, 4, 5, 6, 7, 8, 9]) (rs_seq (rs_asg (vs := [3]) (re_callC (ra_cons re_var (ra_cons re_var ra_nil))) rg_name) (rs_seq (rs_asg (vs := [4]) (re_callI (ra_cons re_var (ra_cons re_int ra_nil))) rg_name) (rs_seq (rs_if (rt_and (rt_test (re_op rr_bl re_var re_int)) (rt_test (re_op rr_bl (re_callI (ra_cons re_var (ra_cons re_int ra_nil))) re_int))) (rs_asg (vs := [4]) re_int rg_name) rs_next) (rs_seq (rs_asg (vs := [5, 6]) (re_fz (re_callI (ra_cons re_var (ra_cons re_var ra_nil)))) (rg_tup (rgs_cons rg_name (rgs_cons rg_name rgs_nil)))) (rs_seq (rs_asg (vs := [7]) (re_fz (re_op rr_ix (re_lst (ra_cons re_var (ra_cons (re_callI (ra_cons re_var (ra_cons re_var ra_nil))) ra_nil))) (re_callI (ra_cons re_var (ra_cons re_int ra_nil))))) rg_name) (rs_seq (rs_asg (vs := [8]) (re_fz (re_lc (vs := [10]) (ri_list re_var) rg_name rt_yes (re_fz (re_cb cr_list (ra_cons re_var ra_nil))))) rg_name) (rs_seq (rs_asg (vs := [9]) (re_callP (ra_cons re_var (ra_cons re_var ra_nil))) rg_name) (rs_seq (rs_if (rt_or (rt_not (rt_b (re_callP (ra_cons (re_callP (ra_cons re_var (ra_cons re_var ra_nil))) (ra_cons re_var ra_nil))))) (rt_test (re_op rr_neD re_var re_var))) (rs_ret re_bl) rs_next) (rs_if (rt_or (rt_not (rt_b (re_callP (ra_cons (re_callN (gA := (fun vs zs => [zs.getD 1 nA, zs.getD 0 nA])) (fun w r p => sp_callP w r p) (fun r1 r2 => .cons (r2.getD 1) (.cons (r2.getD 0) (.nil))) ra_nil (ra_cons re_var (ra_cons re_var ra_nil))) (ra_cons re_var ra_nil))))) (rt_test (re_op rr_neD re_var re_var))) (rs_ret re_bl) rs_next)))))))))))) (rs_ret re_bl))⟩
theorem ok_law (T : Txt K mg A) : FnOk P w K mg base (L2.CX P w) 6 A.f_law A.d_law ["script"] (sp_law K) := (ok_lawD T).imp fun vs H Q E h => hook (fun ns hn hb => v_law_k56 hn hb) h
end
theorem all_mk {l : PySem.W.OpenLaw} {w : World} {K : PySem.W.Frag} {h : Heap} {mg : Str → Option Value} {fa : Addr} (X : K.In h) (G : h.Ns mainGlobals mg) (hfa : mg "law" = some (.ref fa))
    {f__law_pool : Addr} {od__law_pool an__law_pool : Option Addr} {sl__law_pool : Array (Option Value)} {oc__law_pool kV__law_pool dc__law_pool pm__law_pool cd__law_pool ct__law_pool : Value}
    {f__law_take : Addr} {od__law_take an__law_take : Option Addr} {sl__law_take : Array (Option Value)} {oc__law_take kV__law_take dc__law_take pm__law_take cd__law_take ct__law_take : Value}
    {f__law_cards : Addr} {od__law_cards an__law_cards : Option Addr} {sl__law_cards : Array (Option Value)} {oc__law_cards kV__law_cards dc__law_cards pm__law_cards cd__law_cards ct__law_cards : Value}
    {f__law_way : Addr} {od__law_way an__law_way : Option Addr} {sl__law_way : Array (Option Value)} {oc__law_way kV__law_way dc__law_way pm__law_way cd__law_way ct__law_way : Value}
    {f__law_piles : Addr} {od__law_piles an__law_piles : Option Addr} {sl__law_piles : Array (Option Value)} {oc__law_piles kV__law_piles dc__law_piles pm__law_piles cd__law_piles ct__law_piles : Value}
    {f__law_told : Addr} {od__law_told an__law_told : Option Addr} {sl__law_told : Array (Option Value)} {oc__law_told kV__law_told dc__law_told pm__law_told cd__law_told ct__law_told : Value}
    {f__law_goes : Addr} {od__law_goes an__law_goes : Option Addr} {sl__law_goes : Array (Option Value)} {oc__law_goes kV__law_goes dc__law_goes pm__law_goes cd__law_goes ct__law_goes : Value}
    {f__law_spans : Addr} {od__law_spans an__law_spans : Option Addr} {sl__law_spans : Array (Option Value)} {oc__law_spans kV__law_spans dc__law_spans pm__law_spans cd__law_spans ct__law_spans : Value}
    {f__law_size : Addr} {od__law_size an__law_size : Option Addr} {sl__law_size : Array (Option Value)} {oc__law_size kV__law_size dc__law_size pm__law_size cd__law_size ct__law_size : Value}
    {f__law_like : Addr} {od__law_like an__law_like : Option Addr} {sl__law_like : Array (Option Value)} {oc__law_like kV__law_like dc__law_like pm__law_like cd__law_like ct__law_like : Value}
    {f__check_piles : Addr} {od__check_piles an__check_piles : Option Addr} {sl__check_piles : Array (Option Value)} {oc__check_piles kV__check_piles dc__check_piles pm__check_piles cd__check_piles ct__check_piles : Value}
    {f_check_hand : Addr} {od_check_hand an_check_hand : Option Addr} {sl_check_hand : Array (Option Value)} {oc_check_hand kV_check_hand dc_check_hand pm_check_hand cd_check_hand ct_check_hand : Value}
    {f__cards_of : Addr} {od__cards_of an__cards_of : Option Addr} {sl__cards_of : Array (Option Value)} {oc__cards_of kV__cards_of dc__cards_of pm__cards_of cd__cards_of ct__cards_of : Value}
    {f__goes_first : Addr} {od__goes_first an__goes_first : Option Addr} {sl__goes_first : Array (Option Value)} {oc__goes_first kV__goes_first dc__goes_first pm__goes_first cd__goes_first ct__goes_first : Value}
    {f_windows : Addr} {od_windows an_windows : Option Addr} {sl_windows : Array (Option Value)} {oc_windows kV_windows dc_windows pm_windows cd_windows ct_windows : Value}
    {f_law : Addr} {od_law an_law : Option Addr} {sl_law : Array (Option Value)} {oc_law kV_law dc_law pm_law cd_law ct_law : Value}
    (a__law_pool : PySem.W.nsIn K mainGlobals "_law_pool" = some (some (.ref f__law_pool)))
    (l__law_pool : K.lookup f__law_pool = some ⟨oc__law_pool, od__law_pool, .func (PySem.W.fnOf "_law_pool" "_law_pool" (defArgs s__law_pool) (defBody s__law_pool) (defScope s__law_pool) .none kV__law_pool dc__law_pool pm__law_pool an__law_pool cd__law_pool ct__law_pool), sl__law_pool⟩)
    (h__law_pool : PySem.W.codeIn K cd__law_pool "_law_pool" = true)
    (k__law_pool : PySem.W.keepIn K (.ref f__law_pool) = true)
    (a__law_take : PySem.W.nsIn K mainGlobals "_law_take" = some (some (.ref f__law_take)))
    (l__law_take : K.lookup f__law_take = some ⟨oc__law_take, od__law_take, .func (PySem.W.fnOf "_law_take" "_law_take" (defArgs s__law_take) (defBody s__law_take) (defScope s__law_take) .none kV__law_take dc__law_take pm__law_take an__law_take cd__law_take ct__law_take), sl__law_take⟩)
    (h__law_take : PySem.W.codeIn K cd__law_take "_law_take" = true)
    (k__law_take : PySem.W.keepIn K (.ref f__law_take) = true)
    (a__law_cards : PySem.W.nsIn K mainGlobals "_law_cards" = some (some (.ref f__law_cards)))
    (l__law_cards : K.lookup f__law_cards = some ⟨oc__law_cards, od__law_cards, .func (PySem.W.fnOf "_law_cards" "_law_cards" (defArgs s__law_cards) (defBody s__law_cards) (defScope s__law_cards) .none kV__law_cards dc__law_cards pm__law_cards an__law_cards cd__law_cards ct__law_cards), sl__law_cards⟩)
    (h__law_cards : PySem.W.codeIn K cd__law_cards "_law_cards" = true)
    (k__law_cards : PySem.W.keepIn K (.ref f__law_cards) = true)
    (a__law_way : PySem.W.nsIn K mainGlobals "_law_way" = some (some (.ref f__law_way)))
    (l__law_way : K.lookup f__law_way = some ⟨oc__law_way, od__law_way, .func (PySem.W.fnOf "_law_way" "_law_way" (defArgs s__law_way) (defBody s__law_way) (defScope s__law_way) .none kV__law_way dc__law_way pm__law_way an__law_way cd__law_way ct__law_way), sl__law_way⟩)
    (h__law_way : PySem.W.codeIn K cd__law_way "_law_way" = true)
    (k__law_way : PySem.W.keepIn K (.ref f__law_way) = true)
    (a__law_piles : PySem.W.nsIn K mainGlobals "_law_piles" = some (some (.ref f__law_piles)))
    (l__law_piles : K.lookup f__law_piles = some ⟨oc__law_piles, od__law_piles, .func (PySem.W.fnOf "_law_piles" "_law_piles" (defArgs s__law_piles) (defBody s__law_piles) (defScope s__law_piles) .none kV__law_piles dc__law_piles pm__law_piles an__law_piles cd__law_piles ct__law_piles), sl__law_piles⟩)
    (h__law_piles : PySem.W.codeIn K cd__law_piles "_law_piles" = true)
    (k__law_piles : PySem.W.keepIn K (.ref f__law_piles) = true)
    (a__law_told : PySem.W.nsIn K mainGlobals "_law_told" = some (some (.ref f__law_told)))
    (l__law_told : K.lookup f__law_told = some ⟨oc__law_told, od__law_told, .func (PySem.W.fnOf "_law_told" "_law_told" (defArgs s__law_told) (defBody s__law_told) (defScope s__law_told) .none kV__law_told dc__law_told pm__law_told an__law_told cd__law_told ct__law_told), sl__law_told⟩)
    (h__law_told : PySem.W.codeIn K cd__law_told "_law_told" = true)
    (k__law_told : PySem.W.keepIn K (.ref f__law_told) = true)
    (a__law_goes : PySem.W.nsIn K mainGlobals "_law_goes" = some (some (.ref f__law_goes)))
    (l__law_goes : K.lookup f__law_goes = some ⟨oc__law_goes, od__law_goes, .func (PySem.W.fnOf "_law_goes" "_law_goes" (defArgs s__law_goes) (defBody s__law_goes) (defScope s__law_goes) .none kV__law_goes dc__law_goes pm__law_goes an__law_goes cd__law_goes ct__law_goes), sl__law_goes⟩)
    (h__law_goes : PySem.W.codeIn K cd__law_goes "_law_goes" = true)
    (k__law_goes : PySem.W.keepIn K (.ref f__law_goes) = true)
    (a__law_spans : PySem.W.nsIn K mainGlobals "_law_spans" = some (some (.ref f__law_spans)))
    (l__law_spans : K.lookup f__law_spans = some ⟨oc__law_spans, od__law_spans, .func (PySem.W.fnOf "_law_spans" "_law_spans" (defArgs s__law_spans) (defBody s__law_spans) (defScope s__law_spans) .none kV__law_spans dc__law_spans pm__law_spans an__law_spans cd__law_spans ct__law_spans), sl__law_spans⟩)
    (h__law_spans : PySem.W.codeIn K cd__law_spans "_law_spans" = true)
    (k__law_spans : PySem.W.keepIn K (.ref f__law_spans) = true)
    (a__law_size : PySem.W.nsIn K mainGlobals "_law_size" = some (some (.ref f__law_size)))
    (l__law_size : K.lookup f__law_size = some ⟨oc__law_size, od__law_size, .func (PySem.W.fnOf "_law_size" "_law_size" (defArgs s__law_size) (defBody s__law_size) (defScope s__law_size) .none kV__law_size dc__law_size pm__law_size an__law_size cd__law_size ct__law_size), sl__law_size⟩)
    (h__law_size : PySem.W.codeIn K cd__law_size "_law_size" = true)
    (k__law_size : PySem.W.keepIn K (.ref f__law_size) = true)
    (a__law_like : PySem.W.nsIn K mainGlobals "_law_like" = some (some (.ref f__law_like)))
    (l__law_like : K.lookup f__law_like = some ⟨oc__law_like, od__law_like, .func (PySem.W.fnOf "_law_like" "_law_like" (defArgs s__law_like) (defBody s__law_like) (defScope s__law_like) .none kV__law_like dc__law_like pm__law_like an__law_like cd__law_like ct__law_like), sl__law_like⟩)
    (h__law_like : PySem.W.codeIn K cd__law_like "_law_like" = true)
    (k__law_like : PySem.W.keepIn K (.ref f__law_like) = true)
    (a__check_piles : PySem.W.nsIn K mainGlobals "_check_piles" = some (some (.ref f__check_piles)))
    (l__check_piles : K.lookup f__check_piles = some ⟨oc__check_piles, od__check_piles, .func (PySem.W.fnOf "_check_piles" "_check_piles" (defArgs s__check_piles) (defBody s__check_piles) (defScope s__check_piles) .none kV__check_piles dc__check_piles pm__check_piles an__check_piles cd__check_piles ct__check_piles), sl__check_piles⟩)
    (h__check_piles : PySem.W.codeIn K cd__check_piles "_check_piles" = true)
    (k__check_piles : PySem.W.keepIn K (.ref f__check_piles) = true)
    (a_check_hand : PySem.W.nsIn K mainGlobals "check_hand" = some (some (.ref f_check_hand)))
    (l_check_hand : K.lookup f_check_hand = some ⟨oc_check_hand, od_check_hand, .func (PySem.W.fnOf "check_hand" "check_hand" (defArgs s_check_hand) (defBody s_check_hand) (defScope s_check_hand) .none kV_check_hand dc_check_hand pm_check_hand an_check_hand cd_check_hand ct_check_hand), sl_check_hand⟩)
    (h_check_hand : PySem.W.codeIn K cd_check_hand "check_hand" = true)
    (k_check_hand : PySem.W.keepIn K (.ref f_check_hand) = true)
    (a__cards_of : PySem.W.nsIn K mainGlobals "_cards_of" = some (some (.ref f__cards_of)))
    (l__cards_of : K.lookup f__cards_of = some ⟨oc__cards_of, od__cards_of, .func (PySem.W.fnOf "_cards_of" "_cards_of" (defArgs s__cards_of) (defBody s__cards_of) (defScope s__cards_of) .none kV__cards_of dc__cards_of pm__cards_of an__cards_of cd__cards_of ct__cards_of), sl__cards_of⟩)
    (h__cards_of : PySem.W.codeIn K cd__cards_of "_cards_of" = true)
    (k__cards_of : PySem.W.keepIn K (.ref f__cards_of) = true)
    (a__goes_first : PySem.W.nsIn K mainGlobals "_goes_first" = some (some (.ref f__goes_first)))
    (l__goes_first : K.lookup f__goes_first = some ⟨oc__goes_first, od__goes_first, .func (PySem.W.fnOf "_goes_first" "_goes_first" (defArgs s__goes_first) (defBody s__goes_first) (defScope s__goes_first) .none kV__goes_first dc__goes_first pm__goes_first an__goes_first cd__goes_first ct__goes_first), sl__goes_first⟩)
    (h__goes_first : PySem.W.codeIn K cd__goes_first "_goes_first" = true)
    (k__goes_first : PySem.W.keepIn K (.ref f__goes_first) = true)
    (a_windows : PySem.W.nsIn K mainGlobals "windows" = some (some (.ref f_windows)))
    (l_windows : K.lookup f_windows = some ⟨oc_windows, od_windows, .func (PySem.W.fnOf "windows" "windows" (defArgs s_windows) (defBody s_windows) (defScope s_windows) .none kV_windows dc_windows pm_windows an_windows cd_windows ct_windows), sl_windows⟩)
    (h_windows : PySem.W.codeIn K cd_windows "windows" = true)
    (k_windows : PySem.W.keepIn K (.ref f_windows) = true)
    (a_law : PySem.W.nsIn K mainGlobals "law" = some (some (.ref f_law)))
    (l_law : K.lookup f_law = some ⟨oc_law, od_law, .func (PySem.W.fnOf "law" "law" (defArgs s_law) (defBody s_law) (defScope s_law) .none kV_law dc_law pm_law an_law cd_law ct_law), sl_law⟩)
    (h_law : PySem.W.codeIn K cd_law "law" = true)
    (k_law : PySem.W.keepIn K (.ref f_law) = true)
    (z_int : PySem.W.nsIn K mainGlobals "int" = some none)
    (z_range : PySem.W.nsIn K mainGlobals "range" = some none)
    (z_len : PySem.W.nsIn K mainGlobals "len" = some none)
    (z_list : PySem.W.nsIn K mainGlobals "list" = some none)
    (z_min : PySem.W.nsIn K mainGlobals "min" = some none)
    (z_max : PySem.W.nsIn K mainGlobals "max" = some none)
    (z_isinstance : PySem.W.nsIn K mainGlobals "isinstance" = some none)
    (z_bool : PySem.W.nsIn K mainGlobals "bool" = some none)
    (z_tuple : PySem.W.nsIn K mainGlobals "tuple" = some none)
    (z_enumerate : PySem.W.nsIn K mainGlobals "enumerate" = some none)
    (z_sorted : PySem.W.nsIn K mainGlobals "sorted" = some none) :
    ∃ fd : FuncData, (∀ (s : Shared) (v : Value), BindsTo s fd ⟨[v], []⟩ [("script", v)]) ∧ ∀ base : Heap, K.In base → base.Ns mainGlobals mg → FnOk l.prog w K mg base (L2.CX l.prog w) 6 fa fd ["script"] (sp_law K) := by
  have e := hfa.symm.trans (PySem.W.mg_of X G a_law)
  cases e
  have F__law_pool := fun_mk (st := s__law_pool) l__law_pool h__law_pool k__law_pool
  have F__law_take := fun_mk (st := s__law_take) l__law_take h__law_take k__law_take
  have F__law_cards := fun_mk (st := s__law_cards) l__law_cards h__law_cards k__law_cards
  have F__law_way := fun_mk (st := s__law_way) l__law_way h__law_way k__law_way
  have F__law_piles := fun_mk (st := s__law_piles) l__law_piles h__law_piles k__law_piles
  have F__law_told := fun_mk (st := s__law_told) l__law_told h__law_told k__law_told
  have F__law_goes := fun_mk (st := s__law_goes) l__law_goes h__law_goes k__law_goes
  have F__law_spans := fun_mk (st := s__law_spans) l__law_spans h__law_spans k__law_spans
  have F__law_size := fun_mk (st := s__law_size) l__law_size h__law_size k__law_size
  have F__law_like := fun_mk (st := s__law_like) l__law_like h__law_like k__law_like
  have F__check_piles := fun_mk (st := s__check_piles) l__check_piles h__check_piles k__check_piles
  have F_check_hand := fun_mk (st := s_check_hand) l_check_hand h_check_hand k_check_hand
  have F__cards_of := fun_mk (st := s__cards_of) l__cards_of h__cards_of k__cards_of
  have F__goes_first := fun_mk (st := s__goes_first) l__goes_first h__goes_first k__goes_first
  have F_windows := fun_mk (st := s_windows) l_windows h_windows k_windows
  have F_law := fun_mk (st := s_law) l_law h_law k_law
  have b__law_pool := F__law_pool.binds (ps := ["cell", "turn"]) fun _ _ _ _ _ _ us hl => match us, hl with | [_, _], _ => rfl
  have b__law_take := F__law_take.binds (ps := ["pool", "many"]) fun _ _ _ _ _ _ us hl => match us, hl with | [_, _], _ => rfl
  have b__law_cards := F__law_cards.binds (ps := ["pool", "many"]) fun _ _ _ _ _ _ us hl => match us, hl with | [_, _], _ => rfl
  have b__law_way := F__law_way.binds (ps := ["cards", "size"]) fun _ _ _ _ _ _ us hl => match us, hl with | [_, _], _ => rfl
  have b__law_piles := F__law_piles.binds (ps := ["cards", "size"]) fun _ _ _ _ _ _ us hl => match us, hl with | [_, _], _ => rfl
  have b__law_told := F__law_told.binds (ps := ["pool", "many"]) fun _ _ _ _ _ _ us hl => match us, hl with | [_, _], _ => rfl
  have b__law_goes := F__law_goes.binds (ps := ["last", "told0", "card"]) fun _ _ _ _ _ _ us hl => match us, hl with | [_, _, _], _ => rfl
  have b__law_spans := F__law_spans.binds (ps := ["piles", "size"]) fun _ _ _ _ _ _ us hl => match us, hl with | [_, _], _ => rfl
  have b__law_size := F__law_size.binds (ps := ["pool", "many"]) fun _ _ _ _ _ _ us hl => match us, hl with | [_, _], _ => rfl
  have b__law_like := F__law_like.binds (ps := ["found", "due"]) fun _ _ _ _ _ _ us hl => match us, hl with | [_, _], _ => rfl
  have b__check_piles := F__check_piles.binds (ps := ["told"]) fun _ _ _ _ _ _ us hl => match us, hl with | [_], _ => rfl
  have b_check_hand := F_check_hand.binds (ps := ["hand"]) fun _ _ _ _ _ _ us hl => match us, hl with | [_], _ => rfl
  have b__cards_of := F__cards_of.binds (ps := ["told"]) fun _ _ _ _ _ _ us hl => match us, hl with | [_], _ => rfl
  have b__goes_first := F__goes_first.binds (ps := ["cards", "begins", "before", "card"]) fun _ _ _ _ _ _ us hl => match us, hl with | [_, _, _, _], _ => rfl
  have b_windows := F_windows.binds (ps := ["told", "hand"]) fun _ _ _ _ _ _ us hl => match us, hl with | [_, _], _ => rfl
  have b_law := F_law.binds (ps := ["script"]) fun _ _ _ _ _ _ us hl => match us, hl with | [_], _ => rfl
  let A : Ad := { f__law_pool := f__law_pool, d__law_pool := (PySem.W.fnOf "_law_pool" "_law_pool" (defArgs s__law_pool) (defBody s__law_pool) (defScope s__law_pool) .none kV__law_pool dc__law_pool pm__law_pool an__law_pool cd__law_pool ct__law_pool), f__law_take := f__law_take, d__law_take := (PySem.W.fnOf "_law_take" "_law_take" (defArgs s__law_take) (defBody s__law_take) (defScope s__law_take) .none kV__law_take dc__law_take pm__law_take an__law_take cd__law_take ct__law_take), f__law_cards := f__law_cards, d__law_cards := (PySem.W.fnOf "_law_cards" "_law_cards" (defArgs s__law_cards) (defBody s__law_cards) (defScope s__law_cards) .none kV__law_cards dc__law_cards pm__law_cards an__law_cards cd__law_cards ct__law_cards), f__law_way := f__law_way, d__law_way := (PySem.W.fnOf "_law_way" "_law_way" (defArgs s__law_way) (defBody s__law_way) (defScope s__law_way) .none kV__law_way dc__law_way pm__law_way an__law_way cd__law_way ct__law_way), f__law_piles := f__law_piles, d__law_piles := (PySem.W.fnOf "_law_piles" "_law_piles" (defArgs s__law_piles) (defBody s__law_piles) (defScope s__law_piles) .none kV__law_piles dc__law_piles pm__law_piles an__law_piles cd__law_piles ct__law_piles), f__law_told := f__law_told, d__law_told := (PySem.W.fnOf "_law_told" "_law_told" (defArgs s__law_told) (defBody s__law_told) (defScope s__law_told) .none kV__law_told dc__law_told pm__law_told an__law_told cd__law_told ct__law_told), f__law_goes := f__law_goes, d__law_goes := (PySem.W.fnOf "_law_goes" "_law_goes" (defArgs s__law_goes) (defBody s__law_goes) (defScope s__law_goes) .none kV__law_goes dc__law_goes pm__law_goes an__law_goes cd__law_goes ct__law_goes), f__law_spans := f__law_spans, d__law_spans := (PySem.W.fnOf "_law_spans" "_law_spans" (defArgs s__law_spans) (defBody s__law_spans) (defScope s__law_spans) .none kV__law_spans dc__law_spans pm__law_spans an__law_spans cd__law_spans ct__law_spans), f__law_size := f__law_size, d__law_size := (PySem.W.fnOf "_law_size" "_law_size" (defArgs s__law_size) (defBody s__law_size) (defScope s__law_size) .none kV__law_size dc__law_size pm__law_size an__law_size cd__law_size ct__law_size), f__law_like := f__law_like, d__law_like := (PySem.W.fnOf "_law_like" "_law_like" (defArgs s__law_like) (defBody s__law_like) (defScope s__law_like) .none kV__law_like dc__law_like pm__law_like an__law_like cd__law_like ct__law_like), f__check_piles := f__check_piles, d__check_piles := (PySem.W.fnOf "_check_piles" "_check_piles" (defArgs s__check_piles) (defBody s__check_piles) (defScope s__check_piles) .none kV__check_piles dc__check_piles pm__check_piles an__check_piles cd__check_piles ct__check_piles), f_check_hand := f_check_hand, d_check_hand := (PySem.W.fnOf "check_hand" "check_hand" (defArgs s_check_hand) (defBody s_check_hand) (defScope s_check_hand) .none kV_check_hand dc_check_hand pm_check_hand an_check_hand cd_check_hand ct_check_hand), f__cards_of := f__cards_of, d__cards_of := (PySem.W.fnOf "_cards_of" "_cards_of" (defArgs s__cards_of) (defBody s__cards_of) (defScope s__cards_of) .none kV__cards_of dc__cards_of pm__cards_of an__cards_of cd__cards_of ct__cards_of), f__goes_first := f__goes_first, d__goes_first := (PySem.W.fnOf "_goes_first" "_goes_first" (defArgs s__goes_first) (defBody s__goes_first) (defScope s__goes_first) .none kV__goes_first dc__goes_first pm__goes_first an__goes_first cd__goes_first ct__goes_first), f_windows := f_windows, d_windows := (PySem.W.fnOf "windows" "windows" (defArgs s_windows) (defBody s_windows) (defScope s_windows) .none kV_windows dc_windows pm_windows an_windows cd_windows ct_windows), f_law := fa, d_law := (PySem.W.fnOf "law" "law" (defArgs s_law) (defBody s_law) (defScope s_law) .none kV_law dc_law pm_law an_law cd_law ct_law) }
  have T : Txt K mg A := {
    F__law_pool := F__law_pool,
    b__law_pool := b__law_pool,
    m__law_pool := PySem.W.mg_of X G a__law_pool,
    F__law_take := F__law_take,
    b__law_take := b__law_take,
    m__law_take := PySem.W.mg_of X G a__law_take,
    F__law_cards := F__law_cards,
    b__law_cards := b__law_cards,
    m__law_cards := PySem.W.mg_of X G a__law_cards,
    F__law_way := F__law_way,
    b__law_way := b__law_way,
    m__law_way := PySem.W.mg_of X G a__law_way,
    F__law_piles := F__law_piles,
    b__law_piles := b__law_piles,
    m__law_piles := PySem.W.mg_of X G a__law_piles,
    F__law_told := F__law_told,
    b__law_told := b__law_told,
    m__law_told := PySem.W.mg_of X G a__law_told,
    F__law_goes := F__law_goes,
    b__law_goes := b__law_goes,
    m__law_goes := PySem.W.mg_of X G a__law_goes,
    F__law_spans := F__law_spans,
    b__law_spans := b__law_spans,
    m__law_spans := PySem.W.mg_of X G a__law_spans,
    F__law_size := F__law_size,
    b__law_size := b__law_size,
    m__law_size := PySem.W.mg_of X G a__law_size,
    F__law_like := F__law_like,
    b__law_like := b__law_like,
    m__law_like := PySem.W.mg_of X G a__law_like,
    F__check_piles := F__check_piles,
    b__check_piles := b__check_piles,
    m__check_piles := PySem.W.mg_of X G a__check_piles,
    F_check_hand := F_check_hand,
    b_check_hand := b_check_hand,
    m_check_hand := PySem.W.mg_of X G a_check_hand,
    F__cards_of := F__cards_of,
    b__cards_of := b__cards_of,
    m__cards_of := PySem.W.mg_of X G a__cards_of,
    F__goes_first := F__goes_first,
    b__goes_first := b__goes_first,
    m__goes_first := PySem.W.mg_of X G a__goes_first,
    F_windows := F_windows,
    b_windows := b_windows,
    m_windows := PySem.W.mg_of X G a_windows,
    F_law := F_law,
    b_law := b_law,
    m_law := PySem.W.mg_of X G a_law,
    b_int := PySem.W.mg_none_of X G z_int,
    b_range := PySem.W.mg_none_of X G z_range,
    b_len := PySem.W.mg_none_of X G z_len,
    b_list := PySem.W.mg_none_of X G z_list,
    b_min := PySem.W.mg_none_of X G z_min,
    b_max := PySem.W.mg_none_of X G z_max,
    b_isinstance := PySem.W.mg_none_of X G z_isinstance,
    b_bool := PySem.W.mg_none_of X G z_bool,
    b_tuple := PySem.W.mg_none_of X G z_tuple,
    b_enumerate := PySem.W.mg_none_of X G z_enumerate,
    b_sorted := PySem.W.mg_none_of X G z_sorted,
    kb_windows_hand_told := ⟨fun s us ws X h1 h2 => match us, ws, h1, h2 with | [], [_, _], _, _ => .of_eq rfl, fun r1 r2 => .cons (r2.getD 1) (.cons (r2.getD 0) (.nil))⟩ }
  exact ⟨A.d_law, fun s v => .of_eq rfl, fun base _ _ => ok_law T⟩
theorem walk {l : PySem.W.OpenLaw} {q : Program} {loose : List Str} {XP : (Str → Option Value) → Heap → Prop} {YP : World → Heap → Prop} {d : DefRec} {K : Params → PySem.W.Frag} (hn : l.most = some 63) (hdf : d.params.defaults = [])
    (hY : ∀ (w : World) (h : Heap), YP w h → (K w.params).In h)
    (F : ∀ (w : World) (mg : Str → Option Value) (fa : Addr) (h : Heap), (K w.params).In h → h.Ns mainGlobals mg → mg d.name = some (.ref fa) →
      ∃ fd : FuncData, (∀ (s : Shared) (u : Value), BindsTo s fd ⟨[u], []⟩ [("script", u)]) ∧ ∀ base : Heap, (K w.params).In base → base.Ns mainGlobals mg → FnOk l.prog w (K w.params) mg base (L2.CX l.prog w) 6 fa fd ["script"] (sp_law (K w.params))) :
    PySem.W.WalkO q loose XP YP l.row.toRowW d [] (fun f vs => PySem.call f vs) :=
  L2.walk_ofB (n := 63) (k := 6) (x := "script") (CX := fun w => L2.CX l.prog w) (sp := fun w => sp_law (K w.params)) hn (by decide) hdf ⟨rfl, by decide, by decide⟩ hY F (fun _ _ a ns hl hb _ hS => ⟨a, ns, rfl, hS, hl, hb, fun _ => rfl⟩) fun _ _ _ _ _ z => by
    obtain ⟨_, _, _, _, _, _, _, _, _, _, _, _, z⟩ := z
    exact z.elim
end My
open PySem PySem.W PyProof.Rows
set_option maxRecDepth 100000 in
set_option maxHeartbeats 0 in
theorem PySem.Challenge.cw_handpiles_k56_windows_holds : PySem.Challenge.rw_handpiles_k56_windows.Holds := by
  w_on; o_law; k_head; (case hw => w_witness2)
  k_fill
  refine My.walk (l := PySem.Challenge.rw_handpiles_k56_windows) rfl rfl (fun w h Y => PySem.W.kIn_of Y) ?F
  case F =>
    intro w mg fa h KX G hmg
    refine' My.all_mk KX G hmg ?a__law_pool ?l__law_pool ?h__law_pool ?k__law_pool ?a__law_take ?l__law_take ?h__law_take ?k__law_take ?a__law_cards ?l__law_cards ?h__law_cards ?k__law_cards ?a__law_way ?l__law_way ?h__law_way ?k__law_way ?a__law_piles ?l__law_piles ?h__law_piles ?k__law_piles ?a__law_told ?l__law_told ?h__law_told ?k__law_told ?a__law_goes ?l__law_goes ?h__law_goes ?k__law_goes ?a__law_spans ?l__law_spans ?h__law_spans ?k__law_spans ?a__law_size ?l__law_size ?h__law_size ?k__law_size ?a__law_like ?l__law_like ?h__law_like ?k__law_like ?a__check_piles ?l__check_piles ?h__check_piles ?k__check_piles ?a_check_hand ?l_check_hand ?h_check_hand ?k_check_hand ?a__cards_of ?l__cards_of ?h__cards_of ?k__cards_of ?a__goes_first ?l__goes_first ?h__goes_first ?k__goes_first ?a_windows ?l_windows ?h_windows ?k_windows ?a_law ?l_law ?h_law ?k_law ?z_int ?z_range ?z_len ?z_list ?z_min ?z_max ?z_isinstance ?z_bool ?z_tuple ?z_enumerate ?z_sorted
    (case a__law_pool => k_is)
    (case l__law_pool => k_is)
    (case h__law_pool => k_is)
    (case k__law_pool => k_is)
    (case a__law_take => k_is)
    (case l__law_take => k_is)
    (case h__law_take => k_is)
    (case k__law_take => k_is)
    (case a__law_cards => k_is)
    (case l__law_cards => k_is)
    (case h__law_cards => k_is)
    (case k__law_cards => k_is)
    (case a__law_way => k_is)
    (case l__law_way => k_is)
    (case h__law_way => k_is)
    (case k__law_way => k_is)
    (case a__law_piles => k_is)
    (case l__law_piles => k_is)
    (case h__law_piles => k_is)
    (case k__law_piles => k_is)
    (case a__law_told => k_is)
    (case l__law_told => k_is)
    (case h__law_told => k_is)
    (case k__law_told => k_is)
    (case a__law_goes => k_is)
    (case l__law_goes => k_is)
    (case h__law_goes => k_is)
    (case k__law_goes => k_is)
    (case a__law_spans => k_is)
    (case l__law_spans => k_is)
    (case h__law_spans => k_is)
    (case k__law_spans => k_is)
    (case a__law_size => k_is)
    (case l__law_size => k_is)
    (case h__law_size => k_is)
    (case k__law_size => k_is)
    (case a__law_like => k_is)
    (case l__law_like => k_is)
    (case h__law_like => k_is)
    (case k__law_like => k_is)
    (case a__check_piles => k_is)
    (case l__check_piles => k_is)
    (case h__check_piles => k_is)
    (case k__check_piles => k_is)
    (case a_check_hand => k_is)
    (case l_check_hand => k_is)
    (case h_check_hand => k_is)
    (case k_check_hand => k_is)
    (case a__cards_of => k_is)
    (case l__cards_of => k_is)
    (case h__cards_of => k_is)
    (case k__cards_of => k_is)
    (case a__goes_first => k_is)
    (case l__goes_first => k_is)
    (case h__goes_first => k_is)
    (case k__goes_first => k_is)
    (case a_windows => k_is)
    (case l_windows => k_is)
    (case h_windows => k_is)
    (case k_windows => k_is)
    (case a_law => k_is)
    (case l_law => k_is)
    (case h_law => k_is)
    (case k_law => k_is)
    (case z_int => k_is)
    (case z_range => k_is)
    (case z_len => k_is)
    (case z_list => k_is)
    (case z_min => k_is)
    (case z_max => k_is)
    (case z_isinstance => k_is)
    (case z_bool => k_is)
    (case z_tuple => k_is)
    (case z_enumerate => k_is)
    (case z_sorted => k_is)
