import PyProof.Rows.All
import Wide.All
import OpenK.AllK
import Wide.FinOn
import HandS.ForMost
import HandS.IsInst
import HandS.Style
import HandS.SortKw
import HandS.RaiseMore
import KE.DataMinMax
import PyProof.ReprRoads
import HandS.SetBool
import HandS.Strs
import PySem.Challenge.RW_circlesettle_k03_values
set_option Elab.async false
set_option linter.all false
set_option maxRecDepth 100000
namespace Dl
open PySem PySem.Spec PyProof.Rows L2

abbrev D := PyData
mutual
/-- the value v stands for the data d in the frozen heap F -/
inductive Rp (K : PySem.W.Frag) (F : Hp) : V → D → Prop
  | non : Rp K F .non .none
  | bl (b : Bool) : Rp K F (.bl b) (.bool b)
  | int (i : Int) : Rp K F (.int i) (.int i)
  | str (x : Str) : Rp K F (.str x) (.str x)
  | lst {a : Addr} {vs : List V} {ds : List D} : SqL K F a vs → RpA K F vs ds → Rp K F (.ref a) (.list ds)
  | tup {a : Addr} {vs : List V} {ds : List D} : SqT K F a vs → RpA K F vs ds → Rp K F (.ref a) (.tuple ds)
inductive RpA (K : PySem.W.Frag) (F : Hp) : List V → List D → Prop
  | nil : RpA K F [] []
  | cons {v : V} {vs : List V} {d : D} {ds : List D} : Rp K F v d → RpA K F vs ds → RpA K F (v :: vs) (d :: ds)
end

theorem sqS {K : PySem.W.Frag} {F F' : Hp} {a : Addr} {xs : List V} (e : Same F F') (h : SqL K F a xs) : SqL K F' a xs := Same.seq e h
theorem tqS {K : PySem.W.Frag} {F F' : Hp} {a : Addr} {xs : List V} (e : Same F F') (h : SqT K F a xs) : SqT K F' a xs := by
  rcases h with (h | ⟨o, h⟩) | h
  · exact .inl (.inl (e _ _ h))
  · exact .inl (.inr ⟨o, e _ _ h⟩)
  · exact .inr h
variable {K : PySem.W.Frag}
mutual
theorem Rp.mono {F F' : Hp} (e : Same F F') : ∀ {d : D} {v : V}, Rp K F v d → Rp K F' v d
  | _, _, .non => .non
  | _, _, .bl b => .bl b
  | _, _, .int i => .int i
  | _, _, .str x => .str x
  | _, _, .lst h r => .lst (sqS e h) (RpA.mono e r)
  | _, _, .tup h r => .tup (tqS e h) (RpA.mono e r)
theorem RpA.mono {F F' : Hp} (e : Same F F') : ∀ {ds : List D} {vs : List V}, RpA K F vs ds → RpA K F' vs ds
  | _, _, .nil => .nil
  | _, _, .cons h r => .cons (Rp.mono e h) (RpA.mono e r)
end
mutual
theorem Rp.dp {F : Hp} : ∀ {d : D} {v : V}, Rp K F v d → Dp K F v d
  | _, _, .non => .non
  | _, _, .bl b => .bl b
  | _, _, .int i => .int i
  | _, _, .str x => .str x
  | _, _, .lst h r => .lst h (RpA.dp r)
  | _, _, .tup h r => .tup h (RpA.dp r)
theorem RpA.dp {F : Hp} : ∀ {ds : List D} {vs : List V}, RpA K F vs ds → DpAll K F vs ds
  | _, _, .nil => .nil
  | _, _, .cons h r => .cons (Rp.dp h) (RpA.dp r)
end
theorem RpA.len {F : Hp} : ∀ {vs : List V} {ds : List D}, RpA K F vs ds → vs.length = ds.length
  | _, _, .nil => rfl
  | _, _, .cons _ r => by rw [List.length_cons, List.length_cons, RpA.len r]
theorem RpA.get {F : Hp} : ∀ {vs : List V} {ds : List D} {i : Nat} {d : D}, RpA K F vs ds → ds[i]? = some d → ∃ v, vs[i]? = some v ∧ Rp K F v d
  | _, _, _, _, .nil, h => by simp at h
  | _, _, 0, _, .cons r _, h => by
    rw [List.getElem?_cons_zero] at h
    cases h
    exact ⟨_, rfl, r⟩
  | _, _, i + 1, _, .cons _ r, h => by
    rw [List.getElem?_cons_succ] at h
    obtain ⟨v, e, q⟩ := RpA.get r h
    exact ⟨v, by rw [List.getElem?_cons_succ]; exact e, q⟩
theorem RpA.app {F : Hp} : ∀ {vs ws : List V} {ds es : List D}, RpA K F vs ds → RpA K F ws es → RpA K F (vs ++ ws) (ds ++ es)
  | _, _, _, _, .nil, q => q
  | _, _, _, _, .cons h r, q => .cons h (RpA.app r q)
theorem RpA.one {F : Hp} {v : V} {d : D} (h : Rp K F v d) : RpA K F [v] [d] := .cons h .nil
theorem RpA.setAt {F : Hp} {v : V} {d : D} (h : Rp K F v d) : ∀ {vs : List V} {ds : List D} {i : Nat}, RpA K F vs ds → RpA K F (vs.set i v) (ds.set i d)
  | _, _, _, .nil => .nil
  | _, _, 0, .cons _ r => .cons h r
  | _, _, i + 1, .cons q r => .cons q (RpA.setAt h r)
theorem RpA.takeN {F : Hp} : ∀ {vs : List V} {ds : List D} (n : Nat), RpA K F vs ds → RpA K F (vs.take n) (ds.take n)
  | _, _, 0, _ => by rw [List.take_zero, List.take_zero]; exact .nil
  | _, _, _ + 1, .nil => .nil
  | _, _, n + 1, .cons h r => .cons h (RpA.takeN n r)
theorem RpA.dropN {F : Hp} : ∀ {vs : List V} {ds : List D} (n : Nat), RpA K F vs ds → RpA K F (vs.drop n) (ds.drop n)
  | _, _, 0, r => r
  | _, _, _ + 1, .nil => .nil
  | _, _, n + 1, .cons _ r => by rw [List.drop_succ_cons, List.drop_succ_cons]; exact RpA.dropN n r
theorem RpA.back {F : Hp} : ∀ {vs : List V} {ds : List D} {i : Nat} {v : V}, RpA K F vs ds → vs[i]? = some v → ∃ d, ds[i]? = some d ∧ Rp K F v d
  | _, _, _, _, .nil, h => by simp at h
  | _, _, 0, _, .cons r _, h => by
    rw [List.getElem?_cons_zero] at h
    cases h
    exact ⟨_, rfl, r⟩
  | _, _, i + 1, _, .cons _ r, h => by
    rw [List.getElem?_cons_succ] at h
    obtain ⟨v, e, q⟩ := RpA.back r h
    exact ⟨v, by rw [List.getElem?_cons_succ]; exact e, q⟩

/-! ### how the two heaps move -/
structure Mv (F H F' H' : Hp) : Prop where
  f : Same F F'
  h : Same H H'
  fh : Same F' H'
  sep : ∀ p, H p ≠ none → F p = none → F' p = none
theorem Mv.rfl' {F H : Hp} (e : Same F H) : Mv F H F H := ⟨Same.refl _, Same.refl _, e, fun _ _ h => h⟩
theorem Mv.trans {F H F1 H1 F2 H2 : Hp} (a : Mv F H F1 H1) (b : Mv F1 H1 F2 H2) : Mv F H F2 H2 :=
  ⟨a.f.trans b.f, a.h.trans b.h, b.fh, fun p hp hf => b.sep p (by
    cases q : H p with
    | none => exact absurd q hp
    | some o => rw [a.h _ _ q]; exact fun z => nomatch z) (a.sep p hp hf)⟩
/-- a new object, frozen -/
theorem Mv.new {F H : Hp} {p : Addr} {o : HO} (e : Same F H) (hp : H p = none) : Mv F H (upd F p o) (upd H p o) := by
  have nf : F p = none := by
    cases q : F p with
    | none => rfl
    | some u => rw [e _ _ q] at hp; cases hp
  refine ⟨fun a u h => ?_, fun a u h => ?_, fun a u h => ?_, fun a ha hf => ?_⟩
  · rw [upd_ne (ne_of_none h nf)]; exact h
  · rw [upd_ne (ne_of_none h hp)]; exact h
  · by_cases q : a = p
    · subst q; rw [upd_same] at h ⊢; exact h
    · rw [upd_ne q] at h ⊢; exact e _ _ h
  · rw [upd_ne (fun z => ha (by rw [z]; exact hp))]; exact hf
/-- a new object, not frozen -/
theorem Mv.newO {F H : Hp} {p : Addr} {o : HO} (e : Same F H) (hp : H p = none) : Mv F H F (upd H p o) := by
  refine ⟨Same.refl _, fun a u h => ?_, fun a u h => ?_, fun a ha hf => hf⟩
  · rw [upd_ne (ne_of_none h hp)]; exact h
  · have h2 := e _ _ h
    rw [upd_ne (ne_of_none h2 hp)]; exact h2
/-- only the heap grew -/
theorem Mv.grow {F H H' : Hp} (e : Same F H) (h : Same H H') : Mv F H F H' := ⟨Same.refl _, h, e.trans h, fun _ _ q => q⟩
/-- freeze what is new since H -/
theorem Mv.freeze {F H F' H' : Hp} {p : Addr} {o : HO} (m : Mv F H F' H') (hp : H p = none) (hq : H' p = some o) (hn : F' p = none) : Mv F H (upd F' p o) H' := by
  refine ⟨fun a u h => ?_, m.h, fun a u h => ?_, fun a ha hf => ?_⟩
  · have h2 := m.f _ _ h
    rw [upd_ne (ne_of_none h2 hn)]; exact h2
  · by_cases q : a = p
    · subst q; rw [upd_same] at h; cases h; exact hq
    · rw [upd_ne q] at h; exact m.fh _ _ h
  · rw [upd_ne (fun z => ha (by rw [z]; exact hp))]; exact m.sep a ha hf
theorem same_updF {F : Hp} {p : Addr} {o : HO} (h : F p = none) : Same F (upd F p o) := fun a u e => by
  rw [upd_ne (ne_of_none e h)]; exact e

/-! ### slots -/
inductive DV where
  | val (d : D)
  /-- a list of its owner's alone -/
  | own (ds : List D)
def DV.data : DV → D
  | .val d => d
  | .own ds => .list ds
abbrev DS := List (Option DV)

structure Rel (K : PySem.W.Frag) (F H : Hp) (σ : L2.St) (δ : DS) : Prop where
  fh : Same F H
  len : σ.length = δ.length
  val : ∀ (i : Nat) d, δ[i]? = some (some (.val d)) → ∃ v, σ[i]? = some (some v) ∧ Rp K F v d
  own : ∀ (i : Nat) ds, δ[i]? = some (some (.own ds)) → ∃ p vs, σ[i]? = some (some (.ref p)) ∧ F p = none ∧ H p = some (.lst vs) ∧ RpA K F vs ds
theorem Rel.mv {F H F' H' : Hp} {σ : L2.St} {δ : DS} (r : Rel K F H σ δ) (m : Mv F H F' H') : Rel K F' H' σ δ := by
  refine ⟨m.fh, r.len, fun i d h => ?_, fun i ds h => ?_⟩
  · obtain ⟨v, e, q⟩ := r.val i d h
    exact ⟨v, e, q.mono m.f⟩
  · obtain ⟨p, vs, e, n, hp, q⟩ := r.own i ds h
    exact ⟨p, vs, e, m.sep p (by rw [hp]; exact fun z => nomatch z) n, m.h _ _ hp, q.mono m.f⟩
/-- all that is owned is read as data -/
def thaw (δ : DS) : DS := δ.map fun o => o.map fun r => .val r.data
theorem thaw_get {δ : DS} {i : Nat} : (thaw δ)[i]? = (δ[i]?).map fun o => o.map fun r => .val r.data := by
  unfold thaw
  rw [List.getElem?_map]
theorem Rel.thaw {F H : Hp} {σ : L2.St} {δ : DS} (r : Rel K F H σ δ) : Rel K H H σ (thaw δ) := by
  refine ⟨Same.refl _, by unfold Dl.thaw; rw [List.length_map]; exact r.len, fun i d h => ?_, fun i ds h => ?_⟩
  · rw [thaw_get] at h
    cases q : δ[i]? with
    | none => rw [q] at h; cases h
    | some o =>
      cases o with
      | none => rw [q] at h; cases h
      | some u =>
        rw [q] at h
        cases u with
        | val d' =>
          cases h
          obtain ⟨v, e, z⟩ := r.val i _ q
          exact ⟨v, e, z.mono r.fh⟩
        | own ds =>
          cases h
          obtain ⟨p, vs, e, n, hp, z⟩ := r.own i _ q
          exact ⟨_, e, .lst (.inl (.inl hp)) (z.mono r.fh)⟩
  · rw [thaw_get] at h
    cases q : δ[i]? with
    | none => rw [q] at h; cases h
    | some o =>
      cases o with
      | none => rw [q] at h; cases h
      | some u => rw [q] at h; cases u <;> cases h

/-! ### what evaluates to what -/
def Ev (K : PySem.W.Frag) (t : TE) (m : DS → Option D) : Prop := ∀ F H σ δ, Rel K F H σ δ → ∀ d, m δ = some d → ∀ Q : VK, (∀ F' H' v, Mv F H F' H' → Rp K F' v d → Q v H') → t σ H Q
def EvO (K : PySem.W.Frag) (t : TE) (m : DS → Option (List D)) : Prop := ∀ F H σ δ, Rel K F H σ δ → ∀ ds, m δ = some ds → ∀ Q : VK,
  (∀ F' H' p vs, Mv F H F' H' → H p = none → F' p = none → H' p = some (.lst vs) → RpA K F' vs ds → Q (.ref p) H') → t σ H Q
def EvT (K : PySem.W.Frag) (t : TT) (m : DS → Option Bool) : Prop := ∀ F H σ δ, Rel K F H σ δ → ∀ b, m δ = some b → ∀ Q : Bool → Hp → Prop, (∀ H', Same H H' → Q b H') → t σ H Q
def EvA (K : PySem.W.Frag) (n : Nat) (t : TA) (m : DS → Option (List D)) : Prop := ∀ F H σ δ, Rel K F H σ δ → ∀ ds, m δ = some ds → ∀ Q : List V → Hp → Prop, (∀ F' H' vs, Mv F H F' H' → RpA K F' vs ds → ds.length = n → Q vs H') → t σ H Q
/-- operations on values -/
def OpD (K : PySem.W.Frag) (r : R2) (g : D → D → Option D) : Prop := ∀ F H x y d e z, Same F H → Rp K F x d → Rp K F y e → g d e = some z → ∀ Q : VK, (∀ F' H' v, Mv F H F' H' → Rp K F' v z → Q v H') → r x y H Q
def UnD (K : PySem.W.Frag) (r : V → Hp → VK → Prop) (g : D → Option D) : Prop := ∀ F H x d z, Same F H → Rp K F x d → g d = some z → ∀ Q : VK, (∀ F' H' v, Mv F H F' H' → Rp K F' v z → Q v H') → r x H Q
def CallD (K : PySem.W.Frag) (r : List V → Hp → VK → Prop) (g : List D → Option D) : Prop := ∀ F H vs ds z, Same F H → RpA K F vs ds → g ds = some z → ∀ Q : VK, (∀ F' H' v, Mv F H F' H' → Rp K F' v z → Q v H') → r vs H Q
def CallO (K : PySem.W.Frag) (r : List V → Hp → VK → Prop) (g : List D → Option (List D)) : Prop := ∀ F H vs ds z, Same F H → RpA K F vs ds → g ds = some z → ∀ Q : VK,
  (∀ F' H' p ws, Mv F H F' H' → H p = none → F' p = none → H' p = some (.lst ws) → RpA K F' ws z → Q (.ref p) H') → r vs H Q

def mLst (ms : DS → Option (List D)) : DS → Option D := fun δ => (ms δ).map .list
theorem EvO.ev {t : TE} {m : DS → Option (List D)} (h : EvO K t m) : Ev K t (mLst m) := fun F H σ δ r d e Q q => by
  obtain ⟨ds, hm, rfl⟩ := Option.map_eq_some_iff.mp e
  refine h F H σ δ r ds hm Q fun F' H' p vs mv hp hn hq ra => ?_
  exact q _ H' _ (mv.freeze hp hq hn) (.lst (.inl (.inl upd_same)) (ra.mono (same_updF hn)))
def gLst (g : List D → Option (List D)) : List D → Option D := fun ds => (g ds).map .list
theorem CallO.d {r : List V → Hp → VK → Prop} {g : List D → Option (List D)} (h : CallO K r g) : CallD K r (gLst g) := fun F H vs ds d e rv hm Q q => by
  obtain ⟨zs, hg, rfl⟩ := Option.map_eq_some_iff.mp hm
  refine h F H vs ds zs e rv hg Q fun F' H' p ws mv hp hn hq ra => ?_
  exact q _ H' _ (mv.freeze hp hq hn) (.lst (.inl (.inl upd_same)) (ra.mono (same_updF hn)))

def flatD : D → Bool
  | .none => true
  | .bool _ => true
  | .int _ => true
  | .str _ => true
  | _ => false
theorem Rp.flat {F G : Hp} {v : V} {d : D} (h : Rp K F v d) (f : flatD d = true) : Rp K G v d := by
  cases h with
  | non => exact .non
  | bl b => exact .bl b
  | int i => exact .int i
  | str x => exact .str x
  | lst _ _ => cases f
  | tup _ _ => cases f
/-- read with what is owned as data; the value flat -/
def mBor (m : DS → Option D) : DS → Option D := fun δ => match m (thaw δ) with
  | some d => if flatD d = true then some d else none
  | none => none
theorem Ev.bor {t : TE} {m : DS → Option D} (h : Ev K t m) : Ev K t (mBor m) := fun F H σ δ r d e Q q => by
  unfold mBor at e
  cases hm : m (Dl.thaw δ) with
  | none => rw [hm] at e; cases e
  | some d' =>
    rw [hm] at e
    by_cases hf : flatD d' = true
    · have e' : (if flatD d' = true then some d' else none) = some d := e
      rw [if_pos hf] at e'
      cases e'
      refine h H H σ _ r.thaw d hm Q fun F' H' v mv rp => ?_
      exact q F H' v (.grow r.fh mv.h) (rp.flat hf)
    · have e' : (if flatD d' = true then some d' else none) = some d := e
      rw [if_neg hf] at e'
      cases e'
def mBorT (m : DS → Option Bool) : DS → Option Bool := fun δ => m (thaw δ)
theorem EvT.bor {t : TT} {m : DS → Option Bool} (h : EvT K t m) : EvT K t (mBorT m) := fun F H σ δ r b e Q q =>
  h H H σ _ r.thaw b e Q fun H' s => q H' s

/-! ### expressions -/
def mVar (i : Nat) : DS → Option D := fun δ => match δ[i]? with
  | some (some (.val d)) => some d
  | _ => none
theorem ev_var {i : Nat} : Ev K (tVar i) (mVar i) := fun F H σ δ r d e Q q => by
  unfold mVar at e
  split at e
  · rename_i d' h
    cases e
    obtain ⟨v, ev, rp⟩ := r.val i _ h
    exact ⟨v, ev, q F H v (.rfl' r.fh) rp⟩
  · cases e
def mC (d : D) : DS → Option D := fun _ => some d
theorem ev_int {i : Int} : Ev K (tC (.int i)) (mC (.int i)) := fun F H σ δ r d e Q q => by cases e; exact q F H _ (.rfl' r.fh) (.int i)
theorem ev_str {x : Str} : Ev K (tC (.str x)) (mC (.str x)) := fun F H σ δ r d e Q q => by cases e; exact q F H _ (.rfl' r.fh) (.str x)
theorem ev_bl {b : Bool} : Ev K (tC (.bl b)) (mC (.bool b)) := fun F H σ δ r d e Q q => by cases e; exact q F H _ (.rfl' r.fh) (.bl b)
theorem ev_non : Ev K (tC .non) (mC .none) := fun F H σ δ r d e Q q => by cases e; exact q F H _ (.rfl' r.fh) .non
def m2 (g : D → D → Option D) (ma mb : DS → Option D) : DS → Option D := fun δ => (ma δ).bind fun a => (mb δ).bind fun b => g a b
theorem ev_op {r : R2} {g : D → D → Option D} {ta tb : TE} {ma mb : DS → Option D} (ha : Ev K ta ma) (hb : Ev K tb mb) (ho : OpD K r g) : Ev K (tOp r ta tb) (m2 g ma mb) := fun F H σ δ rl d e Q q => by
  unfold m2 at e
  obtain ⟨a, ea, e⟩ := Option.bind_eq_some_iff.mp e
  obtain ⟨b, eb, e⟩ := Option.bind_eq_some_iff.mp e
  refine ha F H σ δ rl a ea _ fun F1 H1 x m1 r1 => ?_
  refine hb F1 H1 σ δ (rl.mv m1) b eb _ fun F2 H2 y m2 r2 => ?_
  exact ho F2 H2 x y a b d m2.fh (r1.mono m2.f) r2 e Q fun F3 H3 v m3 r3 => q F3 H3 v ((m1.trans m2).trans m3) r3
def m1 (g : D → Option D) (ma : DS → Option D) : DS → Option D := fun δ => (ma δ).bind g
theorem ev_un {r : V → Hp → VK → Prop} {g : D → Option D} {ta : TE} {ma : DS → Option D} (ha : Ev K ta ma) (ho : UnD K r g) : Ev K (tUn r ta) (m1 g ma) := fun F H σ δ rl d e Q q => by
  unfold m1 at e
  obtain ⟨a, ea, e⟩ := Option.bind_eq_some_iff.mp e
  refine ha F H σ δ rl a ea _ fun F1 H1 x m1 r1 => ?_
  exact ho F1 H1 x a d m1.fh r1 e Q fun F3 H3 v m3 r3 => q F3 H3 v (m1.trans m3) r3
/-! arguments -/
def mNil : DS → Option (List D) := fun _ => some []
def mCons (ma : DS → Option D) (mr : DS → Option (List D)) : DS → Option (List D) := fun δ => (ma δ).bind fun a => (mr δ).bind fun r => some (a :: r)
theorem ea_nil : EvA K 0 tNil mNil := fun F H σ δ r ds e Q q => by cases e; exact q F H [] (.rfl' r.fh) .nil rfl
theorem ea_cons {n : Nat} {te : TE} {t : TA} {ma : DS → Option D} {mr : DS → Option (List D)} (ha : Ev K te ma) (hr : EvA K n t mr) : EvA K (n + 1) (tCons te t) (mCons ma mr) := fun F H σ δ rl ds e Q q => by
  unfold mCons at e
  obtain ⟨a, ea, e⟩ := Option.bind_eq_some_iff.mp e
  obtain ⟨b, eb, e⟩ := Option.bind_eq_some_iff.mp e
  cases e
  refine ha F H σ δ rl a ea _ fun F1 H1 x m1 r1 => ?_
  refine hr F1 H1 σ δ (rl.mv m1) b eb _ fun F2 H2 vs m2 r2 hl => ?_
  exact q F2 H2 (x :: vs) (m1.trans m2) (.cons (r1.mono m2.f) r2) (by rw [List.length_cons, hl])
/-! displays -/
def mTup (ms : DS → Option (List D)) : DS → Option D := fun δ => (ms δ).map .tuple
theorem ev_tup {n : Nat} {t : TA} {ms : DS → Option (List D)} (h : EvA K n t ms) (hn : n ≤ 1000 := by decide) : Ev K (tTup t) (mTup ms) := fun F H σ δ rl d e Q q => by
  obtain ⟨ds, ed, rfl⟩ := Option.map_eq_some_iff.mp e
  refine h F H σ δ rl ds ed _ fun F1 H1 vs m1 r1 hl => ?_
  refine ⟨?_, fun p hp => ?_⟩
  · rw [r1.len, hl]; exact Nat.le_trans hn (by decide)
  · have mv := Mv.new (o := .tup vs) m1.fh hp
    exact q _ _ _ (m1.trans mv) (.tup (.inl (.inl upd_same)) (r1.mono mv.f))
theorem eo_lst {n : Nat} {t : TA} {ms : DS → Option (List D)} (h : EvA K n t ms) (hn : n ≤ 1000 := by decide) : EvO K (tLst t) ms := fun F H σ δ rl ds ed Q q => by
  refine h F H σ δ rl ds ed _ fun F1 H1 vs m1 r1 hl => ?_
  refine ⟨?_, fun p hp => ?_⟩
  · rw [r1.len, hl]; exact Nat.le_trans hn (by decide)
  · have mv := Mv.newO (o := .lst vs) m1.fh hp
    refine q F1 _ p vs (m1.trans mv) (m1.h.free hp) ?_ upd_same r1
    exact m1.fh.free hp
theorem ev_lst {n : Nat} {t : TA} {ms : DS → Option (List D)} (h : EvA K n t ms) (hn : n ≤ 1000 := by decide) : Ev K (tLst t) (mLst ms) := (eo_lst h hn).ev
/-! builtins, own defs -/
def mCall (ms : DS → Option (List D)) (g : List D → Option D) : DS → Option D := fun δ => (ms δ).bind g
theorem ev_cb {n : Nat} {r : List V → Hp → VK → Prop} {t : TA} {ms : DS → Option (List D)} {g : List D → Option D} (ha : EvA K n t ms) (hc : CallD K r g) : Ev K (tCB r t) (mCall ms g) := fun F H σ δ rl d e Q q => by
  obtain ⟨a, ea, e⟩ := Option.bind_eq_some_iff.mp e
  refine ha F H σ δ rl a ea _ fun F1 H1 vs m1 r1 hl => ?_
  exact hc F1 H1 vs a d m1.fh r1 e Q fun F3 H3 v m3 r3 => q F3 H3 v (m1.trans m3) r3
def mCallO (ms : DS → Option (List D)) (g : List D → Option (List D)) : DS → Option (List D) := fun δ => (ms δ).bind g
theorem eo_cb {n : Nat} {r : List V → Hp → VK → Prop} {t : TA} {ms : DS → Option (List D)} {g : List D → Option (List D)} (ha : EvA K n t ms) (hc : CallO K r g) : EvO K (tCB r t) (mCallO ms g) := fun F H σ δ rl d e Q q => by
  obtain ⟨a, ea, e⟩ := Option.bind_eq_some_iff.mp e
  refine ha F H σ δ rl a ea _ fun F1 H1 vs m1 r1 hl => ?_
  exact hc F1 H1 vs a d m1.fh r1 e Q fun F3 H3 p ws m3 h1 h2 h3 r3 => q F3 H3 p ws (m1.trans m3) (m1.h.free h1) h2 h3 r3
/-- what a def hands back -/
def RetOk (K : PySem.W.Frag) (H F' H' : Hp) (v : V) : DV → Prop
  | .val d => Rp K F' v d
  | .own ds => ∃ p vs, v = .ref p ∧ H p = none ∧ F' p = none ∧ H' p = some (.lst vs) ∧ RpA K F' vs ds
/-- THE PROMISE of a def whose mirror is f -/
def spD (K : PySem.W.Frag) (f : List D → Option DV) : Sp := fun vs H Q _ => ∃ F ds r, Same F H ∧ RpA K F vs ds ∧ f ds = some r ∧ ∀ F' H' v, Mv F H F' H' → RetOk K H F' H' v r → Q v H'
def mCallF (ms : DS → Option (List D)) (f : List D → Option DV) : DS → Option D := fun δ => (ms δ).bind fun ds => (f ds).map DV.data
theorem ev_call {n : Nat} {E : XK} {t : TA} {ms : DS → Option (List D)} {f : List D → Option DV} (ha : EvA K n t ms) : Ev K (tCall (spD K f) [] E t) (mCallF ms f) := fun F H σ δ rl d e Q q => by
  obtain ⟨a, ea, e⟩ := Option.bind_eq_some_iff.mp e
  obtain ⟨r, er, rfl⟩ := Option.map_eq_some_iff.mp e
  refine ha F H σ δ rl a ea _ fun F1 H1 vs m1 r1 hl => ?_
  refine ⟨F1, a, r, m1.fh, by rw [List.append_nil]; exact r1, er, fun F2 H2 v m2 rk => ?_⟩
  cases r with
  | val d => exact q F2 H2 v (m1.trans m2) rk
  | own ds =>
    obtain ⟨p, ws, rfl, h1, h2, h3, ra⟩ := rk
    exact q _ H2 _ (m1.trans (m2.freeze h1 h3 h2)) (.lst (.inl (.inl upd_same)) (ra.mono (same_updF h2)))
def DV.owned : DV → Option (List D)
  | .val _ => none
  | .own ds => some ds
def mCallFO (ms : DS → Option (List D)) (f : List D → Option DV) : DS → Option (List D) := fun δ => (ms δ).bind fun ds => (f ds).bind DV.owned
theorem eo_call {n : Nat} {E : XK} {t : TA} {ms : DS → Option (List D)} {f : List D → Option DV} (ha : EvA K n t ms) : EvO K (tCall (spD K f) [] E t) (mCallFO ms f) := fun F H σ δ rl d e Q q => by
  obtain ⟨a, ea, e⟩ := Option.bind_eq_some_iff.mp e
  obtain ⟨r, er, eo⟩ := Option.bind_eq_some_iff.mp e
  refine ha F H σ δ rl a ea _ fun F1 H1 vs m1 r1 hl => ?_
  refine ⟨F1, a, r, m1.fh, by rw [List.append_nil]; exact r1, er, fun F2 H2 v m2 rk => ?_⟩
  cases r with
  | val d => cases eo
  | own ds =>
    cases eo
    obtain ⟨p, ws, rfl, h1, h2, h3, ra⟩ := rk
    exact q F2 H2 p ws (m1.trans m2) (m1.h.free h1) h2 h3 ra

/-! tests -/
def mB (m : DS → Option D) : DS → Option Bool := fun δ => match m δ with
  | some (.bool b) => some b
  | _ => none
theorem et_B {t : TE} {m : DS → Option D} (h : Ev K t m) : EvT K (tB t) (mB m) := fun F H σ δ r b e Q q => by
  unfold mB at e
  split at e
  · rename_i b' hm
    cases e
    refine h F H σ δ r _ hm _ fun F' H' v mv rp => ?_
    cases rp
    exact ⟨_, rfl, q H' mv.h⟩
  · cases e
theorem et_test {t : TE} {m : DS → Option D} (h : Ev K t m) : EvT K (tTest t) (mB m) := fun F H σ δ r b e Q q => by
  unfold mB at e
  split at e
  · rename_i b' hm
    cases e
    refine h F H σ δ r _ hm _ fun F' H' v mv rp => ?_
    cases rp
    exact ⟨_, rfl, q H' mv.h⟩
  · cases e
def mAndT (a b : DS → Option Bool) : DS → Option Bool := fun δ => (a δ).bind fun x => if x = true then b δ else some false
def mOrT (a b : DS → Option Bool) : DS → Option Bool := fun δ => (a δ).bind fun x => if x = true then some true else b δ
def mNotT (a : DS → Option Bool) : DS → Option Bool := fun δ => (a δ).map fun x => !x
theorem Rel.grow {F H H' : Hp} {σ : L2.St} {δ : DS} (r : Rel K F H σ δ) (s : Same H H') : Rel K F H' σ δ := r.mv (.grow r.fh s)
theorem et_and {t u : TT} {a b : DS → Option Bool} (ha : EvT K t a) (hb : EvT K u b) : EvT K (tAnd t u) (mAndT a b) := fun F H σ δ r c e Q q => by
  obtain ⟨x, ea, e⟩ := Option.bind_eq_some_iff.mp e
  refine ha F H σ δ r x ea _ fun H1 s1 => ?_
  cases x with
  | true =>
    show u σ H1 Q
    exact hb F H1 σ δ (r.grow s1) c e Q fun H2 s2 => q H2 (s1.trans s2)
  | false =>
    cases e
    show Q false H1
    exact q H1 s1
theorem et_or {t u : TT} {a b : DS → Option Bool} (ha : EvT K t a) (hb : EvT K u b) : EvT K (tOr t u) (mOrT a b) := fun F H σ δ r c e Q q => by
  obtain ⟨x, ea, e⟩ := Option.bind_eq_some_iff.mp e
  refine ha F H σ δ r x ea _ fun H1 s1 => ?_
  cases x with
  | true =>
    cases e
    show Q true H1
    exact q H1 s1
  | false =>
    show u σ H1 Q
    exact hb F H1 σ δ (r.grow s1) c e Q fun H2 s2 => q H2 (s1.trans s2)
theorem et_not {t : TT} {a : DS → Option Bool} (ha : EvT K t a) : EvT K (tNot t) (mNotT a) := fun F H σ δ r c e Q q => by
  obtain ⟨x, ea, rfl⟩ := Option.map_eq_some_iff.mp e
  exact ha F H σ δ r x ea _ fun H1 s1 => q H1 s1
/-- and, or, not as values; a if t else b -/
def mAndV (a b : DS → Option D) : DS → Option D := fun δ => (mB a δ).bind fun x => if x = true then b δ else some (.bool false)
def mOrV (a b : DS → Option D) : DS → Option D := fun δ => (mB a δ).bind fun x => if x = true then some (.bool true) else b δ
def mNotV (a : DS → Option D) : DS → Option D := fun δ => (mB a δ).map fun x => .bool (!x)
theorem mB_some {m : DS → Option D} {δ : DS} {b : Bool} (h : mB m δ = some b) : m δ = some (.bool b) := by
  unfold mB at h
  split at h
  · rename_i b' hm
    cases h
    exact hm
  · cases h
theorem ev_and {t u : TE} {a b : DS → Option D} (ha : Ev K t a) (hb : Ev K u b) : Ev K (tAndV t u) (mAndV a b) := fun F H σ δ r c e Q q => by
  obtain ⟨x, ea, e⟩ := Option.bind_eq_some_iff.mp e
  refine ha F H σ δ r _ (mB_some ea) _ fun F1 H1 v m1 rp => ?_
  cases rp
  refine ⟨x, rfl, ?_⟩
  cases x with
  | true =>
    show u σ H1 Q
    exact hb F1 H1 σ δ (r.mv m1) c e Q fun F2 H2 v m2 rp => q F2 H2 v (m1.trans m2) rp
  | false =>
    cases e
    show Q (.bl false) H1
    exact q F1 H1 _ m1 (.bl false)
theorem ev_or {t u : TE} {a b : DS → Option D} (ha : Ev K t a) (hb : Ev K u b) : Ev K (tOrV t u) (mOrV a b) := fun F H σ δ r c e Q q => by
  obtain ⟨x, ea, e⟩ := Option.bind_eq_some_iff.mp e
  refine ha F H σ δ r _ (mB_some ea) _ fun F1 H1 v m1 rp => ?_
  cases rp
  refine ⟨x, rfl, ?_⟩
  cases x with
  | true =>
    cases e
    show Q (.bl true) H1
    exact q F1 H1 _ m1 (.bl true)
  | false =>
    show u σ H1 Q
    exact hb F1 H1 σ δ (r.mv m1) c e Q fun F2 H2 v m2 rp => q F2 H2 v (m1.trans m2) rp
theorem ev_not {t : TE} {a : DS → Option D} (ha : Ev K t a) : Ev K (tNotV t) (mNotV a) := fun F H σ δ r c e Q q => by
  obtain ⟨x, ea, rfl⟩ := Option.map_eq_some_iff.mp e
  refine ha F H σ δ r _ (mB_some ea) _ fun F1 H1 v m1 rp => ?_
  cases rp
  exact ⟨x, rfl, q F1 H1 _ m1 (.bl (!x))⟩
def mIf (c : DS → Option Bool) (a b : DS → Option D) : DS → Option D := fun δ => (c δ).bind fun x => if x = true then a δ else b δ
theorem ev_if {t : TT} {ta tb : TE} {c : DS → Option Bool} {a b : DS → Option D} (hc : EvT K t c) (ha : Ev K ta a) (hb : Ev K tb b) : Ev K (tIf t ta tb) (mIf c a b) := fun F H σ δ r d e Q q => by
  obtain ⟨x, ea, e⟩ := Option.bind_eq_some_iff.mp e
  refine hc F H σ δ r x ea _ fun H1 s1 => ?_
  have m1 : Mv F H F H1 := .grow r.fh s1
  cases x with
  | true =>
    show ta σ H1 Q
    exact ha F H1 σ δ (r.mv m1) d e Q fun F2 H2 v m2 rp => q F2 H2 v (m1.trans m2) rp
  | false =>
    show tb σ H1 Q
    exact hb F H1 σ δ (r.mv m1) d e Q fun F2 H2 v m2 rp => q F2 H2 v (m1.trans m2) rp
end Dl
namespace Dl
open PySem PySem.Spec PyProof.Rows L2
variable {K : PySem.W.Frag}

/-! ### what is walked -/
def Walks (K : PySem.W.Frag) (J : It) (F : Hp) (ds : List D) : Prop := ∀ (i : Nat) F1 H1, Same F F1 → Same F1 H1 →
  (∀ d, ds[i]? = some d → J.go i H1 ∧ ∀ x H2, J.yld i H1 x H2 → ∃ F2, Mv F1 H1 F2 H2 ∧ Rp K F2 x d) ∧ (ds.length ≤ i → J.stop i H1)
def EvI (K : PySem.W.Frag) (wi : TI) (m : DS → Option (List D)) : Prop := ∀ F H σ δ, Rel K F H σ δ → ∀ ds, m δ = some ds → ∀ R : It → Hp → Prop, (∀ J F' H', Mv F H F' H' → Walks K J F' ds → R J H') → wi σ H R
def mItems (m : DS → Option D) : DS → Option (List D) := fun δ => match m δ with
  | some (.list ds) => some ds
  | _ => none
theorem mItems_some {m : DS → Option D} {δ : DS} {ds : List D} (h : mItems m δ = some ds) : m δ = some (.list ds) := by
  unfold mItems at h
  split at h
  · rename_i b' hm
    cases h
    exact hm
  · cases h
def mItemsT (m : DS → Option D) : DS → Option (List D) := fun δ => match m δ with
  | some (.tuple ds) => some ds
  | _ => none
theorem mItemsT_some {m : DS → Option D} {δ : DS} {ds : List D} (h : mItemsT m δ = some ds) : m δ = some (.tuple ds) := by
  unfold mItemsT at h
  split at h
  · rename_i b' hm
    cases h
    exact hm
  · cases h
theorem ei_list {tl : TE} {m : DS → Option D} (h : Ev K tl m) : EvI K (iList K tl) (mItems m) := fun F H σ δ r ds e R q => by
  refine h F H σ δ r _ (mItems_some e) _ fun F1 H1 v m1 rp => ?_
  cases rp with
  | @lst a vs _ rd ra =>
    refine ⟨a, rfl, ⟨vs, (sqS m1.fh rd)⟩, q _ F1 H1 m1 fun i F2 H2 s1 s2 => ⟨fun d hd => ?_, fun hl => ?_⟩⟩
    · obtain ⟨v, hv, rv⟩ := ra.get hd
      have hq : SqL K H2 a vs := sqS (s1.trans s2) rd
      refine ⟨⟨vs, v, hq, hv⟩, fun x H3 hy => ?_⟩
      obtain ⟨e3, hx⟩ := hy
      subst e3
      have ex := hx vs hq
      rw [hv] at ex
      cases ex
      exact ⟨F2, .rfl' s2, rv.mono s1⟩
    · exact ⟨vs, sqS (s1.trans s2) rd, by rw [ra.len]; exact hl⟩
theorem ei_tup {tl : TE} {m : DS → Option D} (h : Ev K tl m) : EvI K (iTup K tl) (mItemsT m) := fun F H σ δ r ds e R q => by
  refine h F H σ δ r _ (mItemsT_some e) _ fun F1 H1 v m1 rp => ?_
  cases rp with
  | @tup a vs _ rd ra =>
    refine ⟨a, rfl, ⟨vs, (tqS m1.fh rd)⟩, q _ F1 H1 m1 fun i F2 H2 s1 s2 => ⟨fun d hd => ?_, fun hl => ?_⟩⟩
    · obtain ⟨v, hv, rv⟩ := ra.get hd
      have hq : SqT K H2 a vs := tqS (s1.trans s2) rd
      refine ⟨⟨vs, v, hq, hv⟩, fun x H3 hy => ?_⟩
      obtain ⟨e3, hx⟩ := hy
      subst e3
      have ex := hx vs hq
      rw [hv] at ex
      cases ex
      exact ⟨F2, .rfl' s2, rv.mono s1⟩
    · exact ⟨vs, tqS (s1.trans s2) rd, by rw [ra.len]; exact hl⟩
def rngD (lo : Int) (n : Nat) : List D := (List.range n).map fun (i : Nat) => PyData.int (lo + (i : Int))
theorem rngD_len (lo : Int) (n : Nat) : (rngD lo n).length = n := by unfold rngD; rw [List.length_map, List.length_range]
theorem walks_rng (lo : Int) (n : Nat) (F : Hp) : Walks K (Itr lo n) F (rngD lo n) := fun i F1 H1 s1 s2 => by
  refine ⟨fun d hd => ?_, fun hl => ?_⟩
  · have hi : i < n := by
      have := (List.getElem?_eq_some_iff.mp hd).1
      rw [rngD_len] at this
      exact this
    refine ⟨hi, fun x H2 hy => ?_⟩
    obtain ⟨e1, e2⟩ := hy
    subst e1 e2
    have ed : d = .int (lo + i) := by
      unfold rngD at hd
      rw [List.getElem?_map, List.getElem?_range hi] at hd
      exact (Option.some.inj hd).symm
    subst ed
    exact ⟨F1, .rfl' s2, .int _⟩
  · rw [rngD_len] at hl
    exact hl
def okRng (n : Int) : Bool := decide (-1000000 ≤ n ∧ n ≤ 1000000)
def mRng1 (ms : DS → Option (List D)) : DS → Option (List D) := fun δ => match ms δ with
  | some [.int n] => if okRng n = true then some (rngD 0 n.toNat) else none
  | _ => none
theorem ei_rng1 {n : Nat} {ta : TA} {ms : DS → Option (List D)} (h : EvA K n ta ms) : EvI K (iRng1 ta) (mRng1 ms) := fun F H σ δ r ds e R q => by
  unfold mRng1 at e
  split at e
  · rename_i k hm
    by_cases hk : okRng k = true
    · rw [if_pos hk] at e
      cases e
      have hk2 := of_decide_eq_true hk
      refine h F H σ δ r _ hm _ fun F1 H1 vs m1 ra hl => ?_
      cases ra with
      | cons r1 r2 =>
        cases r1
        cases r2
        exact ⟨k, rfl, by omega, by omega, q _ F1 H1 m1 (walks_rng 0 _ F1)⟩
    · rw [if_neg hk] at e
      cases e
  · cases e
def mRng2 (ms : DS → Option (List D)) : DS → Option (List D) := fun δ => match ms δ with
  | some [.int i, .int j] => if (okRng i && okRng j) = true then some (rngD i (j - i).toNat) else none
  | _ => none
theorem ei_rng2 {n : Nat} {ta : TA} {ms : DS → Option (List D)} (h : EvA K n ta ms) : EvI K (iRng2 ta) (mRng2 ms) := fun F H σ δ r ds e R q => by
  unfold mRng2 at e
  split at e
  · rename_i i j hm
    by_cases hk : (okRng i && okRng j) = true
    · rw [if_pos hk] at e
      cases e
      rw [Bool.and_eq_true] at hk
      have hk1 := of_decide_eq_true hk.1
      have hk2 := of_decide_eq_true hk.2
      refine h F H σ δ r _ hm _ fun F1 H1 vs m1 ra hl => ?_
      cases ra with
      | cons r1 r2 =>
        cases r1
        cases r2 with
        | cons r2 r3 =>
          cases r2
          cases r3
          exact ⟨i, j, rfl, ⟨by omega, by omega, by omega, by omega⟩, q _ F1 H1 m1 (walks_rng i _ F1)⟩
    · rw [if_neg hk] at e
      cases e
  · cases e
/-- zip of two lists -/
def zipD (xs ys : List D) : List D := List.zipWith (fun a b => PyData.tuple [a, b]) xs ys
def mZip (ms : DS → Option (List D)) : DS → Option (List D) := fun δ => match ms δ with
  | some [.list xs, .list ys] => some (zipD xs ys)
  | _ => none
theorem ei_zip {n : Nat} {ta : TA} {ms : DS → Option (List D)} (h : EvA K n ta ms) : EvI K (iZip K ta) (mZip ms) := fun F H σ δ r ds e R q => by
  unfold mZip at e
  split at e
  · rename_i xs ys hm
    cases e
    refine h F H σ δ r _ hm _ fun F1 H1 vs m1 ra hl => ?_
    cases ra with
    | cons r1 r2 =>
      cases r2 with
      | cons r2 r3 =>
        cases r3
        cases r1 with
        | @lst a us _ rda raa =>
          cases r2 with
          | @lst b ws _ rdb rab =>
            refine ⟨a, b, us, ws, rfl, (sqS m1.fh rda), (sqS m1.fh rdb), q _ F1 H1 m1 fun i F2 H2 s1 s2 => ⟨fun d hd => ?_, fun hl => ?_⟩⟩
            · unfold zipD at hd
              rw [List.getElem?_zipWith] at hd
              cases hx : xs[i]? with
              | none => rw [hx] at hd; cases hd
              | some x =>
                cases hy : ys[i]? with
                | none => rw [hx, hy] at hd; cases hd
                | some y =>
                  rw [hx, hy] at hd
                  have hd2 : PyData.tuple [x, y] = d := Option.some.inj hd
                  subst hd2
                  obtain ⟨v, hv, rv⟩ := raa.get hx
                  obtain ⟨u, hu, ru⟩ := rab.get hy
                  have hqa : SqL K H2 a us := (sqS (s1.trans s2) rda)
                  have hqb : SqL K H2 b ws := (sqS (s1.trans s2) rdb)
                  refine ⟨⟨us, ws, v, u, hqa, hqb, hv, hu⟩, fun z H3 hz => ?_⟩
                  obtain ⟨T, x1, y1, rfl, nT, rfl, f1, f2⟩ := hz
                  have e1 := f1 us hqa
                  have e2 := f2 ws hqb
                  rw [hv] at e1
                  rw [hu] at e2
                  cases e1
                  cases e2
                  have mv := Mv.new (o := .tup [v, u]) s2 nT
                  exact ⟨_, mv, .tup (.inl (.inl upd_same)) (.cons ((rv.mono s1).mono mv.f) (.cons ((ru.mono s1).mono mv.f) .nil))⟩
            · refine ⟨us, ws, (sqS (s1.trans s2) rda), (sqS (s1.trans s2) rdb), ?_⟩
              unfold zipD at hl
              rw [List.length_zipWith] at hl
              rw [raa.len, rab.len]
              omega
  · cases e
/-- enumerate of a list -/
def enumD (k : Nat) : List D → List D
  | [] => []
  | x :: r => PyData.tuple [.int (k : Int), x] :: enumD (k + 1) r
theorem enumD_get : ∀ (xs : List D) (k i : Nat), (enumD k xs)[i]? = (xs[i]?).map fun x => PyData.tuple [.int ((k + i : Nat) : Int), x]
  | [], k, i => by simp [enumD]
  | x :: r, k, 0 => by simp [enumD]
  | x :: r, k, i + 1 => by
    show (enumD (k + 1) r)[i]? = _
    rw [enumD_get r (k + 1) i, List.getElem?_cons_succ]
    have e : k + 1 + i = k + (i + 1) := by omega
    rw [e]
theorem enumD_len : ∀ (xs : List D) (k : Nat), (enumD k xs).length = xs.length
  | [], _ => rfl
  | x :: r, k => by
    show (enumD (k + 1) r).length + 1 = _
    rw [enumD_len r (k + 1), List.length_cons]
def mEnum (ms : DS → Option (List D)) : DS → Option (List D) := fun δ => match ms δ with
  | some [.list xs] => some (enumD 0 xs)
  | _ => none
theorem ei_enum {n : Nat} {ta : TA} {ms : DS → Option (List D)} (h : EvA K n ta ms) : EvI K (iEnum K ta) (mEnum ms) := fun F H σ δ r ds e R q => by
  unfold mEnum at e
  split at e
  · rename_i xs hm
    cases e
    refine h F H σ δ r _ hm _ fun F1 H1 vs m1 ra hl => ?_
    cases ra with
    | cons r1 r2 =>
      cases r2
      cases r1 with
      | @lst a us _ rda raa =>
        refine ⟨a, us, rfl, (sqS m1.fh rda), q _ F1 H1 m1 fun i F2 H2 s1 s2 => ⟨fun d hd => ?_, fun hl => ?_⟩⟩
        · rw [enumD_get] at hd
          obtain ⟨x, hx, rfl⟩ := Option.map_eq_some_iff.mp hd
          obtain ⟨v, hv, rv⟩ := raa.get hx
          have hqa : SqL K H2 a us := (sqS (s1.trans s2) rda)
          refine ⟨⟨us, v, hqa, hv⟩, fun z H3 hz => ?_⟩
          obtain ⟨T, x1, rfl, nT, rfl, f1⟩ := hz
          have e1 := f1 us hqa
          rw [hv] at e1
          cases e1
          have mv := Mv.new (o := .tup [.int (i : Nat), v]) s2 nT
          refine ⟨_, mv, .tup (.inl (.inl upd_same)) (.cons ?_ (.cons ((rv.mono s1).mono mv.f) .nil))⟩
          rw [Nat.zero_add]
          exact .int _
        · rw [enumD_len] at hl
          exact ⟨us, (sqS (s1.trans s2) rda), by rw [raa.len]; exact hl⟩
  · cases e

/-! ### statements: the state of a def's frame -/
structure RelS (K : PySem.W.Frag) (F0 H0 F H : Hp) (σ : L2.St) (δ : DS) : Prop where
  rel : Rel K F H σ δ
  f0 : Same F0 F
  h0 : Same H0 H
  sep : ∀ p, H0 p ≠ none → F0 p = none → F p = none
  own0 : ∀ (i : Nat) ds p, δ[i]? = some (some (.own ds)) → σ[i]? = some (some (.ref p)) → H0 p = none
  apart : ∀ (i j : Nat) ds es p, i ≠ j → δ[i]? = some (some (.own ds)) → δ[j]? = some (some (.own es)) → σ[i]? = some (some (.ref p)) → σ[j]? = some (some (.ref p)) → False
theorem RelS.len {F0 H0 F H : Hp} {σ : L2.St} {δ : DS} (r : RelS K F0 H0 F H σ δ) : σ.length = δ.length := r.rel.len
theorem RelS.mv {F0 H0 F H F' H' : Hp} {σ : L2.St} {δ : DS} (r : RelS K F0 H0 F H σ δ) (m : Mv F H F' H') : RelS K F0 H0 F' H' σ δ :=
  ⟨r.rel.mv m, r.f0.trans m.f, r.h0.trans m.h, fun p hp hf => m.sep p (by
    cases q : H0 p with
    | none => exact absurd q hp
    | some o => rw [r.h0 _ _ q]; exact fun z => nomatch z) (r.sep p hp hf), r.own0, r.apart⟩
theorem RelS.back {F0 H0 F H : Hp} {σ : L2.St} {δ : DS} (r : RelS K F0 H0 F H σ δ) : Mv F0 H0 F H := ⟨r.f0, r.h0, r.rel.fh, r.sep⟩
theorem set_get {α : Type} {l : List α} {i j : Nat} {x y : α} (h : (l.set i x)[j]? = some y) : (j = i ∧ y = x ∧ i < l.length) ∨ (j ≠ i ∧ l[j]? = some y) := by
  by_cases e : j = i
  · subst e
    have hl : j < l.length := by
      have := (List.getElem?_eq_some_iff.mp h).1
      rw [List.length_set] at this
      exact this
    rw [List.getElem?_set_self hl] at h
    exact .inl ⟨rfl, (Option.some.inj h).symm, hl⟩
  · rw [List.getElem?_set_ne (Ne.symm e)] at h
    exact .inr ⟨e, h⟩
theorem get_set {α : Type} {l : List α} {i : Nat} {x : α} (h : i < l.length) : (l.set i x)[i]? = some x := List.getElem?_set_self h
theorem Rel.setV {F H : Hp} {σ : L2.St} {δ : DS} {i : Nat} {v : V} {d : D} (r : Rel K F H σ δ) (h : Rp K F v d) : Rel K F H (σ.set i (some v)) (δ.set i (some (.val d))) := by
  refine ⟨r.fh, by rw [List.length_set, List.length_set, r.len], fun j e hj => ?_, fun j ds hj => ?_⟩
  · rcases set_get hj with ⟨e1, e2, e3⟩ | ⟨e1, e2⟩
    · subst e1
      cases e2
      exact ⟨v, get_set (by rw [r.len]; exact e3), h⟩
    · obtain ⟨u, eu, q⟩ := r.val j e e2
      exact ⟨u, by rw [List.getElem?_set_ne (Ne.symm e1)]; exact eu, q⟩
  · rcases set_get hj with ⟨e1, e2, e3⟩ | ⟨e1, e2⟩
    · cases e2
    · obtain ⟨p, vs, ep, n, hp, q⟩ := r.own j ds e2
      exact ⟨p, vs, by rw [List.getElem?_set_ne (Ne.symm e1)]; exact ep, n, hp, q⟩
theorem RelS.setV {F0 H0 F H : Hp} {σ : L2.St} {δ : DS} {i : Nat} {v : V} {d : D} (r : RelS K F0 H0 F H σ δ) (h : Rp K F v d) : RelS K F0 H0 F H (σ.set i (some v)) (δ.set i (some (.val d))) := by
  refine ⟨r.rel.setV h, r.f0, r.h0, r.sep, fun j ds p hj hp => ?_, fun j k ds es p hjk hj hk h1 h2 => ?_⟩
  · rcases set_get hj with ⟨e1, e2, e3⟩ | ⟨e1, e2⟩
    · cases e2
    · rw [List.getElem?_set_ne (Ne.symm e1)] at hp
      exact r.own0 j ds p e2 hp
  · rcases set_get hj with ⟨e1, e2, e3⟩ | ⟨e1, e2⟩
    · cases e2
    · rcases set_get hk with ⟨f1, f2, f3⟩ | ⟨f1, f2⟩
      · cases f2
      · rw [List.getElem?_set_ne (Ne.symm e1)] at h1
        rw [List.getElem?_set_ne (Ne.symm f1)] at h2
        exact r.apart j k ds es p hjk e2 f2 h1 h2
/-- a new list to a slot -/
theorem RelS.setO {F0 H0 F H F' H' : Hp} {σ : L2.St} {δ : DS} {i : Nat} {p : Addr} {vs : List V} {ds : List D} (r : RelS K F0 H0 F H σ δ) (m : Mv F H F' H') (hp : H p = none) (hf : F' p = none) (hq : H' p = some (.lst vs)) (ra : RpA K F' vs ds) :
    RelS K F0 H0 F' H' (σ.set i (some (.ref p))) (δ.set i (some (.own ds))) := by
  have r' := r.mv m
  have other : ∀ (j : Nat) es q, δ[j]? = some (some (.own es)) → σ[j]? = some (some (V.ref q)) → q ≠ p := fun j es q h1 h2 z => by
    obtain ⟨q', us, e1, _, e2, _⟩ := r.rel.own j es h1
    rw [h2] at e1
    cases e1
    rw [z, hp] at e2
    cases e2
  refine ⟨⟨r'.rel.fh, by rw [List.length_set, List.length_set, r.len], fun j e hj => ?_, fun j es hj => ?_⟩, r'.f0, r'.h0, r'.sep, fun j es q hj hq2 => ?_, fun j k es fs q hjk hj hk h1 h2 => ?_⟩
  · rcases set_get hj with ⟨e1, e2, e3⟩ | ⟨e1, e2⟩
    · cases e2
    · obtain ⟨u, eu, q⟩ := r'.rel.val j e e2
      exact ⟨u, by rw [List.getElem?_set_ne (Ne.symm e1)]; exact eu, q⟩
  · rcases set_get hj with ⟨e1, e2, e3⟩ | ⟨e1, e2⟩
    · subst e1
      cases e2
      exact ⟨p, vs, get_set (by rw [r.len]; exact e3), hf, hq, ra⟩
    · obtain ⟨q, us, eq, n, hq3, z⟩ := r'.rel.own j es e2
      exact ⟨q, us, by rw [List.getElem?_set_ne (Ne.symm e1)]; exact eq, n, hq3, z⟩
  · rcases set_get hj with ⟨e1, e2, e3⟩ | ⟨e1, e2⟩
    · subst e1
      rw [get_set (by rw [r.len]; exact e3)] at hq2
      cases hq2
      exact r.h0.free hp
    · rw [List.getElem?_set_ne (Ne.symm e1)] at hq2
      exact r.own0 j es q e2 hq2
  · rcases set_get hj with ⟨e1, e2, e3⟩ | ⟨e1, e2⟩
    · rcases set_get hk with ⟨f1, f2, f3⟩ | ⟨f1, f2⟩
      · exact hjk (e1.trans f1.symm)
      · subst e1
        rw [get_set (by rw [r.len]; exact e3)] at h1
        cases h1
        rw [List.getElem?_set_ne (Ne.symm f1)] at h2
        exact other k fs _ f2 h2 rfl
    · rw [List.getElem?_set_ne (Ne.symm e1)] at h1
      rcases set_get hk with ⟨f1, f2, f3⟩ | ⟨f1, f2⟩
      · subst f1
        rw [get_set (by rw [r.len]; exact f3)] at h2
        cases h2
        exact other j es _ e2 h1 rfl
      · rw [List.getElem?_set_ne (Ne.symm f1)] at h2
        exact r.apart j k es fs q hjk e2 f2 h1 h2
/-- an owned list changes -/
theorem RelS.mut {F0 H0 F H : Hp} {σ : L2.St} {δ : DS} {i : Nat} {p : Addr} {vs : List V} {ds es : List D} (r : RelS K F0 H0 F H σ δ) (hi : δ[i]? = some (some (.own ds))) (hs : σ[i]? = some (some (.ref p))) (ra : RpA K F vs es) :
    RelS K F0 H0 F (upd H p (.lst vs)) σ (δ.set i (some (.own es))) := by
  obtain ⟨p', ws, e1, nf, hp, _⟩ := r.rel.own i ds hi
  rw [hs] at e1
  cases e1
  have hil : i < δ.length := (List.getElem?_eq_some_iff.mp hi).1
  have other : ∀ (j : Nat) fs q, j ≠ i → δ[j]? = some (some (.own fs)) → σ[j]? = some (some (V.ref q)) → q ≠ p := fun j fs q hji h1 h2 z => by
    subst z
    exact r.apart j i fs ds q hji h1 hi h2 hs
  refine ⟨⟨fun a o h => ?_, by rw [List.length_set, r.len], fun j e hj => ?_, fun j fs hj => ?_⟩, r.f0, fun a o h => ?_, r.sep, fun j fs q hj hq2 => ?_, fun j k fs gs q hjk hj hk h1 h2 => ?_⟩
  · rw [upd_ne (ne_of_none h nf)]
    exact r.rel.fh _ _ h
  · rcases set_get hj with ⟨e1, e2, e3⟩ | ⟨e1, e2⟩
    · cases e2
    · exact r.rel.val j e e2
  · rcases set_get hj with ⟨e1, e2, e3⟩ | ⟨e1, e2⟩
    · subst e1
      cases e2
      exact ⟨p, vs, hs, nf, upd_same, ra⟩
    · obtain ⟨q, us, eq, n, hq3, z⟩ := r.rel.own j fs e2
      exact ⟨q, us, eq, n, by rw [upd_ne (other j fs q e1 e2 eq)]; exact hq3, z⟩
  · have hn := r.own0 i ds p hi hs
    rw [upd_ne (ne_of_none h hn)]
    exact r.h0 _ _ h
  · rcases set_get hj with ⟨e1, e2, e3⟩ | ⟨e1, e2⟩
    · subst e1
      exact r.own0 j ds q hi hq2
    · exact r.own0 j fs q e2 hq2
  · have old : ∀ (j : Nat) fs, (δ.set i (some (.own es)))[j]? = some (some (.own fs)) → ∃ fs', δ[j]? = some (some (.own fs')) := fun j fs h => by
      rcases set_get h with ⟨e1, e2, e3⟩ | ⟨e1, e2⟩
      · subst e1
        exact ⟨ds, hi⟩
      · exact ⟨fs, e2⟩
    obtain ⟨f1, g1⟩ := old j fs hj
    obtain ⟨f2, g2⟩ := old k gs hk
    exact r.apart j k f1 f2 q hjk g1 g2 h1 h2
/-- an owned list is frozen -/
def frz (i : Nat) (δ : DS) : DS := match δ[i]? with
  | some (some (.own ds)) => δ.set i (some (.val (.list ds)))
  | _ => δ
theorem RelS.frz {F0 H0 F H : Hp} {σ : L2.St} {δ : DS} (i : Nat) (r : RelS K F0 H0 F H σ δ) : ∃ F', Same F F' ∧ RelS K F0 H0 F' H σ (frz i δ) := by
  unfold Dl.frz
  split
  · rename_i ds hi
    obtain ⟨p, ws, hs, nf, hp, ra⟩ := r.rel.own i ds hi
    have hil : i < δ.length := (List.getElem?_eq_some_iff.mp hi).1
    have hn := r.own0 i ds p hi hs
    have sf : Same F (upd F p (.lst ws)) := same_updF nf
    have other : ∀ (j : Nat) fs q, j ≠ i → δ[j]? = some (some (.own fs)) → σ[j]? = some (some (V.ref q)) → q ≠ p := fun j fs q hji h1 h2 z => by
      subst z
      exact r.apart j i fs ds q hji h1 hi h2 hs
    refine ⟨upd F p (.lst ws), sf, ⟨fun a o h => ?_, by rw [List.length_set, r.len], fun j e hj => ?_, fun j fs hj => ?_⟩, r.f0.trans sf, r.h0, fun q hq1 hq2 => ?_, fun j fs q hj hq2 => ?_, fun j k fs gs q hjk hj hk h1 h2 => ?_⟩
    · by_cases q : a = p
      · subst q
        rw [upd_same] at h
        cases h
        exact hp
      · rw [upd_ne q] at h
        exact r.rel.fh _ _ h
    · rcases set_get hj with ⟨e1, e2, e3⟩ | ⟨e1, e2⟩
      · subst e1
        cases e2
        exact ⟨_, hs, .lst (.inl (.inl upd_same)) (ra.mono sf)⟩
      · obtain ⟨u, eu, q⟩ := r.rel.val j e e2
        exact ⟨u, eu, q.mono sf⟩
    · rcases set_get hj with ⟨e1, e2, e3⟩ | ⟨e1, e2⟩
      · cases e2
      · obtain ⟨q, us, eq, n, hq3, z⟩ := r.rel.own j fs e2
        exact ⟨q, us, eq, by rw [upd_ne (other j fs q e1 e2 eq)]; exact n, hq3, z.mono sf⟩
    · rw [upd_ne (fun z => hq1 (by rw [z]; exact hn))]
      exact r.sep q hq1 hq2
    · rcases set_get hj with ⟨e1, e2, e3⟩ | ⟨e1, e2⟩
      · cases e2
      · exact r.own0 j fs q e2 hq2
    · rcases set_get hj with ⟨e1, e2, e3⟩ | ⟨e1, e2⟩
      · cases e2
      · rcases set_get hk with ⟨f1, f2, f3⟩ | ⟨f1, f2⟩
        · cases f2
        · exact r.apart j k fs gs q hjk e2 f2 h1 h2
  · exact ⟨F, Same.refl _, r⟩

inductive Out where
  | nx (δ : DS)
  | rt (r : DV)
  | bk (δ : DS)
  | ct (δ : DS)
def Fin (K : PySem.W.Frag) (F0 H0 F : Hp) (E : Ends) : Out → Prop
  | .nx δ => ∀ F' H' σ, Same F F' → RelS K F0 H0 F' H' σ δ → E.nx σ H'
  | .bk δ => ∀ F' H' σ, Same F F' → RelS K F0 H0 F' H' σ δ → E.bk σ H'
  | .ct δ => ∀ F' H' σ, Same F F' → RelS K F0 H0 F' H' σ δ → E.ct σ H'
  | .rt r => ∀ F' H' v, Mv F0 H0 F' H' → RetOk K H0 F' H' v r → E.rt v H'
theorem Fin.mono {F0 H0 F F1 : Hp} {E : Ends} {o : Out} (s : Same F F1) (h : Fin K F0 H0 F E o) : Fin K F0 H0 F1 E o := by
  cases o with
  | nx δ => exact fun F' H' σ s' r => h F' H' σ (s.trans s') r
  | bk δ => exact fun F' H' σ s' r => h F' H' σ (s.trans s') r
  | ct δ => exact fun F' H' σ s' r => h F' H' σ (s.trans s') r
  | rt r => exact h
def SD (K : PySem.W.Frag) (t : TS) (m : DS → Option Out) : Prop := ∀ F0 H0 F H σ δ, RelS K F0 H0 F H σ δ → ∀ o, m δ = some o → ∀ E : Ends, Fin K F0 H0 F E o → t E σ H

def nNext : DS → Option Out := fun δ => some (.nx δ)
def nSeq (a b : DS → Option Out) : DS → Option Out := fun δ => (a δ).bind fun o => match o with
  | .nx δ' => b δ'
  | o => some o
theorem sd_next : SD K tNext nNext := fun F0 H0 F H σ δ r o e E q => by
  cases e
  exact q F H σ (Same.refl _) r
theorem sd_seq {t u : TS} {a b : DS → Option Out} (ha : SD K t a) (hb : SD K u b) : SD K (tSeq t u) (nSeq a b) := fun F0 H0 F H σ δ r o e E q => by
  obtain ⟨x, ea, e⟩ := Option.bind_eq_some_iff.mp e
  refine ha F0 H0 F H σ δ r x ea _ ?_
  cases x with
  | nx δ' => exact fun F' H' σ' s r' => hb F0 H0 F' H' σ' δ' r' o e E (q.mono s)
  | bk δ' => cases e; exact q
  | ct δ' => cases e; exact q
  | rt v => cases e; exact q
def nBrk : DS → Option Out := fun δ => some (.bk δ)
def nCnt : DS → Option Out := fun δ => some (.ct δ)
theorem sd_brk : SD K tBreak nBrk := fun F0 H0 F H σ δ r o e E q => by
  cases e
  exact q F H σ (Same.refl _) r
theorem sd_cnt : SD K tCont nCnt := fun F0 H0 F H σ δ r o e E q => by
  cases e
  exact q F H σ (Same.refl _) r
/-- a step of the reading alone: slot i is frozen -/
def nFrz (i : Nat) (a : DS → Option Out) : DS → Option Out := fun δ => a (frz i δ)
theorem sd_frz {t : TS} {a : DS → Option Out} (i : Nat) (h : SD K t a) : SD K t (nFrz i a) := fun F0 H0 F H σ δ r o e E q => by
  obtain ⟨F', s, r'⟩ := r.frz i
  exact h F0 H0 F' H σ _ r' o e E (q.mono s)
def nAsg (i : Nat) (m : DS → Option D) : DS → Option Out := fun δ => (m δ).map fun d => .nx (δ.set i (some (.val d)))
theorem sd_asg {i : Nat} {te : TE} {m : DS → Option D} (h : Ev K te m) : SD K (tAsg te (gName i)) (nAsg i m) := fun F0 H0 F H σ δ r o e E q => by
  obtain ⟨d, hm, rfl⟩ := Option.map_eq_some_iff.mp e
  refine h F H σ δ r.rel d hm _ fun F' H' v mv rp => ?_
  exact q F' H' _ mv.f ((r.mv mv).setV rp)
def nAsgO (i : Nat) (m : DS → Option (List D)) : DS → Option Out := fun δ => (m δ).map fun d => .nx (δ.set i (some (.own d)))
theorem sd_asgO {i : Nat} {te : TE} {m : DS → Option (List D)} (h : EvO K te m) : SD K (tAsg te (gName i)) (nAsgO i m) := fun F0 H0 F H σ δ r o e E q => by
  obtain ⟨d, hm, rfl⟩ := Option.map_eq_some_iff.mp e
  refine h F H σ δ r.rel d hm _ fun F' H' p vs mv hp hf hq ra => ?_
  exact q F' H' _ mv.f (r.setO mv hp hf hq ra)
/-- an int's name changed in place -/
def nAug (i : Nat) (f : Int → Int → Int) (m : DS → Option D) : DS → Option Out := fun δ => match δ[i]?, m δ with
  | some (some (.val (.int a))), some (.int b) => some (.nx (δ.set i (some (.val (.int (f a b))))))
  | _, _ => none
theorem sd_aug {i : Nat} {f : Int → Int → Int} {te : TE} {m : DS → Option D} (h : Ev K te m) : SD K (tAug i te (ipI f)) (nAug i f m) := fun F0 H0 F H σ δ r o e E q => by
  unfold nAug at e
  split at e
  · rename_i a b h1 h2
    cases e
    obtain ⟨v, ev, rv⟩ := r.rel.val i _ h1
    refine ⟨v, ev, h F H σ δ r.rel _ h2 _ fun F' H' y mv ry => ?_⟩
    cases rv
    cases ry
    exact ⟨a, b, rfl, rfl, q F' H' _ mv.f ((r.mv mv).setV (.int _))⟩
  · cases e
def nIf (c : DS → Option Bool) (a b : DS → Option Out) : DS → Option Out := fun δ => (c δ).bind fun x => if x = true then a δ else b δ
theorem sd_if {c : TT} {t u : TS} {mc : DS → Option Bool} {a b : DS → Option Out} (hc : EvT K c mc) (ha : SD K t a) (hb : SD K u b) : SD K (tIfS c t u) (nIf mc a b) := fun F0 H0 F H σ δ r o e E q => by
  obtain ⟨x, ea, e⟩ := Option.bind_eq_some_iff.mp e
  refine hc F H σ δ r.rel x ea _ fun H1 s1 => ?_
  have r1 := r.mv (.grow r.rel.fh s1)
  cases x with
  | true =>
    show t E σ H1
    exact ha F0 H0 F H1 σ δ r1 o e E q
  | false =>
    show u E σ H1
    exact hb F0 H0 F H1 σ δ r1 o e E q
def nRet (m : DS → Option D) : DS → Option Out := fun δ => (m δ).map fun d => .rt (.val d)
theorem sd_ret {te : TE} {m : DS → Option D} (h : Ev K te m) : SD K (tRet te) (nRet m) := fun F0 H0 F H σ δ r o e E q => by
  obtain ⟨d, hm, rfl⟩ := Option.map_eq_some_iff.mp e
  refine h F H σ δ r.rel d hm _ fun F' H' v mv rp => ?_
  exact q F' H' v (r.back.trans mv) rp
def nRetO (m : DS → Option (List D)) : DS → Option Out := fun δ => (m δ).map fun d => .rt (.own d)
theorem sd_retO {te : TE} {m : DS → Option (List D)} (h : EvO K te m) : SD K (tRet te) (nRetO m) := fun F0 H0 F H σ δ r o e E q => by
  obtain ⟨d, hm, rfl⟩ := Option.map_eq_some_iff.mp e
  refine h F H σ δ r.rel d hm _ fun F' H' p vs mv hp hf hq ra => ?_
  exact q F' H' _ (r.back.trans mv) ⟨p, vs, rfl, r.h0.free hp, hf, hq, ra⟩
/-- return x, x an owned list -/
def nRetX (i : Nat) : DS → Option Out := fun δ => match δ[i]? with
  | some (some (.own ds)) => some (.rt (.own ds))
  | _ => none
theorem sd_retX {i : Nat} : SD K (tRet (tVar i)) (nRetX i) := fun F0 H0 F H σ δ r o e E q => by
  unfold nRetX at e
  split at e
  · rename_i ds hi
    cases e
    obtain ⟨p, ws, hs, nf, hp, ra⟩ := r.rel.own i ds hi
    exact ⟨_, hs, q F H _ r.back ⟨p, ws, rfl, r.own0 i ds p hi hs, nf, hp, ra⟩⟩
  · cases e
def nRetN : DS → Option Out := fun _ => some (.rt (.val .none))
theorem sd_retN : SD K tRetN nRetN := fun F0 H0 F H σ δ r o e E q => by
  cases e
  exact q F H _ r.back .non
/-- an expression whose value is dropped -/
def nDrop (m : DS → Option D) : DS → Option Out := fun δ => (m δ).map fun _ => .nx δ
theorem sd_drop {te : TE} {m : DS → Option D} (h : Ev K te m) : SD K (tDrop te) (nDrop m) := fun F0 H0 F H σ δ r o e E q => by
  obtain ⟨d, hm, rfl⟩ := Option.map_eq_some_iff.mp e
  refine h F H σ δ r.rel d hm _ fun F' H' v mv rp => ?_
  exact q F' H' σ mv.f (r.mv mv)

/-! x.append(e), x[i] = e, x.extend(e) of an owned list -/
def cap : Nat := 1000000
theorem cap_lt {n : Nat} (h : n ≤ cap) : n < sizeLine := Nat.lt_of_le_of_lt h (by decide)
def nApp (i : Nat) (m : DS → Option D) : DS → Option Out := fun δ => match δ[i]?, m δ with
  | some (some (.own ds)), some d => if ds.length ≤ cap then some (.nx (δ.set i (some (.own (ds ++ [d]))))) else none
  | _, _ => none
theorem sd_app {i : Nat} {te : TE} {m : DS → Option D} (h : Ev K te m) : SD K (tDrop (tBM K "list" rAppend (tVar i) (tCons te tNil))) (nApp i m) := fun F0 H0 F H σ δ r o e E q => by
  unfold nApp at e
  split at e
  · rename_i ds d hi hm
    by_cases hc : ds.length ≤ cap
    · rw [if_pos hc] at e
      cases e
      obtain ⟨p, ws, hs, nf, hp, ra⟩ := r.rel.own i ds hi
      refine ⟨_, hs, .inl ⟨rfl, ws, .inl (.inl hp)⟩, h F H σ δ r.rel d hm _ fun F' H' y mv ry => ?_⟩
      have r1 := r.mv mv
      have hp1 := mv.h _ _ hp
      refine ⟨p, ws, y, rfl, rfl, hp1, by rw [ra.len]; exact cap_lt hc, ?_⟩
      exact q F' _ σ mv.f (r1.mut hi hs ((ra.mono mv.f).app (.one ry)))
    · rw [if_neg hc] at e
      cases e
  · cases e
def nSetI (i : Nat) (mi m : DS → Option D) : DS → Option Out := fun δ => match δ[i]?, mi δ, m δ with
  | some (some (.own ds)), some (.int k), some d => (ixN ds.length k).map fun j => .nx (δ.set i (some (.own (ds.set j d))))
  | _, _, _ => none
theorem sd_setI {i : Nat} {te ti : TE} {m mi : DS → Option D} (h : Ev K te m) (hi' : Ev K ti mi) : SD K (tAsg te (gSub (tVar i) ti rSetL)) (nSetI i mi m) := fun F0 H0 F H σ δ r o e E q => by
  unfold nSetI at e
  split at e
  · rename_i ds k d hi hk hm
    obtain ⟨j, hj, rfl⟩ := Option.map_eq_some_iff.mp e
    refine h F H σ δ r.rel d hm _ fun F' H' y mv ry => ?_
    obtain ⟨p, ws, hs, nf, hp, ra⟩ := r.rel.own i ds hi
    refine ⟨_, hs, ?_⟩
    have r1 := r.mv mv
    refine hi' F' H' σ δ r1.rel _ hk _ fun F2 H2 z mv2 rz => ?_
    cases rz
    have r2 := r1.mv mv2
    refine ⟨p, ws, k, j, rfl, rfl, mv2.h _ _ (mv.h _ _ hp), by rw [ra.len]; exact hj, ?_⟩
    exact q F2 _ σ (mv.f.trans mv2.f) (r2.mut hi hs (((ra.mono mv.f).mono mv2.f).setAt (ry.mono mv2.f)))
  · cases e
def nExt (i : Nat) (m : DS → Option D) : DS → Option Out := fun δ => match δ[i]?, m δ with
  | some (some (.own ds)), some (.list es) => if ds.length + es.length ≤ cap then some (.nx (δ.set i (some (.own (ds ++ es))))) else none
  | _, _ => none

/-! targets -/
def EvG (K : PySem.W.Frag) (g : TG) (js : List Nat) (gm : D → DS → Option DS) : Prop := ∀ F H σ δ x d δ', Rp K F x d → Same F H → gm d δ = some δ' → ∀ Q : L2.St → Hp → Prop,
  (∀ σ', (∀ F0 H0, RelS K F0 H0 F H σ δ → RelS K F0 H0 F H σ' δ') → (Rel K F H σ δ → Rel K F H σ' δ') → (∀ vs : List Nat, (∀ j ∈ js, j ∈ vs) → wipe σ' vs = wipe σ vs) → Q σ' H) → g x σ H Q
theorem wipe_set {σ : L2.St} {j : Nat} {x : Option V} : ∀ {vs : List Nat}, j ∈ vs → wipe (σ.set j x) vs = wipe σ vs
  | v :: vs, h => by
    show (wipe (σ.set j x) vs).set v none = (wipe σ vs).set v none
    by_cases hv : j ∈ vs
    · rw [wipe_set hv]
    · have e : v = j := by
        rcases List.mem_cons.mp h with z | z
        · exact z.symm
        · exact absurd z hv
      subst e
      have out : ∀ vs : List Nat, v ∉ vs → wipe (σ.set v x) vs = (wipe σ vs).set v x := by
        intro vs
        induction vs with
        | nil => intro _; rfl
        | cons u us ih =>
          intro hu
          have h1 : v ≠ u := fun z => hu (by rw [z]; exact List.mem_cons_self)
          have h2 : v ∉ us := fun z => hu (List.mem_cons_of_mem _ z)
          show (wipe (σ.set v x) us).set u none = ((wipe σ us).set u none).set v x
          rw [ih h2, List.set_comm _ _ h1]
      rw [out vs hv, List.set_set]
def gmName (i : Nat) : D → DS → Option DS := fun d δ => some (δ.set i (some (.val d)))
theorem eg_name {i : Nat} : EvG K (gName i) [i] (gmName i) := fun F H σ δ x d δ' rp s e Q q => by
  cases e
  exact q _ (fun F0 H0 r => r.setV rp) (fun r => r.setV rp) (fun vs hv => wipe_set (hv i List.mem_cons_self))
/-- two names, three names -/
def gmPair (i j : Nat) : D → DS → Option DS := fun d δ => match d with
  | .tuple [a, b] => some ((δ.set i (some (.val a))).set j (some (.val b)))
  | _ => none
theorem eg_pair {i j : Nat} : EvG K (gTup K 2 (gCons (gName i) (gCons (gName j) gNil))) [i, j] (gmPair i j) := fun F H σ δ x d δ' rp s e Q q => by
  unfold gmPair at e
  split at e
  · rename_i a b
    cases e
    cases rp with
    | @tup p vs _ rd ra =>
      cases ra with
      | cons r1 ra =>
        cases ra with
        | cons r2 ra =>
          cases ra
          refine ⟨p, _, rfl, (tqS s rd), rfl, _, _, rfl, _, _, rfl, rfl, ?_⟩
          refine q _ (fun F0 H0 r => (r.setV r1).setV r2) (fun r => (r.setV r1).setV r2) (fun vs hv => ?_)
          rw [wipe_set (hv j (by simp)), wipe_set (hv i (by simp))]
  · cases e
def gmTri (i j k : Nat) : D → DS → Option DS := fun d δ => match d with
  | .tuple [a, b, c] => some (((δ.set i (some (.val a))).set j (some (.val b))).set k (some (.val c)))
  | _ => none
theorem eg_tri {i j k : Nat} : EvG K (gTup K 3 (gCons (gName i) (gCons (gName j) (gCons (gName k) gNil)))) [i, j, k] (gmTri i j k) := fun F H σ δ x d δ' rp s e Q q => by
  unfold gmTri at e
  split at e
  · rename_i a b c
    cases e
    cases rp with
    | @tup p vs _ rd ra =>
      cases ra with
      | cons r1 ra =>
        cases ra with
        | cons r2 ra =>
          cases ra with
          | cons r3 ra =>
            cases ra
            refine ⟨p, _, rfl, (tqS s rd), rfl, _, _, rfl, _, _, rfl, _, _, rfl, rfl, ?_⟩
            refine q _ (fun F0 H0 r => ((r.setV r1).setV r2).setV r3) (fun r => ((r.setV r1).setV r2).setV r3) (fun vs hv => ?_)
            rw [wipe_set (hv k (by simp)), wipe_set (hv j (by simp)), wipe_set (hv i (by simp))]
  · cases e
/-- a, b = e -/
def nAsgG (gm : D → DS → Option DS) (m : DS → Option D) : DS → Option Out := fun δ => (m δ).bind fun d => (gm d δ).map fun δ' => .nx δ'
theorem sd_asgG {g : TG} {js : List Nat} {gm : D → DS → Option DS} {te : TE} {m : DS → Option D} (h : Ev K te m) (hg : EvG K g js gm) : SD K (tAsg te g) (nAsgG gm m) := fun F0 H0 F H σ δ r o e E q => by
  obtain ⟨d, hm, e⟩ := Option.bind_eq_some_iff.mp e
  obtain ⟨δ', hg', rfl⟩ := Option.map_eq_some_iff.mp e
  refine h F H σ δ r.rel d hm _ fun F' H' v mv rp => ?_
  refine hg F' H' σ δ v d δ' rp mv.fh hg' _ fun σ' h1 h2 h4 => ?_
  exact q F' H' σ' mv.f (h1 F0 H0 (r.mv mv))

/-! for -/
def mForL (gm : D → DS → Option DS) (b : DS → Option Out) : List D → DS → Option Out
  | [], δ => some (.nx δ)
  | d :: ds, δ => (gm d δ).bind fun δ1 => (b δ1).bind fun o => match o with
    | .nx δ2 => mForL gm b ds δ2
    | .ct δ2 => mForL gm b ds δ2
    | .bk δ2 => some (.nx δ2)
    | .rt r => some (.rt r)
def nFor (mi : DS → Option (List D)) (gm : D → DS → Option DS) (b : DS → Option Out) : DS → Option Out := fun δ => (mi δ).bind fun ds => mForL gm b ds δ
theorem sd_for {wi : TI} {g : TG} {js : List Nat} {tb : TS} {mi : DS → Option (List D)} {gm : D → DS → Option DS} {b : DS → Option Out} (hi : EvI K wi mi) (hg : EvG K g js gm) (hb : SD K tb b) : SD K (tFor wi g tb) (nFor mi gm b) := fun F0 H0 F H σ δ r o e E q => by
  obtain ⟨ds, hm, e⟩ := Option.bind_eq_some_iff.mp e
  refine hi F H σ δ r.rel ds hm _ fun J F1 H1 mv wk => ?_
  refine ⟨fun i m σ' H' => m = ds.length - i ∧ i ≤ ds.length ∧ ∃ F' δ', RelS K F0 H0 F' H' σ' δ' ∧ Same F1 F' ∧ mForL gm b (ds.drop i) δ' = some o, ⟨ds.length, by omega, Nat.zero_le _, F1, δ, r.mv mv, Same.refl _, e⟩, ?_⟩
  rintro i m σ' H' ⟨rfl, hle, F', δ', r', s', e'⟩
  obtain ⟨w1, w2⟩ := wk i F' H' s' r'.rel.fh
  by_cases hlt : i < ds.length
  · have hd : ds.drop i = ds[i] :: ds.drop (i + 1) := List.drop_eq_getElem_cons hlt
    rw [hd] at e'
    unfold mForL at e'
    obtain ⟨δ1, hg1, e'⟩ := Option.bind_eq_some_iff.mp e'
    obtain ⟨o1, hb1, e'⟩ := Option.bind_eq_some_iff.mp e'
    obtain ⟨hgo, hyl⟩ := w1 _ (List.getElem?_eq_getElem hlt)
    refine .inr ⟨hgo, fun σ2 H2 => ∃ F2 δ2, RelS K F0 H0 F2 H2 σ2 δ2 ∧ Same F1 F2 ∧ mForL gm b (ds.drop (i + 1)) δ2 = some o, fun σ2 H2 hN => ?_, fun x H2 hy => ?_⟩
    · obtain ⟨F2, δ2, r2, s2, e2⟩ := hN
      exact ⟨ds.length - (i + 1), by omega, rfl, hlt, F2, δ2, r2, s2, e2⟩
    · obtain ⟨F2, mv2, rx⟩ := hyl x H2 hy
      refine hg F2 H2 σ' δ' x _ δ1 rx mv2.fh hg1 _ fun σ3 h1 h2 h4 => ?_
      have r3 := h1 F0 H0 (r'.mv mv2)
      refine hb F0 H0 F2 H2 σ3 δ1 r3 o1 hb1 _ ?_
      cases o1 with
      | nx δ2 => exact fun F3 H3 σ4 s3 r4 => ⟨F3, δ2, r4, (s'.trans mv2.f).trans s3, e'⟩
      | ct δ2 => exact fun F3 H3 σ4 s3 r4 => ⟨F3, δ2, r4, (s'.trans mv2.f).trans s3, e'⟩
      | bk δ2 =>
        cases e'
        exact fun F3 H3 σ4 s3 r4 => q F3 H3 σ4 (((mv.f.trans s').trans mv2.f).trans s3) r4
      | rt v =>
        cases e'
        exact q
  · have hz : ds.drop i = [] := List.drop_eq_nil_of_le (by omega)
    rw [hz] at e'
    cases e'
    exact .inl ⟨w2 (by omega), q F' H' σ' (mv.f.trans s') r'⟩

/-! comprehensions -/
def wipeD (δ : DS) : List Nat → DS
  | [] => δ
  | v :: vs => (wipeD δ vs).set v none
theorem wipeD_len (δ : DS) : ∀ vs : List Nat, (wipeD δ vs).length = δ.length
  | [] => rfl
  | v :: vs => by
    show ((wipeD δ vs).set v none).length = δ.length
    rw [List.length_set, wipeD_len δ vs]
theorem Rel.unset {F H : Hp} {σ : L2.St} {δ : DS} {i : Nat} (r : Rel K F H σ δ) : Rel K F H (σ.set i none) (δ.set i none) := by
  refine ⟨r.fh, by rw [List.length_set, List.length_set, r.len], fun j e hj => ?_, fun j ds hj => ?_⟩
  · rcases set_get hj with ⟨e1, e2, e3⟩ | ⟨e1, e2⟩
    · cases e2
    · obtain ⟨u, eu, q⟩ := r.val j e e2
      exact ⟨u, by rw [List.getElem?_set_ne (Ne.symm e1)]; exact eu, q⟩
  · rcases set_get hj with ⟨e1, e2, e3⟩ | ⟨e1, e2⟩
    · cases e2
    · obtain ⟨p, vs, ep, n, hp, q⟩ := r.own j ds e2
      exact ⟨p, vs, by rw [List.getElem?_set_ne (Ne.symm e1)]; exact ep, n, hp, q⟩
theorem Rel.wipe {F H : Hp} {σ : L2.St} {δ : DS} (r : Rel K F H σ δ) : ∀ vs : List Nat, Rel K F H (L2.wipe σ vs) (wipeD δ vs)
  | [] => r
  | v :: vs => (Rel.wipe r vs).unset
end Dl
namespace Dl
open PySem PySem.Spec PyProof.Rows L2
variable {K : PySem.W.Frag}

/-! ### comprehensions -/
def mapO (f : D → Option D) : List D → Option (List D)
  | [] => some []
  | d :: ds => (f d).bind fun a => (mapO f ds).bind fun r => some (a :: r)
def colO (f : D → Option (Option D)) : List D → Option (List D)
  | [] => some []
  | d :: ds => (f d).bind fun a => (colO f ds).bind fun r => some (match a with | some x => x :: r | none => r)
def mLcF (gm : D → DS → Option DS) (mt : DS → Option Bool) (me : DS → Option D) (δ : DS) : D → Option (Option D) := fun d => (gm d δ).bind fun δ1 => (mt δ1).bind fun b => if b = true then (me δ1).map some else some none
def mLcI (mi : DS → Option (List D)) (gm : D → DS → Option DS) (mt : DS → Option Bool) (me : DS → Option D) (vs : List Nat) : DS → Option (List D) :=
  fun δ => (mi δ).bind fun ds => if ds.length ≤ cap then colO (mLcF gm mt me (wipeD δ vs)) ds else none
theorem wipe_wipe (σ : L2.St) : ∀ vs ws : List Nat, (∀ v ∈ vs, v ∈ ws) → L2.wipe (L2.wipe σ vs) ws = L2.wipe σ ws
  | [], ws, _ => rfl
  | v :: vs, ws, h => by
    show L2.wipe ((L2.wipe σ vs).set v none) ws = L2.wipe σ ws
    rw [wipe_set (h v List.mem_cons_self)]
    exact wipe_wipe σ vs ws fun u hu => h u (List.mem_cons_of_mem _ hu)
theorem eo_lcI {wi : TI} {g : TG} {tt : TT} {te : TE} {mi : DS → Option (List D)} {gm : D → DS → Option DS} {mt : DS → Option Bool} {me : DS → Option D} {js vs : List Nat} (hi : EvI K wi mi) (hg : EvG K g js gm) (ht : EvT K tt mt) (he : Ev K te me)
    (hj : ∀ j ∈ js, j ∈ vs := by decide) : EvO K (tLc wi g tt te vs) (mLcI mi gm mt me vs) := fun F H σ δ r ds e Q q => by
  obtain ⟨xs, hm, e⟩ := Option.bind_eq_some_iff.mp e
  by_cases hc : xs.length ≤ cap
  case neg => rw [if_neg hc] at e; cases e
  rw [if_pos hc] at e
  refine hi F H σ δ r xs hm _ fun J F1 H1 mv wk => ?_
  intro Dd hD
  have r1 := r.mv mv
  have nF1 : F1 Dd = none := mv.fh.free hD
  refine ⟨fun i m H' => m = xs.length - i ∧ i ≤ xs.length ∧ ∃ F' acc es rest, Mv F1 H1 F' H' ∧ F' Dd = none ∧ H' Dd = some (.lst acc) ∧ RpA K F' acc es ∧ es.length ≤ i ∧ colO (mLcF gm mt me (wipeD δ vs)) (xs.drop i) = some rest ∧ ds = es ++ rest,
    ⟨xs.length, by omega, Nat.zero_le _, F1, [], [], ds, Mv.newO mv.fh hD, nF1, upd_same, .nil, Nat.le_refl _, e, rfl⟩, ?_⟩
  rintro i m H' ⟨rfl, hle, F', acc, es, rest, mv', nF, hq, ra, hes, e', rfl⟩
  obtain ⟨w1, w2⟩ := wk i F' H' mv'.f mv'.fh
  by_cases hlt : i < xs.length
  · have hd : xs.drop i = xs[i] :: xs.drop (i + 1) := List.drop_eq_getElem_cons hlt
    rw [hd] at e'
    unfold colO at e'
    obtain ⟨a, ha, e'⟩ := Option.bind_eq_some_iff.mp e'
    obtain ⟨rest', hr, e'⟩ := Option.bind_eq_some_iff.mp e'
    unfold mLcF at ha
    obtain ⟨δ1, hg1, ha⟩ := Option.bind_eq_some_iff.mp ha
    obtain ⟨b, hb, ha⟩ := Option.bind_eq_some_iff.mp ha
    obtain ⟨hgo, hyl⟩ := w1 _ (List.getElem?_eq_getElem hlt)
    refine .inr ⟨hgo, fun H2 => ∃ F2 acc es' , Mv F1 H1 F2 H2 ∧ F2 Dd = none ∧ H2 Dd = some (.lst acc) ∧ RpA K F2 acc es' ∧ es'.length ≤ i + 1 ∧ es ++ rest = es' ++ rest', fun H2 hN => ?_, fun x H2 hy => ?_⟩
    · obtain ⟨F2, acc2, es2, a1, a2, a3, a4, a5, a6⟩ := hN
      exact ⟨xs.length - (i + 1), by omega, rfl, hlt, F2, acc2, es2, rest', a1, a2, a3, a4, a5, hr, a6⟩
    · obtain ⟨F2, mv2, rx⟩ := hyl x H2 hy
      have nF2 : F2 Dd = none := mv2.sep Dd (by rw [hq]; exact fun z => nomatch z) nF
      have hq2 := mv2.h _ _ hq
      have mv3 := mv'.trans mv2
      have rw1 : Rel K F2 H2 (L2.wipe σ vs) (wipeD δ vs) := ((r1.mv mv3)).wipe vs
      refine hg F2 H2 _ _ x _ δ1 rx mv2.fh hg1 _ fun σ3 h1 h2 h4 => ?_
      have r3 := h2 rw1
      refine ⟨(h4 vs hj).trans (wipe_wipe σ vs vs fun _ h => h), ?_⟩
      refine ht F2 H2 σ3 δ1 r3 b hb _ fun H3 s3 => ?_
      have hq3 := s3 _ _ hq2
      cases b with
      | false =>
        cases ha
        have e2 : rest' = rest := Option.some.inj e'
        subst e2
        show ∃ F2 acc es' , Mv F1 H1 F2 H3 ∧ F2 Dd = none ∧ H3 Dd = some (.lst acc) ∧ RpA K F2 acc es' ∧ es'.length ≤ i + 1 ∧ es ++ rest' = es' ++ rest'
        exact ⟨F2, acc, es, mv3.trans (.grow mv2.fh s3), nF2, hq3, ra.mono mv2.f, by omega, rfl⟩
      | true =>
        obtain ⟨y, hy2, rfl⟩ := Option.map_eq_some_iff.mp ha
        have e2 : y :: rest' = rest := Option.some.inj e'
        subst e2
        have mg : Mv F2 H2 F2 H3 := .grow mv2.fh s3
        show te σ3 H3 fun y H4 => ∃ acc, H4 Dd = some (.lst acc) ∧ acc.length < sizeLine ∧ _
        refine he F2 H3 σ3 δ1 (r3.mv mg) y hy2 _ fun F4 H4 v mv4 ry => ?_
        have nF4 : F4 Dd = none := mv4.sep Dd (by rw [hq3]; exact fun z => nomatch z) nF2
        have hq4 := mv4.h _ _ hq3
        have sF : Same F' F4 := mv2.f.trans mv4.f
        refine ⟨acc, hq4, by rw [ra.len]; exact cap_lt (by omega), F4, acc ++ [v], es ++ [y], ?_, nF4, upd_same, (ra.mono sF).app (.one ry), by rw [List.length_append]; show es.length + 1 ≤ i + 1; omega, by rw [List.append_assoc]; rfl⟩
        have mv5 := (mv3.trans mg).trans mv4
        refine ⟨mv5.f, fun z o hz => ?_, fun z o hz => ?_, mv5.sep⟩
        · rw [upd_ne (ne_of_none hz hD)]
          exact mv5.h _ _ hz
        · rw [upd_ne (ne_of_none hz nF4)]
          exact mv5.fh _ _ hz
  · have hz : xs.drop i = [] := List.drop_eq_nil_of_le (by omega)
    rw [hz] at e'
    cases e'
    rw [List.append_nil] at q
    refine .inl ⟨w2 (by omega), ?_⟩
    exact q F' H' Dd acc (mv.trans mv') (mv.h.free hD) nF hq ra
end Dl
namespace Dl
open PySem PySem.Spec PyProof.Rows L2
variable {K : PySem.W.Frag}

/-! ### operators -/
theorem RpA.ints {F : Hp} : ∀ {vs : List V} {ns : List Int}, RpA K F vs (ns.map PyData.int) → vs = ns.map V.int
  | [], [], _ => rfl
  | _, [], h => by cases h; rfl
  | _, n :: ns, h => by
    cases h with
    | cons h1 h2 =>
      cases h1
      rw [RpA.ints h2]
      rfl
theorem RpA.bls {F : Hp} : ∀ {vs : List V} {ns : List Bool}, RpA K F vs (ns.map PyData.bool) → vs = ns.map V.bl
  | [], [], _ => rfl
  | _, [], h => by cases h; rfl
  | _, n :: ns, h => by
    cases h with
    | cons h1 h2 =>
      cases h1
      rw [RpA.bls h2]
      rfl
theorem OpD.flat {r : R2} {g : D → D → Option D} (h : ∀ F x y d e z, Rp K F x d → Rp K F y e → g d e = some z → ∃ v, (∀ G, Rp K G v z) ∧ ∀ H (Q : VK), Same F H → Q v H → r x y H Q) : OpD K r g := fun F H x y d e z s r1 r2 hg Q q => by
  obtain ⟨v, hv, k⟩ := h F x y d e z r1 r2 hg
  exact k H Q s (q F H v (.rfl' s) (hv F))
def dI2 (f : Int → Int → Int) (c : Int → Int → Bool) : D → D → Option D
  | .int i, .int j => if c i j = true then some (.int (f i j)) else none
  | _, _ => none
theorem op_I {C : Int → Int → Prop} {f : Int → Int → Int} {c : Int → Int → Bool} (hc : ∀ i j, c i j = true → C i j) : OpD K (rI C fun i j => .int (f i j)) (dI2 f c) := .flat fun F x y d e z r1 r2 hg => by
  unfold dI2 at hg
  split at hg
  · rename_i i j
    by_cases h : c i j = true
    · rw [if_pos h] at hg
      cases hg
      cases r1
      cases r2
      exact ⟨_, fun G => .int _, fun H Q _ q => ⟨i, j, rfl, rfl, hc i j h, q⟩⟩
    · rw [if_neg h] at hg
      cases hg
  · cases hg
def dI0 (f : Int → Int → Int) : D → D → Option D
  | .int i, .int j => some (.int (f i j))
  | _, _ => none
theorem op_I0 {f : Int → Int → Int} : OpD K (rI0 fun i j => .int (f i j)) (dI0 f) := .flat fun F x y d e z r1 r2 hg => by
  unfold dI0 at hg
  split at hg
  · rename_i i j
    cases hg
    cases r1
    cases r2
    exact ⟨_, fun G => .int _, fun H Q _ q => ⟨i, j, rfl, rfl, q⟩⟩
  · cases hg
def dB0 (f : Int → Int → Bool) : D → D → Option D
  | .int i, .int j => some (.bool (f i j))
  | _, _ => none
theorem op_B0 {f : Int → Int → Bool} : OpD K (rI0 fun i j => .bl (f i j)) (dB0 f) := .flat fun F x y d e z r1 r2 hg => by
  unfold dB0 at hg
  split at hg
  · rename_i i j
    cases hg
    cases r1
    cases r2
    exact ⟨_, fun G => .bl _, fun H Q _ q => ⟨i, j, rfl, rfl, q⟩⟩
  · cases hg
abbrev dSub := dI0 fun i j => i - j
abbrev dMul := dI2 (fun i j => i * j) fun i j => decide ((-(2 ^ 64) < i ∧ i < 2 ^ 64) ∨ (-(2 ^ 64) < j ∧ j < 2 ^ 64))
abbrev dDiv := dI2 (fun i j => i / j) fun _ j => decide (0 < j ∧ j < 1073741824)
abbrev dMod := dI2 (fun i j => i % j) fun _ j => decide (0 < j)
abbrev dPow := dI2 (fun i j => i ^ j.toNat) fun i j => decide (0 ≤ j ∧ j ≤ 1000000 ∧ i.natAbs < 2 ^ 64)
abbrev dLt := dB0 fun i j => decide (i < j)
abbrev dLe := dB0 fun i j => decide (i ≤ j)
abbrev dGt := dB0 fun i j => decide (j < i)
abbrev dGe := dB0 fun i j => decide (j ≤ i)
theorem od_sub : OpD K (rI0 fun i j => .int (i - j)) dSub := op_I0
theorem od_mul : OpD K (rI CMul fun i j => .int (i * j)) dMul := op_I fun _ _ h => by have h2 := of_decide_eq_true h; exact h2
theorem od_div : OpD K (rI CDiv fun i j => .int (i / j)) dDiv := op_I fun _ _ h => by have h2 := of_decide_eq_true h; exact h2
theorem od_mod : OpD K (rI (fun _ j => 0 < j) fun i j => .int (i % j)) dMod := op_I fun _ _ h => of_decide_eq_true h
theorem od_pow : OpD K (rI CPow fun i j => .int (i ^ j.toNat)) dPow := op_I fun _ _ h => by have h2 := of_decide_eq_true h; exact h2
theorem od_lt : OpD K (rI0 fun i j => .bl (decide (i < j))) dLt := op_B0
theorem od_le : OpD K (rI0 fun i j => .bl (decide (i ≤ j))) dLe := op_B0
theorem od_gt : OpD K (rI0 fun i j => .bl (decide (j < i))) dGt := op_B0
theorem od_ge : OpD K (rI0 fun i j => .bl (decide (j ≤ i))) dGe := op_B0
/-- + : ints, texts, tuples -/
def rAddU (K : PySem.W.Frag) : R2 := fun x y H Q => (rI0 fun i j => .int (i + j)) x y H Q ∨ ((∃ i j, x = .str i ∧ y = .str j ∧ i.length + j.length ≤ sizeLine ∧ Q (.str (i ++ j)) H) ∨ rCatT K x y H Q)
theorem op_addU {X : Cx} : OpR X (binaryOp .Add) (rAddU X.K) := OpR.or op_add (OpR.or op_add_str op_catT)
def dAdd : D → D → Option D
  | .int i, .int j => some (.int (i + j))
  | .str x, .str y => if x.length + y.length ≤ 10000000 then some (.str (x ++ y)) else none
  | .tuple xs, .tuple ys => if xs ≠ [] ∧ xs.length + ys.length ≤ cap then some (.tuple (xs ++ ys)) else none
  | _, _ => none
theorem od_add : OpD K (rAddU K) dAdd := fun F H x y d e z s r1 r2 hg Q q => by
  unfold dAdd at hg
  split at hg
  · rename_i i j
    cases hg
    cases r1
    cases r2
    exact .inl ⟨i, j, rfl, rfl, q F H _ (.rfl' s) (.int _)⟩
  · rename_i i j
    by_cases h : i.length + j.length ≤ 10000000
    · rw [if_pos h] at hg
      cases hg
      cases r1
      cases r2
      exact .inr (.inl ⟨i, j, rfl, rfl, Nat.le_trans h (by decide), q F H _ (.rfl' s) (.str _)⟩)
    · rw [if_neg h] at hg
      cases hg
  · rename_i xs ys
    by_cases h : xs ≠ [] ∧ xs.length + ys.length ≤ cap
    · rw [if_pos h] at hg
      cases hg
      cases r1 with
      | @tup a vs _ rd1 ra1 =>
        cases r2 with
        | @tup b ws _ rd2 ra2 =>
          have hl : vs.length + ws.length ≤ sizeLine := by
            rw [ra1.len, ra2.len]
            exact Nat.le_of_lt (cap_lt h.2)
          refine .inr (.inr ⟨a, b, vs, ws, rfl, rfl, (tqS s rd1), (tqS s rd2), ?_, hl, fun hy => ?_, fun hy p hp => ?_⟩)
          · intro z
            subst z
            cases ra1
            exact h.1 rfl
          · subst hy
            cases ra2
            rw [List.append_nil] at q
            exact q F H _ (.rfl' s) (.tup rd1 ra1)
          · have mv := Mv.new (o := .tup (vs ++ ws)) s hp
            exact q _ _ _ mv (.tup (.inl (.inl upd_same)) ((ra1.app ra2).mono mv.f))
    · rw [if_neg h] at hg
      cases hg
  · cases hg
/-- list + list -/
def rCatS (K : PySem.W.Frag) : R2 := fun x y H Q => ∃ l b xs zs, x = .ref l ∧ y = .ref b ∧ SqL K H l xs ∧ SqL K H b zs ∧ xs.length + zs.length ≤ sizeLine ∧ ∀ p, H p = none → Q (.ref p) (upd H p (.lst (xs ++ zs)))
theorem op_catS {X : Cx} : OpR X (binaryOp .Add) (rCatS X.K) := by
  intro pins s σ H x y v u Q I rx ry h
  obtain ⟨l, b, xs, zs, rfl, rfl, hH, hB, hz, q⟩ := h
  cases rx
  cases ry
  obtain ⟨its, r, ⟨⟨c1, d1, t1, l1⟩, n, e, h1, h2, h3⟩, _⟩ := I.list hH
  obtain ⟨its2, r2, ⟨⟨c2, d2, t2, l2⟩, n2, e2, k1, k2, k3⟩, _⟩ := I.list hB
  simp only at h1 h2 h3 k1 k2 k3
  subst h1 h2 h3 k1 k2 k3
  have hl := r.length
  have hl2 := r2.length
  have hsz : its.toArray.size + its2.toArray.size ≤ sizeLine := by
    rw [List.size_toArray, List.size_toArray]
    omega
  have ea : its.toArray ++ its2.toArray = (its ++ its2).toArray := by simp
  have hz' : (xs ++ zs).length ≤ sizeLine := by
    rw [List.length_append]
    exact hz
  refine concat_meets ⟨_, e, rfl⟩ ⟨_, e2, rfl⟩ noFill_list_add seq_list_add PySem.F.slot_list_add PySem.F.entry_list_add (PySem.F.args_list_add_2 _ _) (list_addW l b its.toArray its2.toArray n n2 none none l1 l2 hsz) ⟨e, e2, ?_⟩
  rw [ea]
  exact ⟨.ref _, _, I.lnew (t' := s.toks) (r.append r2) hz', rfl, q _ I.fresh⟩
def OpO (K : PySem.W.Frag) (r : R2) (g : D → D → Option (List D)) : Prop := ∀ F H x y d e z, Same F H → Rp K F x d → Rp K F y e → g d e = some z → ∀ Q : VK, (∀ F' H' p ws, Mv F H F' H' → H p = none → F' p = none → H' p = some (.lst ws) → RpA K F' ws z → Q (.ref p) H') → r x y H Q
def m2O (g : D → D → Option (List D)) (ma mb : DS → Option D) : DS → Option (List D) := fun δ => (ma δ).bind fun a => (mb δ).bind fun b => g a b
theorem eo_op {r : R2} {g : D → D → Option (List D)} {ta tb : TE} {ma mb : DS → Option D} (ha : Ev K ta ma) (hb : Ev K tb mb) (ho : OpO K r g) : EvO K (tOp r ta tb) (m2O g ma mb) := fun F H σ δ rl d e Q q => by
  unfold m2O at e
  obtain ⟨a, ea, e⟩ := Option.bind_eq_some_iff.mp e
  obtain ⟨b, eb, e⟩ := Option.bind_eq_some_iff.mp e
  refine ha F H σ δ rl a ea _ fun F1 H1 x m1 r1 => ?_
  refine hb F1 H1 σ δ (rl.mv m1) b eb _ fun F2 H2 y m2 r2 => ?_
  exact ho F2 H2 x y a b d m2.fh (r1.mono m2.f) r2 e Q fun F3 H3 p ws m3 h1 h2 h3 r3 => q F3 H3 p ws ((m1.trans m2).trans m3) ((m1.trans m2).h.free h1) h2 h3 r3
def dCat : D → D → Option (List D)
  | .list xs, .list ys => if xs.length + ys.length ≤ cap then some (xs ++ ys) else none
  | _, _ => none
theorem od_cat : OpO K (rCatS K) dCat := fun F H x y d e z s r1 r2 hg Q q => by
  unfold dCat at hg
  split at hg
  · rename_i xs ys
    by_cases h : xs.length + ys.length ≤ cap
    · rw [if_pos h] at hg
      cases hg
      cases r1 with
      | @lst a vs _ rd1 ra1 =>
        cases r2 with
        | @lst b ws _ rd2 ra2 =>
          have hl : vs.length + ws.length ≤ sizeLine := by
            rw [ra1.len, ra2.len]
            exact Nat.le_of_lt (cap_lt h)
          exact ⟨a, b, vs, ws, rfl, rfl, sqS s rd1, sqS s rd2, hl, fun p hp => q F _ p _ (Mv.newO s hp) hp (s.free hp) upd_same (ra1.app ra2)⟩
    · rw [if_neg h] at hg
      cases hg
  · cases hg
/-- list * int -/
def rRepS : R2 := fun x y H Q => ∃ l k xs, x = .ref l ∧ y = .int k ∧ H l = some (.lst xs) ∧ -(2 ^ 63) ≤ k ∧ k < 2 ^ 63 ∧ xs.length * k.toNat ≤ sizeLine ∧ ∀ p, H p = none → Q (.ref p) (upd H p (.lst (List.replicate k.toNat xs).flatten))

/-! == -/
def rEqU (K : PySem.W.Frag) : R2 := fun x y H Q => rEq x y H Q ∨ rEqD K x y H Q
def rNeU (K : PySem.W.Frag) : R2 := fun x y H Q => rNe x y H Q ∨ rNeD K x y H Q
theorem op_eqU {X : Cx} (hu : X.A.units + 64 < cLine) : OpR X (compareOp .Eq) (rEqU X.K) := OpR.or op_eq (op_eqD hu)
theorem op_neU {X : Cx} (hu : X.A.units + 64 < cLine) : OpR X (compareOp .NotEq) (rNeU X.K) := OpR.or op_ne (op_neD hu)
def eqB : D → D → Option Bool
  | .str x, .str y => some (decide (x = y))
  | d, e => if (SeqAt.shaped d && SeqAt.shaped e) = true then some (PyData.eqv d e) else none
def dEq (d e : D) : Option D := (eqB d e).map .bool
def dNe (d e : D) : Option D := (eqB d e).map fun b => .bool (!b)
theorem eqB_cases {F H : Hp} {x y : V} {d e : D} {b : Bool} (s : Same F H) (r1 : Rp K F x d) (r2 : Rp K F y e) (h : eqB d e = some b) :
    (scal x y = true ∧ decide (x = y) = b) ∨ (Dp K H x d ∧ Dp K H y e ∧ SeqAt.shaped d = true ∧ SeqAt.shaped e = true ∧ PyData.eqv d e = b) := by
  unfold eqB at h
  split at h
  · rename_i i j
    cases r1
    cases r2
    refine .inl ⟨rfl, ?_⟩
    have h2 := Option.some.inj h
    rw [← h2]
    by_cases z : i = j
    · rw [decide_eq_true z, decide_eq_true (by rw [z])]
    · rw [decide_eq_false z, decide_eq_false (fun q => z (V.str.inj q))]
  · by_cases hc : (SeqAt.shaped d && SeqAt.shaped e) = true
    · rw [if_pos hc] at h
      rw [Bool.and_eq_true] at hc
      exact .inr ⟨(r1.mono s).dp, (r2.mono s).dp, hc.1, hc.2, Option.some.inj h⟩
    · rw [if_neg hc] at h
      cases h
theorem od_eq : OpD K (rEqU K) dEq := fun F H x y d e z s r1 r2 hg Q q => by
  obtain ⟨b, hb, rfl⟩ := Option.map_eq_some_iff.mp hg
  rcases eqB_cases (K := K) s r1 r2 hb with ⟨h1, h2⟩ | ⟨h1, h2, h3, h4, h5⟩
  · refine .inl ⟨h1, ?_⟩
    rw [h2]
    exact q F H _ (.rfl' s) (.bl b)
  · refine .inr ⟨d, e, h1, h2, h3, h4, ?_⟩
    rw [h5]
    exact q F H _ (.rfl' s) (.bl b)
theorem od_ne : OpD K (rNeU K) dNe := fun F H x y d e z s r1 r2 hg Q q => by
  obtain ⟨b, hb, rfl⟩ := Option.map_eq_some_iff.mp hg
  rcases eqB_cases (K := K) s r1 r2 hb with ⟨h1, h2⟩ | ⟨h1, h2, h3, h4, h5⟩
  · refine .inl ⟨h1, ?_⟩
    rw [h2]
    exact q F H _ (.rfl' s) (.bl (!b))
  · refine .inr ⟨d, e, h1, h2, h3, h4, ?_⟩
    rw [h5]
    exact q F H _ (.rfl' s) (.bl (!b))
/-! is None, is True -/
def rIsU : R2 := fun x y H Q => (y = .non ∧ Q (.bl (decide (x = .non))) H) ∨ rIsB x y H Q
def rNotU : R2 := fun x y H Q => (y = .non ∧ Q (.bl (!decide (x = .non))) H) ∨ rNotB x y H Q
theorem op_isU {X : Cx} : OpR X (compareOp .Is) rIsU := OpR.or op_isN op_isBl
theorem op_notU {X : Cx} : OpR X (compareOp .IsNot) rNotU := OpR.or op_notN op_notBl
def isNoneD : D → Bool
  | .none => true
  | _ => false
def isB : D → D → Option Bool
  | d, .none => some (isNoneD d)
  | .bool a, .bool b => some (decide (a = b))
  | _, _ => none
def dIs (d e : D) : Option D := (isB d e).map .bool
def dIsNot (d e : D) : Option D := (isB d e).map fun b => .bool (!b)
theorem isNone_of {F : Hp} {x : V} {d : D} (h : Rp K F x d) : decide (x = .non) = isNoneD d := by
  cases h <;> rfl
theorem od_is : OpD K rIsU dIs := .flat fun F x y d e z r1 r2 hg => by
  obtain ⟨b, hb, rfl⟩ := Option.map_eq_some_iff.mp hg
  unfold isB at hb
  split at hb
  · cases hb
    cases r2
    exact ⟨_, fun G => .bl _, fun H Q _ q => .inl ⟨rfl, by rw [isNone_of r1]; exact q⟩⟩
  · rename_i a c
    cases hb
    cases r1
    cases r2
    exact ⟨_, fun G => .bl _, fun H Q _ q => .inr ⟨a, c, rfl, rfl, q⟩⟩
  · cases hb
theorem od_isNot : OpD K rNotU dIsNot := .flat fun F x y d e z r1 r2 hg => by
  obtain ⟨b, hb, rfl⟩ := Option.map_eq_some_iff.mp hg
  unfold isB at hb
  split at hb
  · cases hb
    cases r2
    exact ⟨_, fun G => .bl _, fun H Q _ q => .inl ⟨rfl, by rw [isNone_of r1]; exact q⟩⟩
  · rename_i a c
    cases hb
    cases r1
    cases r2
    exact ⟨_, fun G => .bl _, fun H Q _ q => .inr ⟨a, c, rfl, rfl, q⟩⟩
  · cases hb
/-! in, not in: flat things in a list or tuple; a text in a text -/
def inD (d : D) (es : List D) : Bool := es.any fun e => PyData.eqv e d
theorem eqV_eqv {F G : Hp} {x y : V} {d e : D} (h1 : Rp K F x d) (h2 : Rp K G y e) (f1 : flatD d = true) (f2 : flatD e = true) : eqV x y = PyData.eqv d e := by
  cases h1 <;> first | (cases f1; done) | (cases h2 <;> first | (cases f2; done) | (simp [eqV, PyData.eqv]; done))
theorem Rp.flatV {F : Hp} {x : V} {d : D} (h : Rp K F x d) (f : flatD d = true) : L2.flatV x = true := by
  cases h <;> first | rfl | cases f
theorem RpA.flatV {F : Hp} : ∀ {vs : List V} {ds : List D}, RpA K F vs ds → ds.all flatD = true → vs.all L2.flatV = true
  | _, _, .nil, _ => rfl
  | _, _, .cons h r, f => by
    rw [List.all_cons, Bool.and_eq_true] at f
    rw [List.all_cons, h.flatV f.1, RpA.flatV r f.2]
    rfl
theorem inV_inD {F G : Hp} {x : V} {d : D} (h : Rp K G x d) (f : flatD d = true) : ∀ {vs : List V} {ds : List D}, RpA K F vs ds → ds.all flatD = true → inV x vs = inD d ds
  | _, _, .nil, _ => rfl
  | _, _, .cons h1 r, fs => by
    rw [List.all_cons, Bool.and_eq_true] at fs
    have ih := inV_inD h f r fs.2
    unfold inV inD at *
    rw [List.any_cons, List.any_cons, ih, eqV_eqv h1 h fs.1 f]
def rInU (K : PySem.W.Frag) (neg : Bool) : R2 := fun x y H Q => rIn K neg x y H Q
def inB : D → D → Option Bool
  | d, .list es => if (flatD d && es.all flatD) = true then some (inD d es) else none
  | d, .tuple es => if (flatD d && es.all flatD) = true then some (inD d es) else none
  | _, _ => none
theorem inB_cases {F H : Hp} {x y : V} {d e : D} {b : Bool} (s : Same F H) (r1 : Rp K F x d) (r2 : Rp K F y e) (h : inB d e = some b) :
    ∃ p xs, y = .ref p ∧ (SqL K H p xs ∨ SqT K H p xs) ∧ L2.flatV x = true ∧ xs.all L2.flatV = true ∧ inV x xs = b := by
  unfold inB at h
  split at h
  · rename_i es
    by_cases hc : (flatD d && es.all flatD) = true
    · rw [if_pos hc] at h
      rw [Bool.and_eq_true] at hc
      cases h
      cases r2 with
      | @lst p ws _ rd ra => exact ⟨p, ws, rfl, .inl (sqS s rd), r1.flatV hc.1, ra.flatV hc.2, inV_inD r1 hc.1 ra hc.2⟩
    · rw [if_neg hc] at h
      cases h
  · rename_i es
    by_cases hc : (flatD d && es.all flatD) = true
    · rw [if_pos hc] at h
      rw [Bool.and_eq_true] at hc
      cases h
      cases r2 with
      | @tup p ws _ rd ra => exact ⟨p, ws, rfl, .inr (tqS s rd), r1.flatV hc.1, ra.flatV hc.2, inV_inD r1 hc.1 ra hc.2⟩
    · rw [if_neg hc] at h
      cases h
  · cases h
def dIn (d e : D) : Option D := (inB d e).map .bool
def dNotIn (d e : D) : Option D := (inB d e).map fun b => .bool (!b)
theorem od_in : OpD K (rIn K false) dIn := fun F H x y d e z s r1 r2 hg Q q => by
  obtain ⟨b, hb, rfl⟩ := Option.map_eq_some_iff.mp hg
  obtain ⟨p, xs, h1, h2, h3, h4, h5⟩ := inB_cases (K := K) s r1 r2 hb
  refine ⟨p, xs, h1, h2, h3, h4, ?_⟩
  rw [h5]
  exact q F H _ (.rfl' s) (.bl b)
theorem od_notIn : OpD K (rIn K true) dNotIn := fun F H x y d e z s r1 r2 hg Q q => by
  obtain ⟨b, hb, rfl⟩ := Option.map_eq_some_iff.mp hg
  obtain ⟨p, xs, h1, h2, h3, h4, h5⟩ := inB_cases (K := K) s r1 r2 hb
  refine ⟨p, xs, h1, h2, h3, h4, ?_⟩
  rw [h5]
  exact q F H _ (.rfl' s) (.bl (!b))
/-! items and slices -/
def dIx : D → D → Option D
  | .list xs, .int i => atI xs i
  | .tuple xs, .int i => atI xs i
  | .str z, .int i => if z.length ≤ 10000000 then (atI z.cps.toList i).map fun c => .str ⟨#[c]⟩ else none
  | _, _ => none
theorem RpA.atI {F : Hp} {vs : List V} {ds : List D} {i : Int} {d : D} (r : RpA K F vs ds) (h : L2.atI ds i = some d) : ∃ v, L2.atI vs i = some v ∧ Rp K F v d := by
  unfold L2.atI at *
  rw [r.len]
  obtain ⟨j, hj, e⟩ := Option.bind_eq_some_iff.mp h
  rw [hj]
  exact r.get e
theorem od_ix : OpD K (rIx K) dIx := fun F H x y d e z s r1 r2 hg Q q => by
  unfold dIx at hg
  split at hg
  · rename_i xs i
    cases r2
    cases r1 with
    | @lst a vs _ rd ra =>
      obtain ⟨v, h1, h2⟩ := ra.atI hg
      exact .inl ⟨a, vs, i, v, rfl, rfl, (sqS s rd), h1, q F H v (.rfl' s) h2⟩
  · rename_i xs i
    cases r2
    cases r1 with
    | @tup a vs _ rd ra =>
      obtain ⟨v, h1, h2⟩ := ra.atI hg
      exact .inr (.inl ⟨a, vs, i, v, rfl, rfl, (tqS s rd), h1, q F H v (.rfl' s) h2⟩)
  · rename_i w i
    cases r2
    cases r1
    by_cases h : w.length ≤ 10000000
    · rw [if_pos h] at hg
      obtain ⟨c, hc, rfl⟩ := Option.map_eq_some_iff.mp hg
      exact .inr (.inr ⟨w, i, c, rfl, rfl, Nat.le_trans h (by decide), hc, q F H _ (.rfl' s) (.str _)⟩)
    · rw [if_neg h] at hg
      cases hg
  · cases hg
/-- an item of an owned list -/
def mIxO (i : Nat) (mi : DS → Option D) : DS → Option D := fun δ => match δ[i]?, mi δ with
  | some (some (.own ds)), some (.int k) => atI ds k
  | _, _ => none
theorem ev_ixO {i : Nat} {ti : TE} {mi : DS → Option D} (h : Ev K ti mi) : Ev K (tOp (rIx K) (tVar i) ti) (mIxO i mi) := fun F H σ δ r d e Q q => by
  unfold mIxO at e
  split at e
  · rename_i ds k hi hk
    obtain ⟨p, ws, hs, nf, hp, ra⟩ := r.own i ds hi
    refine ⟨_, hs, h F H σ δ r _ hk _ fun F' H' y mv ry => ?_⟩
    cases ry
    obtain ⟨v, h1, h2⟩ := (ra.mono mv.f).atI e
    exact .inl ⟨p, ws, k, v, rfl, rfl, .inl (.inl (mv.h _ _ hp)), h1, q F' H' v mv h2⟩
  · cases e
def EvP (K : PySem.W.Frag) (t : TO) (m : DS → Option (Option Int)) : Prop := ∀ F H σ δ, Rel K F H σ δ → ∀ o, m δ = some o → ∀ Q : Option Int → Hp → Prop, (∀ H', Same H H' → Q o H') → t σ H Q
def mNoP : DS → Option (Option Int) := fun _ => some none
def mP (m : DS → Option D) : DS → Option (Option Int) := fun δ => match m δ with
  | some (.int i) => some (some i)
  | _ => none
theorem ep_none : EvP K tNoPart mNoP := fun F H σ δ r o e Q q => by
  cases e
  exact q H (Same.refl _)
theorem ep_some {t : TE} {m : DS → Option D} (h : Ev K t m) : EvP K (tPart t) (mP m) := fun F H σ δ r o e Q q => by
  unfold mP at e
  split at e
  · rename_i i hm
    cases e
    refine h F H σ δ r _ hm _ fun F' H' v mv rp => ?_
    cases rp
    exact ⟨i, rfl, q H' mv.h⟩
  · cases e
def cutD {α : Type} (xs : List α) (lo hi : Option Int) : List α := (xs.drop (HT.sIx xs.length 0 lo)).take (HT.sIx xs.length xs.length hi - HT.sIx xs.length 0 lo)
theorem RpA.cut {F : Hp} {vs : List V} {ds : List D} (r : RpA K F vs ds) (lo hi : Option Int) : RpA K F (cutV vs lo hi) (cutD ds lo hi) := by
  unfold cutV cutD
  rw [r.len]
  exact (r.dropN _).takeN _
def mSlL (m : DS → Option D) (l u : DS → Option (Option Int)) : DS → Option (List D) := fun δ => match m δ, l δ, u δ with
  | some (.list xs), some lo, some hi => some (cutD xs lo hi)
  | _, _, _ => none
theorem eo_slL {te : TE} {tl th : TO} {m : DS → Option D} {l u : DS → Option (Option Int)} (h : Ev K te m) (hl : EvP K tl l) (hu : EvP K th u) : EvO K (tSl (rSlL K) te tl th) (mSlL m l u) := fun F H σ δ r d e Q q => by
  unfold mSlL at e
  split at e
  · rename_i xs lo hi h1 h2 h3
    cases e
    refine h F H σ δ r _ h1 _ fun F1 H1 v m1 rp => ?_
    refine hl F1 H1 σ δ (r.mv m1) _ h2 _ fun H2 s2 => ?_
    have m2 := m1.trans (.grow m1.fh s2)
    refine hu F1 H2 σ δ (r.mv m2) _ h3 _ fun H3 s3 => ?_
    have m3 := m2.trans (.grow m2.fh s3)
    cases rp with
    | @lst a vs _ rd ra =>
      exact ⟨a, vs, rfl, (sqS m3.fh rd), fun p hp => q F1 _ p _ (m3.trans (Mv.newO m3.fh hp)) (m3.h.free hp) (m3.fh.free hp) upd_same (ra.cut lo hi)⟩
  · cases e
/-- a tuple's slice, not the whole -/
def mSlT (m : DS → Option D) (l u : DS → Option (Option Int)) : DS → Option D := fun δ => match m δ, l δ, u δ with
  | some (.tuple xs), some lo, some hi => if ¬ (HT.sIx xs.length 0 lo = 0 ∧ HT.sIx xs.length xs.length hi = xs.length) then some (.tuple (cutD xs lo hi)) else none
  | _, _, _ => none
theorem ev_slT {te : TE} {tl th : TO} {m : DS → Option D} {l u : DS → Option (Option Int)} (h : Ev K te m) (hl : EvP K tl l) (hu : EvP K th u) : Ev K (tSl (rSlT K) te tl th) (mSlT m l u) := fun F H σ δ r d e Q q => by
  unfold mSlT at e
  split at e
  · rename_i xs lo hi h1 h2 h3
    by_cases hc : ¬ (HT.sIx xs.length 0 lo = 0 ∧ HT.sIx xs.length xs.length hi = xs.length)
    · rw [if_pos hc] at e
      cases e
      refine h F H σ δ r _ h1 _ fun F1 H1 v m1 rp => ?_
      refine hl F1 H1 σ δ (r.mv m1) _ h2 _ fun H2 s2 => ?_
      have m2 := m1.trans (.grow m1.fh s2)
      refine hu F1 H2 σ δ (r.mv m2) _ h3 _ fun H3 s3 => ?_
      have m3 := m2.trans (.grow m2.fh s3)
      cases rp with
      | @tup a vs _ rd ra =>
        refine ⟨a, vs, rfl, (tqS m3.fh rd), by rw [ra.len]; exact hc, fun p hp => ?_⟩
        have mv := Mv.new (o := .tup (cutV vs lo hi)) m3.fh hp
        exact q _ _ _ (m3.trans mv) (.tup (.inl (.inl upd_same)) ((ra.cut lo hi).mono mv.f))
    · rw [if_neg hc] at e
      cases e
  · cases e
/-- -x -/
def dNeg : D → Option D
  | .int i => some (.int (-i))
  | _ => none
theorem ud_neg : UnD K (rU fun i => .int (-i)) dNeg := fun F H x d z s r1 hg Q q => by
  unfold dNeg at hg
  split at hg
  · rename_i i
    cases hg
    cases r1
    exact ⟨i, rfl, q F H _ (.rfl' s) (.int _)⟩
  · cases hg
end Dl
namespace Dl
open PySem PySem.Spec PyProof.Rows L2
variable {K : PySem.W.Frag}

/-! ### built-ins -/
theorem CallD.one {r : List V → Hp → VK → Prop} {g : List D → Option D} (h : ∀ F H vs ds z, Same F H → RpA K F vs ds → g ds = some z → ∃ v, (∀ G, Rp K G v z) ∧ ∀ Q : VK, Q v H → r vs H Q) : CallD K r g := fun F H vs ds z s ra hg Q q => by
  obtain ⟨v, hv, k⟩ := h F H vs ds z s ra hg
  exact k Q (q F H v (.rfl' s) (hv F))
def dLen : List D → Option D
  | [.list xs] => some (.int xs.length)
  | [.tuple xs] => some (.int xs.length)
  | [.str x] => if x.length ≤ 10000000 then some (.int x.length) else none
  | _ => none
theorem cd_len : CallD K (fun xs H Q => ∃ x n, xs = [x] ∧ LenV K x H n ∧ Q (.int (n : Nat)) H) dLen := .one fun F H vs ds z s ra hg => by
  unfold dLen at hg
  split at hg
  · rename_i xs
    cases hg
    cases ra with
    | cons r1 r2 =>
      cases r2
      cases r1 with
      | @lst a ws _ rd ra => exact ⟨_, fun G => .int _, fun Q q => ⟨_, xs.length, rfl, .inl ⟨ws, (sqS s rd), ra.len.symm⟩, q⟩⟩
  · rename_i xs
    cases hg
    cases ra with
    | cons r1 r2 =>
      cases r2
      cases r1 with
      | @tup a ws _ rd ra => exact ⟨_, fun G => .int _, fun Q q => ⟨_, xs.length, rfl, .inr ⟨ws, (tqS s rd), ra.len.symm⟩, q⟩⟩
  · rename_i x
    by_cases h : x.length ≤ 10000000
    · rw [if_pos h] at hg
      cases hg
      cases ra with
      | cons r1 r2 =>
        cases r2
        cases r1
        exact ⟨_, fun G => .int _, fun Q q => ⟨_, x.length, rfl, ⟨Nat.le_trans h (by decide), rfl⟩, q⟩⟩
    · rw [if_neg h] at hg
      cases hg
  · cases hg
/-- len of an owned list -/
def mLenO (i : Nat) : DS → Option D := fun δ => match δ[i]? with
  | some (some (.own ds)) => some (.int ds.length)
  | _ => none
theorem ev_lenO {i : Nat} : Ev K (tCB (fun xs H Q => ∃ x n, xs = [x] ∧ LenV K x H n ∧ Q (.int (n : Nat)) H) (tCons (tVar i) tNil)) (mLenO i) := fun F H σ δ r d e Q q => by
  unfold mLenO at e
  split at e
  · rename_i ds hi
    cases e
    obtain ⟨p, ws, hs, nf, hp, ra⟩ := r.own i ds hi
    exact ⟨_, hs, _, ds.length, rfl, .inl ⟨ws, .inl (.inl hp), ra.len.symm⟩, q F H _ (.rfl' r.fh) (.int _)⟩
  · cases e
def dInt : List D → Option D
  | [.int i] => some (.int i)
  | [.bool b] => some (.int (if b then 1 else 0))
  | _ => none
theorem cd_int : CallD K (fun xs H Q => (∃ i, xs = [.int i] ∧ Q (.int i) H) ∨ ∃ k, xs = [.bl k] ∧ Q (.int (if k then 1 else 0)) H) dInt := .one fun F H vs ds z s ra hg => by
  unfold dInt at hg
  split at hg
  · cases hg
    cases ra with
    | cons r1 r2 =>
      cases r2
      cases r1
      exact ⟨_, fun G => .int _, fun Q q => .inl ⟨_, rfl, q⟩⟩
  · cases hg
    cases ra with
    | cons r1 r2 =>
      cases r2
      cases r1
      exact ⟨_, fun G => .int _, fun Q q => .inr ⟨_, rfl, q⟩⟩
  · cases hg
def dAbs : List D → Option D
  | [.int i] => some (.int (if i < 0 then -i else i))
  | _ => none
theorem cd_abs : CallD K (fun xs H Q => ∃ i, xs = [.int i] ∧ Q (.int (if i < 0 then -i else i)) H) dAbs := .one fun F H vs ds z s ra hg => by
  unfold dAbs at hg
  split at hg
  · cases hg
    cases ra with
    | cons r1 r2 =>
      cases r2
      cases r1
      exact ⟨_, fun G => .int _, fun Q q => ⟨_, rfl, q⟩⟩
  · cases hg
def dMax2 : List D → Option D
  | [.int i, .int j] => some (.int (if j > i then j else i))
  | _ => none
def dMin2 : List D → Option D
  | [.int i, .int j] => some (.int (if j < i then j else i))
  | _ => none
theorem cd_max2 : CallD K (fun xs H Q => ∃ i j, xs = [.int i, .int j] ∧ Q (.int (if j > i then j else i)) H) dMax2 := .one fun F H vs ds z s ra hg => by
  unfold dMax2 at hg
  split at hg
  · cases hg
    cases ra with
    | cons r1 r2 =>
      cases r2 with
      | cons r2 r3 =>
        cases r3
        cases r1
        cases r2
        exact ⟨_, fun G => .int _, fun Q q => ⟨_, _, rfl, q⟩⟩
  · cases hg
theorem cd_min2 : CallD K (fun xs H Q => ∃ i j, xs = [.int i, .int j] ∧ Q (.int (if j < i then j else i)) H) dMin2 := .one fun F H vs ds z s ra hg => by
  unfold dMin2 at hg
  split at hg
  · cases hg
    cases ra with
    | cons r1 r2 =>
      cases r2 with
      | cons r2 r3 =>
        cases r3
        cases r1
        cases r2
        exact ⟨_, fun G => .int _, fun Q q => ⟨_, _, rfl, q⟩⟩
  · cases hg
def asBs : List D → Option (List Bool)
  | [] => some []
  | .bool b :: ds => (asBs ds).map fun r => b :: r
  | _ :: _ => none
theorem asBs_some : ∀ {ds : List D} {bs : List Bool}, asBs ds = some bs → ds = bs.map PyData.bool
  | [], _, h => by cases h; rfl
  | .bool b :: ds, bs, h => by
    unfold asBs at h
    obtain ⟨r, hr, rfl⟩ := Option.map_eq_some_iff.mp h
    rw [asBs_some hr]
    rfl
  | .none :: _, _, h => by cases h
  | .int _ :: _, _, h => by cases h
  | .str _ :: _, _, h => by cases h
  | .list _ :: _, _, h => by cases h
  | .tuple _ :: _, _, h => by cases h
  | .dict _ :: _, _, h => by cases h
def asIs : List D → Option (List Int)
  | [] => some []
  | .int b :: ds => (asIs ds).map fun r => b :: r
  | _ :: _ => none
theorem asIs_some : ∀ {ds : List D} {bs : List Int}, asIs ds = some bs → ds = bs.map PyData.int
  | [], _, h => by cases h; rfl
  | .int b :: ds, bs, h => by
    unfold asIs at h
    obtain ⟨r, hr, rfl⟩ := Option.map_eq_some_iff.mp h
    rw [asIs_some hr]
    rfl
  | .none :: _, _, h => by cases h
  | .bool _ :: _, _, h => by cases h
  | .str _ :: _, _, h => by cases h
  | .list _ :: _, _, h => by cases h
  | .tuple _ :: _, _, h => by cases h
  | .dict _ :: _, _, h => by cases h
def dAll : List D → Option D
  | [.list ds] => (asBs ds).map fun bs => .bool (bs.all id)
  | _ => none
def dAny : List D → Option D
  | [.list ds] => (asBs ds).map fun bs => .bool (bs.any id)
  | _ => none
def dSum : List D → Option D
  | [.list ds] => (asIs ds).map fun ns => .int ns.sum
  | _ => none
theorem cd_all : CallD K (rAll K) dAll := .one fun F H vs ds z s ra hg => by
  unfold dAll at hg
  split at hg
  · obtain ⟨bs, hb, rfl⟩ := Option.map_eq_some_iff.mp hg
    have e := asBs_some hb
    subst e
    cases ra with
    | cons r1 r2 =>
      cases r2
      cases r1 with
      | @lst a ws _ rd ra =>
        have e := ra.bls
        subst e
        exact ⟨_, fun G => .bl _, fun Q q => ⟨a, bs, rfl, (sqS s rd), q⟩⟩
  · cases hg
theorem cd_any : CallD K (rAny K) dAny := .one fun F H vs ds z s ra hg => by
  unfold dAny at hg
  split at hg
  · obtain ⟨bs, hb, rfl⟩ := Option.map_eq_some_iff.mp hg
    have e := asBs_some hb
    subst e
    cases ra with
    | cons r1 r2 =>
      cases r2
      cases r1 with
      | @lst a ws _ rd ra =>
        have e := ra.bls
        subst e
        exact ⟨_, fun G => .bl _, fun Q q => ⟨a, bs, rfl, (sqS s rd), q⟩⟩
  · cases hg
theorem cd_sum : CallD K (rSum K) dSum := .one fun F H vs ds z s ra hg => by
  unfold dSum at hg
  split at hg
  · obtain ⟨bs, hb, rfl⟩ := Option.map_eq_some_iff.mp hg
    have e := asIs_some hb
    subst e
    cases ra with
    | cons r1 r2 =>
      cases r2
      cases r1 with
      | @lst a ws _ rd ra =>
        have e := ra.ints
        subst e
        exact ⟨_, fun G => .int _, fun Q q => ⟨a, bs, rfl, (sqS s rd), q⟩⟩
  · cases hg
/-- list(xs) -/
def dListOf : List D → Option (List D)
  | [.list xs] => some xs
  | [.tuple xs] => some xs
  | _ => none
theorem co_list : CallO K (fun xs H Q => ∃ p ys, xs = [.ref p] ∧ (SqL K H p ys ∨ SqT K H p ys) ∧ ∀ l, H l = none → Q (.ref l) (upd H l (.lst ys))) dListOf := fun F H vs ds z s ra hg Q q => by
  unfold dListOf at hg
  split at hg
  · cases hg
    cases ra with
    | cons r1 r2 =>
      cases r2
      cases r1 with
      | @lst a ws _ rd ra => exact ⟨a, ws, rfl, .inl (sqS s rd), fun l hl => q F _ l _ (Mv.newO s hl) hl (s.free hl) upd_same ra⟩
  · cases hg
    cases ra with
    | cons r1 r2 =>
      cases r2
      cases r1 with
      | @tup a ws _ rd ra => exact ⟨a, ws, rfl, .inr (tqS s rd), fun l hl => q F _ l _ (Mv.newO s hl) hl (s.free hl) upd_same ra⟩
  · cases hg
/-- isinstance(x, T) -/
def tyName : D → String
  | .none => "NoneType"
  | .bool _ => "bool"
  | .int _ => "int"
  | .str _ => "str"
  | .list _ => "list"
  | .tuple _ => "tuple"
  | .dict _ => "dict"
theorem tyX {F H : Hp} {v : V} {d : D} (s : Same F H) (r : Rp K F v d) : TyX K H v (.type (tyName d)) := by
  cases r with
  | non => exact .base .non
  | bl b => exact .base (.bl b)
  | int i => exact .base (.int i)
  | str x => exact .base (.str x)
  | lst rd _ =>
    rcases sqS s rd with (h | ⟨o, h⟩) | ⟨o, its, n, e, c, _⟩
    · exact .base (.lst h)
    · exact .base (.frz h)
    · exact .kList e c
  | tup rd _ =>
    rcases tqS s rd with (h | ⟨o, h⟩) | ⟨o, its, n, e, c, _⟩
    · exact .base (.tup h)
    · exact .fTuple h
    · exact .kTuple e c
def isiD (T : String) (d : D) : Option D := (kitB (tyName d) T).map .bool
def mIsi (T : String) (m : DS → Option D) : DS → Option D := fun δ => (m δ).bind (isiD T)
theorem ev_isi {T : String} {te : TE} {m : DS → Option D} (h : Ev K te m) : Ev K (tCB (rIsi K) (tCons te (tCons (tC (.ty T)) tNil))) (mIsi T m) := fun F H σ δ r d e Q q => by
  obtain ⟨a, ha, e⟩ := Option.bind_eq_some_iff.mp e
  obtain ⟨b, hb, rfl⟩ := Option.map_eq_some_iff.mp e
  refine h F H σ δ r a ha _ fun F1 H1 v m1 rp => ?_
  exact ⟨v, .ty T, _, .type T, b, rfl, .ty T, tyX m1.fh rp, kit_ty hb, q F1 H1 _ m1 (.bl b)⟩

/-! min(xs, default=d), max(xs, default=d): ints -/
theorem reads_ints {h : Heap} : ∀ {us : List Value} {ns : List Int}, Vals (ns.map V.int) us → ∃ as, ReadsAll h us (ns.map PyData.int) as
  | us, [], r => by
    cases r
    exact ⟨_, .nil⟩
  | us, n :: ns, r => by
    cases r with
    | cons r1 r2 =>
      obtain ⟨t, rfl⟩ := r1
      obtain ⟨as, q⟩ := reads_ints r2
      exact ⟨_, .cons (.int n t) q⟩
end Dl
namespace Dl
open PySem PySem.Spec PyProof.Rows L2
variable {K : PySem.W.Frag}

/-! ### min(xs, default=d), max(xs, default=d) of ints -/
theorem alike_ints (ns : List Int) : PySem.W.AlikeAll (ns.map PyData.int) := by
  refine ⟨fun x hx y hy => ?_, fun x hx z => ?_⟩
  · obtain ⟨a, _, rfl⟩ := List.mem_map.mp hx
    obtain ⟨b, _, rfl⟩ := List.mem_map.mp hy
    simp [PySem.W.alike]
  · obtain ⟨a, _, rfl⟩ := List.mem_map.mp hx
    cases z
theorem depth_ints : ∀ ns : List Int, PyData.depthAll (ns.map PyData.int) = 0
  | [] => rfl
  | n :: ns => by
    rw [List.map_cons, PyData.depthAll, depth_ints ns]
    rfl
def rMinDf (K : PySem.W.Frag) (pick : Int → Int → Int) : List V → List V → Hp → VK → Prop := fun xs zs H Q => ∃ (a : Addr) (ns : List Int) (v : V), xs = [.ref a] ∧ zs = [v] ∧ SqL K H a (ns.map V.int) ∧ (ns = [] → Q v H) ∧ ∀ n r, ns = n :: r → Q (.int (r.foldl pick n)) H
section
variable {X : Cx}
theorem cr_minDf {k : Nat} (hr : Room k X.A) : CallRK X (.builtin "min") [Str.ofString "default"] (rMinDf X.K min) := by
  intro pins s σ H xs zs us ws Q I r1 r2 h
  obtain ⟨a, ns, v, rfl, rfl, hs, q0, q1⟩ := h
  obtain ⟨u, rfl, ru⟩ := vals1 r1
  obtain ⟨w, rfl, rw'⟩ := vals1 r2
  cases ru
  obtain ⟨its, rv, hl, _⟩ := I.list hs
  obtain ⟨as, hra⟩ := reads_ints (h := s.heap) rv
  show wpAny _ _ (call (.builtin "min") [.ref a] [(Str.ofString "default", w)]) _ _ _
  refine PySem.W.min_list_default (xs := ns.map PyData.int) hr.hd hl.isList (by simpa using hra) (alike_ints ns) (by rw [depth_ints]; have := hr.un; omega) (fun e h' tk hk => ?_) (fun y ys i v' h' tk bs e hi hrd hk => ?_)
  · exact ⟨v, H, I.kept hk, rw', q0 (List.map_eq_nil_iff.mp e)⟩
  · cases ns with
    | nil => cases e
    | cons n r =>
      cases e
      rw [PySem.W.minD_ints] at hrd
      cases hrd
      exact ⟨.int _, H, I.kept hk, ⟨_, rfl⟩, q1 n r rfl⟩
theorem cr_maxDf {k : Nat} (hr : Room k X.A) : CallRK X (.builtin "max") [Str.ofString "default"] (rMinDf X.K max) := by
  intro pins s σ H xs zs us ws Q I r1 r2 h
  obtain ⟨a, ns, v, rfl, rfl, hs, q0, q1⟩ := h
  obtain ⟨u, rfl, ru⟩ := vals1 r1
  obtain ⟨w, rfl, rw'⟩ := vals1 r2
  cases ru
  obtain ⟨its, rv, hl, _⟩ := I.list hs
  obtain ⟨as, hra⟩ := reads_ints (h := s.heap) rv
  show wpAny _ _ (call (.builtin "max") [.ref a] [(Str.ofString "default", w)]) _ _ _
  refine PySem.W.max_list_default (xs := ns.map PyData.int) hr.hd hl.isList (by simpa using hra) (alike_ints ns) (by rw [depth_ints]; have := hr.un; omega) (fun e h' tk hk => ?_) (fun y ys i v' h' tk bs e hi hrd hk => ?_)
  · exact ⟨v, H, I.kept hk, rw', q0 (List.map_eq_nil_iff.mp e)⟩
  · cases ns with
    | nil => cases e
    | cons n r =>
      cases e
      rw [PySem.W.maxD_ints] at hrd
      cases hrd
      exact ⟨.int _, H, I.kept hk, ⟨_, rfl⟩, q1 n r rfl⟩
end
def CallKD (K : PySem.W.Frag) (r : List V → List V → Hp → VK → Prop) (g : List D → List D → Option D) : Prop := ∀ F H vs zs ds es z, Same F H → RpA K F vs ds → RpA K F zs es → g ds es = some z → ∀ Q : VK, (∀ F' H' v, Mv F H F' H' → Rp K F' v z → Q v H') → r vs zs H Q
def mCallK (ms mk : DS → Option (List D)) (g : List D → List D → Option D) : DS → Option D := fun δ => (ms δ).bind fun a => (mk δ).bind fun b => g a b
theorem ev_ckw {n k : Nat} {r : List V → List V → Hp → VK → Prop} {t tk : TA} {ms mk : DS → Option (List D)} {g : List D → List D → Option D} (ha : EvA K n t ms) (hb : EvA K k tk mk) (hc : CallKD K r g) : Ev K (tCKw r t tk) (mCallK ms mk g) := fun F H σ δ rl d e Q q => by
  obtain ⟨a, ea, e⟩ := Option.bind_eq_some_iff.mp e
  obtain ⟨b, eb, e⟩ := Option.bind_eq_some_iff.mp e
  refine ha F H σ δ rl a ea _ fun F1 H1 vs m1 r1 hl => ?_
  refine hb F1 H1 σ δ (rl.mv m1) b eb _ fun F2 H2 zs m2 r2 hl2 => ?_
  exact hc F2 H2 vs zs a b d m2.fh (r1.mono m2.f) r2 e Q fun F3 H3 v m3 r3 => q F3 H3 v ((m1.trans m2).trans m3) r3
def dPick (pick : Int → Int → Int) : List D → List D → Option D
  | [.list ds], [e] => match asIs ds with
    | some [] => some e
    | some (n :: r) => some (.int (r.foldl pick n))
    | none => none
  | _, _ => none
theorem ck_pick {pick : Int → Int → Int} : CallKD K (rMinDf K pick) (dPick pick) := fun F H vs zs ds es z s r1 r2 hg Q q => by
  unfold dPick at hg
  split at hg
  · rename_i ds e
    cases r1 with
    | cons a1 a2 =>
      cases a2
      cases r2 with
      | cons b1 b2 =>
        cases b2
        cases a1 with
        | @lst a ws _ rd ra =>
          split at hg
          · rename_i hn
            cases hg
            have e1 := asIs_some hn
            subst e1
            have e2 := RpA.ints (ns := []) ra
            subst e2
            exact ⟨a, [], _, rfl, rfl, (sqS s rd), fun _ => q F H _ (.rfl' s) b1, fun n r z => (nomatch z)⟩
          · rename_i n r hn
            cases hg
            have e1 := asIs_some hn
            subst e1
            have e2 := RpA.ints (ns := n :: r) ra
            subst e2
            refine ⟨a, n :: r, _, rfl, rfl, (sqS s rd), fun z => (nomatch z), fun n' r' z => ?_⟩
            cases z
            exact q F H _ (.rfl' s) (.int _)
          · cases hg
  · cases hg

/-! ### repr of lists and tuples (where no repr runs) -/
mutual
theorem Rp.noDict {F : Hp} : ∀ {d : D} {v : V}, Rp K F v d → d.hasDict = false
  | _, _, .non => rfl
  | _, _, .bl _ => rfl
  | _, _, .int _ => rfl
  | _, _, .str _ => rfl
  | _, _, .lst _ r => by rw [PyData.hasDict]; exact RpA.noDict r
  | _, _, .tup _ r => by rw [PyData.hasDict]; exact RpA.noDict r
theorem RpA.noDict {F : Hp} : ∀ {ds : List D} {vs : List V}, RpA K F vs ds → PyData.hasDictAll ds = false
  | _, _, .nil => rfl
  | _, _, .cons h r => by
    rw [PyData.hasDictAll, Rp.noDict h, RpA.noDict r]
    rfl
end
def rRepr (K : PySem.W.Frag) : List V → Hp → VK → Prop := fun xs H Q => ∃ (a : Addr) (d : D), xs = [.ref a] ∧ Dp K H (.ref a) d ∧ d.showable = true ∧ d.hasDict = false ∧ d.depth ≤ 60 ∧ d.shown.length ≤ 10000000 ∧ Q (.str d.shown) H
theorem cr_repr {X : Cx} {k : Nat} (hr : Room k X.A) (hg : X.A.guards = some []) : CallR X (.builtin "repr") (rRepr X.K) := by
  intro pins s σ H xs us Q I r h
  obtain ⟨a, d, rfl, hd, h1, h2, h3, h4, q⟩ := h
  obtain ⟨u, rfl, ru⟩ := vals1 r
  cases ru
  obtain ⟨as, hrd⟩ := Dp.reads I d _ _ hd rfl
  have hu : X.A.units + (d.depth + 1) < cLine := by
    have := hr.un
    omega
  refine repr_of_reads' hrd h1 (PyData.noDict_hsm h2) hg hu (fun _ _ e => e) (fun h' u tk hk => ?_) (Nat.le_trans h4 (by decide))
  exact ⟨.str _, H, I.kept hk, ⟨_, rfl⟩, q⟩
def reprOk (d : D) : Bool := d.showable && decide (d.depth ≤ 60) && decide (d.shown.length ≤ 10000000)
def dRepr : List D → Option D
  | [.list ds] => if reprOk (.list ds) = true then some (.str (PyData.list ds).shown) else none
  | [.tuple ds] => if reprOk (.tuple ds) = true then some (.str (PyData.tuple ds).shown) else none
  | _ => none
theorem cd_repr : CallD K (rRepr K) dRepr := .one fun F H vs ds z s ra hg => by
  unfold dRepr at hg
  split at hg
  · rename_i es
    by_cases h : reprOk (.list es) = true
    · rw [if_pos h] at hg
      cases hg
      unfold reprOk at h
      rw [Bool.and_eq_true, Bool.and_eq_true] at h
      cases ra with
      | cons r1 r2 =>
        cases r2
        have nd := r1.noDict
        have r1' := (r1.mono s).dp (K := K)
        cases r1 with
        | @lst a ws _ rd ra => exact ⟨_, fun G => .str _, fun Q q => ⟨a, _, rfl, r1', h.1.1, nd, of_decide_eq_true h.1.2, of_decide_eq_true h.2, q⟩⟩
    · rw [if_neg h] at hg
      cases hg
  · rename_i es
    by_cases h : reprOk (.tuple es) = true
    · rw [if_pos h] at hg
      cases hg
      unfold reprOk at h
      rw [Bool.and_eq_true, Bool.and_eq_true] at h
      cases ra with
      | cons r1 r2 =>
        cases r2
        have nd := r1.noDict
        have r1' := (r1.mono s).dp (K := K)
        cases r1 with
        | @tup a ws _ rd ra => exact ⟨_, fun G => .str _, fun Q q => ⟨a, _, rfl, r1', h.1.1, nd, of_decide_eq_true h.1.2, of_decide_eq_true h.2, q⟩⟩
    · rw [if_neg h] at hg
      cases hg
  · cases hg

/-! ### a def by its body -/
def startD (n : Nat) (ds : List D) : DS := ds.map (fun d => some (.val d)) ++ List.replicate (n - ds.length) none
def fnD (n k : Nat) (mm : DS → Option Out) : List D → Option DV := fun ds => if ds.length = k then
    match mm (startD n ds) with
    | some (.nx _) => some (.val .none)
    | some (.rt r) => some r
    | _ => none
  else none
theorem start_get {N : List Str} {vs : List V} {i : Nat} : (L2.start N vs)[i]? = if i < vs.length then (vs[i]?).map some else if i < vs.length + (N.length - vs.length) then some none else none := by
  unfold L2.start
  by_cases h : i < vs.length
  · rw [if_pos h, List.getElem?_append_left (by rw [List.length_map]; exact h), List.getElem?_map]
  · rw [if_neg h, List.getElem?_append_right (by rw [List.length_map]; omega), List.length_map, List.getElem?_replicate]
    by_cases h2 : i < vs.length + (N.length - vs.length)
    · rw [if_pos h2, if_pos (by omega)]
    · rw [if_neg h2, if_neg (by omega)]
theorem rel_start {F H : Hp} {N : List Str} {vs : List V} {ds : List D} (s : Same F H) (ra : RpA K F vs ds) : RelS K F H F H (L2.start N vs) (startD N.length ds) := by
  have hl := ra.len
  have get : ∀ (i : Nat) r, (startD N.length ds)[i]? = some (some r) → ∃ d, r = .val d ∧ ds[i]? = some d := fun i r h => by
    unfold startD at h
    by_cases hi : i < ds.length
    · rw [List.getElem?_append_left (by rw [List.length_map]; exact hi), List.getElem?_map] at h
      obtain ⟨d, h1, h2⟩ := Option.map_eq_some_iff.mp h
      exact ⟨d, (Option.some.inj h2).symm, h1⟩
    · rw [List.getElem?_append_right (by rw [List.length_map]; omega), List.getElem?_replicate] at h
      split at h <;> cases h
  refine ⟨⟨s, ?_, fun i d h => ?_, fun i es h => ?_⟩, Same.refl _, Same.refl _, fun _ _ h => h, fun i es p h => ?_, fun i j es fs p _ h => ?_⟩
  · unfold L2.start startD
    rw [List.length_append, List.length_append, List.length_map, List.length_map, List.length_replicate, List.length_replicate, hl]
  · obtain ⟨d', e, hd⟩ := get i _ h
    cases e
    obtain ⟨v, hv, rv⟩ := ra.get hd
    refine ⟨v, ?_, rv⟩
    rw [start_get, if_pos (List.getElem?_eq_some_iff.mp hv).1, hv]
    rfl
  · obtain ⟨d', e, hd⟩ := get i _ h
    cases e
  · obtain ⟨d', e, hd⟩ := get i _ h
    cases e
  · obtain ⟨d', e, hd⟩ := get i _ h
    cases e
theorem fnD_go {t : TS} {mm : DS → Option Out} (h : SD K t mm) {N : List Str} {k : Nat} {vs : List V} {H : Hp} {Q : VK} {E : XK} (sp : spD K (fnD N.length k mm) vs H Q E) : t { nx := fun _ H' => Q .non H', rt := Q } (L2.start N vs) H := by
  obtain ⟨F, ds, r, s, ra, e, q⟩ := sp
  unfold fnD at e
  by_cases hk : ds.length = k
  · rw [if_pos hk] at e
    have rl := rel_start (N := N) s ra
    split at e
    · rename_i δ' hm
      cases e
      refine h F H F H _ _ rl _ hm _ fun F' H' σ s' r' => ?_
      exact q F' H' _ r'.back .non
    · rename_i r' hm
      cases e
      refine h F H F H _ _ rl _ hm _ fun F' H' v mv rk => ?_
      exact q F' H' v mv rk
    · cases e
  · rw [if_neg hk] at e
    cases e
theorem fnD_len {n k : Nat} {mm : DS → Option Out} {vs : List V} {H : Hp} {Q : VK} {E : XK} (sp : spD K (fnD n k mm) vs H Q E) : vs.length = k := by
  obtain ⟨F, ds, r, s, ra, e, q⟩ := sp
  unfold fnD at e
  by_cases hk : ds.length = k
  · rw [ra.len, hk]
  · rw [if_neg hk] at e
    cases e
section
variable {P : Program} {w : World} {mg : Str → Option Value} {base : Heap}
/-- THE RULE for a def of data -/
theorem okD {x qual : Str} {st : Stmt} {f : Addr} {fd : FuncData} {N ps : List Str} {k : Nat} {mm : DS → Option Out} (F : Fun K x qual st f fd) (S : FnScope N ps (defScope st))
    (hbody : ∀ (cdv : Value) (A : Around) (outer : List Env) (s : Shared) (H : Hp) (E : XK), Room k (A.deeper (envOfC qual (defScope st) s.heap.objs.size f cdv)) →
      ∃ t, PSs (cxOf CX0 P w K mg base N qual (defScope st) f cdv A outer s H E).nox (defBody st) t ∧ SD K t mm) : FnOk P w K mg base CX0 (k + 1) f fd ps (spD K (fnD N.length ps.length mm)) := by
  refine F.ok S (fun vs H Q E h => fnD_len h) (fun cdv A outer s H vs Q E hr h => ?_)
  obtain ⟨t, h1, h2⟩ := hbody cdv A outer s H E hr
  exact ⟨t, h1, fnD_go h2 h⟩
/-- nothing promised -/
theorem okNo {f : Addr} {fd : FuncData} {ps : List Str} {k : Nat} : FnOk P w K mg base CX0 k f fd ps (spD K fun _ => none) := by
  refine ⟨fun vs H Q E h => ?_, fun A outer s H args us vs Q E hr e0 hb r h => ?_⟩
  · obtain ⟨F, ds, r, s, ra, e, q⟩ := h
    cases e
  · obtain ⟨F, ds, r, s, ra, e, q⟩ := h
    cases e
/-- a def of the text that keeps its promise, with all that a call of it wants -/
structure Df (P : Program) (w : World) (K : PySem.W.Frag) (mg : Str → Option Value) (base : Heap) (k : Nat) (x : Str) (ps : List Str) (fm : List D → Option DV) : Prop where
  ex : ∃ (f : Addr) (fd : FuncData), mg x = some (.ref f) ∧ PySem.W.keepIn K (.ref f) = true ∧ Binds K fd ps [] ∧ FnOk P w K mg base CX0 k f fd ps (spD K fm)
theorem Df.mono {j k : Nat} {x : Str} {ps : List Str} {fm : List D → Option DV} (h : Df P w K mg base j x ps fm) (hk : j ≤ k) : Df P w K mg base k x ps fm := by
  obtain ⟨f, fd, h1, h2, h3, h4⟩ := h.ex
  exact ⟨f, fd, h1, h2, h3, h4.mono hk⟩
/-- what the top has of a def -/
structure Tx (K : PySem.W.Frag) (mg : Str → Option Value) (x : Str) (st : Stmt) (ps : List Str) (f : Addr) (fd : FuncData) : Prop where
  fn : Fun K x x st f fd
  gl : mg x = some (.ref f)
  bd : Binds K fd ps []
theorem Tx.df {x : Str} {st : Stmt} {N ps : List Str} {k : Nat} {mm : DS → Option Out} {f : Addr} {fd : FuncData} (T : Tx K mg x st ps f fd) (S : FnScope N ps (defScope st))
    (hbody : ∀ (cdv : Value) (A : Around) (outer : List Env) (s : Shared) (H : Hp) (E : XK), Room k (A.deeper (envOfC x (defScope st) s.heap.objs.size f cdv)) →
      ∃ t, PSs (cxOf CX0 P w K mg base N x (defScope st) f cdv A outer s H E).nox (defBody st) t ∧ SD K t mm) : Df P w K mg base (k + 1) x ps (fnD N.length ps.length mm) :=
  ⟨f, fd, T.gl, T.fn.kp, T.bd, okD T.fn S hbody⟩
theorem Tx.no {x : Str} {st : Stmt} {ps : List Str} {k : Nat} {f : Addr} {fd : FuncData} (T : Tx K mg x st ps f fd) : Df P w K mg base k x ps fun _ => none :=
  ⟨f, fd, T.gl, T.fn.kp, T.bd, okNo⟩
end
/-- a call of such a def -/
theorem pe_d {X : Cx} {k : Nat} {x : Str} {ps : List Str} {fm : List D → Option DV} {p pos : Pos} {e : Expr} {es : List Expr} {t : TA} (Dx : Df X.prog X.w X.K X.mg X.base k x ps fm) (hr : Room k X.A) (hg : Gl X x) (ha : PA X (e :: es) t)
    (he : starEach (e :: es) X.env = (false, eval e X.env) :: starEach es X.env := by rfl) (hpl : (backTo pos (starEach es X.env)).any (·.1) = false := by rfl) (hdb : (x == ("__debug__" : Str)) = false := by decide) :
    PE X (.Call (.Name x p) (e :: es) [] pos) (tCall (spD X.K fm) [] E0 t) := by
  obtain ⟨f, fd, h1, h2, h3, h4⟩ := Dx.ex
  exact pe_call h4 hr hg h1 h2 h3 .nil pass0 ha hdb he hpl
end Dl
namespace Dl
open PySem PySem.Spec PyProof.Rows L2
variable {K : PySem.W.Frag}

/-! ### the law's own call, made by the caller: there no repr runs -/
section
variable {P : Program} {w : World} {mg mb : Str → Option Value}
/-- a def called by the caller itself -/
theorem run_top {base : Heap} {x qual : Str} {st : Stmt} {f : Addr} {fd : FuncData} {N : List Str} {ps : List Str} {mm : DS → Option Out} {s : Shared} {H : Hp} {args : Args} {us : List Value} {vs : List V} {Q : VK} (T : Fun K x qual st f fd) (S : FnScope N ps (defScope st))
    (e0 : Env0 P w K mg base callerA [] s H) (hb : BindsTo s fd args (ps.zip us)) (rv : Vals vs us) (sp : spD K (fnD N.length ps.length mm) vs H Q E0)
    (hbody : ∀ (cdv : Value) (s : Shared) (H : Hp) (E : XK), ∃ t, PSs (cxOf CX0 P w K mg base N qual (defScope st) f cdv callerA [] s H E).nox (defBody st) t ∧ SD K t mm) :
    codeAny (model P w) callerA (.call (.ref f) args) (CR CX0 [] P w H s Q E0) s := by
  obtain ⟨oc, od, kV, doc, pm, an, cdv, ct, osl, rfl, lk, hcd⟩ := T.ex
  have hl : vs.length = ps.length := fnD_len sp
  have KX : K.In s.heap := e0.mod.kin.keeps fun b o e => (e0.bs b o e).1
  have lim : s.heap.NoLimit := e0.mod.nolimit.keeps fun b o e => (e0.bs b o e).1
  have kinds : ((ps.zip us).all fun y => (defScope st).names.lookup y.1 == some NameKind.local || (defScope st).names.lookup y.1 == some NameKind.cell) = true := by
    rw [List.all_eq_true]
    intro y hy
    rcases S.par y.1 (List.of_mem_zip (show (y.1, y.2) ∈ ps.zip us from hy)).1 with q | q
    · rw [q]; rfl
    · rw [q]; rfl
  refine Att.call_fn KX lim lk hcd (by decide) hb kinds (fun s1 x1 => ?_) S.co S.gen S.kind
  obtain ⟨t, ht, hs⟩ := hbody cdv s H E0
  have I := inv_start (CX := CX0) (P := P) (w := w) (mg := mg) (qual := qual) (f := f) (cd := cdv) (E := E0) S (show callerA.handled = none from rfl) e0 hl rv x1
  refine wpAny_mono (ht.nox.run [] s1 (L2.start N vs) H _ I (fnD_go hs sp)) (fun fl s' h => ?_) fun e s' h => h
  have fin : ∀ {σ' : L2.St} {H' : Hp} {v : V} {u : Value}, Inv (cxOf CX0 P w K mg base N qual (defScope st) f cdv callerA [] s H E0) [] σ' H' s' → RelV v u → Q v H' → CE [] P w H s Q u s' :=
    fun {σ' H' v u} J r q => ⟨v, H', J.os, J.bare, J.base, J.hok, r, q⟩
  cases fl with
  | next =>
    obtain ⟨σ', H', J, q⟩ := h
    exact fin (v := V.non) (u := Value.none) J rfl q
  | ret u =>
    obtain ⟨v, σ', H', J, r, q⟩ := h
    exact fin J r q
  | brk =>
    obtain ⟨_, _, _, q⟩ := h
    exact q.elim
  | cont =>
    obtain ⟨_, _, _, q⟩ := h
    exact q.elim

theorem ints_rp {F : Hp} : ∀ ns : List Int, RpA K F (ns.map V.int) (ns.map PyData.int)
  | [] => .nil
  | n :: r => .cons (.int n) (ints_rp r)
/-- from a heap in which at most the script is tracked -/
theorem top_call {fa a : Addr} {fd : FuncData} {st : Stmt} {N : List Str} {mm : DS → Option Out} {s : Shared} {vs : List Value} {ns : List Int} {H : Hp} (T : Fun K "law" "law" st fa fd) (S : FnScope N ["script"] (defScope st))
    (kin : K.In s.heap) (hns : s.heap.Ns mainGlobals mg) (hb : s.heap.Ns builtinsNs mb) (hbb : ∀ x : Str, x ≠ "__name__" → mb x = bootBuiltins x) (hlim : s.heap.NoLimit) (hg : s.gens = #[])
    (ha : s.heap.get? a = some { cls := .type "list", data := .seq vs.toArray }) (ok : HOk P w H s.heap) (sq : SqL K H a (ns.map V.int)) (off : ∀ b, b ≠ a → H b = none) (kh : H a ≠ none → K.lookup a = none) (fr : ∀ o, H a = some o → ∃ ob u, o = .frz ob u)
    (hbind : ∀ (s : Shared) (u : Value), BindsTo s fd ⟨[u], []⟩ [("script", u)]) (hm : mm (startD N.length [.list (ns.map PyData.int)]) = some (.rt (.val (.bool true))))
    (hbody : ∀ base : Heap, K.In base → base.Ns mainGlobals mg → ∀ (cdv : Value) (s : Shared) (H : Hp) (E : XK), ∃ t, PSs (cxOf CX0 P w K mg base N "law" (defScope st) fa cdv callerA [] s H E).nox (defBody st) t ∧ SD K t mm) :
    codeAny (model P w) callerA (.call (.ref fa) ⟨[.ref a], []⟩) (fun r s' => r = .ok (.ret (.bool true)) ∧ OldK s.heap s'.heap ∧ s'.os = s.os ∧ AllBare s'.gens) s := by
  have dictFree : ∀ {b : Addr} {o : Obj} {es : Array DictEntry} {ep : Nat}, s.heap.get? b = some o → o.data = .dict es ep → H b = none := fun {b o es ep} e d => by
    by_cases h : b = a
    · subst h
      rw [ha] at e
      cases e
      cases (show Data.seq vs.toArray _ = Data.dict es ep from d)
    · exact off b h
  have nsB : ∀ {b : Addr} {m : Str → Option Value}, s.heap.Ns b m → (hidT s.heap H).Ns b m := fun h => by
    obtain ⟨o, es, ep, e, d, r⟩ := h
    exact ⟨o, es, ep, hidT_get e (dictFree e d), d, r⟩
  have kinB : K.In (hidT s.heap H) := fun b o e => by
    refine hidT_get (kin b o e) ?_
    by_cases h : b = a
    · subst h
      cases q : H b with
      | none => rfl
      | some u =>
        rw [kh (by rw [q]; exact fun z => nomatch z)] at e
        cases e
    · exact off b h
  have md : Mod K mg (hidT s.heap H) := by
    obtain ⟨mc, l1, l2⟩ := hlim
    exact ⟨kinB, nsB hns, ⟨mb, nsB hb, hbb⟩, ⟨mc, nsB l1, l2⟩⟩
  have e0 : Env0 P w K mg (hidT s.heap H) callerA [] s H :=
    { frames := rfl, mod := md, bs := fun b o e => of_hidT e, bsz := Nat.le_of_eq (hidT_size _ _), funs := trivial, frf := (fun b z => by cases z), hok := ok, bare := .of_eq hg }
  have sp : spD K (fnD N.length (["script"] : List Str).length mm) [.ref a] H (fun v _ => v = .bl true) E0 := by
    refine ⟨H, [.list (ns.map PyData.int)], .val (.bool true), Same.refl _, .one (.lst sq (ints_rp ns)), ?_, fun F' H' v mv rk => ?_⟩
    · show (match mm (startD N.length [.list (ns.map PyData.int)]) with | some (.nx _) => some (DV.val .none) | some (.rt r) => some r | _ => none) = _
      rw [hm]
    · cases (show Rp K F' v (.bool true) from rk)
      rfl
  refine codeAny_mono (run_top (ps := ["script"]) (us := [.ref a]) (vs := [.ref a]) T S e0 (hbind s (.ref a)) (.cons rfl .nil) sp (hbody _ kinB (nsB hns))) fun r s' h => ?_
  cases r with
  | error e => exact False.elim h
  | ok fl =>
    cases fl with
    | ret u =>
      obtain ⟨v, H', os, bare, un, ok', r', q⟩ := h
      cases (show v = .bl true from q)
      cases (show u = Value.bool true from r')
      refine ⟨rfl, OldK.of_keep fun b o e => ?_, os, bare⟩
      cases q : H b with
      | none => exact un.keep b o e q (fun z => by cases z) (fun z => by cases z)
      | some ho =>
        have hba : b = a := by
          by_cases h : b = a
          · exact h
          · rw [off b h] at q
            cases q
        subst hba
        obtain ⟨ob, xs, rfl⟩ := fr _ q
        have e2 := (ok' _ _ (un.frzs _ _ _ q)).1
        have e1 := (ok _ _ q).1
        rw [e] at e1
        cases e1
        exact e2
    | next => exact False.elim h
    | brk => exact False.elim h
    | cont => exact False.elim h
end
/-- the goal that the head leaves, for a law of data -/
theorem walk_D {l : PySem.W.OpenLaw} {q : Program} {loose : List Str} {XP : (Str → Option Value) → Heap → Prop} {YP : World → Heap → Prop} {d : DefRec} {KK : Params → PySem.W.Frag} {st : Stmt} {N : List Str} {mm : DS → Option Out}
    (hn : l.most = some 63) (hdf : d.params.defaults = []) (hY : ∀ (w : World) (h : Heap), YP w h → (KK w.params).In h)
    (S : FnScope N ["script"] (defScope st))
    (F : ∀ (w : World) (mg : Str → Option Value) (fa : Addr) (h : Heap), (KK w.params).In h → h.Ns mainGlobals mg → mg d.name = some (.ref fa) →
      ∃ fd : FuncData, Fun (KK w.params) "law" "law" st fa fd ∧ (∀ (s : Shared) (u : Value), BindsTo s fd ⟨[u], []⟩ [("script", u)]) ∧
        ∀ base : Heap, (KK w.params).In base → base.Ns mainGlobals mg → ∀ (cdv : Value) (s : Shared) (H : Hp) (E : XK), ∃ t, PSs (cxOf CX0 l.prog w (KK w.params) mg base N "law" (defScope st) fa cdv callerA [] s H E).nox (defBody st) t ∧ SD (KK w.params) t mm)
    (hm : ∀ ns : List Int, ns.length ≤ 63 → mm (startD N.length [.list (ns.map PyData.int)]) = some (.rt (.val (.bool true)))) :
    PySem.W.WalkO q loose XP YP l.row.toRowW d [] (fun f vs => PySem.call f vs) := by
  refine Att.attach_call hn hdf fun w s₀ s₁ mg mb fa o pm cd doc a vs ns G Y ho hd hcd hmg hobj hints hlen hg => ?_
  have kin := hY w _ Y
  obtain ⟨fd, T, hb, hF⟩ := F w mg fa _ kin G.T.g hmg
  have rv := vals_ints hints
  have hl : (ns.map V.int).length ≤ sizeLine := by
    rw [List.length_map]
    exact Nat.le_trans hlen (by decide)
  cases hk : (KK w.params).lookup a with
  | some ob =>
    -- the script is an object of the module's own
    have e := kin a ob hk
    rw [hobj] at e
    cases e
    have sq : SqL (KK w.params) (fun _ => none) a (ns.map V.int) := .inr ⟨_, vs.toArray, _, hk, rfl, rfl, rfl, by rw [List.size_toArray, ← rv.length]; exact hl, by simpa using rv⟩
    exact top_call (H := fun _ => none) T S kin G.T.g G.T.b G.T.builtins G.T.nolimit hg hobj (fun b u z => (by cases z)) sq (fun _ _ => rfl) (fun z => absurd rfl z) (fun _ z => (by cases z)) hb (hm ns hlen) hF
  | none =>
    have at_a : (fun b => if b = a then some (HO.frz { cls := .type "list", data := .seq vs.toArray } (.lst (ns.map V.int))) else none : Hp) a = some (.frz { cls := .type "list", data := .seq vs.toArray } (.lst (ns.map V.int))) := if_pos rfl
    refine top_call (H := fun b => if b = a then some (.frz { cls := .type "list", data := .seq vs.toArray } (.lst (ns.map V.int))) else none) T S kin G.T.g G.T.b G.T.builtins G.T.nolimit hg hobj (fun b u z => ?_) (.inl (.inr ⟨_, at_a⟩)) (fun b h => if_neg h) (fun _ => hk) (fun o z => ?_) hb (hm ns hlen) hF
    · by_cases h : b = a
      · have z2 := (if_pos h).symm.trans z
        cases z2
        subst h
        exact ⟨hobj, hl, vs, _, rv, hobj⟩
      · cases (if_neg h).symm.trans z
    · have z2 := at_a.symm.trans z
      cases z2
      exact ⟨_, _, rfl⟩
end Dl
namespace Dl
open PySem PySem.Spec PyProof.Rows L2
variable {K : PySem.W.Frag}
def mYes : DS → Option Bool := fun _ => some true
theorem et_yes : EvT K tYes mYes := fun F H σ δ r b e Q q => by
  cases e
  exact q H (Same.refl _)
def mChain (g g' : D → D → Option D) (ma mb mc : DS → Option D) : DS → Option D := fun δ => (ma δ).bind fun a => (mb δ).bind fun b => match g a b with
  | some (.bool true) => (mc δ).bind fun c => g' b c
  | some (.bool false) => some (.bool false)
  | _ => none
theorem ev_chain {r r' : R2} {g g' : D → D → Option D} {ta tb tc : TE} {ma mb mc : DS → Option D} (ha : Ev K ta ma) (hb : Ev K tb mb) (hc : Ev K tc mc) (ho : OpD K r g) (ho' : OpD K r' g') : Ev K (tChain r r' ta tb tc) (mChain g g' ma mb mc) := fun F H σ δ rl d e Q q => by
  unfold mChain at e
  obtain ⟨a, ea, e⟩ := Option.bind_eq_some_iff.mp e
  obtain ⟨b, eb, e⟩ := Option.bind_eq_some_iff.mp e
  refine ha F H σ δ rl a ea _ fun F1 H1 x m1 r1 => ?_
  refine hb F1 H1 σ δ (rl.mv m1) b eb _ fun F2 H2 y m2 r2 => ?_
  have m12 := m1.trans m2
  split at e
  · rename_i hg
    obtain ⟨c, ec, e⟩ := Option.bind_eq_some_iff.mp e
    refine ho F2 H2 x y a b _ m2.fh (r1.mono m2.f) r2 hg _ fun F3 H3 v m3 r3 => ?_
    cases r3
    refine ⟨true, rfl, iteT ?_⟩
    have m13 := m12.trans m3
    refine hc F3 H3 σ δ (rl.mv m13) c ec _ fun F4 H4 z m4 r4 => ?_
    exact ho' F4 H4 y z b c d m4.fh ((r2.mono m3.f).mono m4.f) r4 e Q fun F5 H5 v m5 r5 => q F5 H5 v ((m13.trans m4).trans m5) r5
  · rename_i hg
    cases e
    refine ho F2 H2 x y a b _ m2.fh (r1.mono m2.f) r2 hg _ fun F3 H3 v m3 r3 => ?_
    cases r3
    exact ⟨false, rfl, iteF (q F3 H3 _ (m12.trans m3) (.bl false))⟩
  · cases e
/-- return f(..): what f hands back -/
def nRetC (ms : DS → Option (List D)) (f : List D → Option DV) : DS → Option Out := fun δ => (ms δ).bind fun ds => (f ds).map Out.rt
theorem sd_retC {n : Nat} {E : XK} {t : TA} {ms : DS → Option (List D)} {f : List D → Option DV} (ha : EvA K n t ms) : SD K (tRet (tCall (spD K f) [] E t)) (nRetC ms f) := fun F0 H0 F H σ δ r o e EE q => by
  obtain ⟨a, ea, e⟩ := Option.bind_eq_some_iff.mp e
  obtain ⟨d, ed, rfl⟩ := Option.map_eq_some_iff.mp e
  refine ha F H σ δ r.rel a ea _ fun F1 H1 vs m1 r1 hl => ?_
  refine ⟨F1, a, d, m1.fh, by rw [List.append_nil]; exact r1, ed, fun F2 H2 v m2 rk => ?_⟩
  have r1' := (r.mv m1)
  refine q F2 H2 v (r1'.back.trans m2) ?_
  cases d with
  | val d => exact rk
  | own ds =>
    obtain ⟨p, vs, h1, h2, h3, h4, h5⟩ := rk
    exact ⟨p, vs, h1, r1'.h0.free h2, h3, h4, h5⟩
/-- a new list times an int -/
def repD (ds : List D) (k : Int) : Option (List D) := if -1000000 ≤ k ∧ k ≤ 1000000 ∧ ds.length * k.toNat ≤ cap then some (List.replicate k.toNat ds).flatten else none
def mRep (ma : DS → Option (List D)) (mb : DS → Option D) : DS → Option (List D) := fun δ => match ma δ, mb δ with
  | some ds, some (.int k) => repD ds k
  | _, _ => none
theorem RpA.rep {F : Hp} {vs : List V} {ds : List D} (h : RpA K F vs ds) : ∀ n : Nat, RpA K F (List.replicate n vs).flatten (List.replicate n ds).flatten
  | 0 => .nil
  | n + 1 => by
    rw [List.replicate_succ, List.replicate_succ, List.flatten_cons, List.flatten_cons]
    exact h.app (RpA.rep h n)
theorem eo_rep {ta tb : TE} {ma : DS → Option (List D)} {mb : DS → Option D} (ha : EvO K ta ma) (hb : Ev K tb mb) : EvO K (tOp rRep ta tb) (mRep ma mb) := fun F H σ δ rl d e Q q => by
  unfold mRep at e
  split at e
  · rename_i ds k e1 e2
    unfold repD at e
    by_cases hc : -1000000 ≤ k ∧ k ≤ 1000000 ∧ ds.length * k.toNat ≤ cap
    · rw [if_pos hc] at e
      cases e
      refine ha F H σ δ rl ds e1 _ fun F1 H1 p vs m1 hp hf hq ra => ?_
      refine hb F1 H1 σ δ (rl.mv m1) _ e2 _ fun F2 H2 y m2 ry => ?_
      cases ry
      have m12 := m1.trans m2
      refine ⟨p, k, vs, rfl, rfl, m2.h _ _ hq, by omega, by omega, ?_, fun r hr => ?_⟩
      · rw [ra.len]
        exact Nat.le_of_lt (cap_lt hc.2.2)
      · exact q F2 _ r _ (m12.trans (Mv.newO m12.fh hr)) (m12.h.free hr) (m12.fh.free hr) upd_same ((ra.mono m2.f).rep _)
    · rw [if_neg hc] at e
      cases e
  · cases e
end Dl
namespace Dl
open PySem PySem.Spec PyProof.Rows L2
/-! ### a set of whole numbers by a comprehension -/
def tSi (w : World) (wi : TI) (g : TG) (tt : TT) (te : TE) (vs : List Nat) : TE := fun σ H Q => wi σ H fun J H1 => ∀ D, H1 D = none →
  ∃ W : Nat → Nat → Hp → Prop, (∃ m, W 0 m (upd H1 D (SetO w D (fun _ => false) 0))) ∧ ∀ i m H, W i m H → (J.stop i H ∧ Q (.ref D) H) ∨ (J.go i H ∧ ∃ Nx : Hp → Prop, (∀ H', Nx H' → ∃ m', m' < m ∧ W (i + 1) m' H') ∧
    ∀ x H', J.yld i H x H' → g x (wipe σ vs) H' fun σ2 H2 => wipe σ2 vs = wipe σ vs ∧ tt σ2 H2 fun b H3 => if b = true then te σ2 H3 fun y H4 => ∃ (c : Int) (S : Int → Bool) (n : Nat), y = .int c ∧ H4 D = some (SetO w D S n) ∧ n + 1 < scanBound ∧ Nx (upd H4 D (SetO w D (fun j => S j || decide (j = c)) (if S c = true then n else n + 1))) else Nx H3)
abbrev bX (X : Cx) (s3 : Shared) (H3 : Hp) (scope : Scope) (fp : List Addr) : Cx := X.blk s3 H3 scope (compEnvC scope (cellsFrom (s3.heap.objs.size + 1) scope.names (cloFrom X.env.cells scope.names [])) s3.heap.objs.size X.env) fp
theorem pe_si {X : Cx} {elt tg iter : PySem.Expr} {ifs : List PySem.Expr} {scope : Scope} {own : List (Str × Nat)} {pos : Pos} {wi : TI} {g : TG} {tt : TT} {te : TE}
    (hc : X.calm = true) (hN : X.N.Nodup) (hi : PI X tg iter wi) (ok : BlkOk X.N X.env.scope scope own)
    (hg : ∀ (s : Shared) (H : Hp) (C : Addr) (cl : List (Str × Addr)) (fp : List Addr), PG (X.blk s H scope (compEnvC scope cl C X.env) fp) tg g)
    (ht : ∀ (s : Shared) (H : Hp) (C : Addr) (cl : List (Str × Addr)) (fp : List Addr), PTs (X.blk s H scope (compEnvC scope cl C X.env) fp) ifs tt)
    (he : ∀ (s : Shared) (H : Hp) (C : Addr) (cl : List (Str × Addr)) (fp : List Addr), PE (X.blk s H scope (compEnvC scope cl C X.env) fp) elt te)
    (hs : ∀ x, foldedSetIterable iter X.env x = pure x) : PE X (.SetComp elt [⟨tg, iter, ifs, 0⟩] scope pos) (tSi X.w wi g tt te (own.map (·.2))) := ⟨fun pins s σ H Q I h => by
  have hfree : ∀ y ∈ scope.names, y.2 = NameKind.free → ∃ c, X.env.cells.lookup y.1 = some c := fun y hy e => by
    rcases ok.free y hy e with k | k
    · exact I.ok.has _ (.inl k)
    · exact I.ok.has _ (.inr k)
  rw [PpSet.eval_SetComp]
  refine wpAny_comprehension_free rfl hs (closure_ok hfree) ok.kind (fun y hy e => by rw [ok.uniq y hy, e]) ?_
  refine thn (hi.run pins s σ H _ I h) fun xv s1 hx => thn hx fun itv s2 h2 => ?_
  obtain ⟨it, fp, tn, J, H2, rfl, I2, T, st2, f2, q⟩ := h2
  refine PpSet.newSet_ok (newEnv_comp ?_)
  obtain ⟨W, ⟨m0, w0⟩, turn⟩ := q _ (I2.hok.fresh (Nat.le_refl _))
  have I3 := Inv.laid (t' := s2.toks) I2 (fun b o e => Heap.get?_push_of_some { cls := Value.type "set", data := Data.set #[] 0 (SetTable.fresh 0 0 !X.w.params.followText "set-order") } e) (Nat.le_refl _) (setO_new (setR_fresh X.w))
  generalize hDq : s2.heap.objs.size = Dq at w0 turn I3 ⊢
  have f3 : ∀ b ∈ fp, FpOk X pins (upd H2 Dq (SetO X.w Dq (fun _ => false) 0)) b ∧ b < (s2.heap.push { cls := Value.type "set", data := Data.set #[] 0 (SetTable.fresh 0 0 !X.w.params.followText "set-order") }).objs.size := fun b hb => by
    obtain ⟨o, e, _⟩ := T.obj 0 s2.heap st2 b hb
    have hlt := Heap.lt_size e
    refine ⟨⟨?_, (f2 b hb).2⟩, ?_⟩
    · rw [upd_ne (by rw [← hDq]; exact Nat.ne_of_lt hlt)]
      exact (f2 b hb).1
    · rw [Heap.size_push]
      exact Nat.lt_succ_of_lt hlt
  have st3 := T.keep 0 s2.heap (s2.heap.push { cls := Value.type "set", data := Data.set #[] 0 (SetTable.fresh 0 0 !X.w.params.followText "set-order") }) st2 fun b _ o e => Heap.get?_push_of_some _ e
  have I4 := block_start I3 ok hN f3
  have nfp : ∀ b ∈ fp, upd H2 Dq (SetO X.w Dq (fun _ => false) 0) b = none := fun b hb => (f3 b hb).1.1
  generalize hs3 : (⟨s2.heap.push { cls := Value.type "set", data := Data.set #[] 0 (SetTable.fresh 0 0 !X.w.params.followText "set-order") }, s2.gens, s2.drawn, s2.toks, s2.os⟩ : Shared) = s3 at I3 I4 ⊢
  have e3 : s2.heap.push { cls := Value.type "set", data := Data.set #[] 0 (SetTable.fresh 0 0 !X.w.params.followText "set-order") } = s3.heap := by rw [← hs3]
  rw [e3] at f3 st3
  generalize upd H2 Dq (SetO X.w Dq (fun _ => false) 0) = H3 at w0 I3 I4 f3 nfp
  have st4 := T.keep 0 s3.heap (pushCells (s3.heap.push { cls := Value.type "dict", data := Data.dict #[] }) scope.names) st3 fun b _ o e => pushCells_keeps _ _ _ _ (Heap.get?_push_of_some _ e)
  refine (fun k => PpSet.codeAny_compStart_set k (T.self _ 0 _ _ _ st4 k)) ?_
  show codeAny _ _ (Code.compLoop _ 0 (.ref it) (.ref Dq) (compEnvC scope (cellsFrom (s3.heap.objs.size + 1) scope.names (cloFrom X.env.cells scope.names [])) s3.heap.objs.size X.env)) _ _
  have pg := hg s3 H3 s3.heap.objs.size (cellsFrom (s3.heap.objs.size + 1) scope.names (cloFrom X.env.cells scope.names [])) fp
  have pt := ht s3 H3 s3.heap.objs.size (cellsFrom (s3.heap.objs.size + 1) scope.names (cloFrom X.env.cells scope.names [])) fp
  have pe := he s3 H3 s3.heap.objs.size (cellsFrom (s3.heap.objs.size + 1) scope.names (cloFrom X.env.cells scope.names [])) fp
  have stat : ∀ {H' : Hp} {s' : Shared} {pl : List (Addr × Obj)} {σ'}, Inv (bX X s3 H3 scope fp) [] σ' H' s' → (∀ b ∈ fp, H' b = none) → ∀ b ∈ fp, FpOk (bX X s3 H3 scope fp) [] H' b := fun I' n' b hb =>
    ⟨n' b hb, (I'.ok.exf b hb).1, I'.ok.exfs b hb, .inl hb, (I'.ok.exf b hb).2, fun p hp => by cases hp⟩
  refine PpSet.compLoopS_any (fun n s5 => ∃ i H5, Inv (bX X s3 H3 scope fp) [] (wipe σ (own.map (·.2))) H5 s5 ∧ tn i s5.heap ∧ (∀ b ∈ fp, H5 b = none) ∧ W i n H5) (fun n s5 h5 => ?_) m0 ⟨0, H3, I4, st4, nfp, w0⟩
  obtain ⟨i, H5, I5, st5, n5, w5⟩ := h5
  rcases turn i n H5 w5 with ⟨stop, qq⟩ | ⟨go, Nx, hNx, step⟩
  · refine thnF (T.done (bX X s3 H3 scope fp) rfl rfl rfl hc i [] s5 _ H5 (fun _ _ => False) I5 (stat (pl := []) I5 n5) st5 stop) fun r s6 h6 => ?_
    obtain ⟨rfl, I6⟩ := h6
    have I7 : Inv X pins σ H5 s6 := Inv.call' I3 I6.os I6.base I6.hok I6.bare fun b hb => ⟨(f3 b hb).1.2.2.2.1, (f3 b hb).1.2.1, (f3 b hb).1.2.2.2.2.1, (f3 b hb).1.2.2.2.2.2⟩
    obtain ⟨m, hn, _⟩ := I6.loc
    have nC : H5 s3.heap.objs.size = none := I6.free
    have f := Inv.fpOk I3 (Nat.le_refl _) nC
    exact ⟨m, hn, fun h' sb => ⟨.ref Dq, H5, Inv.turned I7 (fun b o hb e => (sb.2 b hb).trans e) f.1 f.2.1 f.2.2.2.1 f.2.2.2.2.1 f.2.2.2.2.2, rfl, qq⟩⟩
  · refine thnF (T.item (bX X s3 H3 scope fp) rfl rfl rfl hc i [] s5 _ H5 (fun _ _ => False) I5 (stat (pl := []) I5 n5) st5 go) fun r s6 h6 => ?_
    obtain ⟨u, rfl, h6⟩ := h6
    refine thnF h6 fun _ s7 h7 => ?_
    obtain ⟨x, H7, I7, rx, hy, st7, n7⟩ := h7
    have I7p := Inv.pinned I7 (stat (pl := []) I7 n7) (T.obj (i + 1) s7.heap st7)
    refine thnF (pg.run _ s7 _ H7 x u _ I7p rx (step x H7 hy)) fun _ s8 h8 => ?_
    obtain ⟨σ8, H8, I8, hw8, q8⟩ := h8
    refine thnF (pt.run _ s8 σ8 H8 _ I8 q8) fun b s9 h9 => ?_
    obtain ⟨H9, I9, q9⟩ := h9
    have fin : ∀ {s' : Shared} {H' : Hp}, Inv (bX X s3 H3 scope fp) ([] ++ pinsAt fp s7.heap) σ8 H' s' → Nx H' → ∃ m, m < n ∧ ∃ i H5, Inv (bX X s3 H3 scope fp) [] (wipe σ (own.map (·.2))) H5 s' ∧ tn i s'.heap ∧ (∀ b ∈ fp, H5 b = none) ∧ W i m H5 := fun {s'} {H'} I' nx => by
      obtain ⟨m', hm, w'⟩ := hNx H' nx
      have pin' : ∀ b ∈ fp, ∀ o, s7.heap.get? b = some o → s'.heap.get? b = some o ∧ H' b = none := fun b hb o e => by
        have z := I'.pin (b, o) (List.mem_append_right _ (List.mem_append_right _ (mem_pinsAt hb e)))
        exact ⟨z.1, z.2.1⟩
      refine ⟨m', hm, i + 1, H', Inv.weak (Inv.unpinned I') (by rw [← hw8, wipe_length]) (fun j v e => (wipe_some (by rw [hw8]; exact e)).1), T.keep (i + 1) s7.heap s'.heap st7 (fun b hb o e => (pin' b hb o e).1), fun b hb => ?_, w'⟩
      obtain ⟨o, e, _⟩ := T.obj (i + 1) s7.heap st7 b hb
      exact (pin' b hb o e).2
    cases b with
    | false =>
      rw [if_neg (by decide)] at q9
      exact fin I9 q9
    | true =>
      rw [if_pos rfl] at q9
      refine thnF (pe.run _ s9 σ8 H9 _ I9 q9) fun z s10 h10 => ?_
      obtain ⟨yv, H10, I10, rz, c, S, k, rfl, hD, hk, nx⟩ := h10
      refine thnF (mt_sadd _ s10 σ8 H10 (.ref Dq) [.int c] (.ref Dq) [z] (fun v H' => v = .non ∧ Nx H') I10 rfl (.cons rz .nil) ⟨Dq, c, S, k, rfl, rfl, hD, hk, rfl, nx⟩) fun _ s11 h11 => ?_
      obtain ⟨v, H11, I11, _, _, nx11⟩ := h11
      exact fin I11 nx11⟩
end Dl
namespace Dl
open PySem PySem.Spec PyProof.Rows L2
variable {K : PySem.W.Frag}
/-! ### ascending, each once -/
def insU (k : Int) : List Int → List Int
  | [] => [k]
  | n :: r => if k < n then k :: n :: r else if k = n then n :: r else n :: insU k r
def sortU (ns : List Int) : List Int := ns.foldr insU []
theorem insU_mem (k : Int) : ∀ (ns : List Int) (x : Int), x ∈ insU k ns ↔ x = k ∨ x ∈ ns
  | [], x => by simp [insU]
  | n :: r, x => by
    unfold insU
    split
    · exact List.mem_cons
    · split
      · rename_i h
        subst h
        constructor
        · exact .inr
        · rintro (rfl | h)
          · exact List.mem_cons_self
          · exact h
      · rw [List.mem_cons, insU_mem k r x, List.mem_cons]
        constructor
        · rintro (h | h | h)
          · exact .inr (.inl h)
          · exact .inl h
          · exact .inr (.inr h)
        · rintro (h | h | h)
          · exact .inr (.inl h)
          · exact .inl h
          · exact .inr (.inr h)
theorem insU_up (k : Int) : ∀ ns : List Int, ns.Pairwise (· < ·) → (insU k ns).Pairwise (· < ·)
  | [], _ => by simp [insU]
  | n :: r, h => by
    rw [List.pairwise_cons] at h
    unfold insU
    split
    · rename_i hk
      refine List.pairwise_cons.mpr ⟨fun x hx => ?_, List.pairwise_cons.mpr h⟩
      rcases List.mem_cons.mp hx with rfl | hx
      · exact hk
      · have := h.1 x hx
        omega
    · split
      · exact List.pairwise_cons.mpr h
      · refine List.pairwise_cons.mpr ⟨fun x hx => ?_, insU_up k r h.2⟩
        rcases (insU_mem k r x).mp hx with rfl | hx
        · omega
        · exact h.1 x hx
theorem sortU_mem : ∀ (ns : List Int) (x : Int), x ∈ sortU ns ↔ x ∈ ns
  | [], x => Iff.rfl
  | n :: r, x => by
    show x ∈ insU n (sortU r) ↔ _
    rw [insU_mem, sortU_mem r, List.mem_cons]
theorem sortU_up : ∀ ns : List Int, (sortU ns).Pairwise (· < ·)
  | [] => List.Pairwise.nil
  | n :: r => insU_up n _ (sortU_up r)
theorem up_unique : ∀ xs ys : List Int, xs.Pairwise (· < ·) → ys.Pairwise (· < ·) → (∀ k, k ∈ xs ↔ k ∈ ys) → xs = ys
  | [], [], _, _, _ => rfl
  | [], y :: ys, _, _, h => by
    have := (h y).mpr List.mem_cons_self
    cases this
  | x :: xs, [], _, _, h => by
    have := (h x).mp List.mem_cons_self
    cases this
  | x :: xs, y :: ys, hx, hy, h => by
    rw [List.pairwise_cons] at hx hy
    have e : x = y := by
      rcases List.mem_cons.mp ((h x).mp List.mem_cons_self) with e | e
      · exact e
      · have h1 := hy.1 x e
        rcases List.mem_cons.mp ((h y).mpr List.mem_cons_self) with e2 | e2
        · exact e2.symm
        · have := hx.1 y e2
          omega
    subst e
    rw [up_unique xs ys hx.2 hy.2 fun k => ?_]
    constructor
    · intro hk
      rcases List.mem_cons.mp ((h k).mp (List.mem_cons_of_mem _ hk)) with e | e
      · have := hx.1 k hk
        omega
      · exact e
    · intro hk
      rcases List.mem_cons.mp ((h k).mpr (List.mem_cons_of_mem _ hk)) with e | e
      · have := hy.1 k hk
        omega
      · exact e
/-- sorted({elt for target in iter if test}), whole numbers -/
def mSset (mi : DS → Option (List D)) (gm : D → DS → Option DS) (mt : DS → Option Bool) (me : DS → Option D) (vs : List Nat) : DS → Option (List D) :=
  fun δ => (mi δ).bind fun ds => if ds.length < 64 then (colO (mLcF gm mt me (wipeD δ vs)) ds).bind fun es => (asIs es).map fun ns => (sortU ns).map PyData.int else none
theorem asIs_cons {d : D} {ds : List D} {ns : List Int} (h : asIs (d :: ds) = some ns) : ∃ n r, d = .int n ∧ asIs ds = some r ∧ ns = n :: r := by
  cases d with
  | int n =>
    have h2 : (asIs ds).map (fun r => n :: r) = some ns := h
    obtain ⟨r, e1, e2⟩ := Option.map_eq_some_iff.mp h2
    exact ⟨n, r, rfl, e1, e2.symm⟩
  | _ => cases h
theorem eo_sset {w : World} {wi : TI} {g : TG} {tt : TT} {te : TE} {mi : DS → Option (List D)} {gm : D → DS → Option DS} {mt : DS → Option Bool} {me : DS → Option D} {js vs : List Nat} (hi : EvI K wi mi) (hg : EvG K g js gm) (ht : EvT K tt mt) (he : Ev K te me)
    (hj : ∀ j ∈ js, j ∈ vs := by decide) : EvO K (tCB (rSortedSet w) (tCons (tSi w wi g tt te vs) tNil)) (mSset mi gm mt me vs) := fun F H σ δ r ds e Q q => by
  obtain ⟨xs, hm, e⟩ := Option.bind_eq_some_iff.mp e
  by_cases hc : xs.length < 64
  case neg => rw [if_neg hc] at e; cases e
  rw [if_pos hc] at e
  obtain ⟨all, hall, e⟩ := Option.bind_eq_some_iff.mp e
  obtain ⟨ns, hns, rfl⟩ := Option.map_eq_some_iff.mp e
  refine hi F H σ δ r xs hm _ fun J F1 H1 mv wk => ?_
  intro Dd hD
  have r1 := r.mv mv
  have nF1 : F1 Dd = none := mv.fh.free hD
  have hsb : (63 : Nat) < scanBound := by decide
  refine ⟨fun i m H' => m = xs.length - i ∧ i ≤ xs.length ∧ ∃ (F' : Hp) (S : Int → Bool) (n : Nat) (es : List Int) (rest : List D) (nr : List Int), Mv F1 H1 F' H' ∧ F' Dd = none ∧ H' Dd = some (SetO w Dd S n) ∧ n ≤ i ∧ (∀ k : Int, S k = true ↔ k ∈ es) ∧ colO (mLcF gm mt me (wipeD δ vs)) (xs.drop i) = some rest ∧ asIs rest = some nr ∧ ∀ k : Int, k ∈ ns ↔ k ∈ es ∨ k ∈ nr,
    ⟨xs.length, by omega, Nat.zero_le _, F1, fun _ => false, 0, [], all, ns, Mv.newO mv.fh hD, nF1, upd_same, Nat.le_refl _, fun k => by simp, hall, hns, fun k => by simp⟩, ?_⟩
  rintro i m H' ⟨rfl, hle, F', S, n, es, rest, nr, mv', nF, hq, hn, hS, e', e2, hmem⟩
  obtain ⟨w1, w2⟩ := wk i F' H' mv'.f mv'.fh
  by_cases hlt : i < xs.length
  · have hd : xs.drop i = xs[i] :: xs.drop (i + 1) := List.drop_eq_getElem_cons hlt
    rw [hd] at e'
    unfold colO at e'
    obtain ⟨a, ha, e'⟩ := Option.bind_eq_some_iff.mp e'
    obtain ⟨rest', hr, e'⟩ := Option.bind_eq_some_iff.mp e'
    unfold mLcF at ha
    obtain ⟨δ1, hg1, ha⟩ := Option.bind_eq_some_iff.mp ha
    obtain ⟨b, hb, ha⟩ := Option.bind_eq_some_iff.mp ha
    obtain ⟨hgo, hyl⟩ := w1 _ (List.getElem?_eq_getElem hlt)
    refine .inr ⟨hgo, fun H2 => ∃ (F2 : Hp) (S : Int → Bool) (n : Nat) (es' nr' : List Int), Mv F1 H1 F2 H2 ∧ F2 Dd = none ∧ H2 Dd = some (SetO w Dd S n) ∧ n ≤ i + 1 ∧ (∀ k : Int, S k = true ↔ k ∈ es') ∧ asIs rest' = some nr' ∧ ∀ k : Int, k ∈ ns ↔ k ∈ es' ∨ k ∈ nr', fun H2 hN => ?_, fun x H2 hy => ?_⟩
    · obtain ⟨F2, S2, n2, es2, nr2, a1, a2, a3, a4, a5, a6, a7⟩ := hN
      exact ⟨xs.length - (i + 1), by omega, rfl, hlt, F2, S2, n2, es2, rest', nr2, a1, a2, a3, a4, a5, hr, a6, a7⟩
    · obtain ⟨F2, mv2, rx⟩ := hyl x H2 hy
      have nF2 : F2 Dd = none := mv2.sep Dd (by rw [hq]; exact fun z => nomatch z) nF
      have hq2 := mv2.h _ _ hq
      have mv3 := mv'.trans mv2
      have rw1 : Rel K F2 H2 (L2.wipe σ vs) (wipeD δ vs) := ((r1.mv mv3)).wipe vs
      refine hg F2 H2 _ _ x _ δ1 rx mv2.fh hg1 _ fun σ3 h1 h2 h4 => ?_
      have r3 := h2 rw1
      refine ⟨(h4 vs hj).trans (wipe_wipe σ vs vs fun _ h => h), ?_⟩
      refine ht F2 H2 σ3 δ1 r3 b hb _ fun H3 s3 => ?_
      have hq3 := s3 _ _ hq2
      cases b with
      | false =>
        cases ha
        have e3 : rest' = rest := Option.some.inj e'
        subst e3
        show ∃ (F2 : Hp) (S : Int → Bool) (n : Nat) (es' nr' : List Int), Mv F1 H1 F2 H3 ∧ F2 Dd = none ∧ H3 Dd = some (SetO w Dd S n) ∧ n ≤ i + 1 ∧ (∀ k : Int, S k = true ↔ k ∈ es') ∧ asIs rest' = some nr' ∧ ∀ k : Int, k ∈ ns ↔ k ∈ es' ∨ k ∈ nr'
        exact ⟨F2, S, n, es, nr, mv3.trans (.grow mv2.fh s3), nF2, hq3, by omega, hS, e2, hmem⟩
      | true =>
        obtain ⟨y, hy2, rfl⟩ := Option.map_eq_some_iff.mp ha
        have e3 : y :: rest' = rest := Option.some.inj e'
        subst e3
        obtain ⟨c, nr', rfl, e4, rfl⟩ := asIs_cons e2
        have mg : Mv F2 H2 F2 H3 := .grow mv2.fh s3
        show te σ3 H3 fun y H4 => ∃ (c : Int) (S : Int → Bool) (n : Nat), y = .int c ∧ _
        refine he F2 H3 σ3 δ1 (r3.mv mg) (.int c) hy2 _ fun F4 H4 v mv4 ry => ?_
        cases ry
        have nF4 : F4 Dd = none := mv4.sep Dd (by rw [hq3]; exact fun z => nomatch z) nF2
        have hq4 := mv4.h _ _ hq3
        have mv5 := (mv3.trans mg).trans mv4
        refine ⟨c, S, n, rfl, hq4, by omega, F4, _, _, es ++ [c], nr', ⟨mv5.f, fun z o hz => ?_, fun z o hz => ?_, mv5.sep⟩, nF4, upd_same, by split <;> omega, fun k => ?_, e4, fun k => ?_⟩
        · rw [upd_ne (ne_of_none hz hD)]
          exact mv5.h _ _ hz
        · rw [upd_ne (ne_of_none hz nF4)]
          exact mv5.fh _ _ hz
        · rw [Bool.or_eq_true, hS, decide_eq_true_iff, List.mem_append, List.mem_singleton]
        · rw [hmem, List.mem_cons, List.mem_append, List.mem_singleton, or_assoc]
  · have hz : xs.drop i = [] := List.drop_eq_nil_of_le (by omega)
    rw [hz] at e'
    cases e'
    cases e2
    refine .inl ⟨w2 (by omega), ?_⟩
    show rSortedSet w [.ref Dd] H' Q
    refine ⟨Dd, S, n, rfl, hq, by omega, fun out p up hk hlen hp => ?_⟩
    have eo : out = sortU ns := up_unique _ _ up (sortU_up ns) fun k => by
      rw [hk, hS, sortU_mem, hmem]
      simp
    subst eo
    have m2 := mv.trans mv'
    have m3 : Mv F H F' (upd H' p (.lst ((sortU ns).map V.int))) := m2.trans (Mv.newO mv'.fh hp)
    refine q F' _ p _ m3 (m2.h.free hp) (mv'.fh.free hp) upd_same ?_
    generalize sortU ns = zs
    induction zs with
    | nil => exact .nil
    | cons z zs ih => exact .cons (.int z) ih
end Dl
namespace Dl
open PySem PySem.Spec PyProof.Rows L2
variable {K : PySem.W.Frag}
/-- xs.extend(a new list) -/
def nExd (i : Nat) (m : DS → Option (List D)) : DS → Option Out := fun δ => match δ[i]?, m δ with
  | some (some (.own ds)), some es => if ds.length + es.length ≤ cap then some (.nx (δ.set i (some (.own (ds ++ es))))) else none
  | _, _ => none
theorem sd_ext {i : Nat} {te : TE} {m : DS → Option (List D)} (h : EvO K te m) : SD K (tDrop (tBM K "list" rExtend (tVar i) (tCons te tNil))) (nExd i m) := fun F0 H0 F H σ δ r o e E q => by
  unfold nExd at e
  split at e
  · rename_i ds d hi hm
    by_cases hc : ds.length + d.length ≤ cap
    · rw [if_pos hc] at e
      cases e
      obtain ⟨p, ws, hs, nf, hp, ra⟩ := r.rel.own i ds hi
      refine ⟨_, hs, .inl ⟨rfl, ws, .inl (.inl hp)⟩, h F H σ δ r.rel d hm _ fun F' H' y ys mv hy fy hy' ry => ?_⟩
      have r1 := r.mv mv
      have hp1 := mv.h _ _ hp
      refine ⟨p, y, ws, ys, rfl, rfl, hp1, hy', by rw [ra.len, ry.len]; exact Nat.le_of_lt (cap_lt hc), ?_⟩
      exact q F' _ σ mv.f (r1.mut hi hs ((ra.mono mv.f).app ry))
    · rw [if_neg hc] at e
      cases e
  · cases e
end Dl
namespace Dl
open PySem PySem.Spec PyProof.Rows L2

/-! ### how the mirrors evaluate -/
abbrev v (d : D) : Option DV := some (.val d)
@[simp] theorem mVar_0 {d : D} {r : DS} : mVar 0 (v d :: r) = some d := rfl
@[simp] theorem mVar_s {i : Nat} {x : Option DV} {r : DS} : mVar (i + 1) (x :: r) = mVar i r := rfl
@[simp] theorem mC_e {d : D} {δ : DS} : mC d δ = some d := rfl
@[simp] theorem m2_e {g : D → D → Option D} {ma mb : DS → Option D} {δ : DS} : m2 g ma mb δ = (ma δ).bind fun a => (mb δ).bind fun b => g a b := rfl
@[simp] theorem m2O_e {g : D → D → Option (List D)} {ma mb : DS → Option D} {δ : DS} : m2O g ma mb δ = (ma δ).bind fun a => (mb δ).bind fun b => g a b := rfl
@[simp] theorem m1_e {g : D → Option D} {ma : DS → Option D} {δ : DS} : m1 g ma δ = (ma δ).bind g := rfl
@[simp] theorem mNil_e {δ : DS} : mNil δ = some [] := rfl
@[simp] theorem mCons_e {ma : DS → Option D} {mr : DS → Option (List D)} {δ : DS} : mCons ma mr δ = (ma δ).bind fun a => (mr δ).bind fun r => some (a :: r) := rfl
@[simp] theorem mTup_e {ms : DS → Option (List D)} {δ : DS} : mTup ms δ = (ms δ).map .tuple := rfl
@[simp] theorem mLst_e {ms : DS → Option (List D)} {δ : DS} : mLst ms δ = (ms δ).map .list := rfl
@[simp] theorem mCall_e {ms : DS → Option (List D)} {g : List D → Option D} {δ : DS} : mCall ms g δ = (ms δ).bind g := rfl
@[simp] theorem mCallO_e {ms : DS → Option (List D)} {g : List D → Option (List D)} {δ : DS} : mCallO ms g δ = (ms δ).bind g := rfl
@[simp] theorem mCallF_e {ms : DS → Option (List D)} {f : List D → Option DV} {δ : DS} : mCallF ms f δ = (ms δ).bind fun ds => (f ds).map DV.data := rfl
@[simp] theorem mCallFO_e {ms : DS → Option (List D)} {f : List D → Option DV} {δ : DS} : mCallFO ms f δ = (ms δ).bind fun ds => (f ds).bind DV.owned := rfl
@[simp] theorem mCallK_e {ms mk : DS → Option (List D)} {g : List D → List D → Option D} {δ : DS} : mCallK ms mk g δ = (ms δ).bind fun a => (mk δ).bind fun b => g a b := rfl
@[simp] theorem data_val {d : D} : (DV.val d).data = d := rfl
@[simp] theorem data_own {ds : List D} : (DV.own ds).data = .list ds := rfl
@[simp] theorem owned_own {ds : List D} : (DV.own ds).owned = some ds := rfl
@[simp] theorem mIf_e {c : DS → Option Bool} {a b : DS → Option D} {δ : DS} : mIf c a b δ = (c δ).bind fun x => if x = true then a δ else b δ := rfl
@[simp] theorem mAndV_e {a b : DS → Option D} {δ : DS} : mAndV a b δ = (mB a δ).bind fun x => if x = true then b δ else some (.bool false) := rfl
@[simp] theorem mOrV_e {a b : DS → Option D} {δ : DS} : mOrV a b δ = (mB a δ).bind fun x => if x = true then some (.bool true) else b δ := rfl
@[simp] theorem mNotV_e {a : DS → Option D} {δ : DS} : mNotV a δ = (mB a δ).map fun x => .bool (!x) := rfl
@[simp] theorem mAndT_e {a b : DS → Option Bool} {δ : DS} : mAndT a b δ = (a δ).bind fun x => if x = true then b δ else some false := rfl
@[simp] theorem mOrT_e {a b : DS → Option Bool} {δ : DS} : mOrT a b δ = (a δ).bind fun x => if x = true then some true else b δ := rfl
@[simp] theorem mNotT_e {a : DS → Option Bool} {δ : DS} : mNotT a δ = (a δ).map fun x => !x := rfl
def toB : Option D → Option Bool
  | some (.bool b) => some b
  | _ => none
@[simp] theorem toB_some {b : Bool} : toB (some (.bool b)) = some b := rfl
@[simp] theorem mB_e {m : DS → Option D} {δ : DS} : mB m δ = toB (m δ) := by
  unfold mB toB
  rfl
@[simp] theorem mIsi_e {T : String} {m : DS → Option D} {δ : DS} : mIsi T m δ = (m δ).bind (isiD T) := rfl
@[simp] theorem mYes_e {δ : DS} : mYes δ = some true := rfl
@[simp] theorem mBorT_e {m : DS → Option Bool} {δ : DS} : mBorT m δ = m (thaw δ) := rfl
def flt (o : Option D) : Option D := match o with
  | some d => if flatD d = true then some d else none
  | none => none
@[simp] theorem flt_int {i : Int} : flt (some (.int i)) = some (.int i) := rfl
@[simp] theorem flt_bool {i : Bool} : flt (some (.bool i)) = some (.bool i) := rfl
@[simp] theorem flt_str {i : Str} : flt (some (.str i)) = some (.str i) := rfl
@[simp] theorem flt_none : flt (some .none) = some .none := rfl
@[simp] theorem mBor_e {m : DS → Option D} {δ : DS} : mBor m δ = flt (m (thaw δ)) := rfl
@[simp] theorem thaw_nil : thaw [] = [] := rfl
def tw (x : Option DV) : Option DV := x.map fun r => .val r.data
@[simp] theorem thaw_c {x : Option DV} {r : DS} : thaw (x :: r) = tw x :: thaw r := rfl
@[simp] theorem tw_v {d : D} : tw (some (.val d)) = v d := rfl
@[simp] theorem tw_o {ds : List D} : tw (some (.own ds)) = v (.list ds) := rfl
@[simp] theorem tw_n : tw none = none := rfl
@[simp] theorem mNoP_e {δ : DS} : mNoP δ = some none := rfl
def toP : Option D → Option (Option Int)
  | some (.int i) => some (some i)
  | _ => none
@[simp] theorem toP_some {i : Int} : toP (some (.int i)) = some (some i) := rfl
@[simp] theorem mP_e {m : DS → Option D} {δ : DS} : mP m δ = toP (m δ) := by
  unfold mP toP
  rfl
def gSlL : Option D → Option (Option Int) → Option (Option Int) → Option (List D)
  | some (.list xs), some lo, some hi => some (cutD xs lo hi)
  | _, _, _ => none
@[simp] theorem gSlL_some {xs : List D} {lo hi : Option Int} : gSlL (some (.list xs)) (some lo) (some hi) = some (cutD xs lo hi) := rfl
@[simp] theorem mSlL_e {m : DS → Option D} {l u : DS → Option (Option Int)} {δ : DS} : mSlL m l u δ = gSlL (m δ) (l δ) (u δ) := by
  unfold mSlL gSlL
  rfl
def gItems : Option D → Option (List D)
  | some (.list xs) => some xs
  | _ => none
@[simp] theorem gItems_some {xs : List D} : gItems (some (.list xs)) = some xs := rfl
@[simp] theorem mItems_e {m : DS → Option D} {δ : DS} : mItems m δ = gItems (m δ) := by
  unfold mItems gItems
  rfl
def gItemsT : Option D → Option (List D)
  | some (.tuple xs) => some xs
  | _ => none
@[simp] theorem gItemsT_some {xs : List D} : gItemsT (some (.tuple xs)) = some xs := rfl
@[simp] theorem mItemsT_e {m : DS → Option D} {δ : DS} : mItemsT m δ = gItemsT (m δ) := by
  unfold mItemsT gItemsT
  rfl
def gRng1 : Option (List D) → Option (List D)
  | some [.int n] => if okRng n = true then some (rngD 0 n.toNat) else none
  | _ => none
theorem gRng1_some {n : Int} (h0 : -1000000 ≤ n) (h : n ≤ 1000000) : gRng1 (some [.int n]) = some (rngD 0 n.toNat) := by
  show (if okRng n = true then _ else none) = _
  have e : okRng n = true := decide_eq_true ⟨h0, h⟩
  rw [if_pos e]
@[simp] theorem mRng1_e {ms : DS → Option (List D)} {δ : DS} : mRng1 ms δ = gRng1 (ms δ) := by
  unfold mRng1 gRng1
  rfl
def gRng2 : Option (List D) → Option (List D)
  | some [.int i, .int j] => if (okRng i && okRng j) = true then some (rngD i (j - i).toNat) else none
  | _ => none
@[simp] theorem mRng2_e {ms : DS → Option (List D)} {δ : DS} : mRng2 ms δ = gRng2 (ms δ) := by
  unfold mRng2 gRng2
  rfl
def gZip : Option (List D) → Option (List D)
  | some [.list xs, .list ys] => some (zipD xs ys)
  | _ => none
@[simp] theorem gZip_some {xs ys : List D} : gZip (some [.list xs, .list ys]) = some (zipD xs ys) := rfl
@[simp] theorem mZip_e {ms : DS → Option (List D)} {δ : DS} : mZip ms δ = gZip (ms δ) := by
  unfold mZip gZip
  rfl
@[simp] theorem gmName_e {i : Nat} {d : D} {δ : DS} : gmName i d δ = some (δ.set i (v d)) := rfl
@[simp] theorem wipeD_nil {δ : DS} : wipeD δ [] = δ := rfl
@[simp] theorem wipeD_cons {δ : DS} {i : Nat} {r : List Nat} : wipeD δ (i :: r) = (wipeD δ r).set i none := rfl
@[simp] theorem mLcI_e {mi : DS → Option (List D)} {gm : D → DS → Option DS} {mt : DS → Option Bool} {me : DS → Option D} {vs : List Nat} {δ : DS} :
    mLcI mi gm mt me vs δ = (mi δ).bind fun ds => if ds.length ≤ cap then colO (mLcF gm mt me (wipeD δ vs)) ds else none := rfl
/-! arithmetic -/
theorem dI2_ok {f : Int → Int → Int} {c : Int → Int → Bool} {i j : Int} (h : c i j = true) : dI2 f c (.int i) (.int j) = some (.int (f i j)) := by
  show (if c i j = true then some (PyData.int (f i j)) else none) = _
  rw [if_pos h]
@[simp] theorem dSub_i {i j : Int} : dSub (.int i) (.int j) = some (.int (i - j)) := rfl
@[simp] theorem dAdd_i {i j : Int} : dAdd (.int i) (.int j) = some (.int (i + j)) := rfl
@[simp] theorem dNeg_i {i : Int} : dNeg (.int i) = some (.int (-i)) := rfl
@[simp] theorem dMod_i {i j : Int} (h : 0 < j) : dMod (.int i) (.int j) = some (.int (i % j)) := dI2_ok (decide_eq_true h)
@[simp] theorem dDiv_i {i j : Int} (h : 0 < j) (h2 : j < 1073741824) : dDiv (.int i) (.int j) = some (.int (i / j)) := dI2_ok (decide_eq_true ⟨h, h2⟩)
@[simp] theorem dMul_r {i j : Int} (h : -18446744073709551616 < j) (h2 : j < 18446744073709551616) : dMul (.int i) (.int j) = some (.int (i * j)) := dI2_ok (decide_eq_true (.inr ⟨h, h2⟩))
theorem dMul_l {i j : Int} (h : -18446744073709551616 < i) (h2 : i < 18446744073709551616) : dMul (.int i) (.int j) = some (.int (i * j)) := dI2_ok (decide_eq_true (.inl ⟨h, h2⟩))
theorem dPow_i {i j : Int} (h : 0 ≤ j) (h2 : j ≤ 1000000) (h3 : i.natAbs < 2 ^ 64) : dPow (.int i) (.int j) = some (.int (i ^ j.toNat)) := dI2_ok (decide_eq_true ⟨h, h2, h3⟩)
theorem pow18 : dPow (.int 10) (.int 18) = some (.int 1000000000000000000) := by
  rw [dPow_i (by decide) (by decide) (by decide)]
  rfl
@[simp] theorem dLt_i {i j : Int} : dLt (.int i) (.int j) = some (.bool (decide (i < j))) := rfl
@[simp] theorem dLe_i {i j : Int} : dLe (.int i) (.int j) = some (.bool (decide (i ≤ j))) := rfl
@[simp] theorem dGt_i {i j : Int} : dGt (.int i) (.int j) = some (.bool (decide (j < i))) := rfl
@[simp] theorem dGe_i {i j : Int} : dGe (.int i) (.int j) = some (.bool (decide (j ≤ i))) := rfl
@[simp] theorem dIx_l {xs : List D} {i : Int} : dIx (.list xs) (.int i) = atI xs i := rfl
@[simp] theorem dIx_t {xs : List D} {i : Int} : dIx (.tuple xs) (.int i) = atI xs i := rfl
@[simp] theorem dInt_i {i : Int} : dInt [.int i] = some (.int i) := rfl
@[simp] theorem dLen_l {xs : List D} : dLen [.list xs] = some (.int xs.length) := rfl
@[simp] theorem dLen_t {xs : List D} : dLen [.tuple xs] = some (.int xs.length) := rfl
@[simp] theorem dMax2_i {i j : Int} : dMax2 [.int i, .int j] = some (.int (max i j)) := by
  show some (PyData.int (if j > i then j else i)) = _
  congr 2
  by_cases h : j > i
  · rw [if_pos h]; omega
  · rw [if_neg h]; omega
@[simp] theorem dIs_n {d : D} : dIs d .none = some (.bool (isNoneD d)) := by cases d <;> rfl
@[simp] theorem dIsNot_n {d : D} : dIsNot d .none = some (.bool (!isNoneD d)) := by cases d <;> rfl
@[simp] theorem dIs_b {a b : Bool} : dIs (.bool a) (.bool b) = some (.bool (decide (a = b))) := rfl
@[simp] theorem dIsNot_b {a b : Bool} : dIsNot (.bool a) (.bool b) = some (.bool (!decide (a = b))) := rfl
@[simp] theorem isNoneD_n : isNoneD .none = true := rfl
@[simp] theorem isNoneD_i {i : Int} : isNoneD (.int i) = false := rfl
@[simp] theorem isNoneD_b {i : Bool} : isNoneD (.bool i) = false := rfl
@[simp] theorem isNoneD_s {i : Str} : isNoneD (.str i) = false := rfl
@[simp] theorem isNoneD_l {i : List D} : isNoneD (.list i) = false := rfl
@[simp] theorem isNoneD_t {i : List D} : isNoneD (.tuple i) = false := rfl
/-! statements -/
def nx2 (b : DS → Option Out) : Option Out → Option Out
  | some (.nx δ) => b δ
  | o => o
@[simp] theorem nx2_nx {b : DS → Option Out} {δ : DS} : nx2 b (some (.nx δ)) = b δ := rfl
@[simp] theorem nx2_rt {b : DS → Option Out} {r : DV} : nx2 b (some (.rt r)) = some (.rt r) := rfl
@[simp] theorem nx2_bk {b : DS → Option Out} {δ : DS} : nx2 b (some (.bk δ)) = some (.bk δ) := rfl
@[simp] theorem nx2_ct {b : DS → Option Out} {δ : DS} : nx2 b (some (.ct δ)) = some (.ct δ) := rfl
@[simp] theorem nSeq_e {a b : DS → Option Out} {δ : DS} : nSeq a b δ = nx2 b (a δ) := by
  unfold nSeq nx2
  cases h : a δ with
  | none => rfl
  | some o => cases o <;> rfl
@[simp] theorem nNext_e {δ : DS} : nNext δ = some (.nx δ) := rfl
@[simp] theorem nAsg_e {i : Nat} {m : DS → Option D} {δ : DS} : nAsg i m δ = (m δ).map fun d => .nx (δ.set i (v d)) := rfl
@[simp] theorem nAsgO_e {i : Nat} {m : DS → Option (List D)} {δ : DS} : nAsgO i m δ = (m δ).map fun d => .nx (δ.set i (some (.own d))) := rfl
@[simp] theorem nAsgG_e {gm : D → DS → Option DS} {m : DS → Option D} {δ : DS} : nAsgG gm m δ = (m δ).bind fun d => (gm d δ).map fun δ' => .nx δ' := rfl
@[simp] theorem nIf_e {c : DS → Option Bool} {a b : DS → Option Out} {δ : DS} : nIf c a b δ = (c δ).bind fun x => if x = true then a δ else b δ := rfl
@[simp] theorem nRet_e {m : DS → Option D} {δ : DS} : nRet m δ = (m δ).map fun d => .rt (.val d) := rfl
@[simp] theorem nRetO_e {m : DS → Option (List D)} {δ : DS} : nRetO m δ = (m δ).map fun d => .rt (.own d) := rfl
@[simp] theorem nRetC_e {ms : DS → Option (List D)} {f : List D → Option DV} {δ : DS} : nRetC ms f δ = (ms δ).bind fun ds => (f ds).map Out.rt := rfl
@[simp] theorem nBrk_e {δ : DS} : nBrk δ = some (.bk δ) := rfl
@[simp] theorem nFor_e {mi : DS → Option (List D)} {gm : D → DS → Option DS} {b : DS → Option Out} {δ : DS} : nFor mi gm b δ = (mi δ).bind fun ds => mForL gm b ds δ := rfl
@[simp] theorem nFrz_e {i : Nat} {a : DS → Option Out} {δ : DS} : nFrz i a δ = a (frz i δ) := rfl
def gRetX : Option (Option DV) → Option Out
  | some (some (.own ds)) => some (.rt (.own ds))
  | _ => none
@[simp] theorem gRetX_o {ds : List D} : gRetX (some (some (.own ds))) = some (.rt (.own ds)) := rfl
@[simp] theorem nRetX_e {i : Nat} {δ : DS} : nRetX i δ = gRetX δ[i]? := by
  unfold nRetX gRetX
  rfl
def gApp (i : Nat) (δ : DS) : Option (Option DV) → Option D → Option Out
  | some (some (.own ds)), some d => if ds.length ≤ cap then some (.nx (δ.set i (some (.own (ds ++ [d]))))) else none
  | _, _ => none
theorem gApp_o {i : Nat} {δ : DS} {ds : List D} {d : D} (h : ds.length ≤ cap) : gApp i δ (some (some (.own ds))) (some d) = some (.nx (δ.set i (some (.own (ds ++ [d]))))) := by
  show (if ds.length ≤ cap then _ else none) = _
  rw [if_pos h]
@[simp] theorem nApp_e {i : Nat} {m : DS → Option D} {δ : DS} : nApp i m δ = gApp i δ δ[i]? (m δ) := by
  unfold nApp gApp
  rfl
def gSetI (i : Nat) (δ : DS) : Option (Option DV) → Option D → Option D → Option Out
  | some (some (.own ds)), some (.int k), some d => (ixN ds.length k).map fun j => .nx (δ.set i (some (.own (ds.set j d))))
  | _, _, _ => none
@[simp] theorem gSetI_o {i : Nat} {δ : DS} {ds : List D} {k : Int} {d : D} : gSetI i δ (some (some (.own ds))) (some (.int k)) (some d) = (ixN ds.length k).map fun j => .nx (δ.set i (some (.own (ds.set j d)))) := rfl
@[simp] theorem nSetI_e {i : Nat} {mi m : DS → Option D} {δ : DS} : nSetI i mi m δ = gSetI i δ δ[i]? (mi δ) (m δ) := by
  unfold nSetI gSetI
  rfl
@[simp] theorem frz_e {i : Nat} {δ : DS} {ds : List D} (h : δ[i]? = some (some (.own ds))) : frz i δ = δ.set i (v (.list ds)) := by
  unfold frz
  rw [h]
@[simp] theorem mForL_nil {gm : D → DS → Option DS} {b : DS → Option Out} {δ : DS} : mForL gm b [] δ = some (.nx δ) := rfl
def fr2 (k : DS → Option Out) : Option Out → Option Out
  | some (.nx δ) => k δ
  | some (.ct δ) => k δ
  | some (.bk δ) => some (.nx δ)
  | some (.rt r) => some (.rt r)
  | none => none
@[simp] theorem fr2_nx {k : DS → Option Out} {δ : DS} : fr2 k (some (.nx δ)) = k δ := rfl
@[simp] theorem fr2_ct {k : DS → Option Out} {δ : DS} : fr2 k (some (.ct δ)) = k δ := rfl
@[simp] theorem fr2_bk {k : DS → Option Out} {δ : DS} : fr2 k (some (.bk δ)) = some (.nx δ) := rfl
@[simp] theorem fr2_rt {k : DS → Option Out} {r : DV} : fr2 k (some (.rt r)) = some (.rt r) := rfl
theorem mForL_cons {gm : D → DS → Option DS} {b : DS → Option Out} {d : D} {ds : List D} {δ : DS} : mForL gm b (d :: ds) δ = (gm d δ).bind fun δ1 => fr2 (mForL gm b ds) (b δ1) := by
  show (gm d δ).bind _ = _
  congr 1
  funext δ1
  cases h : b δ1 with
  | none => rfl
  | some o => cases o <;> rfl
/-- a for whose turns all go on -/
theorem mForL_inv {gm : D → DS → Option DS} {b : DS → Option Out} (P : Nat → DS → Prop) : ∀ (ds : List D) (k : Nat) (δ : DS), P k δ →
    (∀ i d δ, ds[i]? = some d → P (k + i) δ → ∃ δ1, gm d δ = some δ1 ∧ ∃ δ2, (b δ1 = some (.nx δ2) ∨ b δ1 = some (.ct δ2)) ∧ P (k + i + 1) δ2) → ∃ δ', mForL gm b ds δ = some (.nx δ') ∧ P (k + ds.length) δ'
  | [], k, δ, h, _ => ⟨δ, rfl, h⟩
  | d :: ds, k, δ, h, hs => by
    obtain ⟨δ1, h1, δ2, h2, h3⟩ := hs 0 d δ rfl h
    obtain ⟨δ', e, p⟩ := mForL_inv P ds (k + 1) δ2 h3 fun i d' δ hd hp => by
      have e : k + 1 + i = k + (i + 1) := by omega
      rw [e] at hp ⊢
      exact hs (i + 1) d' δ (by rw [List.getElem?_cons_succ]; exact hd) hp
    refine ⟨δ', ?_, by rw [List.length_cons]; have z : k + (ds.length + 1) = k + 1 + ds.length := by omega
                       rw [z]; exact p⟩
    rw [mForL_cons, h1]
    show fr2 _ (b δ1) = _
    rcases h2 with h2 | h2
    · rw [h2]; exact e
    · rw [h2]; exact e
/-! calls of defs -/
theorem fnD_rt {n k : Nat} {mm : DS → Option Out} {ds : List D} {r : DV} (hk : ds.length = k) (h : mm (startD n ds) = some (.rt r)) : fnD n k mm ds = some r := by
  unfold fnD
  rw [if_pos hk, h]
@[simp] theorem startD_1 {n : Nat} {a : D} : startD (n + 1) [a] = v a :: List.replicate n none := by
  unfold startD
  simp
@[simp] theorem startD_2 {n : Nat} {a b : D} : startD (n + 2) [a, b] = v a :: v b :: List.replicate n none := by
  unfold startD
  simp
@[simp] theorem startD_3 {n : Nat} {a b c : D} : startD (n + 3) [a, b, c] = v a :: v b :: v c :: List.replicate n none := by
  unfold startD
  simp
@[simp] theorem startD_4 {n : Nat} {a b c d : D} : startD (n + 4) [a, b, c, d] = v a :: v b :: v c :: v d :: List.replicate n none := by
  unfold startD
  simp
/-! lists of things -/
theorem rngD_succ (lo : Int) (n : Nat) : rngD lo (n + 1) = .int lo :: rngD (lo + 1) n := by
  unfold rngD
  rw [List.range_succ_eq_map, List.map_cons, List.map_map]
  congr 1
  · simp
  · apply List.map_congr_left
    intro i _
    show PyData.int (lo + ((i + 1 : Nat) : Int)) = PyData.int (lo + 1 + (i : Int))
    congr 1
    omega
@[simp] theorem rngD_zero (lo : Int) : rngD lo 0 = [] := rfl
theorem rngD_get {lo : Int} {n i : Nat} {d : D} (h : (rngD lo n)[i]? = some d) : d = .int (lo + (i : Int)) ∧ i < n := by
  have hi : i < n := by
    have := (List.getElem?_eq_some_iff.mp h).1
    rw [rngD_len] at this
    exact this
  unfold rngD at h
  rw [List.getElem?_map, List.getElem?_range hi] at h
  exact ⟨(Option.some.inj h).symm, hi⟩
@[simp] theorem colO_nil {f : D → Option (Option D)} : colO f [] = some [] := rfl
theorem colO_cons {f : D → Option (Option D)} {d : D} {ds : List D} : colO f (d :: ds) = (f d).bind fun a => (colO f ds).bind fun r => some (match a with | some x => x :: r | none => r) := rfl
/-- a comprehension without a test, item by item -/
theorem colO_map {f : D → Option (Option D)} {α : Type} (P : Nat → α → Prop) (enc : α → D) : ∀ (ds : List D) (k : Nat), (∀ i d, ds[i]? = some d → ∃ a, P (k + i) a ∧ f d = some (some (enc a))) →
    ∃ as : List α, as.length = ds.length ∧ (∀ i a, as[i]? = some a → P (k + i) a) ∧ colO f ds = some (as.map enc)
  | [], _, _ => ⟨[], rfl, fun i a h => by simp at h, rfl⟩
  | d :: ds, k, h => by
    obtain ⟨a, p, e⟩ := h 0 d rfl
    obtain ⟨as, h1, h2, h3⟩ := colO_map P enc ds (k + 1) fun i d' hd => by
      obtain ⟨b, q, e⟩ := h (i + 1) d' (by rw [List.getElem?_cons_succ]; exact hd)
      refine ⟨b, ?_, e⟩
      have z : k + 1 + i = k + (i + 1) := by omega
      rw [z]
      exact q
    refine ⟨a :: as, by rw [List.length_cons, List.length_cons, h1], fun i b hb => ?_, ?_⟩
    · cases i with
      | zero =>
        rw [List.getElem?_cons_zero] at hb
        cases hb
        exact p
      | succ i =>
        rw [List.getElem?_cons_succ] at hb
        have q := h2 i b hb
        have z : k + 1 + i = k + (i + 1) := by omega
        rw [z] at q
        exact q
    · rw [colO_cons, e, h3]
      rfl
/-- of equal functions -/
theorem colO_eq {f : D → Option (Option D)} {α : Type} (F : α → D) (G : α → D) : ∀ (as : List α), (∀ a ∈ as, f (F a) = some (some (G a))) → colO f (as.map F) = some (as.map G)
  | [], _ => rfl
  | a :: as, h => by
    rw [List.map_cons, colO_cons, h a List.mem_cons_self, colO_eq F G as fun b hb => h b (List.mem_cons_of_mem _ hb)]
    rfl
theorem atI_of {α : Type} {xs : List α} {i : Int} {x : α} (h0 : 0 ≤ i) (h : xs[i.toNat]? = some x) : atI xs i = some x := by
  have e : i = ((i.toNat : Nat) : Int) := by omega
  rw [e]
  exact atI_nat h
theorem atI_int {ns : List Int} {i : Int} (h0 : 0 ≤ i) (h : i < ns.length) : atI (ns.map PyData.int) i = some (.int (ns.getD i.toNat 0)) := by
  refine atI_of h0 ?_
  have hi : i.toNat < ns.length := by omega
  have e : ns.getD i.toNat 0 = ns[i.toNat] := by simp [List.getD, hi]
  rw [List.getElem?_map, List.getElem?_eq_getElem hi, e]
  rfl
theorem cutD_map {α β : Type} (f : α → β) (xs : List α) (lo hi : Option Int) : cutD (xs.map f) lo hi = (cutD xs lo hi).map f := by
  unfold cutD
  rw [List.length_map, List.map_take, List.map_drop]
theorem cutD_nat {α : Type} (xs : List α) {a b : Nat} (h : a ≤ b) (hb : b ≤ xs.length) : cutD xs (some (a : Int)) (some (b : Int)) = (xs.drop a).take (b - a) := by
  unfold cutD
  rw [HT.sIx_nat, HT.sIx_nat, Nat.min_eq_left hb, Nat.min_eq_left (Nat.le_trans h hb)]
theorem cutD_len {α : Type} (xs : List α) {a b : Nat} (h : a ≤ b) (hb : b ≤ xs.length) : (cutD xs (some (a : Int)) (some (b : Int))).length = b - a := by
  rw [cutD_nat xs h hb, List.length_take, List.length_drop]
  omega
theorem cutD_mem {α : Type} {xs : List α} {lo hi : Option Int} {x : α} (h : x ∈ cutD xs lo hi) : x ∈ xs := List.mem_of_mem_drop (List.mem_of_mem_take h)
end Dl
namespace Dl
open PySem PySem.Spec PyProof.Rows L2
/-- a comprehension that keeps some -/
theorem colO_fm {f : D → Option (Option D)} {α β : Type} (F : α → D) (g : α → Option β) (G : β → D) : ∀ (as : List α), (∀ a ∈ as, f (F a) = some ((g a).map G)) → colO f (as.map F) = some ((as.filterMap g).map G)
  | [], _ => rfl
  | a :: as, h => by
    rw [List.map_cons, colO_cons, h a List.mem_cons_self, colO_fm F g G as fun b hb => h b (List.mem_cons_of_mem _ hb)]
    cases hg : g a with
    | none => rw [List.filterMap_cons_none hg]; rfl
    | some b => rw [List.filterMap_cons_some hg]; rfl
/-- a for over data that stand for things, that folds a state -/
theorem mForL_fold {gm : D → DS → Option DS} {b : DS → Option Out} {α β : Type} (F : α → D) (step : β → α → β) (St : β → DS → Prop) : ∀ (as : List α) (s : β) (δ : DS), St s δ →
    (∀ a ∈ as, ∀ s δ, St s δ → ∃ δ1, gm (F a) δ = some δ1 ∧ ∃ δ2, b δ1 = some (.nx δ2) ∧ St (step s a) δ2) → ∃ δ', mForL gm b (as.map F) δ = some (.nx δ') ∧ St (as.foldl step s) δ'
  | [], s, δ, h, _ => ⟨δ, rfl, h⟩
  | a :: as, s, δ, h, hs => by
    obtain ⟨δ1, h1, δ2, h2, h3⟩ := hs a List.mem_cons_self s δ h
    obtain ⟨δ', e, p⟩ := mForL_fold F step St as (step s a) δ2 h3 fun x hx => hs x (List.mem_cons_of_mem _ hx)
    refine ⟨δ', ?_, p⟩
    rw [List.map_cons, mForL_cons, h1]
    show fr2 _ (b δ1) = _
    rw [h2]
    exact e
theorem asIs_map : ∀ ns : List Int, asIs (ns.map PyData.int) = some ns
  | [] => rfl
  | n :: r => by
    show (asIs (r.map PyData.int)).map _ = _
    rw [asIs_map r]
    rfl
theorem asBs_map : ∀ ns : List Bool, asBs (ns.map PyData.bool) = some ns
  | [] => rfl
  | n :: r => by
    show (asBs (r.map PyData.bool)).map _ = _
    rw [asBs_map r]
    rfl
@[simp] theorem dAll_map {bs : List Bool} : dAll [.list (bs.map PyData.bool)] = some (.bool (bs.all id)) := by
  show (asBs (bs.map PyData.bool)).map _ = _
  rw [asBs_map]
  rfl
@[simp] theorem dAny_map {bs : List Bool} : dAny [.list (bs.map PyData.bool)] = some (.bool (bs.any id)) := by
  show (asBs (bs.map PyData.bool)).map _ = _
  rw [asBs_map]
  rfl
@[simp] theorem dSum_map {bs : List Int} : dSum [.list (bs.map PyData.int)] = some (.int bs.sum) := by
  show (asIs (bs.map PyData.int)).map _ = _
  rw [asIs_map]
  rfl
theorem isi_lst : isiD "list" (.list ds) = some (.bool true) := by rfl
theorem isi_bb : isiD "bool" (.bool b) = some (.bool true) := by rfl
theorem isi_bi : isiD "bool" (.int b) = some (.bool false) := by rfl
theorem isi_ii : isiD "int" (.int b) = some (.bool true) := by rfl
theorem isi_ib : isiD "int" (.bool b) = some (.bool true) := by rfl
@[simp] theorem atI_zero {α : Type} {x : α} {r : List α} : atI (x :: r) 0 = some x := atI_nat (j := 0) rfl
@[simp] theorem isNoneD_d {i : List (D × D)} : isNoneD (.dict i) = false := rfl
theorem dPick_map {pick : Int → Int → Int} {ns : List Int} {e : D} : dPick pick [.list (ns.map PyData.int)] [e] = some (match ns with | [] => e | n :: r => .int (r.foldl pick n)) := by
  have h := asIs_map ns
  show (match asIs (ns.map PyData.int) with | some [] => some e | some (n :: r) => some (PyData.int (r.foldl pick n)) | none => none) = _
  rw [h]
  cases ns <;> rfl
theorem inB_l {d : D} {es : List D} (h1 : flatD d = true) (h2 : es.all flatD = true) : inB d (.list es) = some (inD d es) := by
  have h : (flatD d && es.all flatD) = true := by rw [h1, h2]; rfl
  unfold inB
  show (if (flatD d && es.all flatD) = true then some (inD d es) else none) = _
  rw [if_pos h]
@[simp] theorem zipD_map {α β : Type} {f : α → D} {g : β → D} {xs : List α} {ys : List β} : zipD (xs.map f) (ys.map g) = (List.zip xs ys).map fun p => .tuple [f p.1, g p.2] := by
  unfold zipD
  rw [List.zipWith_map, List.zip_eq_zipWith, List.map_zipWith]
@[simp] theorem gmPair_t {i j : Nat} {a b : D} {δ : DS} : gmPair i j (.tuple [a, b]) δ = some ((δ.set i (v a)).set j (v b)) := rfl
theorem seq_go {a b : DS → Option Out} {δ δ' : DS} {o : Option Out} (h : a δ = some (.nx δ')) (k : b δ' = o) : nSeq a b δ = o := by
  rw [nSeq_e, h]
  exact k
theorem len5 {α : Type} {xs : List α} (h : xs.length = 5) : ∃ a b c d e, xs = [a, b, c, d, e] := by
  match xs, h with
  | [a, b, c, d, e], _ => exact ⟨a, b, c, d, e, rfl⟩
theorem len4 {α : Type} {xs : List α} (h : xs.length = 4) : ∃ a b c d, xs = [a, b, c, d] := by
  match xs, h with
  | [a, b, c, d], _ => exact ⟨a, b, c, d, rfl⟩
end Dl
namespace Dl
open PySem PySem.Spec PyProof.Rows L2

/-! ### repr: sizes -/
mutual
def szD : D → Nat
  | .none => 4
  | .bool _ => 5
  | .int i => (Str.ofString (toString i)).length
  | .str x => (reprText x).length
  | .list xs => szA xs + 2
  | .tuple xs => szA xs + 3
  | .dict _ => 0
def szA : List D → Nat
  | [] => 0
  | x :: xs => szD x + 2 + szA xs
end
theorem textFrom_le : ∀ (ts : List Str) (k : Nat) (acc : Str), (textFrom k acc ts).length ≤ acc.length + piled ts
  | [], _, acc => Nat.le_add_right _ _
  | t :: ts, k, acc => by
    show (textFrom (k + 1) (acc ++ (if k > 0 then ", " else "" : String) ++ t) ts).length ≤ _
    have ih := textFrom_le ts (k + 1) (acc ++ (if k > 0 then ", " else "" : String) ++ t)
    rw [Str.length_append, Str.length_append] at ih
    have h2 : (Str.ofString (if k > 0 then ", " else "")).length ≤ 2 := by
      by_cases h : k > 0
      · rw [if_pos h]; decide
      · rw [if_neg h]; decide
    rw [piled_cons]
    omega
mutual
theorem shown_le : ∀ d : D, d.hasDict = false → d.shown.length ≤ szD d
  | .none, _ => by show (Str.ofString "None").length ≤ 4; decide
  | .bool true, _ => by show (Str.ofString "True").length ≤ 5; decide
  | .bool false, _ => by show (Str.ofString "False").length ≤ 5; decide
  | .int i, _ => Nat.le_refl _
  | .str x, _ => by rw [PyData.shown]; exact Nat.le_refl _
  | .list xs, h => by
    rw [PyData.shown, szD]
    have ih := shownAll_le xs (by simpa [PyData.hasDict] using h)
    unfold listText
    rw [Str.length_append]
    have h1 := textFrom_le (PyData.shownAll xs) 0 (Str.ofString "[")
    have h2 : (Str.ofString "[").length = 1 := by decide
    have h3 : (Str.ofString "]").length = 1 := by decide
    omega
  | .tuple xs, h => by
    rw [PyData.shown, szD]
    have ih := shownAll_le xs (by simpa [PyData.hasDict] using h)
    unfold tupleText
    rw [Str.length_append, Str.length_append]
    have h1 : (Str.join ", " (PyData.shownAll xs)).length ≤ piled (PyData.shownAll xs) := by
      by_cases he : PyData.shownAll xs = []
      · rw [he]; decide
      · have := join_length_add _ he
        omega
    have h2 : (Str.ofString "(").length = 1 := by decide
    have h3 : (Str.ofString (if (PyData.shownAll xs).length == 1 then ",)" else ")")).length ≤ 2 := by
      by_cases h : ((PyData.shownAll xs).length == 1) = true
      · rw [if_pos h]; decide
      · rw [if_neg h]; decide
    omega
  | .dict _, h => by simp [PyData.hasDict] at h
theorem shownAll_le : ∀ xs : List D, PyData.hasDictAll xs = false → piled (PyData.shownAll xs) ≤ szA xs
  | [], _ => by rw [PyData.shownAll]; decide
  | x :: xs, h => by
    rw [PyData.hasDictAll, Bool.or_eq_false_iff] at h
    rw [PyData.shownAll, piled_cons, szA]
    have h1 := shown_le x h.1
    have h2 := shownAll_le xs h.2
    omega
end
theorem log2_small {n k : Nat} (h : n < 2 ^ k) (hk : 0 < k) : n.log2 < k := by
  by_cases h0 : n = 0
  · subst h0
    simpa using hk
  · exact (Nat.log2_lt h0).mpr h
theorem int_sz {i : Int} {k : Nat} (h : i.natAbs < 2 ^ k) (hk : 0 < k) : szD (.int i) ≤ k + 1 := by
  have h1 := int_text_length_le hk (log2_small h hk)
  have h2 : (Str.ofString (toString i)).length = (toString i).length := PySem.ofString_length _
  show (Str.ofString (toString i)).length ≤ k + 1
  rw [h2]
  exact h1
theorem int_showable {i : Int} {k : Nat} (h : i.natAbs < 2 ^ k) (hk : 0 < k) (h2 : k ≤ 1920) : PyData.showable (.int i) = true := by
  rw [PyData.showable]
  exact decide_eq_true (Nat.lt_of_lt_of_le (log2_small h hk) h2)
/-- a predicate that is kept by lists and tuples -/
structure Shw (d : D) (dep n : Nat) : Prop where
  sh : d.showable = true
  nd : d.hasDict = false
  dp : d.depth ≤ dep
  sz : szD d ≤ n
theorem Shw.ok {d : D} {dep n : Nat} (h : Shw d dep n) (h1 : dep ≤ 60) (h2 : n ≤ 10000000) : reprOk d = true := by
  unfold reprOk
  rw [h.sh, decide_eq_true (Nat.le_trans h.dp h1), decide_eq_true (Nat.le_trans (shown_le d h.nd) (Nat.le_trans h.sz h2))]
  rfl
theorem Shw.mono {d : D} {a b n m : Nat} (h : Shw d a n) (h1 : a ≤ b) (h2 : n ≤ m) : Shw d b m := ⟨h.sh, h.nd, Nat.le_trans h.dp h1, Nat.le_trans h.sz h2⟩
theorem shw_int {i : Int} {k : Nat} (h : i.natAbs < 2 ^ k) (hk : 0 < k) (h2 : k ≤ 1920) : Shw (.int i) 0 (k + 1) := ⟨int_showable h hk h2, rfl, Nat.le_refl _, int_sz h hk⟩
theorem shw_none : Shw .none 0 4 := ⟨rfl, rfl, Nat.le_refl _, Nat.le_refl _⟩
theorem shw_bool {b : Bool} : Shw (.bool b) 0 5 := ⟨rfl, rfl, Nat.le_refl _, Nat.le_refl _⟩
theorem shw_str {x : Str} : Shw (.str x) 0 (reprText x).length := ⟨rfl, rfl, Nat.le_refl _, Nat.le_refl _⟩
structure ShwA (ds : List D) (dep n : Nat) : Prop where
  sh : PyData.showableAll ds = true
  nd : PyData.hasDictAll ds = false
  dp : PyData.depthAll ds ≤ dep
  sz : szA ds ≤ n
theorem shw_nil {dep : Nat} : ShwA [] dep 0 := ⟨rfl, rfl, Nat.zero_le _, Nat.le_refl _⟩
theorem shw_cons {d : D} {ds : List D} {dep n m : Nat} (h : Shw d dep n) (h2 : ShwA ds dep m) : ShwA (d :: ds) dep (n + 2 + m) := by
  refine ⟨?_, ?_, ?_, ?_⟩
  · rw [PyData.showableAll, h.sh, h2.sh]; rfl
  · rw [PyData.hasDictAll, h.nd, h2.nd]; rfl
  · rw [PyData.depthAll]; exact Nat.max_le.mpr ⟨h.dp, h2.dp⟩
  · rw [szA]
    have := h.sz
    have := h2.sz
    omega
theorem shw_all {ds : List D} {dep n : Nat} (h : ∀ d ∈ ds, Shw d dep n) : ShwA ds dep ((n + 2) * ds.length) := by
  induction ds with
  | nil => exact ⟨rfl, rfl, Nat.zero_le _, Nat.zero_le _⟩
  | cons d r ih =>
    have h1 := shw_cons (h d List.mem_cons_self) (ih fun x hx => h x (List.mem_cons_of_mem _ hx))
    have e : n + 2 + (n + 2) * r.length = (n + 2) * (d :: r).length := by
      rw [List.length_cons, Nat.mul_succ, Nat.add_comm]
    rw [← e]
    exact h1
theorem shw_list {ds : List D} {dep n : Nat} (h : ShwA ds dep n) : Shw (.list ds) (dep + 1) (n + 2) := by
  refine ⟨by rw [PyData.showable]; exact h.sh, by rw [PyData.hasDict]; exact h.nd, by rw [PyData.depth]; exact Nat.succ_le_succ h.dp, by rw [szD]; exact Nat.add_le_add_right h.sz _⟩
theorem shw_tup {ds : List D} {dep n : Nat} (h : ShwA ds dep n) : Shw (.tuple ds) (dep + 1) (n + 3) := by
  refine ⟨by rw [PyData.showable]; exact h.sh, by rw [PyData.hasDict]; exact h.nd, by rw [PyData.depth]; exact Nat.succ_le_succ h.dp, by rw [szD]; exact Nat.add_le_add_right h.sz _⟩
theorem ShwA.mono {d : List D} {a b n m : Nat} (h : ShwA d a n) (h1 : a ≤ b) (h2 : n ≤ m) : ShwA d b m := ⟨h.sh, h.nd, Nat.le_trans h.dp h1, Nat.le_trans h.sz h2⟩

/-! == -/
mutual
theorem eqv_self : ∀ d : D, d.hasDict = false → PyData.eqv d d = true
  | .none, _ => by simp [PyData.eqv]
  | .bool _, _ => by simp [PyData.eqv]
  | .int _, _ => by simp [PyData.eqv]
  | .str _, _ => by simp [PyData.eqv]
  | .list xs, h => by rw [PyData.eqv]; exact eqvA_self xs (by simpa [PyData.hasDict] using h)
  | .tuple xs, h => by rw [PyData.eqv]; exact eqvA_self xs (by simpa [PyData.hasDict] using h)
  | .dict _, h => by simp [PyData.hasDict] at h
theorem eqvA_self : ∀ xs : List D, PyData.hasDictAll xs = false → PyData.eqvAll xs xs = true
  | [], _ => by simp [PyData.eqvAll]
  | x :: xs, h => by
    rw [PyData.hasDictAll, Bool.or_eq_false_iff] at h
    rw [PyData.eqvAll, eqv_self x h.1, eqvA_self xs h.2]
    rfl
end
theorem eqB_of {d e : D} (h1 : SeqAt.shaped d = true) (h2 : SeqAt.shaped e = true) (hd : ∀ x, d ≠ .str x) : eqB d e = some (PyData.eqv d e) := by
  have h : (SeqAt.shaped d && SeqAt.shaped e) = true := by rw [h1, h2]; rfl
  unfold eqB
  split
  · rename_i x y
    exact absurd rfl (hd x)
  · rw [if_pos h]
theorem eqB_self {d : D} (h : SeqAt.shaped d = true) (hd : d.hasDict = false) : eqB d d = some true := by
  cases d with
  | str x =>
    show some (decide (x = x)) = some true
    rw [decide_eq_true rfl]
  | _ => rw [eqB_of h h (fun x z => by cases z), eqv_self _ hd]
theorem eqB_int {i j : Int} : eqB (.int i) (.int j) = some (decide (i = j)) := by
  have h1 : ∀ k : Int, SeqAt.shaped (.int k) = true := fun k => by simp [SeqAt.shaped, PyData.canLay0, PyData.depth]
  show (if (SeqAt.shaped (.int i) && SeqAt.shaped (.int j)) = true then some (PyData.eqv (.int i) (.int j)) else none) = _
  rw [h1, h1]
  simp [PyData.eqv]
  by_cases h : i = j <;> simp [h]
theorem eqB_bool {i j : Bool} : eqB (.bool i) (.bool j) = some (decide (i = j)) := by
  have h1 : ∀ k : Bool, SeqAt.shaped (.bool k) = true := fun k => by simp [SeqAt.shaped, PyData.canLay0, PyData.depth]
  show (if (SeqAt.shaped (.bool i) && SeqAt.shaped (.bool j)) = true then some (PyData.eqv (.bool i) (.bool j)) else none) = _
  rw [h1, h1]
  simp [PyData.eqv]
  by_cases h : i = j <;> simp [h]
theorem shaped_of {d : D} (h1 : d.canLay0 = true) (h2 : d.depth ≤ 64) : SeqAt.shaped d = true := by
  unfold SeqAt.shaped
  rw [h1, decide_eq_true h2]
  rfl
/-- things as data, compared as things -/
structure Flt (α : Type) [DecidableEq α] (enc : α → D) (dep : Nat) : Prop where
  lay : ∀ a, (enc a).canLay0 = true
  dp : ∀ a, (enc a).depth ≤ dep
  eq : ∀ a b, PyData.eqv (enc a) (enc b) = decide (a = b)
theorem Flt.int : Flt Int PyData.int 0 := ⟨fun _ => rfl, fun _ => Nat.le_refl _, fun a b => by rw [PyData.eqv]; by_cases h : a = b <;> simp [h]⟩
theorem Flt.bool : Flt Bool PyData.bool 0 := ⟨fun _ => rfl, fun _ => Nat.le_refl _, fun a b => by rw [PyData.eqv]; by_cases h : a = b <;> simp [h]⟩
theorem Flt.all {α : Type} [DecidableEq α] {enc : α → D} {dep : Nat} (f : Flt α enc dep) : ∀ xs ys : List α, PyData.eqvAll (xs.map enc) (ys.map enc) = decide (xs = ys)
  | [], [] => by simp [PyData.eqvAll]
  | [], _ :: _ => by simp [PyData.eqvAll]
  | _ :: _, [] => by simp [PyData.eqvAll]
  | a :: r, b :: s => by
    rw [List.map_cons, List.map_cons, PyData.eqvAll, f.eq, f.all r s]
    by_cases h1 : a = b <;> by_cases h2 : r = s <;> simp [h1, h2]
theorem Flt.layA {α : Type} [DecidableEq α] {enc : α → D} {dep : Nat} (f : Flt α enc dep) : ∀ xs : List α, PyData.canLayAll0 (xs.map enc) = true ∧ PyData.depthAll (xs.map enc) ≤ dep
  | [] => ⟨rfl, Nat.zero_le _⟩
  | a :: r => by
    obtain ⟨h1, h2⟩ := f.layA r
    rw [List.map_cons, PyData.canLayAll0, PyData.depthAll, f.lay, h1]
    exact ⟨rfl, Nat.max_le.mpr ⟨f.dp a, h2⟩⟩
theorem Flt.list {α : Type} [DecidableEq α] {enc : α → D} {dep : Nat} (f : Flt α enc dep) : Flt (List α) (fun xs => .list (xs.map enc)) (dep + 1) :=
  ⟨fun xs => by show PyData.canLay0 (.list _) = true; rw [PyData.canLay0]; exact (f.layA xs).1, fun xs => by show PyData.depth (.list _) ≤ _; rw [PyData.depth]; exact Nat.succ_le_succ (f.layA xs).2, fun xs ys => by
    show PyData.eqv (.list _) (.list _) = _
    rw [PyData.eqv, f.all]⟩
theorem Flt.eqB {α : Type} [DecidableEq α] {enc : α → D} {dep : Nat} (f : Flt α enc dep) (hd : dep ≤ 60) (a b : α) (h : ∀ x, enc a ≠ .str x) : eqB (enc a) (enc b) = some (decide (a = b)) := by
  rw [eqB_of (shaped_of (f.lay a) (Nat.le_trans (f.dp a) (Nat.le_trans hd (by decide)))) (shaped_of (f.lay b) (Nat.le_trans (f.dp b) (Nat.le_trans hd (by decide)))) h, f.eq]
theorem Flt.dEq {α : Type} [DecidableEq α] {enc : α → D} {dep : Nat} (f : Flt α enc dep) (hd : dep ≤ 60) (a b : α) (h : ∀ x, enc a ≠ .str x) : dEq (enc a) (enc b) = some (.bool (decide (a = b))) := by
  unfold Dl.dEq
  rw [f.eqB hd a b h]
  rfl
theorem Flt.dNe {α : Type} [DecidableEq α] {enc : α → D} {dep : Nat} (f : Flt α enc dep) (hd : dep ≤ 60) (a b : α) (h : ∀ x, enc a ≠ .str x) : dNe (enc a) (enc b) = some (.bool (!decide (a = b))) := by
  unfold Dl.dNe
  rw [f.eqB hd a b h]
  rfl
@[simp] theorem dNe_bools {xs ys : List Bool} : Dl.dNe (.list (xs.map PyData.bool)) (.list (ys.map PyData.bool)) = some (.bool (!decide (xs = ys))) := Flt.bool.list.dNe (by decide) xs ys (fun x z => by cases z)
end Dl
namespace Law
open PySem PySem.Spec PyProof.Rows L2 Dl
def c__law_draws_1 : DS → Option D :=
    (mVar 8)
def b__law_draws_1 : DS → Option Out :=
    (nSeq (nAsg 5 (mC (.int 0)))
      (nSeq (nIf (mBorT (mB (m2 dGt (mCall (mCons (mVar 2) mNil) dLen) (mC (.int 0))))) (nSeq (nAsg 6 (mBor (m2 dMod (mCall (mCons (mVar 4) mNil) dInt) (mCall (mCons (mVar 2) mNil) dLen))))
      (nIf (mBorT (mB (m2 dGe (m2 dIx (mVar 2) (mVar 6)) (m2 dPow (mC (.int 10)) (mC (.int 18)))))) (nSeq (nAsg 5 (mBor (m2 dMod (mCall (mCons (m2 dIx (mVar 2) (mVar 6)) mNil) dInt) (mC (.int 1000)))))
      (nSetI 2 (mVar 6) (mBor (m2 dDiv (m2 dIx (mVar 2) (mVar 6)) (mC (.int 1000)))))) (nSeq (nAsg 7 (mBor (m2 dMod (mCall (mCons (m2 dAdd (m2 dAdd (m2 dMul (m2 dIx (mVar 2) (mVar 6)) (mC (.int 48271))) (m2 dMul (mVar 4) (mC (.int 69621)))) (mC (.int 11))) mNil) dInt) (mC (.int 2147483647)))))
      (nSeq (nAsg 7 (m2 dMod (mCall (mCons (m2 dAdd (m2 dMul (mVar 7) (mC (.int 16807))) (mVar 6)) mNil) dInt) (mC (.int 2147483629))))
      (nAsg 5 (m2 dMod (mCall (mCons (m2 dDiv (mVar 7) (mC (.int 7))) mNil) dInt) (mC (.int 1000)))))))) nNext)
      (nApp 3 (mVar 5))))
def m__law_draws : DS → Option Out :=
    (nSeq (nAsgO 2 (mLcI (mItems (mVar 0)) (gmName 8) mYes c__law_draws_1 [8]))
      (nSeq (nAsgO 3 mNil)
      (nSeq (nFor (mRng1 (mCons (mVar 1) mNil)) (gmName 4) b__law_draws_1)
      (nRetX 3))))
abbrev N__law_draws : List Str := ["script", "count", "rests", "draws", "k", "value", "at", "mixed", "cell"]
def f__law_draws : List D → Option DV := fnD N__law_draws.length (["script", "count"] : List Str).length m__law_draws
def m__law_amount : DS → Option Out :=
    (nSeq (nIf (mB (m2 dEq (m2 dMod (mCall (mCons (m2 dIx (mVar 0) (mC (.int 1))) mNil) dInt) (mC (.int 9))) (mC (.int 8)))) (nRet (mC .none)) nNext)
      (nRet (m2 dMod (mCall (mCons (m2 dIx (mVar 0) (mC (.int 0))) mNil) dInt) (mC (.int 12)))))
abbrev N__law_amount : List Str := ["draws"]
def f__law_amount : List D → Option DV := fnD N__law_amount.length (["draws"] : List Str).length m__law_amount
def m__law_leaf : DS → Option Out :=
    (nSeq (nAsg 2 (m2 dMod (mCall (mCons (m2 dIx (mVar 0) (mC (.int 0))) mNil) dInt) (mC (.int 5))))
      (nSeq (nIf (mB (m2 dEq (mVar 2) (mC (.int 0)))) (nRet (mTup (mCons (mC (.str "amount")) (mCons (mCallF (mCons (mLst (mSlL (mVar 0) (mP (mC (.int 1))) (mP (mC (.int 3))))) mNil) f__law_amount) mNil)))) nNext)
      (nSeq (nIf (mB (m2 dLt (mVar 2) (mC (.int 3)))) (nRet (mTup (mCons (mC (.str "cell")) (mCons (m2 dMod (mCall (mCons (m2 dIx (mVar 0) (mC (.int 1))) mNil) dInt) (mVar 1)) mNil)))) nNext)
      (nRet (mTup (mCons (mC (.str "more")) (mCons (mTup (mCons (mC (.str "cell")) (mCons (m2 dMod (mCall (mCons (m2 dIx (mVar 0) (mC (.int 1))) mNil) dInt) (mVar 1)) mNil))) (mCons (m2 dSub (m2 dMod (mCall (mCons (m2 dIx (mVar 0) (mC (.int 2))) mNil) dInt) (mC (.int 9))) (mC (.int 4))) mNil))))))))
abbrev N__law_leaf : List Str := ["draws", "many", "kind"]
def f__law_leaf : List D → Option DV := fnD N__law_leaf.length (["draws", "many"] : List Str).length m__law_leaf
def c__law_formula_1 : DS → Option D :=
    (mCallF (mCons (mLst (mSlL (mVar 0) (mP (m2 dAdd (mC (.int 2)) (m2 dMul (mC (.int 3)) (mVar 4)))) (mP (m2 dAdd (mC (.int 5)) (m2 dMul (mC (.int 3)) (mVar 4)))))) (mCons (mVar 1) mNil)) f__law_leaf)
def m__law_formula : DS → Option Out :=
    (nSeq (nAsg 2 (m2 dMod (mCall (mCons (m2 dIx (mVar 0) (mC (.int 0))) mNil) dInt) (mC (.int 8))))
      (nSeq (nAsg 3 (mLst (mLcI (mRng1 (mCons (m2 dAdd (mC (.int 1)) (m2 dMod (mCall (mCons (m2 dIx (mVar 0) (mC (.int 1))) mNil) dInt) (mC (.int 3)))) mNil)) (gmName 4) mYes c__law_formula_1 [4])))
      (nSeq (nIf (mB (m2 dLt (mVar 2) (mC (.int 2)))) (nRet (m2 dIx (mVar 3) (mC (.int 0)))) nNext)
      (nSeq (nIf (mB (m2 dLt (mVar 2) (mC (.int 4)))) (nRet (mTup (mCons (m2 dIx (mLst (mCons (mC (.str "least")) (mCons (mC (.str "greatest")) mNil))) (m2 dSub (mVar 2) (mC (.int 2)))) (mCons (mVar 3) mNil)))) nNext)
      (nSeq (nIf (mB (m2 dEq (mVar 2) (mC (.int 4)))) (nRet (mTup (mCons (mC (.str "when")) (mCons (m2 dMod (mCall (mCons (m2 dIx (mVar 0) (mC (.int 11))) mNil) dInt) (mVar 1)) (mCons (m2 dAdd (mC (.int 1)) (m2 dMod (mCall (mCons (m2 dIx (mVar 0) (mC (.int 12))) mNil) dInt) (mC (.int 9)))) (mCons (m2 dIx (mVar 3) (mC (.int 0))) mNil)))))) nNext)
      (nSeq (nIf (mB (m2 dEq (mVar 2) (mC (.int 5)))) (nRet (mTup (mCons (mC (.str "more")) (mCons (mTup (mCons (mC (.str "least")) (mCons (mVar 3) mNil))) (mCons (m2 dSub (m2 dMod (mCall (mCons (m2 dIx (mVar 0) (mC (.int 13))) mNil) dInt) (mC (.int 7))) (mC (.int 3))) mNil))))) nNext)
      (nSeq (nIf (mB (m2 dEq (mVar 2) (mC (.int 6)))) (nRet (mTup (mCons (mC (.str "greatest")) (mCons (mLst (mCons (mTup (mCons (mC (.str "least")) (mCons (mVar 3) mNil))) (mCons (mCallF (mCons (mLst (mSlL (mVar 0) (mP (mC (.int 11))) (mP (mC (.int 14))))) (mCons (mVar 1) mNil)) f__law_leaf) mNil))) mNil)))) nNext)
      (nRet (mTup (mCons (mC (.str "least")) (mCons (mLst (mCons (mTup (mCons (mC (.str "greatest")) (mCons (mVar 3) mNil))) (mCons (mCallF (mCons (mLst (mSlL (mVar 0) (mP (mC (.int 11))) (mP (mC (.int 14))))) (mCons (mVar 1) mNil)) f__law_leaf) mNil))) mNil)))))))))))
abbrev N__law_formula : List Str := ["draws", "many", "kind", "parts", "k"]
def f__law_formula : List D → Option DV := fnD N__law_formula.length (["draws", "many"] : List Str).length m__law_formula
def c__law_sheet_1 : DS → Option D :=
    (mCallF (mCons (mLst (mSlL (mVar 0) (mP (m2 dAdd (mC (.int 1)) (m2 dMul (mC (.int 14)) (mVar 3)))) (mP (m2 dAdd (mC (.int 15)) (m2 dMul (mC (.int 14)) (mVar 3)))))) (mCons (mVar 2) mNil)) f__law_formula)
def m__law_sheet : DS → Option Out :=
    (nSeq (nAsg 2 (m2 dAdd (mC (.int 1)) (m2 dMod (mCall (mCons (m2 dIx (mVar 0) (mC (.int 0))) mNil) dInt) (mVar 1))))
      (nRetO (mLcI (mRng1 (mCons (mVar 2) mNil)) (gmName 3) mYes c__law_sheet_1 [3])))
abbrev N__law_sheet : List Str := ["draws", "most", "many", "k"]
def f__law_sheet : List D → Option DV := fnD N__law_sheet.length (["draws", "most"] : List Str).length m__law_sheet
def b__law_wide_1 : DS → Option Out :=
    (nSeq (nAsg 4 (mCallF (mCons (mLst (mSlL (mVar 0) (mP (m2 dAdd (mC (.int 2)) (m2 dMul (mC (.int 5)) (mVar 3)))) (mP (m2 dAdd (mC (.int 5)) (m2 dMul (mC (.int 5)) (mVar 3)))))) (mCons (mVar 1) mNil)) f__law_leaf))
      (nSeq (nIf (mB (m2 dEq (m2 dMod (mCall (mCons (m2 dIx (mVar 0) (m2 dAdd (mC (.int 5)) (m2 dMul (mC (.int 5)) (mVar 3)))) mNil) dInt) (mC (.int 3))) (mC (.int 0)))) (nAsg 4 (mTup (mCons (mC (.str "when")) (mCons (m2 dMod (mCall (mCons (m2 dDiv (m2 dIx (mVar 0) (m2 dAdd (mC (.int 5)) (m2 dMul (mC (.int 5)) (mVar 3)))) (mC (.int 3))) mNil) dInt) (mVar 1)) (mCons (m2 dAdd (mC (.int 1)) (m2 dMod (mCall (mCons (m2 dIx (mVar 0) (m2 dAdd (mC (.int 6)) (m2 dMul (mC (.int 5)) (mVar 3)))) mNil) dInt) (mC (.int 9)))) (mCons (mVar 4) mNil)))))) nNext)
      (nApp 2 (mVar 4))))
def m__law_wide : DS → Option Out :=
    (nSeq (nAsgO 2 mNil)
      (nSeq (nFor (mRng1 (mCons (m2 dAdd (mC (.int 4)) (m2 dMod (mCall (mCons (m2 dIx (mVar 0) (mC (.int 0))) mNil) dInt) (mC (.int 3)))) mNil)) (gmName 3) b__law_wide_1)
      (nFrz 2 (nRet (mTup (mCons (m2 dIx (mLst (mCons (mC (.str "least")) (mCons (mC (.str "greatest")) mNil))) (m2 dMod (mCall (mCons (m2 dIx (mVar 0) (mC (.int 1))) mNil) dInt) (mC (.int 2)))) (mCons (mVar 2) mNil)))))))
abbrev N__law_wide : List Str := ["draws", "many", "parts", "k", "leaf"]
def f__law_wide : List D → Option DV := fnD N__law_wide.length (["draws", "many"] : List Str).length m__law_wide
def m_shifted : DS → Option Out :=
    (nSeq (nIf (mB (m2 dIs (mVar 0) (mC .none))) (nRet (mC .none)) nNext)
      (nRet (mCall (mCons (m2 dAdd (mVar 0) (mVar 1)) (mCons (mC (.int 0)) mNil)) dMax2)))
abbrev N_shifted : List Str := ["a", "c"]
def f_shifted : List D → Option DV := fnD N_shifted.length (["a", "c"] : List Str).length m_shifted
def c_least_of_1 : DS → Option D :=
    (mVar 2)
def m_least_of : DS → Option Out :=
    (nSeq (nAsg 1 (mLst (mLcI (mItems (mVar 0)) (gmName 2) (mB (m2 dIsNot (mVar 2) (mC .none))) c_least_of_1 [2])))
      (nRet (mCallK (mCons (mVar 1) mNil) (mCons (mC .none) mNil) (dPick min))))
abbrev N_least_of : List Str := ["amounts", "numbers", "amount"]
def f_least_of : List D → Option DV := fnD N_least_of.length (["amounts"] : List Str).length m_least_of
def m_greatest_of : DS → Option Out :=
    (nSeq (nIf (mB (m2 dIn (mC .none) (mVar 0))) (nRet (mC .none)) nNext)
      (nRet (mCallK (mCons (mVar 0) mNil) (mCons (mC (.int 0)) mNil) (dPick max))))
abbrev N_greatest_of : List Str := ["amounts"]
def f_greatest_of : List D → Option DV := fnD N_greatest_of.length (["amounts"] : List Str).length m_greatest_of
def m_at_most : DS → Option Out :=
    (nSeq (nIf (mB (m2 dIs (mVar 1) (mC .none))) (nRet (mC (.bool true))) nNext)
      (nRet (mAndV (m2 dIsNot (mVar 0) (mC .none)) (m2 dLe (mVar 0) (mVar 1)))))
abbrev N_at_most : List Str := ["a", "b"]
def f_at_most : List D → Option DV := fnD N_at_most.length (["a", "b"] : List Str).length m_at_most
def c_value_of_1 (self : List D → Option DV) : DS → Option D :=
    (mCallF (mCons (mVar 4) (mCons (mVar 1) mNil)) self)
def m_value_of (self : List D → Option DV) : DS → Option Out :=
    (nSeq (nAsg 2 (m2 dIx (mVar 0) (mC (.int 0))))
      (nSeq (nIf (mB (m2 dEq (mVar 2) (mC (.str "amount")))) (nRet (m2 dIx (mVar 0) (mC (.int 1)))) nNext)
      (nSeq (nIf (mB (m2 dEq (mVar 2) (mC (.str "cell")))) (nRet (m2 dIx (mVar 1) (m2 dIx (mVar 0) (mC (.int 1))))) nNext)
      (nSeq (nIf (mB (m2 dEq (mVar 2) (mC (.str "more")))) (nRetC (mCons (mCallF (mCons (m2 dIx (mVar 0) (mC (.int 1))) (mCons (mVar 1) mNil)) self) (mCons (m2 dIx (mVar 0) (mC (.int 2))) mNil)) f_shifted) nNext)
      (nSeq (nIf (mB (m2 dEq (mVar 2) (mC (.str "when")))) (nRet (mIf (mB (mCallF (mCons (m2 dIx (mVar 0) (mC (.int 2))) (mCons (m2 dIx (mVar 1) (m2 dIx (mVar 0) (mC (.int 1)))) mNil)) f_at_most)) (mCallF (mCons (m2 dIx (mVar 0) (mC (.int 3))) (mCons (mVar 1) mNil)) self) (mC (.int 0)))) nNext)
      (nSeq (nAsg 3 (mLst (mLcI (mItems (m2 dIx (mVar 0) (mC (.int 1)))) (gmName 4) mYes (c_value_of_1 self) [4])))
      (nRet (mIf (mB (m2 dEq (mVar 2) (mC (.str "least")))) (mCallF (mCons (mVar 3) mNil) f_least_of) (mCallF (mCons (mVar 3) mNil) f_greatest_of)))))))))
abbrev N_value_of : List Str := ["formula", "x", "word", "values", "inner"]
def f_value_of : Nat → List D → Option DV
  | 0 => fun _ => none
  | n + 1 => fnD N_value_of.length (["formula", "x"] : List Str).length (m_value_of (f_value_of n))
def c_values_of_1 : DS → Option D :=
    (mCallF (mCons (mVar 2) (mCons (mVar 1) mNil)) (f_value_of 8))
def m_values_of : DS → Option Out :=
    (nRetO (mLcI (mItems (mVar 0)) (gmName 2) mYes c_values_of_1 [2]))
abbrev N_values_of : List Str := ["sheet", "x", "formula"]
def f_values_of : List D → Option DV := fnD N_values_of.length (["sheet", "x"] : List Str).length m_values_of
def m_is_solution : DS → Option Out :=
    (nRet (m2 dEq (mCallF (mCons (mVar 0) (mCons (mVar 1) mNil)) f_values_of) (mVar 1)))
abbrev N_is_solution : List Str := ["sheet", "x"]
def f_is_solution : List D → Option DV := fnD N_is_solution.length (["sheet", "x"] : List Str).length m_is_solution
def b__law_named_1 (self : List D → Option DV) : DS → Option Out :=
    (nAsg 2 (mLst (m2O dCat (mVar 2) (mCallF (mCons (mVar 3) mNil) self))))
def m__law_named (self : List D → Option DV) : DS → Option Out :=
    (nSeq (nAsg 1 (m2 dIx (mVar 0) (mC (.int 0))))
      (nSeq (nIf (mB (m2 dEq (mVar 1) (mC (.str "cell")))) (nRetO (mCons (m2 dIx (mVar 0) (mC (.int 1))) mNil)) nNext)
      (nSeq (nIf (mB (m2 dEq (mVar 1) (mC (.str "more")))) (nRetC (mCons (m2 dIx (mVar 0) (mC (.int 1))) mNil) self) nNext)
      (nSeq (nIf (mB (m2 dEq (mVar 1) (mC (.str "when")))) (nRetO (m2O dCat (mLst (mCons (m2 dIx (mVar 0) (mC (.int 1))) mNil)) (mCallF (mCons (m2 dIx (mVar 0) (mC (.int 3))) mNil) self))) nNext)
      (nSeq (nAsg 2 (mLst mNil))
      (nSeq (nIf (mB (m2 dNe (mVar 1) (mC (.str "amount")))) (nFor (mItems (m2 dIx (mVar 0) (mC (.int 1)))) (gmName 3) (b__law_named_1 self)) nNext)
      (nRet (mVar 2))))))))
abbrev N__law_named : List Str := ["formula", "kind", "found", "part"]
def f__law_named : Nat → List D → Option DV
  | 0 => fun _ => none
  | n + 1 => fnD N__law_named.length (["formula"] : List Str).length (m__law_named (f__law_named n))
def m_formulas_in : DS → Option Out :=
    (nSeq (nAsg 1 (m2 dIx (mVar 0) (mC (.int 0))))
      (nSeq (nIf (mB (m2 dEq (mVar 1) (mC (.str "more")))) (nRetO (mCons (m2 dIx (mVar 0) (mC (.int 1))) mNil)) nNext)
      (nSeq (nIf (mB (m2 dEq (mVar 1) (mC (.str "when")))) (nRetO (mCons (m2 dIx (mVar 0) (mC (.int 3))) mNil)) nNext)
      (nSeq (nIf (mB (m2 dIn (mVar 1) (mTup (mCons (mC (.str "least")) (mCons (mC (.str "greatest")) mNil))))) (nRetO (mCallO (mCons (m2 dIx (mVar 0) (mC (.int 1))) mNil) dListOf)) nNext)
      (nRetO mNil)))))
abbrev N_formulas_in : List Str := ["formula", "word"]
def f_formulas_in : List D → Option DV := fnD N_formulas_in.length (["formula"] : List Str).length m_formulas_in
def b_parts_of_1 (self : List D → Option DV) : DS → Option Out :=
    (nExd 1 (mCallFO (mCons (mVar 2) mNil) self))
def m_parts_of (self : List D → Option DV) : DS → Option Out :=
    (nSeq (nAsgO 1 (mCons (mVar 0) mNil))
      (nSeq (nFor (mItems (mCallF (mCons (mVar 0) mNil) f_formulas_in)) (gmName 2) (b_parts_of_1 self))
      (nRetX 1)))
abbrev N_parts_of : List Str := ["formula", "parts", "inner"]
def f_parts_of : Nat → List D → Option DV
  | 0 => fun _ => none
  | n + 1 => fnD N_parts_of.length (["formula"] : List Str).length (m_parts_of (f_parts_of n))
def c_cells_in_1 : DS → Option D :=
    (m2 dIx (mVar 1) (mC (.int 1)))
def m_cells_in : DS → Option Out :=
    (nRetO (mSset (mItems (mCallF (mCons (mVar 0) mNil) (f_parts_of 8))) (gmName 1) (mB (m2 dIn (m2 dIx (mVar 1) (mC (.int 0))) (mTup (mCons (mC (.str "cell")) (mCons (mC (.str "when")) mNil))))) c_cells_in_1 [1]))
abbrev N_cells_in : List Str := ["formula", "part"]
def f_cells_in : List D → Option DV := fnD N_cells_in.length (["formula"] : List Str).length m_cells_in
def m__law_at_most : DS → Option Out :=
    (nRet (mOrV (m2 dIs (mVar 1) (mC .none)) (mAndV (m2 dIsNot (mVar 0) (mC .none)) (m2 dLe (mVar 0) (mVar 1)))))
abbrev N__law_at_most : List Str := ["a", "b"]
def f__law_at_most : List D → Option DV := fnD N__law_at_most.length (["a", "b"] : List Str).length m__law_at_most
def b__law_one_of_1 : DS → Option Out :=
    (nIf (mAndT (mB (m2 dEq (mCallF (mCons (mVar 3) (mCons (mVar 2) mNil)) f__law_at_most) (mVar 1))) (mB (m2 dNe (mVar 3) (mVar 2)))) (nAsg 2 (mVar 3)) nNext)
def m__law_one_of : DS → Option Out :=
    (nSeq (nAsg 2 (m2 dIx (mVar 0) (mC (.int 0))))
      (nSeq (nFor (mItems (mVar 0)) (gmName 3) b__law_one_of_1)
      (nRet (mVar 2))))
abbrev N__law_one_of : List Str := ["amounts", "least", "found", "one"]
def f__law_one_of : List D → Option DV := fnD N__law_one_of.length (["amounts", "least"] : List Str).length m__law_one_of
def m__law_shifted : DS → Option Out :=
    (nSeq (nIf (mB (m2 dIs (mVar 0) (mC .none))) (nRet (mC .none)) nNext)
      (nRet (mCall (mCons (mC (.int 0)) (mCons (m2 dAdd (mVar 0) (mVar 1)) mNil)) dMax2)))
abbrev N__law_shifted : List Str := ["a", "c"]
def f__law_shifted : List D → Option DV := fnD N__law_shifted.length (["a", "c"] : List Str).length m__law_shifted
def c__law_value_1 (self : List D → Option DV) : DS → Option D :=
    (mCallF (mCons (mVar 3) (mCons (mVar 1) mNil)) self)
def m__law_value (self : List D → Option DV) : DS → Option Out :=
    (nSeq (nAsg 2 (m2 dIx (mVar 0) (mC (.int 0))))
      (nSeq (nIf (mB (m2 dEq (mVar 2) (mC (.str "amount")))) (nRet (m2 dIx (mVar 0) (mC (.int 1)))) nNext)
      (nSeq (nIf (mB (m2 dEq (mVar 2) (mC (.str "cell")))) (nRet (m2 dIx (mVar 1) (m2 dIx (mVar 0) (mC (.int 1))))) nNext)
      (nSeq (nIf (mB (m2 dEq (mVar 2) (mC (.str "more")))) (nRetC (mCons (mCallF (mCons (m2 dIx (mVar 0) (mC (.int 1))) (mCons (mVar 1) mNil)) self) (mCons (m2 dIx (mVar 0) (mC (.int 2))) mNil)) f__law_shifted) nNext)
      (nSeq (nIf (mB (m2 dEq (mVar 2) (mC (.str "when")))) (nSeq (nIf (mB (mCallF (mCons (m2 dIx (mVar 0) (mC (.int 2))) (mCons (m2 dIx (mVar 1) (m2 dIx (mVar 0) (mC (.int 1)))) mNil)) f__law_at_most)) (nRetC (mCons (m2 dIx (mVar 0) (mC (.int 3))) (mCons (mVar 1) mNil)) self) nNext)
      (nRet (mC (.int 0)))) nNext)
      (nRetC (mCons (mLst (mLcI (mItems (m2 dIx (mVar 0) (mC (.int 1)))) (gmName 3) mYes (c__law_value_1 self) [3])) (mCons (m2 dEq (mVar 2) (mC (.str "least"))) mNil)) f__law_one_of))))))
abbrev N__law_value : List Str := ["formula", "x", "kind", "part"]
def f__law_value : Nat → List D → Option DV
  | 0 => fun _ => none
  | n + 1 => fnD N__law_value.length (["formula", "x"] : List Str).length (m__law_value (f__law_value n))
def b__law_bounded_1 : DS → Option Out :=
    (nIf (mAndT (mB (m2 dIsNot (mVar 3) (mC .none))) (mB (m2 dGt (mVar 3) (mVar 1)))) (nApp 2 (mC .none)) (nApp 2 (mVar 3)))
def m__law_bounded : DS → Option Out :=
    (nSeq (nAsgO 2 mNil)
      (nSeq (nFor (mItems (mVar 0)) (gmName 3) b__law_bounded_1)
      (nRetX 2)))
abbrev N__law_bounded : List Str := ["x", "bound", "found", "one"]
def f__law_bounded : List D → Option DV := fnD N__law_bounded.length (["x", "bound"] : List Str).length m__law_bounded
def c__law_settled_1 : DS → Option D :=
    (mCallF (mCons (mVar 5) (mCons (mVar 1) mNil)) (f__law_value 8))
def b__law_settled_1 : DS → Option Out :=
    (nSeq (nAsg 4 (mCallF (mCons (mLst (mLcI (mItems (mVar 0)) (gmName 5) mYes c__law_settled_1 [5])) (mCons (mVar 2) mNil)) f__law_bounded))
      (nSeq (nIf (mB (m2 dEq (mVar 4) (mVar 1))) nBrk nNext)
      (nAsg 1 (mVar 4))))
def m__law_settled : DS → Option Out :=
    (nSeq (nFor (mRng1 (mCons (mC (.int 20000)) mNil)) (gmName 3) b__law_settled_1)
      (nRet (mVar 1)))
abbrev N__law_settled : List Str := ["sheet", "x", "bound", "turn", "later", "formula"]
def f__law_settled : List D → Option DV := fnD N__law_settled.length (["sheet", "x", "bound"] : List Str).length m__law_settled
def c__law_least_1 : DS → Option D :=
    (mC (.int 0))
def m__law_least : DS → Option Out :=
    (nRetC (mCons (mVar 0) (mCons (mLst (mLcI (mItems (mVar 0)) (gmName 1) mYes c__law_least_1 [1])) (mCons (m2 dAdd (mC (.int 60)) (m2 dMul (mC (.int 60)) (mCall (mCons (mVar 0) mNil) dLen))) mNil))) f__law_settled)
abbrev N__law_least : List Str := ["sheet", "formula"]
def f__law_least : List D → Option DV := fnD N__law_least.length (["sheet"] : List Str).length m__law_least
def c__law_greatest_1 : DS → Option D :=
    (mC .none)
def c__law_greatest_2 : DS → Option D :=
    (mCallF (mCons (mVar 4) (mCons (mVar 1) mNil)) (f__law_value 8))
def b__law_greatest_1 : DS → Option Out :=
    (nSeq (nAsg 3 (mLst (mLcI (mItems (mVar 0)) (gmName 4) mYes c__law_greatest_2 [4])))
      (nSeq (nIf (mB (m2 dEq (mVar 3) (mVar 1))) nBrk nNext)
      (nAsg 1 (mVar 3))))
def m__law_greatest : DS → Option Out :=
    (nSeq (nAsg 1 (mLst (mLcI (mItems (mVar 0)) (gmName 4) mYes c__law_greatest_1 [4])))
      (nSeq (nFor (mRng1 (mCons (mC (.int 20000)) mNil)) (gmName 2) b__law_greatest_1)
      (nRet (mVar 1))))
abbrev N__law_greatest : List Str := ["sheet", "x", "turn", "later", "formula"]
def f__law_greatest : List D → Option DV := fnD N__law_greatest.length (["sheet"] : List Str).length m__law_greatest
def b__law_is_amounts_1 : DS → Option Out :=
    (nIf (mAndT (mB (m2 dIsNot (mVar 2) (mC .none))) (mOrT (mB (mIsi "bool" (mVar 2))) (mOrT (mNotT (mB (mIsi "int" (mVar 2)))) (mB (m2 dLt (mVar 2) (mC (.int 0))))))) (nRet (mC (.bool false))) nNext)
def m__law_is_amounts : DS → Option Out :=
    (nSeq (nIf (mOrT (mNotT (mB (mIsi "list" (mVar 0)))) (mB (m2 dNe (mCall (mCons (mVar 0) mNil) dLen) (mVar 1)))) (nRet (mC (.bool false))) nNext)
      (nSeq (nFor (mItems (mVar 0)) (gmName 2) b__law_is_amounts_1)
      (nRet (mC (.bool true)))))
abbrev N__law_is_amounts : List Str := ["actual", "many", "one"]
def f__law_is_amounts : List D → Option DV := fnD N__law_is_amounts.length (["actual", "many"] : List Str).length m__law_is_amounts
def c_law_1 : DS → Option D :=
    (mCallF (mCons (mLst (mSlL (mVar 1) (mP (m2 dAdd (mC (.int 100)) (m2 dMul (mC (.int 2)) (mVar 12)))) (mP (m2 dAdd (mC (.int 102)) (m2 dMul (mC (.int 2)) (mVar 12)))))) mNil) f__law_amount)
def c_law_2 : DS → Option D :=
    (mCallF (mCons (mLst (mSlL (mVar 1) (mP (m2 dAdd (mC (.int 116)) (m2 dMul (mC (.int 2)) (mVar 12)))) (mP (m2 dAdd (mC (.int 118)) (m2 dMul (mC (.int 2)) (mVar 12)))))) mNil) f__law_amount)
def c_law_3 : DS → Option D :=
    (mCallF (mCons (mVar 10) (mCons (mVar 6) mNil)) (f__law_value 8))
def c_law_4 : DS → Option D :=
    (mCallF (mCons (mVar 10) (mCons (mVar 6) mNil)) (f_value_of 8))
def b_law_1 : DS → Option Out :=
    (nSeq (nAsg 7 (mLst (mLcI (mItems (mVar 2)) (gmName 10) mYes c_law_3 [10])))
      (nSeq (nAsgO 8 (mCallFO (mCons (mVar 2) (mCons (mVar 6) mNil)) f_values_of))
      (nSeq (nIf (mBorT (mOrT (mNotT (mB (mCallF (mCons (mVar 8) (mCons (mVar 3) mNil)) f__law_is_amounts))) (mB (m2 dNe (mVar 8) (mVar 7))))) (nRet (mC (.bool false))) nNext)
      (nSeq (nIf (mB (m2 dNe (mLst (mLcI (mItems (mVar 2)) (gmName 10) mYes c_law_4 [10])) (mVar 7))) (nRet (mC (.bool false))) nNext)
      (nSeq (nAsg 9 (mCallF (mCons (mVar 2) (mCons (mVar 6) mNil)) f_is_solution))
      (nSeq (nIf (mOrT (mNotT (mB (mIsi "bool" (mVar 9)))) (mB (m2 dNe (mVar 9) (m2 dEq (mVar 7) (mVar 6))))) (nRet (mC (.bool false))) nNext)
      (nSeq (nApp 8 (mC (.int 0)))
      (nIf (mB (m2 dNe (mCallF (mCons (mVar 2) (mCons (mVar 6) mNil)) f_values_of) (mVar 7))) (nRet (mC (.bool false))) nNext))))))))
def c_law_5 : DS → Option D :=
    (mVar 13)
def b_law_2 : DS → Option Out :=
    (nSeq (nAsg 11 (mCallF (mCons (mVar 10) mNil) (f__law_named 8)))
      (nSeq (nAsgO 8 (mCallFO (mCons (mVar 10) mNil) f_cells_in))
      (nSeq (nIf (mBorT (mOrT (mNotT (mB (mIsi "list" (mVar 8)))) (mB (m2 dNe (mVar 8) (mLst (mLcI (mRng1 (mCons (mVar 3) mNil)) (gmName 13) (mB (m2 dIn (mVar 13) (mVar 11))) c_law_5 [13])))))) (nRet (mC (.bool false))) nNext)
      (nApp 8 (mC (.int 99))))))
def m_law : DS → Option Out :=
    (nSeq (nAsg 1 (mCallF (mCons (mVar 0) (mCons (mC (.int 180)) mNil)) f__law_draws))
      (nSeq (nAsgO 2 (mCallFO (mCons (mVar 1) (mCons (mC (.int 7)) mNil)) f__law_sheet))
      (nSeq (nAsg 3 (mBor (mCall (mCons (mVar 2) mNil) dLen)))
      (nSeq (nIf (mB (m2 dEq (m2 dMod (mCall (mCons (m2 dIx (mVar 1) (mC (.int 140))) mNil) dInt) (mC (.int 2))) (mC (.int 0)))) (nSetI 2 (m2 dMod (mCall (mCons (m2 dIx (mVar 1) (mC (.int 141))) mNil) dInt) (mVar 3)) (mCallF (mCons (mLst (mSlL (mVar 1) (mP (mC (.int 142))) (mP (mC (.int 176))))) (mCons (mVar 3) mNil)) f__law_wide)) nNext)
      (nFrz 2 (nSeq (nAsgO 4 (mCons (mLst (mLcI (mRng1 (mCons (mVar 3) mNil)) (gmName 12) mYes c_law_1 [12])) mNil))
      (nSeq (nApp 4 (mLst (mLcI (mRng1 (mCons (mVar 3) mNil)) (gmName 12) mYes c_law_2 [12])))
      (nSeq (nApp 4 (m2 dIx (mLst (mCons (mCallF (mCons (mVar 2) mNil) f__law_least) (mCons (mCallF (mCons (mVar 2) mNil) f__law_greatest) mNil))) (m2 dMod (mCall (mCons (m2 dIx (mVar 1) (mC (.int 135))) mNil) dInt) (mC (.int 2)))))
      (nFrz 4 (nSeq (nAsg 5 (mCall (mCons (mTup (mCons (mVar 2) (mCons (mVar 4) mNil))) mNil) dRepr))
      (nSeq (nFor (mItems (mVar 4)) (gmName 6) b_law_1)
      (nSeq (nFor (mItems (mVar 2)) (gmName 10) b_law_2)
      (nRet (mAndV (m2 dIs (mCallF (mCons (mVar 2) (mCons (m2 dIx (mVar 4) (mC (.int 2))) mNil)) f_is_solution) (mC (.bool true))) (m2 dEq (mCall (mCons (mTup (mCons (mVar 2) (mCons (mVar 4) mNil))) mNil) dRepr) (mVar 5))))))))))))))))
abbrev N_law : List Str := ["script", "draws", "sheet", "many", "lists", "kept", "x", "due", "actual", "answer", "formula", "named", "k", "cell"]
def f_law : List D → Option DV := fnD N_law.length (["script"] : List Str).length m_law
end Law
namespace Law
open PySem PySem.Spec PyProof.Rows L2 Dl
/-- an amount, as data -/
def eA : Option Int → D
  | none => .none
  | some n => .int n
@[simp] theorem eA_n : eA none = .none := rfl
@[simp] theorem eA_s {n : Int} : eA (some n) = .int n := rfl
abbrev aL (xs : List (Option Int)) : List D := xs.map eA
def amOk (a : Option Int) : Prop := ∀ n, a = some n → 0 ≤ n ∧ n < 10000000000000
/-- the order of amounts -/
def leA : Option Int → Option Int → Bool
  | _, none => true
  | none, some _ => false
  | some a, some b => decide (a ≤ b)
def shA : Option Int → Int → Option Int
  | none, _ => none
  | some a, c => some (max (a + c) 0)
theorem eA_eqB {a b : Option Int} : eqB (eA a) (eA b) = some (decide (a = b)) := by
  have h1 : ∀ o : Option Int, SeqAt.shaped (eA o) = true := fun o => by cases o <;> simp [SeqAt.shaped, PyData.canLay0, PyData.depth]
  rw [eqB_of (h1 a) (h1 b) (fun x z => by cases a <;> cases z)]
  cases a <;> cases b <;> simp [PyData.eqv] <;> (rename_i i j; by_cases h : i = j <;> simp [h])
abbrev iL (ns : List Int) : List D := ns.map PyData.int
theorem ixN_nat {n : Nat} {i : Int} (h0 : 0 ≤ i) (h : i < n) : ixN n i = some i.toNat := by
  unfold ixN
  rw [if_pos h0, if_pos h]
theorem iL_app (ds : List Int) (x : Int) : iL ds ++ [PyData.int x] = iL (ds ++ [x]) := by simp
def DrawSt (ns : List Int) (c : Nat) (i : Nat) (δ : DS) : Prop := ∃ (rs ds : List Int) (a4 a5 a6 a7 : Option DV), δ = [v (.list (iL ns)), v (.int c), some (.own (iL rs)), some (.own (iL ds)), a4, a5, a6, a7, none] ∧ rs.length = ns.length ∧ ds.length = i ∧ ∀ d ∈ ds, 0 ≤ d ∧ d < 1000
theorem mod_bd (x : Int) : 0 ≤ x % 1000 ∧ x % 1000 < 1000 := ⟨Int.emod_nonneg _ (by decide), Int.emod_lt_of_pos _ (by decide)⟩
theorem draws_ok (ns : List Int) (c : Nat) (hc : c ≤ 1000) (hn : ns.length ≤ 63) : ∃ ds : List Int, ds.length = c ∧ (∀ d ∈ ds, 0 ≤ d ∧ d < 1000) ∧ f__law_draws [.list (iL ns), .int c] = some (.own (iL ds)) := by
  have hcap : ns.length ≤ cap := by unfold cap; omega
  have hcol : colO (mLcF (gmName 8) mYes c__law_draws_1 [v (.list (iL ns)), v (.int c), none, none, none, none, none, none, none]) (iL ns) = some (iL ns) :=
    colO_eq PyData.int PyData.int ns fun a _ => rfl
  have hloop : ∃ δ', mForL (gmName 4) b__law_draws_1 (rngD 0 c) [v (.list (iL ns)), v (.int c), some (.own (iL ns)), some (.own []), none, none, none, none, none] = some (.nx δ') ∧ DrawSt ns c (0 + (rngD 0 c).length) δ' := by
    refine mForL_inv (DrawSt ns c) (rngD 0 c) 0 _ ⟨ns, [], none, none, none, none, rfl, rfl, rfl, fun d h => by cases h⟩ fun i d δ hd hp => ?_
    obtain ⟨rs, ds, a4, a5, a6, a7, rfl, h1, h2, h3⟩ := hp
    obtain ⟨rfl, hi⟩ := rngD_get hd
    refine ⟨_, rfl, ?_⟩
    have hds : (iL ds).length ≤ cap := by
      rw [List.length_map, h2]
      unfold cap
      omega
    have done : ∀ (rs' : List Int) (x : Int) (b4 b6 b7 : Option DV), rs'.length = ns.length → 0 ≤ x ∧ x < 1000 → DrawSt ns c (0 + i + 1) [v (.list (iL ns)), v (.int c), some (.own (iL rs')), some (.own (iL ds ++ [.int x])), b4, v (.int x), b6, b7, none] := by
      intro rs' x b4 b6 b7 hr hx
      refine ⟨rs', ds ++ [x], b4, _, b6, b7, by rw [iL_app], hr, by rw [List.length_append, h2]; rfl, fun d hd => ?_⟩
      rcases List.mem_append.mp hd with h | h
      · exact h3 d h
      · rw [List.mem_singleton.mp h]; exact hx
    by_cases hz : rs.length = 0
    · have hz' : rs = [] := List.eq_nil_of_length_eq_zero hz
      subst hz'
      refine ⟨_, .inl ?_, done [] 0 (v (.int (0 + (i : Int)))) a6 a7 h1 ⟨by decide, by decide⟩⟩
      simp -implicitDefEqProofs [b__law_draws_1, gApp_o hds]
    · have hn0 : 0 < (rs.length : Int) := by omega
      have hn1 : 0 < rs.length := by omega
      have hk : ∃ a : Int, a = (i : Int) % (rs.length : Int) ∧ 0 ≤ a ∧ a < rs.length := ⟨_, rfl, Int.emod_nonneg _ (by omega), Int.emod_lt_of_pos _ hn0⟩
      obtain ⟨a, ha, ha0, ha1⟩ := hk
      have hx := atI_int ha0 ha1
      generalize rs.getD a.toNat 0 = x at hx
      have hix := ixN_nat ha0 ha1
      by_cases hb : (1000000000000000000 : Int) ≤ x
      · refine ⟨_, .inl ?_, done (rs.set a.toNat (x / 1000)) (x % 1000) (v (.int (i : Int))) (v (.int a)) a7 (by rw [List.length_set, h1]) (mod_bd x)⟩
        simp -implicitDefEqProofs [b__law_draws_1, hn1, ← ha, hx, hb, hix, pow18, gApp_o hds]
      · obtain ⟨p, hp⟩ : ∃ p, p = (x * 48271 + (i : Int) * 69621 + 11) % 2147483647 := ⟨_, rfl⟩
        obtain ⟨q, hq⟩ : ∃ q, q = (p * 16807 + a) % 2147483629 := ⟨_, rfl⟩
        obtain ⟨r, hr⟩ : ∃ r, r = q / 7 % 1000 := ⟨_, rfl⟩
        refine ⟨_, .inl ?_, done rs r (v (.int (i : Int))) (v (.int a)) (v (.int q)) h1 (by rw [hr]; exact mod_bd _)⟩
        simp -implicitDefEqProofs [b__law_draws_1, hn1, ← ha, hx, hb, hix, pow18, gApp_o hds, ← hp, ← hq, ← hr]
  obtain ⟨δ', e, hp⟩ := hloop
  rw [rngD_len] at hp
  obtain ⟨rs, ds, a4, a5, a6, a7, rfl, h1, h2, h3⟩ := hp
  refine ⟨ds, by omega, h3, ?_⟩
  unfold f__law_draws
  refine fnD_rt rfl ?_
  have hr : gRng1 (some [.int (c : Int)]) = some (rngD 0 c) := by
    rw [gRng1_some (by omega) (by omega)]
    rfl
  simp -implicitDefEqProofs [m__law_draws, N__law_draws, hcap, hcol, hr, e, List.replicate]
/-! the amounts' own mathematics -/
theorem leA_refl (a : Option Int) : leA a a = true := by cases a <;> simp [leA]
theorem leA_anti {a b : Option Int} (h1 : leA a b = true) (h2 : leA b a = true) : a = b := by
  cases a <;> cases b <;> simp [leA] at h1 h2 ⊢
  omega
theorem leA_trans {a b c : Option Int} (h1 : leA a b = true) (h2 : leA b c = true) : leA a c = true := by
  cases a <;> cases b <;> cases c <;> simp [leA] at h1 h2 ⊢
  omega
theorem leA_total (a b : Option Int) : leA a b = true ∨ leA b a = true := by
  cases a <;> cases b <;> simp [leA]
  omega
theorem leA_not {a b : Option Int} (h : leA a b = false) : leA b a = true := by
  rcases leA_total a b with q | q
  · rw [h] at q; cases q
  · exact q
/-- R: m is at an end of xs -/
def EndOf (le : Option Int → Option Int → Bool) (xs : List (Option Int)) (m : Option Int) : Prop := m ∈ xs ∧ ∀ x ∈ xs, le m x = true
theorem end_least {xs : List (Option Int)} {m n : Option Int} (h1 : EndOf leA xs m) (h2 : EndOf leA xs n) : m = n := leA_anti (h1.2 n h2.1) (h2.2 m h1.1)
theorem end_most {xs : List (Option Int)} {m n : Option Int} (h1 : EndOf (fun a b => leA b a) xs m) (h2 : EndOf (fun a b => leA b a) xs n) : m = n := leA_anti (h2.2 m h1.1) (h1.2 n h2.1)
/-- the law's own way -/
def pickA (l : Bool) (f o : Option Int) : Option Int := if leA o f = l ∧ o ≠ f then o else f
def oneA (l : Bool) (xs : List (Option Int)) : Option Int := xs.foldl (pickA l) (xs.headD none)
theorem pick_true (f o : Option Int) : leA (pickA true f o) f = true ∧ leA (pickA true f o) o = true ∧ (pickA true f o = f ∨ pickA true f o = o) := by
  unfold pickA
  by_cases h : leA o f = true ∧ o ≠ f
  · rw [if_pos h]
    exact ⟨h.1, leA_refl _, .inr rfl⟩
  · rw [if_neg h]
    refine ⟨leA_refl _, ?_, .inl rfl⟩
    by_cases e : o = f
    · rw [e]; exact leA_refl _
    · cases q : leA o f with
      | true => exact absurd ⟨q, e⟩ h
      | false => exact leA_not q
theorem pick_false (f o : Option Int) : leA f (pickA false f o) = true ∧ leA o (pickA false f o) = true ∧ (pickA false f o = f ∨ pickA false f o = o) := by
  unfold pickA
  by_cases h : leA o f = false ∧ o ≠ f
  · rw [if_pos h]
    exact ⟨leA_not h.1, leA_refl _, .inr rfl⟩
  · rw [if_neg h]
    refine ⟨leA_refl _, ?_, .inl rfl⟩
    cases q : leA o f with
    | true => rfl
    | false =>
      by_cases e : o = f
      · rw [e] at q
        rw [leA_refl] at q
        cases q
      · exact absurd ⟨q, e⟩ h
theorem fold_true : ∀ (xs : List (Option Int)) (f : Option Int), leA (xs.foldl (pickA true) f) f = true ∧ (∀ x ∈ xs, leA (xs.foldl (pickA true) f) x = true) ∧ (xs.foldl (pickA true) f = f ∨ xs.foldl (pickA true) f ∈ xs)
  | [], f => ⟨leA_refl _, fun x h => (by cases h), .inl rfl⟩
  | o :: r, f => by
    obtain ⟨p1, p2, p3⟩ := pick_true f o
    obtain ⟨q1, q2, q3⟩ := fold_true r (pickA true f o)
    refine ⟨leA_trans q1 p1, fun x h => ?_, ?_⟩
    · rcases List.mem_cons.mp h with e | e
      · rw [e]; exact leA_trans q1 p2
      · exact q2 x e
    · rcases q3 with e | e
      · rcases p3 with z | z
        · exact .inl (e.trans z)
        · refine .inr ?_
          show r.foldl (pickA true) (pickA true f o) ∈ o :: r
          rw [e, z]
          exact List.mem_cons_self
      · exact .inr (List.mem_cons_of_mem _ e)
theorem fold_false : ∀ (xs : List (Option Int)) (f : Option Int), leA f (xs.foldl (pickA false) f) = true ∧ (∀ x ∈ xs, leA x (xs.foldl (pickA false) f) = true) ∧ (xs.foldl (pickA false) f = f ∨ xs.foldl (pickA false) f ∈ xs)
  | [], f => ⟨leA_refl _, fun x h => (by cases h), .inl rfl⟩
  | o :: r, f => by
    obtain ⟨p1, p2, p3⟩ := pick_false f o
    obtain ⟨q1, q2, q3⟩ := fold_false r (pickA false f o)
    refine ⟨leA_trans p1 q1, fun x h => ?_, ?_⟩
    · rcases List.mem_cons.mp h with e | e
      · rw [e]; exact leA_trans p2 q1
      · exact q2 x e
    · rcases q3 with e | e
      · rcases p3 with z | z
        · exact .inl (e.trans z)
        · refine .inr ?_
          show r.foldl (pickA false) (pickA false f o) ∈ o :: r
          rw [e, z]
          exact List.mem_cons_self
      · exact .inr (List.mem_cons_of_mem _ e)
theorem one_true {xs : List (Option Int)} (h : xs ≠ []) : EndOf leA xs (oneA true xs) := by
  cases xs with
  | nil => exact absurd rfl h
  | cons o r =>
    obtain ⟨q1, q2, q3⟩ := fold_true (o :: r) o
    refine ⟨?_, q2⟩
    rcases q3 with e | e
    · show (o :: r).foldl (pickA true) o ∈ o :: r
      rw [e]; exact List.mem_cons_self
    · exact e
theorem one_false {xs : List (Option Int)} (h : xs ≠ []) : EndOf (fun a b => leA b a) xs (oneA false xs) := by
  cases xs with
  | nil => exact absurd rfl h
  | cons o r =>
    obtain ⟨q1, q2, q3⟩ := fold_false (o :: r) o
    refine ⟨?_, q2⟩
    rcases q3 with e | e
    · show (o :: r).foldl (pickA false) o ∈ o :: r
      rw [e]; exact List.mem_cons_self
    · exact e
/-- the program's way -/
def leastA (xs : List (Option Int)) : Option Int := match xs.filterMap id with
  | [] => none
  | n :: r => some (r.foldl min n)
theorem foldl_min : ∀ (r : List Int) (n : Int), r.foldl min n ≤ n ∧ (∀ x ∈ r, r.foldl min n ≤ x) ∧ (r.foldl min n = n ∨ r.foldl min n ∈ r)
  | [], n => ⟨Int.le_refl _, fun x h => (by cases h), .inl rfl⟩
  | k :: r, n => by
    obtain ⟨q1, q2, q3⟩ := foldl_min r (min n k)
    refine ⟨by show r.foldl min (min n k) ≤ n; omega, fun x h => ?_, ?_⟩
    · show r.foldl min (min n k) ≤ x
      rcases List.mem_cons.mp h with e | e
      · rw [e]; omega
      · exact q2 x e
    · show r.foldl min (min n k) = n ∨ r.foldl min (min n k) ∈ k :: r
      rcases q3 with e | e
      · by_cases h : n ≤ k
        · exact .inl (by rw [e]; omega)
        · refine .inr ?_
          rw [e, Int.min_eq_right (by omega)]
          exact List.mem_cons_self
      · exact .inr (List.mem_cons_of_mem _ e)
theorem foldl_max : ∀ (r : List Int) (n : Int), n ≤ r.foldl max n ∧ (∀ x ∈ r, x ≤ r.foldl max n) ∧ (r.foldl max n = n ∨ r.foldl max n ∈ r)
  | [], n => ⟨Int.le_refl _, fun x h => (by cases h), .inl rfl⟩
  | k :: r, n => by
    obtain ⟨q1, q2, q3⟩ := foldl_max r (max n k)
    refine ⟨by show n ≤ r.foldl max (max n k); omega, fun x h => ?_, ?_⟩
    · show x ≤ r.foldl max (max n k)
      rcases List.mem_cons.mp h with e | e
      · rw [e]; omega
      · exact q2 x e
    · show r.foldl max (max n k) = n ∨ r.foldl max (max n k) ∈ k :: r
      rcases q3 with e | e
      · by_cases h : k ≤ n
        · exact .inl (by rw [e]; omega)
        · refine .inr ?_
          rw [e, Int.max_eq_right (by omega)]
          exact List.mem_cons_self
      · exact .inr (List.mem_cons_of_mem _ e)
theorem least_end {xs : List (Option Int)} (h : xs ≠ []) : EndOf leA xs (leastA xs) := by
  unfold leastA
  cases e : xs.filterMap id with
  | nil =>
    have all : ∀ x ∈ xs, x = none := fun x hx => by
      cases x with
      | none => rfl
      | some n =>
        have : n ∈ xs.filterMap id := List.mem_filterMap.mpr ⟨some n, hx, rfl⟩
        rw [e] at this
        cases this
    cases xs with
    | nil => exact absurd rfl h
    | cons o r =>
      refine ⟨?_, fun x hx => by rw [all x hx]; rfl⟩
      rw [all o List.mem_cons_self]
      exact List.mem_cons_self
  | cons n r =>
    obtain ⟨q1, q2, q3⟩ := foldl_min r n
    have mem : ∀ k, some k ∈ xs ↔ k ∈ n :: r := fun k => by
      rw [← e, List.mem_filterMap]
      exact ⟨fun h => ⟨some k, h, rfl⟩, fun ⟨a, h1, h2⟩ => by cases h2; exact h1⟩
    refine ⟨(mem _).mpr ?_, fun x hx => ?_⟩
    · rcases q3 with z | z
      · rw [z]; exact List.mem_cons_self
      · exact List.mem_cons_of_mem _ z
    · cases x with
      | none => rfl
      | some k =>
        have hk := (mem k).mp hx
        refine decide_eq_true ?_
        rcases List.mem_cons.mp hk with z | z
        · rw [z]; exact q1
        · exact q2 k z
def greatestA (xs : List (Option Int)) : Option Int := if none ∈ xs then none else match xs.filterMap id with
  | [] => some 0
  | n :: r => some (r.foldl max n)
theorem greatest_end {xs : List (Option Int)} (h : xs ≠ []) : EndOf (fun a b => leA b a) xs (greatestA xs) := by
  unfold greatestA
  by_cases hn : none ∈ xs
  · rw [if_pos hn]
    exact ⟨hn, fun x _ => rfl⟩
  · rw [if_neg hn]
    have mem : ∀ k, some k ∈ xs ↔ k ∈ xs.filterMap id := fun k => by
      rw [List.mem_filterMap]
      exact ⟨fun h => ⟨some k, h, rfl⟩, fun ⟨a, h1, h2⟩ => by cases h2; exact h1⟩
    cases e : xs.filterMap id with
    | nil =>
      cases xs with
      | nil => exact absurd rfl h
      | cons o r =>
        cases o with
        | none => exact absurd List.mem_cons_self hn
        | some k =>
          have := (mem k).mp List.mem_cons_self
          rw [e] at this
          cases this
    | cons n r =>
      rw [e] at mem
      obtain ⟨q1, q2, q3⟩ := foldl_max r n
      refine ⟨(mem _).mpr ?_, fun x hx => ?_⟩
      · rcases q3 with z | z
        · rw [z]; exact List.mem_cons_self
        · exact List.mem_cons_of_mem _ z
      · cases x with
        | none => exact absurd hx hn
        | some k =>
          have hk := (mem k).mp hx
          refine decide_eq_true ?_
          rcases List.mem_cons.mp hk with z | z
          · rw [z]; exact q1
          · exact q2 k z
theorem least_one {xs : List (Option Int)} (h : xs ≠ []) : leastA xs = oneA true xs := end_least (least_end h) (one_true h)
theorem greatest_one {xs : List (Option Int)} (h : xs ≠ []) : greatestA xs = oneA false xs := end_most (greatest_end h) (one_false h)
theorem at_most_ok (a b : Option Int) : f_at_most [eA a, eA b] = some (.val (.bool (leA a b))) := by
  unfold f_at_most
  refine fnD_rt rfl ?_
  cases b with
  | none => simp -implicitDefEqProofs [m_at_most, N_at_most, leA]
  | some b =>
    cases a with
    | none => simp -implicitDefEqProofs [m_at_most, N_at_most, leA]
    | some a => simp -implicitDefEqProofs [m_at_most, N_at_most, leA]
theorem law_at_most_ok (a b : Option Int) : f__law_at_most [eA a, eA b] = some (.val (.bool (leA a b))) := by
  unfold f__law_at_most
  refine fnD_rt rfl ?_
  cases b with
  | none => simp -implicitDefEqProofs [m__law_at_most, N__law_at_most, leA]
  | some b =>
    cases a with
    | none => simp -implicitDefEqProofs [m__law_at_most, N__law_at_most, leA]
    | some a => simp -implicitDefEqProofs [m__law_at_most, N__law_at_most, leA]
theorem shifted_ok (a : Option Int) (c : Int) : f_shifted [eA a, .int c] = some (.val (eA (shA a c))) := by
  unfold f_shifted
  refine fnD_rt rfl ?_
  cases a with
  | none => simp -implicitDefEqProofs [m_shifted, N_shifted, shA]
  | some a => simp -implicitDefEqProofs [m_shifted, N_shifted, shA]
theorem law_shifted_ok (a : Option Int) (c : Int) : f__law_shifted [eA a, .int c] = some (.val (eA (shA a c))) := by
  unfold f__law_shifted
  refine fnD_rt rfl ?_
  cases a with
  | none => simp -implicitDefEqProofs [m__law_shifted, N__law_shifted, shA]
  | some a => simp -implicitDefEqProofs [m__law_shifted, N__law_shifted, shA, Int.max_comm]
@[simp] theorem dEq_int {i j : Int} : dEq (.int i) (.int j) = some (.bool (decide (i = j))) := by
  unfold dEq
  rw [eqB_int]
  rfl
@[simp] theorem dNe_int {i j : Int} : dNe (.int i) (.int j) = some (.bool (!decide (i = j))) := by
  unfold dNe
  rw [eqB_int]
  rfl
@[simp] theorem dEq_bool {i j : Bool} : dEq (.bool i) (.bool j) = some (.bool (decide (i = j))) := by
  unfold dEq
  rw [eqB_bool]
  rfl
@[simp] theorem dNe_bool {i j : Bool} : dNe (.bool i) (.bool j) = some (.bool (!decide (i = j))) := by
  unfold dNe
  rw [eqB_bool]
  rfl
@[simp] theorem dNe_eA {a b : Option Int} : dNe (eA a) (eA b) = some (.bool (!decide (a = b))) := by
  unfold dNe
  rw [eA_eqB]
  rfl
@[simp] theorem isNone_eA {a : Option Int} : isNoneD (eA a) = decide (a = none) := by cases a <;> rfl
theorem amounts_ok (xs : List (Option Int)) (k : Nat) (hk : xs.length = k) (h0 : ∀ a ∈ xs, ∀ n, a = some n → 0 ≤ n) : f__law_is_amounts [.list (aL xs), .int k] = some (.val (.bool true)) := by
  unfold f__law_is_amounts
  refine fnD_rt rfl ?_
  obtain ⟨δ', e, a2, rfl⟩ := mForL_fold (gm := gmName 2) (b := b__law_is_amounts_1) eA (fun (s : Unit) _ => s) (fun s δ => ∃ a2, δ = [v (.list (aL xs)), v (.int k), a2]) xs () [v (.list (aL xs)), v (.int k), none] ⟨_, rfl⟩ fun a ha s δ hs => by
    obtain ⟨a2, rfl⟩ := hs
    refine ⟨_, rfl, [v (.list (aL xs)), v (.int k), v (eA a)], ?_, _, rfl⟩
    cases a with
    | none => simp -implicitDefEqProofs [b__law_is_amounts_1]
    | some n =>
      have hn := h0 _ ha n rfl
      have hn2 : ¬ n < 0 := by omega
      simp -implicitDefEqProofs [b__law_is_amounts_1, isi_bi, isi_ii, hn2, hn]
  simp -implicitDefEqProofs [m__law_is_amounts, N__law_is_amounts, List.replicate, isi_lst, hk, e]
theorem aL_cap {xs : List (Option Int)} (h : xs.length ≤ 1000) : (aL xs).length ≤ cap := by
  rw [List.length_map]
  unfold cap
  omega
theorem least_of_ok (xs : List (Option Int)) (h : xs.length ≤ 1000) : f_least_of [.list (aL xs)] = some (.val (eA (leastA xs))) := by
  unfold f_least_of
  refine fnD_rt rfl ?_
  have hc : xs.length ≤ cap := by unfold cap; omega
  have hcol : colO (mLcF (gmName 2) (mB (m2 dIsNot (mVar 2) (mC .none))) c_least_of_1 [v (.list (aL xs)), none, none]) (aL xs) = some ((xs.filterMap id).map PyData.int) :=
    colO_fm eA id PyData.int xs fun a _ => by
      cases a with
      | none => rfl
      | some n => rfl
  simp -implicitDefEqProofs [m_least_of, N_least_of, List.replicate, hc, hcol]
  rw [dPick_map]
  unfold leastA
  cases xs.filterMap id <;> rfl
theorem aL_flat (xs : List (Option Int)) : (aL xs).all flatD = true := by
  rw [List.all_eq_true]
  intro d hd
  obtain ⟨a, _, rfl⟩ := List.mem_map.mp hd
  cases a <;> rfl
theorem aL_cons (a : Option Int) (r : List (Option Int)) : aL (a :: r) = eA a :: aL r := rfl
theorem aL_some (ns : List Int) : aL (ns.map some) = ns.map PyData.int := by
  show (ns.map some).map eA = _
  rw [List.map_map]
  rfl
theorem inD_none : ∀ xs : List (Option Int), inD .none (aL xs) = decide (none ∈ xs)
  | [] => rfl
  | a :: r => by
    have ih := inD_none r
    unfold inD at ih ⊢
    rw [aL_cons, List.any_cons, ih]
    cases a with
    | none => simp [PyData.eqv]
    | some n => simp [PyData.eqv]
theorem greatest_of_ok (xs : List (Option Int)) : f_greatest_of [.list (aL xs)] = some (.val (eA (greatestA xs))) := by
  unfold f_greatest_of
  refine fnD_rt rfl ?_
  have hin : dIn .none (.list (aL xs)) = some (.bool (decide (none ∈ xs))) := by
    unfold dIn
    rw [inB_l rfl (aL_flat xs), inD_none]
    rfl
  by_cases hn : none ∈ xs
  · simp -implicitDefEqProofs [m_greatest_of, N_greatest_of, hin, hn, greatestA]
  · obtain ⟨ns, hns⟩ : ∃ ns : List Int, xs = ns.map some := by
      clear hin
      induction xs with
      | nil => exact ⟨[], rfl⟩
      | cons a r ih =>
        cases a with
        | none => exact absurd List.mem_cons_self hn
        | some n =>
          obtain ⟨ns, rfl⟩ := ih (fun z => hn (List.mem_cons_of_mem _ z))
          exact ⟨n :: ns, rfl⟩
    have e1 : aL xs = ns.map PyData.int := by rw [hns, aL_some]
    have e2 : xs.filterMap id = ns := by
      rw [hns, List.filterMap_map]
      show ns.filterMap (fun n => some n) = ns
      exact List.filterMap_some
    simp -implicitDefEqProofs only [m_greatest_of, N_greatest_of, nSeq_e, nIf_e, mB_e, m2_e, mC_e, hin, hn, startD_1, mVar_0, List.length_cons, List.length_nil, Option.bind_some, toB_some, decide_false, Bool.false_eq_true, if_false, nNext_e, nx2_nx, nRet_e, mCallK_e, mCons_e, mNil_e]
    rw [e1, dPick_map]
    unfold greatestA
    rw [if_neg hn, e2]
    cases ns <;> rfl
theorem slice_ok {ds : List Int} {n : Nat} (hl : ds.length = n) (hb : ∀ d ∈ ds, 0 ≤ d ∧ d < 1000) {a b : Nat} (h1 : a ≤ b) (h2 : b ≤ n) : ∃ es : List Int, es.length = b - a ∧ (∀ d ∈ es, 0 ≤ d ∧ d < 1000) ∧ cutD (iL ds) (some (a : Int)) (some (b : Int)) = iL es :=
  ⟨cutD ds (some (a : Int)) (some (b : Int)), cutD_len ds h1 (by omega), fun d hd => hb d (cutD_mem hd), cutD_map _ _ _ _⟩
theorem at_am {xs : List (Option Int)} {i : Nat} (h : i < xs.length) : ∃ a, a ∈ xs ∧ xs[i]? = some a ∧ atI (aL xs) (i : Int) = some (eA a) :=
  ⟨xs[i], List.getElem_mem h, List.getElem?_eq_getElem h, atI_nat (by rw [List.getElem?_map, List.getElem?_eq_getElem h]; rfl)⟩
theorem at_dr {ds : List Int} {n : Nat} (hl : ds.length = n) (hb : ∀ d ∈ ds, 0 ≤ d ∧ d < 1000) {i : Nat} (h : i < n) : ∃ x, 0 ≤ x ∧ x < 1000 ∧ atI (iL ds) (i : Int) = some (.int x) := by
  have hi : i < ds.length := by omega
  have q := hb ds[i] (List.getElem_mem hi)
  exact ⟨ds[i], q.1, q.2, atI_nat (by rw [List.getElem?_map, List.getElem?_eq_getElem hi]; rfl)⟩
theorem len2 {α : Type} {xs : List α} (h : xs.length = 2) : ∃ a b, xs = [a, b] := by
  match xs, h with
  | [a, b], _ => exact ⟨a, b, rfl⟩
theorem len3 {α : Type} {xs : List α} (h : xs.length = 3) : ∃ a b c, xs = [a, b, c] := by
  match xs, h with
  | [a, b, c], _ => exact ⟨a, b, c, rfl⟩
@[simp] theorem dEq_str {x y : Str} : dEq (.str x) (.str y) = some (.bool (decide (x = y))) := rfl
theorem wq1 : decide (("cell" : Str) = "amount") = false := by decide
theorem wq2 : decide (("more" : Str) = "amount") = false := by decide
theorem wq3 : decide (("more" : Str) = "cell") = false := by decide
theorem wq4 : decide (("when" : Str) = "amount") = false := by decide
theorem wq5 : decide (("when" : Str) = "cell") = false := by decide
theorem wq6 : decide (("when" : Str) = "more") = false := by decide
theorem wq7 : decide (("least" : Str) = "amount") = false := by decide
theorem wq8 : decide (("least" : Str) = "cell") = false := by decide
theorem wq9 : decide (("least" : Str) = "more") = false := by decide
theorem wq10 : decide (("least" : Str) = "when") = false := by decide
theorem wq11 : decide (("greatest" : Str) = "amount") = false := by decide
theorem wq12 : decide (("greatest" : Str) = "cell") = false := by decide
theorem wq13 : decide (("greatest" : Str) = "more") = false := by decide
theorem wq14 : decide (("greatest" : Str) = "when") = false := by decide
theorem wq15 : decide (("greatest" : Str) = "least") = false := by decide
def nnA (a : Option Int) : Prop := ∀ n, a = some n → 0 ≤ n
/-- pointwise -/
def leL (xs ys : List (Option Int)) : Prop := ∀ (i : Nat) a b, xs[i]? = some a → ys[i]? = some b → leA a b = true
/-- a row of amounts -/
structure Row (m : Nat) (xs : List (Option Int)) : Prop where
  len : xs.length = m
  nn : ∀ a ∈ xs, nnA a
abbrev gA (xs : List (Option Int)) (i : Nat) : Option Int := (xs[i]?).getD none
theorem gA_get {xs : List (Option Int)} {i : Nat} (h : i < xs.length) : xs[i]? = some (gA xs i) := by
  unfold gA
  rw [List.getElem?_eq_getElem h]
  rfl
theorem gA_at {xs : List (Option Int)} {i : Nat} (h : i < xs.length) : atI (aL xs) (i : Int) = some (eA (gA xs i)) :=
  atI_nat (by rw [List.getElem?_map, gA_get h]; rfl)
theorem Row.g {m : Nat} {xs : List (Option Int)} (h : Row m xs) {i : Nat} (hi : i < m) : nnA (gA xs i) := by
  have hi' : i < xs.length := by rw [h.len]; exact hi
  exact h.nn _ (List.mem_of_getElem? (gA_get hi'))
theorem leL.g {m : Nat} {xs ys : List (Option Int)} (h1 : Row m xs) (h2 : Row m ys) (h : leL xs ys) {i : Nat} (hi : i < m) : leA (gA xs i) (gA ys i) = true :=
  h i _ _ (gA_get (by rw [h1.len]; exact hi)) (gA_get (by rw [h2.len]; exact hi))
theorem shA_mono {a b : Option Int} {c : Int} (h : leA a b = true) : leA (shA a c) (shA b c) = true := by
  cases a <;> cases b <;> simp [leA, shA] at h ⊢
  omega
theorem shA_nn {a : Option Int} {c : Int} : nnA (shA a c) := fun n h => by
  cases a with
  | none => cases h
  | some a =>
    have e := Option.some.inj h
    omega
theorem le0 {a : Option Int} (h : nnA a) : leA (some 0) a = true := by
  cases a with
  | none => rfl
  | some n => exact decide_eq_true (h n rfl)
theorem nn0 : nnA (some 0) := fun n h => by
  cases h
  exact Int.le_refl _
theorem least_mono {α : Type} {ds : List α} (f g : α → Option Int) (h0 : ds ≠ []) (h : ∀ d ∈ ds, leA (f d) (g d) = true) : leA (leastA (ds.map f)) (leastA (ds.map g)) = true := by
  have n1 : ∀ k : α → Option Int, ds.map k ≠ [] := fun k z => h0 (List.map_eq_nil_iff.mp z)
  obtain ⟨p, q⟩ := least_end (n1 g)
  obtain ⟨d, hd, e⟩ := List.mem_map.mp p
  rw [← e]
  exact leA_trans ((least_end (n1 f)).2 _ (List.mem_map.mpr ⟨d, hd, rfl⟩)) (h d hd)
theorem greatest_mono {α : Type} {ds : List α} (f g : α → Option Int) (h0 : ds ≠ []) (h : ∀ d ∈ ds, leA (f d) (g d) = true) : leA (greatestA (ds.map f)) (greatestA (ds.map g)) = true := by
  have n1 : ∀ k : α → Option Int, ds.map k ≠ [] := fun k z => h0 (List.map_eq_nil_iff.mp z)
  obtain ⟨p, q⟩ := greatest_end (n1 f)
  obtain ⟨d, hd, e⟩ := List.mem_map.mp p
  rw [← e]
  exact leA_trans (h d hd) ((greatest_end (n1 g)).2 _ (List.mem_map.mpr ⟨d, hd, rfl⟩))
theorem row_rep {a : Option Int} (h : nnA a) (m : Nat) : Row m (List.replicate m a) := ⟨List.length_replicate, fun b hb => by rw [List.eq_of_mem_replicate hb]; exact h⟩
theorem nnN : nnA none := fun n h => by cases h
theorem one_of_ok (l : Bool) (xs : List (Option Int)) (h : xs ≠ []) : f__law_one_of [.list (aL xs), .bool l] = some (.val (eA (oneA l xs))) := by
  cases xs with
  | nil => exact absurd rfl h
  | cons o r =>
    unfold f__law_one_of
    refine fnD_rt rfl ?_
    obtain ⟨δ', e, a3, rfl⟩ := mForL_fold (gm := gmName 3) (b := b__law_one_of_1) eA (pickA l) (fun s δ => ∃ a3, δ = [v (.list (aL (o :: r))), v (.bool l), v (eA s), a3]) (o :: r) o [v (.list (aL (o :: r))), v (.bool l), v (eA o), none] ⟨_, rfl⟩ fun a _ s δ hs => by
      obtain ⟨a3, rfl⟩ := hs
      refine ⟨_, rfl, [v (.list (aL (o :: r))), v (.bool l), v (eA (pickA l s a)), v (eA a)], ?_, _, rfl⟩
      by_cases h1 : leA a s = l
      · by_cases h2 : a = s
        · simp -implicitDefEqProofs [b__law_one_of_1, law_at_most_ok, pickA, h1, h2]
        · simp -implicitDefEqProofs [b__law_one_of_1, law_at_most_ok, pickA, h1, h2]
      · simp -implicitDefEqProofs [b__law_one_of_1, law_at_most_ok, pickA, h1]
    simp -implicitDefEqProofs [m__law_one_of, N__law_one_of, List.replicate, oneA]
    rw [← List.map_cons, e]
    simp -implicitDefEqProofs
theorem eqB_aL {xs ys : List (Option Int)} : eqB (.list (aL xs)) (.list (aL ys)) = some (decide (xs = ys)) := by
  have sh : ∀ zs : List (Option Int), SeqAt.shaped (.list (aL zs)) = true := fun zs => by
    have h : PyData.canLayAll0 (aL zs) = true ∧ PyData.depthAll (aL zs) = 0 := by
      induction zs with
      | nil => exact ⟨rfl, rfl⟩
      | cons a r ih =>
        rw [aL_cons, PyData.canLayAll0, PyData.depthAll, ih.1, ih.2]
        cases a <;> exact ⟨rfl, rfl⟩
    refine shaped_of (by rw [PyData.canLay0]; exact h.1) (by rw [PyData.depth, h.2]; decide)
  rw [eqB_of (sh xs) (sh ys) (fun x z => by cases z), PyData.eqv]
  congr 1
  induction xs generalizing ys with
  | nil => cases ys <;> simp [PyData.eqvAll]
  | cons a r ih =>
    cases ys with
    | nil => simp [PyData.eqvAll]
    | cons b s =>
      rw [aL_cons, aL_cons, PyData.eqvAll, ih]
      have h := eA_eqB (a := a) (b := b)
      have h1 : ∀ o : Option Int, SeqAt.shaped (eA o) = true := fun o => by cases o <;> simp [SeqAt.shaped, PyData.canLay0, PyData.depth]
      rw [eqB_of (h1 a) (h1 b) (fun x z => by cases a <;> cases z)] at h
      rw [Option.some.inj h]
      by_cases h1 : a = b <;> by_cases h2 : r = s <;> simp [h1, h2]
@[simp] theorem dNe_aL {xs ys : List (Option Int)} : dNe (.list (aL xs)) (.list (aL ys)) = some (.bool (!decide (xs = ys))) := by
  unfold dNe
  rw [eqB_aL]
  rfl

/-! ### rounds: what settles, and at what -/
abbrev LA := List (Option Int)
/-- rounds until nothing changes, at most so many -/
def settle (S : LA → LA) : Nat → LA → LA
  | 0, x => x
  | n + 1, x => if S x = x then x else settle S n (S x)
theorem settle_ok {S : LA → LA} (I : LA → Prop) (μ : LA → Nat) (hI : ∀ x, I x → I (S x)) (hμ : ∀ x, I x → S x ≠ x → μ (S x) < μ x) : ∀ (n : Nat) (x : LA), I x → μ x ≤ n → I (settle S n x) ∧ S (settle S n x) = settle S n x
  | 0, x, h, hn => by
    refine ⟨h, ?_⟩
    by_cases e : S x = x
    · exact e
    · have := hμ x h e
      omega
  | n + 1, x, h, hn => by
    unfold settle
    by_cases e : S x = x
    · rw [if_pos e]
      exact ⟨h, e⟩
    · rw [if_neg e]
      have := hμ x h e
      exact settle_ok I μ hI hμ n (S x) (hI x h) (by omega)
theorem sum_dec (f : Option Int → Nat) : ∀ (xs ys : LA), xs.length = ys.length → (∀ (i : Nat) a b, xs[i]? = some a → ys[i]? = some b → f b ≤ f a ∧ (a ≠ b → f b < f a)) → (ys.map f).sum ≤ (xs.map f).sum ∧ (xs ≠ ys → (ys.map f).sum < (xs.map f).sum)
  | [], [], _, _ => ⟨Nat.le_refl _, fun h => absurd rfl h⟩
  | [], _ :: _, h, _ => by cases h
  | _ :: _, [], h, _ => by cases h
  | a :: xs, b :: ys, hl, h => by
    have h0 := h 0 a b rfl rfl
    obtain ⟨i1, i2⟩ := sum_dec f xs ys (Nat.succ.inj hl) fun i c d hc hd => h (i + 1) c d hc hd
    rw [List.map_cons, List.map_cons, List.sum_cons, List.sum_cons]
    refine ⟨Nat.add_le_add h0.1 i1, fun hne => ?_⟩
    by_cases e : a = b
    · have hn : xs ≠ ys := fun z => hne (by rw [e, z])
      have := i2 hn
      omega
    · have := h0.2 e
      omega
theorem sum_top (f : Option Int → Nat) (B : Nat) : ∀ xs : LA, (∀ a ∈ xs, f a ≤ B) → (xs.map f).sum ≤ xs.length * B
  | [], _ => Nat.zero_le _
  | a :: xs, h => by
    have h0 := h a List.mem_cons_self
    have h1 := sum_top f B xs fun b hb => h b (List.mem_cons_of_mem _ hb)
    rw [List.map_cons, List.sum_cons, List.length_cons, Nat.succ_mul]
    omega
def finLe (B : Int) (a : Option Int) : Prop := ∀ n, a = some n → n ≤ B
theorem finLe.mono {B C : Int} {a : Option Int} (h : finLe B a) (hc : B ≤ C) : finLe C a := fun n e => by
  have := h n e
  omega
def Sep (T K : Int) (a : Option Int) : Prop := ∀ n, a = some n → n ≤ T - K ∨ T + K < n
theorem Sep.mono {T K L : Int} {a : Option Int} (h : Sep T K a) (hl : L ≤ K) : Sep T L a := fun n e => by
  have := h n e
  omega
/-- what stands above T comes down by 1 -/
def lowA (T : Int) : Option Int → Option Int
  | none => none
  | some n => if T < n then some (n - 1) else some n
theorem lowA_hi {T n : Int} (h : T < n) : lowA T (some n) = some (n - 1) := by
  show (if T < n then some (n - 1) else some n) = _
  rw [if_pos h]
theorem lowA_lo {T n : Int} (h : n ≤ T) : lowA T (some n) = some n := by
  show (if T < n then some (n - 1) else some n) = _
  rw [if_neg (by omega)]
theorem lowA_le (T : Int) (a : Option Int) : leA (lowA T a) a = true := by
  cases a with
  | none => rfl
  | some n =>
    by_cases h : T < n
    · rw [lowA_hi h]
      exact decide_eq_true (by omega)
    · rw [lowA_lo (by omega)]
      exact leA_refl _
theorem lowA_mono {T : Int} {a b : Option Int} (h : leA a b = true) : leA (lowA T a) (lowA T b) = true := by
  cases b with
  | none => cases lowA T a <;> rfl
  | some k =>
    cases a with
    | none => cases h
    | some n =>
      have hk : n ≤ k := of_decide_eq_true h
      by_cases h1 : T < n
      · rw [lowA_hi h1, lowA_hi (by omega)]
        exact decide_eq_true (by omega)
      · rw [lowA_lo (by omega : n ≤ T)]
        by_cases h2 : T < k
        · rw [lowA_hi h2]
          exact decide_eq_true (by omega)
        · rw [lowA_lo (by omega)]
          exact h
theorem lowA_nn {T : Int} (hT : 0 ≤ T) {a : Option Int} (h : nnA a) : nnA (lowA T a) := fun n e => by
  cases a with
  | none => cases e
  | some k =>
    have hk := h k rfl
    by_cases h1 : T < k
    · rw [lowA_hi h1] at e
      have := Option.some.inj e
      omega
    · rw [lowA_lo (by omega)] at e
      have := Option.some.inj e
      omega
theorem least_low (T : Int) {vs : LA} (h : vs ≠ []) : leastA (vs.map (lowA T)) = lowA T (leastA vs) := by
  have n1 : vs.map (lowA T) ≠ [] := fun z => h (List.map_eq_nil_iff.mp z)
  refine end_least (least_end n1) ⟨List.mem_map.mpr ⟨_, (least_end h).1, rfl⟩, fun x hx => ?_⟩
  obtain ⟨a, ha, rfl⟩ := List.mem_map.mp hx
  exact lowA_mono ((least_end h).2 a ha)
theorem greatest_low (T : Int) {vs : LA} (h : vs ≠ []) : greatestA (vs.map (lowA T)) = lowA T (greatestA vs) := by
  have n1 : vs.map (lowA T) ≠ [] := fun z => h (List.map_eq_nil_iff.mp z)
  refine end_most (greatest_end n1) ⟨List.mem_map.mpr ⟨_, (greatest_end h).1, rfl⟩, fun x hx => ?_⟩
  obtain ⟨a, ha, rfl⟩ := List.mem_map.mp hx
  exact lowA_mono ((greatest_end h).2 a ha)
/-- a formula's value as a function of the amounts: constants up to c, shifts of together s under g -/
structure Comp (m : Nat) (c g s : Int) (f : LA → Option Int) : Prop where
  mono : ∀ xs ys, Row m xs → Row m ys → leL xs ys → leA (f xs) (f ys) = true
  nn : ∀ xs, Row m xs → nnA (f xs)
  up : ∀ xs B, Row m xs → c ≤ B → (∀ a ∈ xs, finLe B a) → finLe (B + s) (f xs)
  low : ∀ xs T, Row m xs → c + g ≤ T → (∀ a ∈ xs, Sep T g a) → f (xs.map (lowA T)) = lowA T (f xs) ∧ Sep T (g - s) (f xs)
section
variable {m : Nat} {c g s : Int}
theorem Comp.weak {t : Int} {f : LA → Option Int} (h : Comp m c g s f) (ht : s ≤ t) : Comp m c g t f :=
  ⟨h.mono, h.nn, fun xs B r hB hx => (h.up xs B r hB hx).mono (by omega), fun xs T r hT hx => ⟨(h.low xs T r hT hx).1, (h.low xs T r hT hx).2.mono (by omega)⟩⟩
theorem comp_amount {a : Option Int} (hc : 0 ≤ c) (hg : 0 ≤ g) (hn : nnA a) (ha : finLe c a) : Comp m c g 0 fun _ => a := by
  refine ⟨fun _ _ _ _ _ => leA_refl a, fun _ _ => hn, fun xs B _ hB _ => ha.mono (by omega), fun xs T _ hT _ => ?_⟩
  cases a with
  | none => exact ⟨rfl, fun n e => by cases e⟩
  | some k =>
    have hk := ha k rfl
    refine ⟨(lowA_lo (by omega)).symm, fun n e => ?_⟩
    cases e
    omega
theorem gA_map {xs : LA} {i : Nat} (h : i < xs.length) (f : Option Int → Option Int) : gA (xs.map f) i = f (gA xs i) := by
  unfold gA
  rw [List.getElem?_map, List.getElem?_eq_getElem h]
  rfl
theorem gA_mem {xs : LA} {i : Nat} (h : i < xs.length) : gA xs i ∈ xs := List.mem_of_getElem? (gA_get h)
theorem comp_cell {i : Nat} (hi : i < m) : Comp m c g 0 fun xs => gA xs i := by
  refine ⟨fun xs ys h1 h2 hl => leL.g h1 h2 hl hi, fun xs h => h.g hi, fun xs B r hB hx => ?_, fun xs T r hT hx => ?_⟩
  · have := hx _ (gA_mem (by rw [r.len]; exact hi))
    exact this.mono (by omega)
  · have hi' : i < xs.length := by rw [r.len]; exact hi
    refine ⟨gA_map hi' _, ?_⟩
    have := hx _ (gA_mem hi')
    exact this.mono (by omega)
theorem comp_more {f : LA → Option Int} {k t : Int} (h : Comp m c g s f) (h1 : -t ≤ k) (h2 : k ≤ t) (hs : 0 ≤ s) (hst : s + t ≤ g) (hc : 0 ≤ c) : Comp m c g (s + t) fun xs => shA (f xs) k := by
  refine ⟨fun xs ys r1 r2 hl => shA_mono (h.mono xs ys r1 r2 hl), fun xs _ => shA_nn, fun xs B r hB hx => ?_, fun xs T r hT hx => ?_⟩
  · have hu := h.up xs B r hB hx
    intro n e
    cases hv : f xs with
    | none =>
      have e' : shA (f xs) k = some n := e
      rw [hv] at e'
      cases e'
    | some a =>
      have e' : shA (f xs) k = some n := e
      rw [hv] at e'
      have := hu a hv
      have := Option.some.inj e'
      omega
  · obtain ⟨l1, l2⟩ := h.low xs T r hT hx
    show shA (f (xs.map (lowA T))) k = lowA T (shA (f xs) k) ∧ Sep T (g - (s + t)) (shA (f xs) k)
    rw [l1]
    cases hv : f xs with
    | none => exact ⟨rfl, fun n e => by cases e⟩
    | some a =>
      have ha := l2 a hv
      have hn := h.nn xs r a hv
      refine ⟨?_, fun n e => ?_⟩
      · rcases ha with ha | ha
        · rw [lowA_lo (by omega : a ≤ T)]
          exact (lowA_lo (by omega)).symm
        · rw [lowA_hi (by omega : T < a)]
          refine Eq.trans ?_ (lowA_hi (by omega)).symm
          show some (max (a - 1 + k) 0) = some (max (a + k) 0 - 1)
          congr 1
          omega
      · have := Option.some.inj e
        omega
theorem comp_when {f : LA → Option Int} {i : Nat} {k : Int} (h : Comp m c g s f) (hi : i < m) (hk0 : 0 < k) (hk : k ≤ c) (hs : 0 ≤ s) (hg : s ≤ g) : Comp m c g s fun xs => if leA (some k) (gA xs i) = true then f xs else some 0 := by
  refine ⟨fun xs ys r1 r2 hl => ?_, fun xs r => ?_, fun xs B r hB hx => ?_, fun xs T r hT hx => ?_⟩
  · have q := leL.g r1 r2 hl hi
    by_cases c1 : leA (some k) (gA xs i) = true
    · have c2 := leA_trans c1 q
      simp only [if_pos c1, if_pos c2]
      exact h.mono xs ys r1 r2 hl
    · simp only [if_neg c1]
      split
      · exact le0 (h.nn ys r2)
      · exact leA_refl _
  · show nnA (if _ then _ else _)
    split
    · exact h.nn xs r
    · exact nn0
  · show finLe _ (if _ then _ else _)
    split
    · exact h.up xs B r hB hx
    · intro n e
      cases e
      omega
  · have hi' : i < xs.length := by rw [r.len]; exact hi
    have hsep := hx _ (gA_mem hi')
    have e1 : leA (some k) (gA (xs.map (lowA T)) i) = leA (some k) (gA xs i) := by
      rw [gA_map hi']
      cases hv : gA xs i with
      | none => rfl
      | some n =>
        rw [hv] at hsep
        have := hsep n rfl
        by_cases hT' : T < n
        · rw [lowA_hi hT']
          show decide (k ≤ n - 1) = decide (k ≤ n)
          rw [decide_eq_true (by omega : k ≤ n - 1), decide_eq_true (by omega : k ≤ n)]
        · rw [lowA_lo (by omega)]
    show (if leA (some k) (gA (xs.map (lowA T)) i) = true then f (xs.map (lowA T)) else some 0) = lowA T (if leA (some k) (gA xs i) = true then f xs else some 0) ∧ Sep T (g - s) (if leA (some k) (gA xs i) = true then f xs else some 0)
    rw [e1]
    split
    · exact h.low xs T r hT hx
    · refine ⟨(lowA_lo (by omega)).symm, fun n e => ?_⟩
      cases e
      omega
theorem comp_least {α : Type} {ds : List α} {V : α → LA → Option Int} (h0 : ds ≠ []) (h : ∀ d ∈ ds, Comp m c g s (V d)) : Comp m c g s fun xs => leastA (ds.map fun d => V d xs) := by
  have n1 : ∀ xs, (ds.map fun d => V d xs) ≠ [] := fun xs z => h0 (List.map_eq_nil_iff.mp z)
  refine ⟨fun xs ys r1 r2 hl => least_mono _ _ h0 fun d hd => (h d hd).mono xs ys r1 r2 hl, fun xs r => ?_, fun xs B r hB hx => ?_, fun xs T r hT hx => ?_⟩
  · obtain ⟨d, hd, e⟩ := List.mem_map.mp (least_end (n1 xs)).1
    show nnA (leastA _)
    rw [← e]
    exact (h d hd).nn xs r
  · obtain ⟨d, hd, e⟩ := List.mem_map.mp (least_end (n1 xs)).1
    show finLe _ (leastA _)
    rw [← e]
    exact (h d hd).up xs B r hB hx
  · refine ⟨?_, ?_⟩
    · rw [← least_low T (n1 xs), List.map_map]
      congr 1
      exact List.map_congr_left fun d hd => ((h d hd).low xs T r hT hx).1
    · obtain ⟨d, hd, e⟩ := List.mem_map.mp (least_end (n1 xs)).1
      show Sep _ _ (leastA _)
      rw [← e]
      exact ((h d hd).low xs T r hT hx).2
theorem comp_greatest {α : Type} {ds : List α} {V : α → LA → Option Int} (h0 : ds ≠ []) (h : ∀ d ∈ ds, Comp m c g s (V d)) : Comp m c g s fun xs => greatestA (ds.map fun d => V d xs) := by
  have n1 : ∀ xs, (ds.map fun d => V d xs) ≠ [] := fun xs z => h0 (List.map_eq_nil_iff.mp z)
  refine ⟨fun xs ys r1 r2 hl => greatest_mono _ _ h0 fun d hd => (h d hd).mono xs ys r1 r2 hl, fun xs r => ?_, fun xs B r hB hx => ?_, fun xs T r hT hx => ?_⟩
  · obtain ⟨d, hd, e⟩ := List.mem_map.mp (greatest_end (n1 xs)).1
    show nnA (greatestA _)
    rw [← e]
    exact (h d hd).nn xs r
  · obtain ⟨d, hd, e⟩ := List.mem_map.mp (greatest_end (n1 xs)).1
    show finLe _ (greatestA _)
    rw [← e]
    exact (h d hd).up xs B r hB hx
  · refine ⟨?_, ?_⟩
    · rw [← greatest_low T (n1 xs), List.map_map]
      congr 1
      exact List.map_congr_left fun d hd => ((h d hd).low xs T r hT hx).1
    · obtain ⟨d, hd, e⟩ := List.mem_map.mp (greatest_end (n1 xs)).1
      show Sep _ _ (greatestA _)
      rw [← e]
      exact ((h d hd).low xs T r hT hx).2
end
theorem leL_refl (xs : LA) : leL xs xs := fun i a b ha hb => by
  rw [ha] at hb
  cases hb
  exact leA_refl a
theorem leL_anti {m : Nat} {xs ys : LA} (h1 : xs.length = m) (h2 : ys.length = m) (p : leL xs ys) (q : leL ys xs) : xs = ys := by
  refine List.ext_getElem (by omega) fun i hi hj => ?_
  exact leA_anti (p i _ _ (List.getElem?_eq_getElem hi) (List.getElem?_eq_getElem hj)) (q i _ _ (List.getElem?_eq_getElem hj) (List.getElem?_eq_getElem hi))
theorem leL_trans {m : Nat} {xs ys zs : LA} (hx : xs.length = m) (h : ys.length = m) (p : leL xs ys) (q : leL ys zs) : leL xs zs := fun i a b ha hb => by
  have hi : i < xs.length := (List.getElem?_eq_some_iff.mp ha).1
  have hy := List.getElem?_eq_getElem (l := ys) (by omega : i < ys.length)
  exact leA_trans (p i _ _ ha hy) (q i _ _ hy hb)
def bdA (B : Int) : Option Int → Option Int
  | none => none
  | some n => if B < n then none else some n
theorem bdA_hi {B n : Int} (h : B < n) : bdA B (some n) = none := by
  show (if B < n then none else some n) = _
  rw [if_pos h]
theorem bdA_lo {B n : Int} (h : n ≤ B) : bdA B (some n) = some n := by
  show (if B < n then none else some n) = _
  rw [if_neg (by omega)]
theorem leA_none (a : Option Int) : leA a none = true := by cases a <;> rfl
theorem bdA_mono {B : Int} {a b : Option Int} (h : leA a b = true) : leA (bdA B a) (bdA B b) = true := by
  cases b with
  | none => exact leA_none _
  | some k =>
    cases a with
    | none => cases h
    | some n =>
      have hk : n ≤ k := of_decide_eq_true h
      by_cases h2 : B < k
      · rw [bdA_hi h2]
        exact leA_none _
      · rw [bdA_lo (by omega : k ≤ B), bdA_lo (by omega : n ≤ B)]
        exact h
theorem bdA_le {B : Int} (a : Option Int) : leA a (bdA B a) = true := by
  cases a with
  | none => rfl
  | some n =>
    by_cases h : B < n
    · rw [bdA_hi h]
      rfl
    · rw [bdA_lo (by omega)]
      exact leA_refl _
theorem bdA_nn {B : Int} {a : Option Int} (h : nnA a) : nnA (bdA B a) := fun n e => by
  cases a with
  | none => cases e
  | some k =>
    by_cases h1 : B < k
    · rw [bdA_hi h1] at e
      cases e
    · rw [bdA_lo (by omega)] at e
      exact h n e
theorem bdA_fin {B : Int} {a : Option Int} : finLe B (bdA B a) := fun n e => by
  cases a with
  | none => cases e
  | some k =>
    by_cases h1 : B < k
    · rw [bdA_hi h1] at e
      cases e
    · rw [bdA_lo (by omega)] at e
      have := Option.some.inj e
      omega
theorem count_lt {p q : Option Int → Bool} : ∀ xs : LA, (∀ a ∈ xs, p a = true → q a = true) → (xs.filter p).length ≤ (xs.filter q).length ∧ ((∃ a ∈ xs, q a = true ∧ p a = false) → (xs.filter p).length < (xs.filter q).length)
  | [], _ => ⟨Nat.le_refl _, fun ⟨a, h, _⟩ => by cases h⟩
  | a :: xs, h => by
    obtain ⟨i1, i2⟩ := count_lt xs fun b hb => h b (List.mem_cons_of_mem _ hb)
    have h0 := h a List.mem_cons_self
    rw [List.filter_cons, List.filter_cons]
    cases hp : p a with
    | true =>
      rw [h0 hp, if_pos rfl, if_pos rfl, List.length_cons, List.length_cons]
      refine ⟨Nat.succ_le_succ i1, fun ⟨b, hb, e1, e2⟩ => ?_⟩
      rcases List.mem_cons.mp hb with rfl | hb
      · rw [hp] at e2; cases e2
      · exact Nat.succ_lt_succ (i2 ⟨b, hb, e1, e2⟩)
    | false =>
      rw [if_neg (by decide)]
      cases hq : q a with
      | true =>
        rw [if_pos rfl, List.length_cons]
        exact ⟨by omega, fun _ => by omega⟩
      | false =>
        rw [if_neg (by decide)]
        refine ⟨i1, fun ⟨b, hb, e1, e2⟩ => i2 ?_⟩
        rcases List.mem_cons.mp hb with rfl | hb
        · rw [hq] at e1; cases e1
        · exact ⟨b, hb, e1, e2⟩
def lowP (T : Int) : Option Int → Bool
  | none => false
  | some k => decide (k ≤ T)
/-- if below every T at which the row stands apart nothing finite is above: all finite ones are low -/
theorem pigeon {m : Nat} {T0 K : Int} (xs : LA) (hl : xs.length = m) (hK : 0 ≤ K) (h : ∀ T, T0 ≤ T → (∀ a ∈ xs, Sep T K a) → ∀ a ∈ xs, finLe T a) : ∀ a ∈ xs, finLe (T0 + 2 * K * m) a := by
  intro a ha n e
  refine Decidable.byContradiction fun hn => ?_
  have main : ∀ j : Nat, j ≤ m → j + 1 ≤ (xs.filter (lowP (T0 + 2 * K * j + K))).length := by
    intro j
    induction j with
    | zero =>
      intro hj
      refine Decidable.byContradiction fun hc => ?_
      have hemp : ∀ b ∈ xs, ¬ lowP (T0 + 2 * K * (0 : Nat) + K) b = true := fun b hb hq => by
        have := List.length_pos_of_mem (List.mem_filter.mpr ⟨hb, hq⟩)
        omega
      have hsep : ∀ b ∈ xs, Sep T0 K b := fun b hb k hk => by
        subst hk
        have hq := hemp _ hb
        have : ¬ k ≤ T0 + 2 * K * (0 : Nat) + K := fun z => hq (decide_eq_true z)
        right
        simp at this
        omega
      have := h T0 (Int.le_refl _) hsep a ha n e
      have h2 : 0 ≤ 2 * K * (m : Int) := Int.mul_nonneg (by omega) (by omega)
      omega
    | succ j ih =>
      intro hj
      have hi := ih (by omega)
      have e1 : 2 * K * ((j + 1 : Nat) : Int) = 2 * K * (j : Int) + 2 * K := by
        rw [Int.natCast_succ, Int.mul_add, Int.mul_one]
      have e2 : 0 ≤ 2 * K * (j : Int) := Int.mul_nonneg (by omega) (by omega)
      have e3 : 2 * K * ((j + 1 : Nat) : Int) ≤ 2 * K * (m : Int) := Int.mul_le_mul_of_nonneg_left (by omega) (by omega)
      refine Nat.lt_of_le_of_lt hi ((count_lt xs fun b hb hp => ?_).2 ?_)
      · cases b with
        | none => cases hp
        | some k =>
          have := of_decide_eq_true hp
          exact decide_eq_true (by omega)
      · refine Classical.byContradiction fun hc => ?_
        have hsep : ∀ b ∈ xs, Sep (T0 + 2 * K * ((j + 1 : Nat) : Int)) K b := fun b hb k hk => by
          subst hk
          refine Classical.byContradiction fun hno => hc ⟨_, hb, decide_eq_true (by omega), decide_eq_false (by omega)⟩
        have := h _ (by omega) hsep a ha n e
        omega
  have := main m (Nat.le_refl _)
  have h2 := List.length_filter_le (lowP (T0 + 2 * K * m + K)) xs
  omega
section
variable {α : Type} {m : Nat} {c g : Int} {ds : List α} {V : α → LA → Option Int}
/-- a sheet: a value for each cell -/
structure Sheet (m : Nat) (c g : Int) (ds : List α) (V : α → LA → Option Int) : Prop where
  len : ds.length = m
  comp : ∀ d ∈ ds, Comp m c g g (V d)
  hc : 0 ≤ c
  hg : 0 ≤ g
def vals (ds : List α) (V : α → LA → Option Int) (xs : LA) : LA := ds.map fun d => V d xs
theorem Sheet.row (S : Sheet m c g ds V) {xs : LA} (r : Row m xs) : Row m (vals ds V xs) := ⟨by unfold vals; rw [List.length_map, S.len], fun a ha => by
  obtain ⟨d, hd, rfl⟩ := List.mem_map.mp ha
  exact (S.comp d hd).nn xs r⟩
theorem Sheet.mono (S : Sheet m c g ds V) {xs ys : LA} (r1 : Row m xs) (r2 : Row m ys) (hl : leL xs ys) : leL (vals ds V xs) (vals ds V ys) := fun i a b ha hb => by
  unfold vals at ha hb
  rw [List.getElem?_map] at ha hb
  cases hd : ds[i]? with
  | none => rw [hd] at ha; cases ha
  | some d =>
    rw [hd] at ha hb
    cases ha
    cases hb
    exact (S.comp d (List.mem_of_getElem? hd)).mono xs ys r1 r2 hl
def valsB (B : Int) (ds : List α) (V : α → LA → Option Int) (xs : LA) : LA := (vals ds V xs).map (bdA B)
theorem Row.map {xs : LA} (r : Row m xs) {f : Option Int → Option Int} (h : ∀ a, nnA a → nnA (f a)) : Row m (xs.map f) := ⟨by rw [List.length_map, r.len], fun a ha => by
  obtain ⟨b, hb, rfl⟩ := List.mem_map.mp ha
  exact h b (r.nn b hb)⟩
theorem leL_map {xs ys : LA} {f : Option Int → Option Int} (h : ∀ a b, leA a b = true → leA (f a) (f b) = true) (hl : leL xs ys) : leL (xs.map f) (ys.map f) := fun i a b ha hb => by
  rw [List.getElem?_map] at ha hb
  cases hx : xs[i]? with
  | none => rw [hx] at ha; cases ha
  | some x =>
    cases hy : ys[i]? with
    | none => rw [hy] at hb; cases hb
    | some y =>
      rw [hx] at ha
      rw [hy] at hb
      cases ha
      cases hb
      exact h x y (hl i x y hx hy)
theorem Sheet.rowB (S : Sheet m c g ds V) {B : Int} {xs : LA} (r : Row m xs) : Row m (valsB B ds V xs) := (S.row r).map fun _ h => bdA_nn h
theorem Sheet.monoB (S : Sheet m c g ds V) {B : Int} {xs ys : LA} (r1 : Row m xs) (r2 : Row m ys) (hl : leL xs ys) : leL (valsB B ds V xs) (valsB B ds V ys) := leL_map (fun _ _ h => bdA_mono h) (S.mono r1 r2 hl)
def rkA (N : Nat) : Option Int → Nat
  | none => N
  | some n => n.toNat
theorem low_pre (S : Sheet m c g ds V) {T : Int} (hT : c + g ≤ T) {y : LA} (ry : Row m y) (hsep : ∀ a ∈ y, Sep T g a) (hy : leL (vals ds V y) y) : leL (vals ds V (y.map (lowA T))) (y.map (lowA T)) := by
  have e1 : vals ds V (y.map (lowA T)) = (vals ds V y).map (lowA T) := by
    unfold vals
    rw [List.map_map]
    exact List.map_congr_left fun d hd => ((S.comp d hd).low y T ry hT hsep).1
  rw [e1]
  exact leL_map (fun _ _ h => lowA_mono h) hy
/-- what is at least its values comes down to what is low -/
theorem pre_low (S : Sheet m c g ds V) : ∀ (n : Nat) (y : LA), (y.map (rkA 0)).sum ≤ n → Row m y → leL (vals ds V y) y → ∃ z, Row m z ∧ leL (vals ds V z) z ∧ leL z y ∧ ∀ a ∈ z, finLe (c + g + 2 * g * m) a := by
  have hc := S.hc
  have hg := S.hg
  intro n
  induction n with
  | zero =>
    intro y hn ry hy
    refine ⟨y, ry, hy, leL_refl y, fun a ha k hk => ?_⟩
    have hgm : 0 ≤ 2 * g * (m : Int) := Int.mul_nonneg (by omega) (by omega)
    have h1 : ∀ zs : LA, (zs.map (rkA 0)).sum ≤ 0 → ∀ b ∈ zs, rkA 0 b = 0 := fun zs => by
      induction zs with
      | nil => intro _ b hb; cases hb
      | cons q r ih =>
        intro h b hb
        rw [List.map_cons, List.sum_cons] at h
        rcases List.mem_cons.mp hb with rfl | hb
        · omega
        · exact ih (by omega) b hb
    have h2 := h1 y hn a ha
    subst hk
    have : k.toNat = 0 := h2
    omega
  | succ n ih =>
    intro y hn ry hy
    by_cases hall : ∀ a ∈ y, finLe (c + g + 2 * g * m) a
    · exact ⟨y, ry, hy, leL_refl y, hall⟩
    · have hex : ∃ T, c + g ≤ T ∧ (∀ a ∈ y, Sep T g a) ∧ ∃ a ∈ y, ∃ k, a = some k ∧ T < k := by
        refine Classical.byContradiction fun hno => hall (pigeon y ry.len hg fun T hT hs a ha k hk => ?_)
        refine Classical.byContradiction fun hkT => hno ⟨T, hT, hs, a, ha, k, hk, by omega⟩
      obtain ⟨T, hT, hs, a, ha, k, hk, hTk⟩ := hex
      have hT0 : 0 ≤ T := by omega
      have rz : Row m (y.map (lowA T)) := ry.map fun _ h => lowA_nn hT0 h
      have hdec := (sum_dec (rkA 0) y (y.map (lowA T)) (by rw [List.length_map]) fun i p q hp hq => by
        rw [List.getElem?_map, hp] at hq
        cases hq
        cases p with
        | none => exact ⟨Nat.le_refl _, fun z => absurd rfl z⟩
        | some w =>
          by_cases hw : T < w
          · rw [lowA_hi hw]
            show (w - 1).toNat ≤ w.toNat ∧ (_ → (w - 1).toNat < w.toNat)
            exact ⟨by omega, fun _ => by omega⟩
          · rw [lowA_lo (by omega)]
            exact ⟨Nat.le_refl _, fun z => absurd rfl z⟩).2 fun z => by
        obtain ⟨i, hi, e⟩ := List.mem_iff_getElem.mp ha
        have e2 : y[i]? = some (some k) := by rw [List.getElem?_eq_getElem hi, e, hk]
        have e3 : (y.map (lowA T))[i]? = some (some (k - 1)) := by rw [List.getElem?_map, e2]; exact congrArg some (lowA_hi hTk)
        rw [← z, e2] at e3
        have := Option.some.inj (Option.some.inj e3)
        omega
      obtain ⟨z, q1, q2, q3, q4⟩ := ih (y.map (lowA T)) (by omega) rz (low_pre S hT ry hs hy)
      refine ⟨z, q1, q2, leL_trans q1.len rz.len q3 fun i p q hp hq => ?_, q4⟩
      rw [List.getElem?_map, hq] at hp
      cases hp
      exact lowA_le T q
/-- rounds from below, what passes a bound is endless: they settle at the least solution -/
theorem least_settles (S : Sheet m c g ds V) {B : Int} (hB : c + g + 2 * g * m + g ≤ B) {n : Nat} (hn : m * (B.toNat + 1) ≤ n) :
    Row m (settle (valsB B ds V) n (List.replicate m (some 0))) ∧ vals ds V (settle (valsB B ds V) n (List.replicate m (some 0))) = settle (valsB B ds V) n (List.replicate m (some 0)) ∧
    (∀ a ∈ settle (valsB B ds V) n (List.replicate m (some 0)), finLe (c + g + 2 * g * m) a) ∧ ∀ y, Row m y → leL (vals ds V y) y → leL (settle (valsB B ds V) n (List.replicate m (some 0))) y := by
  have hc := S.hc
  have hg := S.hg
  have hgm : 0 ≤ 2 * g * (m : Int) := Int.mul_nonneg (by omega) (by omega)
  have hB0 : 0 ≤ B := by omega
  let I : LA → Prop := fun x => Row m x ∧ leL x (valsB B ds V x) ∧ (∀ a ∈ x, finLe B a) ∧ ∀ y, Row m y → leL (valsB B ds V y) y → leL x y
  let μ : LA → Nat := fun x => (x.map fun a => (B.toNat + 1) - rkA (B.toNat + 1) a).sum
  have key := settle_ok (S := valsB B ds V) I μ (fun x hx => by
      obtain ⟨r, h1, h2, h3⟩ := hx
      refine ⟨S.rowB r, S.monoB r (S.rowB r) h1, fun a ha => ?_, fun y ry hy => ?_⟩
      · obtain ⟨b, _, rfl⟩ := List.mem_map.mp ha
        exact bdA_fin
      · exact leL_trans (S.rowB r).len (S.rowB ry).len (S.monoB r ry (h3 y ry hy)) hy) (fun x hx hne => by
      obtain ⟨r, h1, h2, h3⟩ := hx
      refine (sum_dec _ x (valsB B ds V x) (by rw [r.len, (S.rowB r).len]) fun i a b ha hb => ?_).2 fun z => hne z.symm
      have hle := h1 i a b ha hb
      have fa := h2 a (List.mem_of_getElem? ha)
      have na := r.nn a (List.mem_of_getElem? ha)
      have fb : finLe B b := by
        obtain ⟨q, _, rfl⟩ := List.mem_map.mp (List.mem_of_getElem? hb)
        exact bdA_fin
      cases a with
      | none =>
        cases b with
        | none => exact ⟨Nat.le_refl _, fun z => absurd rfl z⟩
        | some k => cases hle
      | some i =>
        have h4 := fa i rfl
        have h5 := na i rfl
        cases b with
        | none =>
          show B.toNat + 1 - (B.toNat + 1) ≤ B.toNat + 1 - i.toNat ∧ (_ → B.toNat + 1 - (B.toNat + 1) < B.toNat + 1 - i.toNat)
          exact ⟨by omega, fun _ => by omega⟩
        | some k =>
          have h6 : i ≤ k := of_decide_eq_true hle
          have h7 := fb k rfl
          show B.toNat + 1 - k.toNat ≤ B.toNat + 1 - i.toNat ∧ (_ → B.toNat + 1 - k.toNat < B.toNat + 1 - i.toNat)
          refine ⟨by omega, fun z => ?_⟩
          have : i ≠ k := fun w => z (by rw [w])
          omega) n (List.replicate m (some 0)) ⟨row_rep nn0 m, fun i a b ha hb => by
        have h1 := List.mem_of_getElem? ha
        rw [List.eq_of_mem_replicate h1]
        exact le0 ((S.rowB (row_rep nn0 m)).nn _ (List.mem_of_getElem? hb)), fun a ha => by
        rw [List.eq_of_mem_replicate ha]
        intro k e
        cases e
        exact hB0, fun y ry _ i a b ha hb => by
        have h1 := List.mem_of_getElem? ha
        rw [List.eq_of_mem_replicate h1]
        exact le0 (ry.nn _ (List.mem_of_getElem? hb))⟩ (by
      have := sum_top (fun a => (B.toNat + 1) - rkA (B.toNat + 1) a) (B.toNat + 1) (List.replicate m (some 0)) fun a _ => Nat.sub_le _ _
      rw [List.length_replicate] at this
      exact Nat.le_trans this hn)
  obtain ⟨⟨r, h1, h2, h3⟩, hfix⟩ := key
  generalize settle (valsB B ds V) n (List.replicate m (some 0)) = x at r h1 h2 h3 hfix
  -- what is finite is low
  have hlow : ∀ a ∈ x, finLe (c + g + 2 * g * m) a := by
    refine pigeon x r.len hg fun T hT hsep a ha k hk => ?_
    have hT0 : 0 ≤ T := by omega
    have rl : Row m (x.map (lowA T)) := r.map fun _ h => lowA_nn hT0 h
    have e1 : vals ds V (x.map (lowA T)) = (vals ds V x).map (lowA T) := by
      unfold vals
      rw [List.map_map]
      exact List.map_congr_left fun d hd => ((S.comp d hd).low x T r hT hsep).1
    have hpre : leL (valsB B ds V (x.map (lowA T))) (x.map (lowA T)) := by
      intro i a b ha hb
      unfold valsB at ha
      rw [e1, List.map_map, List.getElem?_map] at ha
      rw [← hfix] at hb
      unfold valsB at hb
      rw [List.map_map, List.getElem?_map] at hb
      cases hv : (vals ds V x)[i]? with
      | none => rw [hv] at ha; cases ha
      | some w =>
        rw [hv] at ha hb
        cases ha
        cases hb
        show leA (bdA B (lowA T w)) (lowA T (bdA B w)) = true
        cases w with
        | none => rfl
        | some q =>
          by_cases hq : B < q
          · rw [bdA_hi hq]
            exact leA_none _
          · rw [bdA_lo (by omega : q ≤ B)]
            by_cases hqT : T < q
            · rw [lowA_hi hqT, bdA_lo (by omega)]
              exact leA_refl _
            · rw [lowA_lo (by omega), bdA_lo (by omega)]
              exact leA_refl _
    have hle := h3 _ rl hpre
    refine Decidable.byContradiction fun hno => ?_
    obtain ⟨i, hi, e⟩ := List.mem_iff_getElem.mp ha
    have q := hle i a (lowA T a) (by rw [List.getElem?_eq_getElem hi, e]) (by rw [List.getElem?_map, List.getElem?_eq_getElem hi, e]; rfl)
    rw [hk, lowA_hi (by omega)] at q
    have := of_decide_eq_true q
    omega
  -- nothing has passed the bound
  have hsol : vals ds V x = x := by
    refine Eq.trans ?_ hfix
    unfold valsB
    refine (List.map_id _).symm.trans (List.map_congr_left fun a ha => ?_)
    obtain ⟨d, hd, rfl⟩ := List.mem_map.mp ha
    have hu := (S.comp d hd).up x (c + g + 2 * g * m) r (by omega) hlow
    show V d x = bdA B (V d x)
    cases hv : V d x with
    | none => rfl
    | some k =>
      have := hu k hv
      rw [bdA_lo (by omega)]
  refine ⟨r, hsol, hlow, fun y ry hy => ?_⟩
  obtain ⟨z, q1, q2, q3, q4⟩ := pre_low S _ y (Nat.le_refl _) ry hy
  refine leL_trans r.len q1.len (h3 z q1 fun i a b ha hb => ?_) q3
  unfold valsB at ha
  rw [List.getElem?_map] at ha
  cases hv : (vals ds V z)[i]? with
  | none => rw [hv] at ha; cases ha
  | some w =>
    rw [hv] at ha
    cases ha
    have h5 := q2 i w b hv hb
    have h6 := q4 b (List.mem_of_getElem? hb)
    show leA (bdA B w) b = true
    cases b with
    | none => exact leA_none _
    | some k =>
      cases w with
      | none => cases h5
      | some q =>
        have h7 : q ≤ k := of_decide_eq_true h5
        have h8 := h6 k rfl
        rw [bdA_lo (by omega)]
        exact h5
/-- rounds from endless down settle at the greatest solution -/
theorem greatest_settles (S : Sheet m c g ds V) {n : Nat} (hn : m * (c + g * m + 1).toNat ≤ n) :
    Row m (settle (vals ds V) n (List.replicate m none)) ∧ vals ds V (settle (vals ds V) n (List.replicate m none)) = settle (vals ds V) n (List.replicate m none) ∧
    (∀ a ∈ settle (vals ds V) n (List.replicate m none), finLe (c + g * m) a) ∧ ∀ y, Row m y → leL y (vals ds V y) → leL y (settle (vals ds V) n (List.replicate m none)) := by
  have hc := S.hc
  have hg := S.hg
  let cnt : LA → Nat := fun x => (x.filter fun a => a.isSome).length
  have hcnt : ∀ x, Row m x → cnt x ≤ m := fun x r => by
    have := List.length_filter_le (fun a : Option Int => a.isSome) x
    rw [r.len] at this
    exact this
  have hmul : ∀ i j : Nat, i ≤ j → g * (i : Int) ≤ g * (j : Int) := fun i j h => Int.mul_le_mul_of_nonneg_left (by omega) hg
  have hmul0 : ∀ i : Nat, 0 ≤ g * (i : Int) := fun i => Int.mul_nonneg hg (by omega)
  let I : LA → Prop := fun x => Row m x ∧ leL (vals ds V x) x ∧ (∀ a ∈ x, finLe (c + g * (cnt x : Int)) a) ∧ ∀ y, Row m y → leL y (vals ds V y) → leL y x
  let μ : LA → Nat := fun x => (x.map (rkA (c + g * m + 1).toNat)).sum
  have hI : ∀ x, I x → I (vals ds V x) := fun x hx => by
      obtain ⟨r, h1, h2, h3⟩ := hx
      have rv := S.row r
      refine ⟨rv, S.mono rv r h1, fun a ha k hk => ?_, fun y ry hy => ?_⟩
      · obtain ⟨i, hi, e⟩ := List.mem_iff_getElem.mp ha
        have hle := h1 i a (gA x i) (by rw [List.getElem?_eq_getElem hi, e]) (gA_get (by rw [r.len, ← rv.len]; exact hi))
        have hsome : ∀ (xs ys : LA), xs.length = ys.length → leL ys xs → (xs.filter fun a => a.isSome).length ≤ (ys.filter fun a => a.isSome).length ∧ ((∃ i : Nat, (∃ k, ys[i]? = some (some k)) ∧ xs[i]? = some none) → (xs.filter fun a => a.isSome).length < (ys.filter fun a => a.isSome).length) := by
          intro xs
          induction xs with
          | nil =>
            intro ys hl _
            cases ys with
            | nil => exact ⟨Nat.le_refl _, fun ⟨i, ⟨k, h⟩, _⟩ => by simp at h⟩
            | cons _ _ => cases hl
          | cons p xs ih =>
            intro ys hl hle
            cases ys with
            | nil => cases hl
            | cons q ys =>
              obtain ⟨i1, i2⟩ := ih ys (Nat.succ.inj hl) fun i c d hc hd => hle (i + 1) c d hc hd
              have h0 := hle 0 q p rfl rfl
              rw [List.filter_cons, List.filter_cons]
              cases p with
              | none =>
                cases q with
                | none =>
                  refine ⟨i1, fun ⟨i, ⟨k, h⟩, h'⟩ => i2 ?_⟩
                  cases i with
                  | zero => cases h
                  | succ i => exact ⟨i, ⟨k, h⟩, h'⟩
                | some _ =>
                  show (xs.filter _).length ≤ (_ :: ys.filter _).length ∧ (_ → (xs.filter _).length < (_ :: ys.filter _).length)
                  rw [List.length_cons]
                  exact ⟨by omega, fun _ => by omega⟩
              | some _ =>
                cases q with
                | none => cases h0
                | some _ =>
                  show (_ :: xs.filter _).length ≤ (_ :: ys.filter _).length ∧ (_ → (_ :: xs.filter _).length < (_ :: ys.filter _).length)
                  rw [List.length_cons, List.length_cons]
                  refine ⟨Nat.succ_le_succ i1, fun ⟨i, ⟨k, h⟩, h'⟩ => Nat.succ_lt_succ (i2 ?_)⟩
                  cases i with
                  | zero => cases h'
                  | succ i => exact ⟨i, ⟨k, h⟩, h'⟩
        obtain ⟨s1, s2⟩ := hsome x (vals ds V x) (by rw [r.len, rv.len]) h1
        have s3 := hmul (cnt x) (cnt (vals ds V x)) s1
        cases hx : gA x i with
        | some w =>
          have hw := h2 (some w) (by rw [← hx]; exact gA_mem (by rw [r.len, ← rv.len]; exact hi)) w rfl
          rw [hx, hk] at hle
          have : k ≤ w := of_decide_eq_true hle
          omega
        | none =>
          have s4 : cnt x + 1 ≤ cnt (vals ds V x) := s2 ⟨i, ⟨k, by rw [List.getElem?_eq_getElem hi, e, hk]⟩, by rw [← hx]; exact gA_get (by rw [r.len, ← rv.len]; exact hi)⟩
          have s5 := hmul _ _ s4
          have s6 : g * ((cnt x + 1 : Nat) : Int) = g * (cnt x : Int) + g := by rw [Int.natCast_succ, Int.mul_add, Int.mul_one]
          obtain ⟨d, hd, hv⟩ := List.mem_map.mp ha
          have hu := (S.comp d hd).up x (c + g * (cnt x : Int)) r (by have := hmul0 (cnt x); omega) h2 k (by rw [hv, hk])
          omega
      · have q := S.mono ry r (h3 y ry hy)
        exact leL_trans ry.len (S.row ry).len hy q
  have key := settle_ok (S := vals ds V) I μ hI (fun x hx hne => by
      have hfb := (hI x hx).2.2.1
      obtain ⟨r, h1, h2, h3⟩ := hx
      have rv := S.row r
      refine (sum_dec _ x (vals ds V x) (by rw [r.len, rv.len]) fun i a b ha hb => ?_).2 fun z => hne z.symm
      have hle := h1 i b a hb ha
      have fa := h2 a (List.mem_of_getElem? ha)
      have nb := rv.nn b (List.mem_of_getElem? hb)
      have hm := hmul _ _ (hcnt x r)
      cases a with
      | none =>
        cases b with
        | none => exact ⟨Nat.le_refl _, fun z => absurd rfl z⟩
        | some k =>
          have h5 := hfb _ (List.mem_of_getElem? hb) k rfl
          have hm := hmul _ _ (hcnt _ rv)
          have h7 := nb k rfl
          show k.toNat ≤ (c + g * m + 1).toNat ∧ (_ → k.toNat < (c + g * m + 1).toNat)
          exact ⟨by omega, fun _ => by omega⟩
      | some w =>
        cases b with
        | none => cases hle
        | some k =>
          have h6 : k ≤ w := of_decide_eq_true hle
          have h7 := nb k rfl
          show k.toNat ≤ w.toNat ∧ (_ → k.toNat < w.toNat)
          refine ⟨by omega, fun z => ?_⟩
          have : w ≠ k := fun q => z (by rw [q])
          omega) n (List.replicate m none) ⟨row_rep nnN m, fun i a b ha hb => by
        have h1 := List.mem_of_getElem? hb
        rw [List.eq_of_mem_replicate h1]
        exact leA_none _, (fun a ha => by
        rw [List.eq_of_mem_replicate ha]
        intro k e
        cases e), fun y ry _ i a b ha hb => by
        have h1 := List.mem_of_getElem? hb
        rw [List.eq_of_mem_replicate h1]
        exact leA_none _⟩ (by
      have := sum_top (rkA (c + g * m + 1).toNat) (c + g * m + 1).toNat (List.replicate m none) fun a ha => by
        rw [List.eq_of_mem_replicate ha]
        exact Nat.le_refl _
      rw [List.length_replicate] at this
      exact Nat.le_trans this hn)
  obtain ⟨⟨r, h1, h2, h3⟩, hfix⟩ := key
  refine ⟨r, hfix, fun a ha => (h2 a ha).mono ?_, h3⟩
  have := hmul _ _ (hcnt _ r)
  omega
end
def amS (a : Option Int) : Prop := ∀ n, a = some n → 0 ≤ n ∧ n < 12
@[simp] theorem ne_amount_cell : decide (("amount" : Str) = "cell") = false := by decide
@[simp] theorem ne_amount_more : decide (("amount" : Str) = "more") = false := by decide
@[simp] theorem ne_amount_when : decide (("amount" : Str) = "when") = false := by decide
@[simp] theorem ne_amount_least : decide (("amount" : Str) = "least") = false := by decide
@[simp] theorem ne_amount_greatest : decide (("amount" : Str) = "greatest") = false := by decide
@[simp] theorem ne_cell_amount : decide (("cell" : Str) = "amount") = false := by decide
@[simp] theorem ne_cell_more : decide (("cell" : Str) = "more") = false := by decide
@[simp] theorem ne_cell_when : decide (("cell" : Str) = "when") = false := by decide
@[simp] theorem ne_cell_least : decide (("cell" : Str) = "least") = false := by decide
@[simp] theorem ne_cell_greatest : decide (("cell" : Str) = "greatest") = false := by decide
@[simp] theorem ne_more_amount : decide (("more" : Str) = "amount") = false := by decide
@[simp] theorem ne_more_cell : decide (("more" : Str) = "cell") = false := by decide
@[simp] theorem ne_more_when : decide (("more" : Str) = "when") = false := by decide
@[simp] theorem ne_more_least : decide (("more" : Str) = "least") = false := by decide
@[simp] theorem ne_more_greatest : decide (("more" : Str) = "greatest") = false := by decide
@[simp] theorem ne_when_amount : decide (("when" : Str) = "amount") = false := by decide
@[simp] theorem ne_when_cell : decide (("when" : Str) = "cell") = false := by decide
@[simp] theorem ne_when_more : decide (("when" : Str) = "more") = false := by decide
@[simp] theorem ne_when_least : decide (("when" : Str) = "least") = false := by decide
@[simp] theorem ne_when_greatest : decide (("when" : Str) = "greatest") = false := by decide
@[simp] theorem ne_least_amount : decide (("least" : Str) = "amount") = false := by decide
@[simp] theorem ne_least_cell : decide (("least" : Str) = "cell") = false := by decide
@[simp] theorem ne_least_more : decide (("least" : Str) = "more") = false := by decide
@[simp] theorem ne_least_when : decide (("least" : Str) = "when") = false := by decide
@[simp] theorem ne_least_greatest : decide (("least" : Str) = "greatest") = false := by decide
@[simp] theorem ne_greatest_amount : decide (("greatest" : Str) = "amount") = false := by decide
@[simp] theorem ne_greatest_cell : decide (("greatest" : Str) = "cell") = false := by decide
@[simp] theorem ne_greatest_more : decide (("greatest" : Str) = "more") = false := by decide
@[simp] theorem ne_greatest_when : decide (("greatest" : Str) = "when") = false := by decide
@[simp] theorem ne_greatest_least : decide (("greatest" : Str) = "least") = false := by decide
@[simp] theorem dEq_aL {xs ys : List (Option Int)} : dEq (.list (aL xs)) (.list (aL ys)) = some (.bool (decide (xs = ys))) := by
  unfold dEq
  rw [eqB_aL]
  rfl
/-- what is known of a formula -/
structure Info where
  F : LA → Option Int
  cs : List Int
  ps : List D
def pkT : DS → Option Bool := mB (m2 dIn (m2 dIx (mVar 1) (mC (.int 0))) (mTup (mCons (mC (.str "cell")) (mCons (mC (.str "when")) mNil))))
def pk (d0 : D) : D → Option (Option D) := mLcF (gmName 1) pkT c_cells_in_1 [v d0, none]
structure GI (n m : Nat) (s : Int) (L N dep : Nat) (d : D) (i : Info) : Prop where
  comp : Comp m 11 7 s i.F
  val : ∀ xs, Row m xs → f_value_of n [d, .list (aL xs)] = some (.val (eA (i.F xs)))
  lval : ∀ xs, Row m xs → f__law_value n [d, .list (aL xs)] = some (.val (eA (i.F xs)))
  named : (f__law_named n [d]).map DV.data = some (.list (iL i.cs))
  inb : ∀ c ∈ i.cs, 0 ≤ c ∧ c < m
  parts : f_parts_of n [d] = some (.own i.ps)
  plen : i.ps.length ≤ L
  clen : i.cs.length ≤ L
  pick : ∀ d0, ∃ es : List Int, colO (pk d0) i.ps = some (iL es) ∧ ∀ k, k ∈ es ↔ k ∈ i.cs
  shw : Shw d dep N
theorem GI.weak {n m : Nat} {s s' : Int} {L N dep L' N' dep' : Nat} {d : D} {i : Info} (h : GI n m s L N dep d i) (h1 : s ≤ s') (h2 : L ≤ L') (h3 : N ≤ N') (h4 : dep ≤ dep') : GI n m s' L' N' dep' d i :=
  { h with comp := h.comp.weak h1, plen := Nat.le_trans h.plen h2, clen := Nat.le_trans h.clen h2, shw := h.shw.mono h4 h3 }
theorem value_of_go {n : Nat} {d x : D} {r : DV} (h : m_value_of (f_value_of n) [v d, v x, none, none, none] = some (.rt r)) : f_value_of (n + 1) [d, x] = some r := by
  show fnD N_value_of.length _ (m_value_of (f_value_of n)) [d, x] = some r
  refine fnD_rt rfl ?_
  show m_value_of (f_value_of n) (startD 5 [d, x]) = _
  rw [startD_2]
  exact h
theorem law_value_go {n : Nat} {d x : D} {r : DV} (h : m__law_value (f__law_value n) [v d, v x, none, none] = some (.rt r)) : f__law_value (n + 1) [d, x] = some r := by
  show fnD N__law_value.length _ (m__law_value (f__law_value n)) [d, x] = some r
  refine fnD_rt rfl ?_
  show m__law_value (f__law_value n) (startD 4 [d, x]) = _
  rw [startD_2]
  exact h
theorem named_go {n : Nat} {d : D} {r : DV} (h : m__law_named (f__law_named n) [v d, none, none, none] = some (.rt r)) : f__law_named (n + 1) [d] = some r := by
  show fnD N__law_named.length _ (m__law_named (f__law_named n)) [d] = some r
  refine fnD_rt rfl ?_
  show m__law_named (f__law_named n) (startD 4 [d]) = _
  rw [startD_1]
  exact h
theorem inner_go {d : D} {r : DV} (h : m_formulas_in [v d, none] = some (.rt r)) : f_formulas_in [d] = some r := by
  unfold f_formulas_in
  refine fnD_rt rfl ?_
  show m_formulas_in (startD 2 [d]) = _
  rw [startD_1]
  exact h
theorem parts_loop {n : Nat} : ∀ (ts : List (D × List D)) (acc : List D) (d : D) (a2 : Option DV), (∀ t ∈ ts, f_parts_of n [t.1] = some (.own t.2)) → acc.length + (ts.flatMap (·.2)).length ≤ cap →
    ∃ b2, mForL (gmName 2) (b_parts_of_1 (f_parts_of n)) (ts.map (·.1)) [v d, some (.own acc), a2] = some (.nx [v d, some (.own (acc ++ ts.flatMap (·.2))), b2])
  | [], acc, d, a2, _, _ => ⟨a2, by simp⟩
  | t :: ts, acc, d, a2, h, hc => by
    rw [List.flatMap_cons, List.length_append] at hc
    obtain ⟨b2, e⟩ := parts_loop ts (acc ++ t.2) d (v t.1) (fun x hx => h x (List.mem_cons_of_mem _ hx)) (by rw [List.length_append]; omega)
    refine ⟨b2, ?_⟩
    have hb : b_parts_of_1 (f_parts_of n) [v d, some (.own acc), v t.1] = some (.nx [v d, some (.own (acc ++ t.2)), v t.1]) := by
      have ht := h t List.mem_cons_self
      show nExd 1 (mCallFO (mCons (mVar 2) mNil) (f_parts_of n)) _ = _
      unfold nExd
      have e1 : mCallFO (mCons (mVar 2) mNil) (f_parts_of n) [v d, some (.own acc), v t.1] = some t.2 := by
        simp -implicitDefEqProofs [ht]
      rw [e1]
      show (if acc.length + t.2.length ≤ cap then _ else none) = _
      rw [if_pos (by omega)]
      rfl
    rw [List.map_cons, mForL_cons]
    show fr2 _ (b_parts_of_1 (f_parts_of n) [v d, some (.own acc), v t.1]) = _
    rw [hb, fr2_nx, e, List.flatMap_cons, List.append_assoc]
theorem parts_go {n : Nat} {d : D} {ts : List (D × List D)} {r : DV} (hi : f_formulas_in [d] = some r) (hr : r.data = .list (ts.map (·.1))) (h : ∀ t ∈ ts, f_parts_of n [t.1] = some (.own t.2)) (hc : 1 + (ts.flatMap (·.2)).length ≤ cap) :
    f_parts_of (n + 1) [d] = some (.own (d :: ts.flatMap (·.2))) := by
  obtain ⟨b2, e⟩ := parts_loop ts [d] d none h hc
  show fnD N_parts_of.length _ (m_parts_of (f_parts_of n)) [d] = _
  refine fnD_rt rfl ?_
  show m_parts_of (f_parts_of n) (startD 3 [d]) = _
  rw [startD_1]
  have e' : mForL (gmName 2) (b_parts_of_1 (f_parts_of n)) (ts.map (·.1)) [v d, some (.own [d]), none] = some (.nx [v d, some (.own (d :: ts.flatMap (·.2))), b2]) := e
  simp -implicitDefEqProofs only [m_parts_of, nSeq_e, nAsgO_e, mCons_e, mVar_0, mNil_e, Option.bind_some, Option.map_some, List.replicate, List.set_cons_succ, List.set_cons_zero, nx2_nx, nFor_e, mItems_e, mCallF_e, hi, hr, gItems_some, e', nRetX_e, List.getElem?_cons_succ, List.getElem?_cons_zero, gRetX_o]
theorem colO_app {f : D → Option (Option D)} : ∀ {xs ys as bs : List D}, colO f xs = some as → colO f ys = some bs → colO f (xs ++ ys) = some (as ++ bs)
  | [], _, _, _, h, h2 => by
    cases h
    exact h2
  | x :: xs, ys, as, bs, h, h2 => by
    rw [colO_cons] at h
    obtain ⟨a, ha, h⟩ := Option.bind_eq_some_iff.mp h
    obtain ⟨r, hr, h⟩ := Option.bind_eq_some_iff.mp h
    have e := colO_app hr h2
    rw [List.cons_append, colO_cons, ha]
    show (colO f (xs ++ ys)).bind _ = _
    rw [e]
    cases h
    cases a <;> rfl
theorem pk_skip {d0 d : D} {ps es : List D} (h : pk d0 d = some none) (h2 : colO (pk d0) ps = some es) : colO (pk d0) (d :: ps) = some es := by
  rw [colO_cons, h, h2]
  rfl
theorem pk_take {d0 d x : D} {ps es : List D} (h : pk d0 d = some (some x)) (h2 : colO (pk d0) ps = some es) : colO (pk d0) (d :: ps) = some (x :: es) := by
  rw [colO_cons, h, h2]
  rfl
theorem inStr {x y z : Str} : dIn (.str x) (.tuple [.str y, .str z]) = some (.bool (decide (x = y) || decide (x = z))) := by
  have e : ∀ p q : Str, PyData.eqv (.str p) (.str q) = decide (p = q) := fun p q => by
    rw [PyData.eqv]
    by_cases h : p = q <;> simp [h]
  show (Option.map PyData.bool (some (inD (.str x) [.str y, .str z]))) = _
  unfold inD
  rw [List.any_cons, List.any_cons, List.any_nil, e, e, Bool.or_false, Option.map_some]
  congr 3
  · exact decide_eq_decide.mpr ⟨fun h => h.symm, fun h => h.symm⟩
  · exact decide_eq_decide.mpr ⟨fun h => h.symm, fun h => h.symm⟩
theorem pk_no {d0 : D} {w : Str} {r : List D} (h : (decide (w = "cell") || decide (w = "when")) = false) : pk d0 (.tuple (.str w :: r)) = some none := by
  simp -implicitDefEqProofs only [pk, mLcF, pkT, gmName_e, List.set_cons_succ, List.set_cons_zero, Option.bind_some, mB_e, m2_e, mVar_0, mVar_s, mC_e, dIx_t, atI_zero, mTup_e, mCons_e, mNil_e, Option.map_some, inStr, h, toB_some, Bool.false_eq_true, if_false]
theorem pk_yes {d0 : D} {w : Str} {x : D} {r : List D} (h : (decide (w = "cell") || decide (w = "when")) = true) : pk d0 (.tuple (.str w :: x :: r)) = some (some x) := by
  have h1 : atI (PyData.str w :: x :: r) 1 = some x := atI_nat (j := 1) rfl
  simp -implicitDefEqProofs only [pk, mLcF, pkT, c_cells_in_1, gmName_e, List.set_cons_succ, List.set_cons_zero, Option.bind_some, mB_e, m2_e, mVar_0, mVar_s, mC_e, dIx_t, atI_zero, mTup_e, mCons_e, mNil_e, Option.map_some, inStr, h, toB_some, if_true, h1]
theorem shw_w {w : Str} (h : (reprText w).length ≤ 12) : Shw (.str w) 0 12 := shw_str.mono (Nat.le_refl _) h
theorem rt1 : (reprText "amount").length ≤ 12 := by decide +kernel
theorem rt2 : (reprText "cell").length ≤ 12 := by decide +kernel
theorem rt3 : (reprText "more").length ≤ 12 := by decide +kernel
theorem rt4 : (reprText "when").length ≤ 12 := by decide +kernel
theorem rt5 : (reprText "least").length ≤ 12 := by decide +kernel
theorem rt6 : (reprText "greatest").length ≤ 12 := by decide +kernel
theorem shw_small {i : Int} (h0 : -1000 ≤ i) (h : i ≤ 1000) : Shw (.int i) 0 12 := (shw_int (k := 10) (by omega) (by decide) (by decide)).mono (Nat.le_refl _) (by decide)
theorem shw_amS {a : Option Int} (h : amS a) : Shw (eA a) 0 12 := by
  cases a with
  | none => exact shw_none.mono (Nat.le_refl _) (by decide)
  | some n =>
    have := h n rfl
    exact shw_small (by omega) (by omega)
theorem gi_amount {n m : Nat} {a : Option Int} (h : amS a) : GI (n + 1) m 0 1 40 1 (.tuple [.str "amount", eA a]) ⟨fun _ => a, [], [.tuple [.str "amount", eA a]]⟩ := by
  have h1 : atI [PyData.str "amount", eA a] 1 = some (eA a) := atI_nat (j := 1) rfl
  refine ⟨comp_amount (by decide) (by decide) (fun n e => (h n e).1) (fun n e => ?_), fun xs _ => value_of_go ?_, fun xs _ => law_value_go ?_, ?_, fun c hc => (by cases hc), ?_, Nat.le_refl _, Nat.zero_le _, fun d0 => ⟨[], pk_skip (pk_no (by decide)) rfl, fun k => Iff.rfl⟩, ?_⟩
  · have := h n e
    omega
  · simp -implicitDefEqProofs [m_value_of, h1]
  · simp -implicitDefEqProofs [m__law_value, h1]
  · have q : f__law_named (n + 1) [.tuple [.str "amount", eA a]] = some (.val (.list [])) := named_go (by
      simp -implicitDefEqProofs [m__law_named, dNe, eqB])
    rw [q]
    rfl
  · exact parts_go (ts := []) (r := .own []) (inner_go (by simp -implicitDefEqProofs [m_formulas_in, inStr])) rfl (fun t ht => by cases ht) (by decide)
  · exact (shw_tup (shw_cons (shw_w rt1) (shw_cons (shw_amS h) shw_nil))).mono (Nat.le_refl _) (by decide)
theorem gi_cell {n m i : Nat} (h : i < m) (hm : m ≤ 1000) : GI (n + 1) m 0 1 40 1 (.tuple [.str "cell", .int i]) ⟨fun xs => gA xs i, [(i : Int)], [.tuple [.str "cell", .int i]]⟩ := by
  have h2 : atI [PyData.str "cell", .int (i : Int)] 1 = some (.int i) := atI_nat (j := 1) rfl
  refine ⟨comp_cell h, fun xs r => value_of_go ?_, fun xs r => law_value_go ?_, ?_, fun c hc => ?_, ?_, Nat.le_refl _, Nat.le_refl _, fun d0 => ⟨[(i : Int)], pk_take (pk_yes (by decide)) rfl, fun k => Iff.rfl⟩, ?_⟩
  · have h3 := gA_at (xs := xs) (i := i) (by rw [r.len]; exact h)
    simp -implicitDefEqProofs only [m_value_of, nSeq_e, nAsg_e, nIf_e, mB_e, m2_e, mVar_0, mVar_s, mC_e, Option.bind_some, Option.map_some, dIx_t, dIx_l, atI_zero, h2, h3, List.set_cons_succ, List.set_cons_zero, nx2_nx, nx2_rt, dEq_str, wq1, toB_some, decide_true, Bool.false_eq_true, if_false, if_true, nNext_e, nRet_e]
  · have h3 := gA_at (xs := xs) (i := i) (by rw [r.len]; exact h)
    simp -implicitDefEqProofs only [m__law_value, nSeq_e, nAsg_e, nIf_e, mB_e, m2_e, mVar_0, mVar_s, mC_e, Option.bind_some, Option.map_some, dIx_t, dIx_l, atI_zero, h2, h3, List.set_cons_succ, List.set_cons_zero, nx2_nx, nx2_rt, dEq_str, wq1, toB_some, decide_true, Bool.false_eq_true, if_false, if_true, nNext_e, nRet_e]
  · have q : f__law_named (n + 1) [.tuple [.str "cell", .int (i : Int)]] = some (.own [.int i]) := named_go (by
      simp -implicitDefEqProofs [m__law_named, h2])
    rw [q]
    rfl
  · rw [List.mem_singleton.mp hc]
    omega
  · exact parts_go (ts := []) (r := .own []) (inner_go (by simp -implicitDefEqProofs [m_formulas_in, inStr])) rfl (fun t ht => by cases ht) (by decide)
  · exact (shw_tup (shw_cons (shw_w rt2) (shw_cons (shw_small (by omega) (by omega)) shw_nil))).mono (Nat.le_refl _) (by decide)
theorem gi_more {n m : Nat} {s t : Int} {L N dep : Nat} {d : D} {i : Info} {k : Int} (h : GI n m s L N dep d i) (h1 : -t ≤ k) (h2 : k ≤ t) (hs : 0 ≤ s) (hst : s + t ≤ 7) (hL : L ≤ 1000) :
    GI (n + 1) m (s + t) (L + 1) (N + 50) (dep + 1) (.tuple [.str "more", d, .int k]) ⟨fun xs => shA (i.F xs) k, i.cs, .tuple [.str "more", d, .int k] :: i.ps⟩ := by
  have g1 : atI [PyData.str "more", d, .int k] 1 = some d := atI_nat (j := 1) rfl
  have g2 : atI [PyData.str "more", d, .int k] 2 = some (.int k) := atI_nat (j := 2) rfl
  refine ⟨comp_more h.comp h1 h2 hs hst (by decide), fun xs r => value_of_go ?_, fun xs r => law_value_go ?_, ?_, h.inb, ?_, Nat.succ_le_succ h.plen, Nat.le_succ_of_le h.clen, fun d0 => ?_, ?_⟩
  · simp -implicitDefEqProofs [m_value_of, wq2, wq3, g1, g2, h.val xs r, shifted_ok]
  · simp -implicitDefEqProofs [m__law_value, wq2, wq3, g1, g2, h.lval xs r, law_shifted_ok]
  · obtain ⟨r, hr, hrd⟩ := Option.map_eq_some_iff.mp h.named
    have q : f__law_named (n + 1) [.tuple [.str "more", d, .int k]] = some r := named_go (by
      simp -implicitDefEqProofs [m__law_named, wq3, g1, hr])
    rw [q]
    exact congrArg some hrd
  · have hp := h.parts
    have e := parts_go (d := .tuple [.str "more", d, .int k]) (ts := [(d, i.ps)]) (r := .own [d]) (inner_go (by simp -implicitDefEqProofs [m_formulas_in, g1])) rfl (fun t ht => by rw [List.mem_singleton.mp ht]; exact hp) (by
      have := h.plen
      show 1 + ([(d, i.ps)].flatMap (·.2)).length ≤ cap
      simp
      unfold cap
      omega)
    simpa using e
  · obtain ⟨es, e1, e2⟩ := h.pick d0
    exact ⟨es, pk_skip (pk_no (by decide)) e1, e2⟩
  · have := h.shw
    exact (shw_tup (shw_cons ((shw_w rt3).mono (Nat.zero_le _) (Nat.le_refl _)) (shw_cons this (shw_cons ((shw_small (i := k) (by omega) (by omega)).mono (Nat.zero_le _) (Nat.le_refl _)) shw_nil)))).mono (Nat.le_refl _) (by omega)
theorem gi_when {n m j : Nat} {s : Int} {L N dep : Nat} {d : D} {i : Info} {k : Int} (h : GI n m s L N dep d i) (hj : j < m) (hm : m ≤ 1000) (hk0 : 0 < k) (hk : k ≤ 11) (hs : 0 ≤ s) (hst : s ≤ 7) (hL : L ≤ 1000) :
    GI (n + 1) m s (L + 1) (N + 60) (dep + 1) (.tuple [.str "when", .int j, .int k, d]) ⟨fun xs => if leA (some k) (gA xs j) = true then i.F xs else some 0, (j : Int) :: i.cs, .tuple [.str "when", .int j, .int k, d] :: i.ps⟩ := by
  have g1 : atI [PyData.str "when", .int (j : Int), .int k, d] 1 = some (.int j) := atI_nat (j := 1) rfl
  have g2 : atI [PyData.str "when", .int (j : Int), .int k, d] 2 = some (.int k) := atI_nat (j := 2) rfl
  have g3 : atI [PyData.str "when", .int (j : Int), .int k, d] 3 = some d := atI_nat (j := 3) rfl
  refine ⟨comp_when h.comp hj hk0 hk hs hst, fun xs r => value_of_go ?_, fun xs r => law_value_go ?_, ?_, fun c hc => ?_, ?_, Nat.succ_le_succ h.plen, Nat.succ_le_succ h.clen, fun d0 => ?_, ?_⟩
  · have hx := gA_at (xs := xs) (i := j) (by rw [r.len]; exact hj)
    have ha : f_at_most [.int k, eA (gA xs j)] = some (.val (.bool (leA (some k) (gA xs j)))) := at_most_ok (some k) (gA xs j)
    show _ = some (Out.rt (DV.val (eA (if leA (some k) (gA xs j) = true then i.F xs else some 0))))
    generalize gA xs j = x at hx ha ⊢
    by_cases c1 : leA (some k) x = true
    · simp -implicitDefEqProofs [m_value_of, wq4, wq5, wq6, g1, g2, g3, hx, ha, c1, h.val xs r]
    · simp -implicitDefEqProofs [m_value_of, wq4, wq5, wq6, g1, g2, g3, hx, ha, c1]
  · have hx := gA_at (xs := xs) (i := j) (by rw [r.len]; exact hj)
    have ha : f__law_at_most [.int k, eA (gA xs j)] = some (.val (.bool (leA (some k) (gA xs j)))) := law_at_most_ok (some k) (gA xs j)
    show _ = some (Out.rt (DV.val (eA (if leA (some k) (gA xs j) = true then i.F xs else some 0))))
    generalize gA xs j = x at hx ha ⊢
    by_cases c1 : leA (some k) x = true
    · simp -implicitDefEqProofs [m__law_value, wq4, wq5, wq6, g1, g2, g3, hx, ha, c1, h.lval xs r]
    · simp -implicitDefEqProofs [m__law_value, wq4, wq5, wq6, g1, g2, g3, hx, ha, c1]
  · obtain ⟨r, hr, hrd⟩ := Option.map_eq_some_iff.mp h.named
    have hcat : dCat (.list [.int (j : Int)]) (.list (iL i.cs)) = some (iL ((j : Int) :: i.cs)) := by
      have := h.clen
      show (if ([PyData.int (j : Int)]).length + (iL i.cs).length ≤ cap then _ else none) = _
      rw [if_pos (by rw [List.length_map]; simp; unfold cap; omega)]
      rfl
    have q : f__law_named (n + 1) [.tuple [.str "when", .int (j : Int), .int k, d]] = some (.own (iL ((j : Int) :: i.cs))) := named_go (by
      simp -implicitDefEqProofs only [m__law_named, nSeq_e, nAsg_e, nIf_e, mB_e, m2_e, mVar_0, mVar_s, mC_e, Option.bind_some, Option.map_some, dIx_t, atI_zero, g1, g3, List.set_cons_succ, List.set_cons_zero, nx2_nx, nx2_rt, dEq_str, wq5, wq6, toB_some, decide_true, Bool.false_eq_true, if_false, if_true, nNext_e, nRetO_e, m2O_e, mLst_e, mCons_e, mNil_e, mCallF_e, hr, hrd, hcat])
    rw [q]
    rfl
  · rcases List.mem_cons.mp hc with rfl | hc
    · omega
    · exact h.inb c hc
  · have hp := h.parts
    have e := parts_go (d := .tuple [.str "when", .int (j : Int), .int k, d]) (ts := [(d, i.ps)]) (r := .own [d]) (inner_go (by simp -implicitDefEqProofs [m_formulas_in, wq6, g3])) rfl (fun t ht => by rw [List.mem_singleton.mp ht]; exact hp) (by
      have := h.plen
      show 1 + ([(d, i.ps)].flatMap (·.2)).length ≤ cap
      simp
      unfold cap
      omega)
    simpa using e
  · obtain ⟨es, e1, e2⟩ := h.pick d0
    exact ⟨(j : Int) :: es, pk_take (pk_yes (by decide)) e1, fun q => by rw [List.mem_cons, List.mem_cons, e2]⟩
  · have := h.shw
    exact (shw_tup (shw_cons ((shw_w rt4).mono (Nat.zero_le _) (Nat.le_refl _)) (shw_cons ((shw_small (i := (j : Int)) (by omega) (by omega)).mono (Nat.zero_le _) (Nat.le_refl _)) (shw_cons ((shw_small (i := k) (by omega) (by omega)).mono (Nat.zero_le _) (Nat.le_refl _)) (shw_cons this shw_nil))))).mono (Nat.le_refl _) (by omega)
theorem choose_list {α β : Type} {P : α → β → Prop} : ∀ as : List α, (∀ a ∈ as, ∃ b, P a b) → ∃ ts : List (α × β), ts.map (·.1) = as ∧ ∀ t ∈ ts, P t.1 t.2
  | [], _ => ⟨[], rfl, fun t h => by cases h⟩
  | a :: as, h => by
    obtain ⟨b, hb⟩ := h a List.mem_cons_self
    obtain ⟨ts, e, q⟩ := choose_list as fun x hx => h x (List.mem_cons_of_mem _ hx)
    refine ⟨(a, b) :: ts, by rw [List.map_cons, e], fun t ht => ?_⟩
    rcases List.mem_cons.mp ht with rfl | ht
    · exact hb
    · exact q t ht
theorem flat_len {α β : Type} (f : α → List β) (L : Nat) : ∀ ts : List α, (∀ t ∈ ts, (f t).length ≤ L) → (ts.flatMap f).length ≤ ts.length * L
  | [], _ => Nat.zero_le _
  | t :: ts, h => by
    have h0 := h t List.mem_cons_self
    have h1 := flat_len f L ts fun x hx => h x (List.mem_cons_of_mem _ hx)
    rw [List.flatMap_cons, List.length_append, List.length_cons, Nat.succ_mul]
    omega
theorem named_loop {n : Nat} : ∀ (ts : List (D × Info)) (acc : List Int) (d w : D) (a3 : Option DV), (∀ t ∈ ts, (f__law_named n [t.1]).map DV.data = some (.list (iL t.2.cs))) → acc.length + (ts.flatMap (·.2.cs)).length ≤ cap →
    ∃ b3, mForL (gmName 3) (b__law_named_1 (f__law_named n)) (ts.map (·.1)) [v d, v w, v (.list (iL acc)), a3] = some (.nx [v d, v w, v (.list (iL (acc ++ ts.flatMap (·.2.cs)))), b3])
  | [], acc, d, w, a3, _, _ => ⟨a3, by simp⟩
  | t :: ts, acc, d, w, a3, h, hc => by
    rw [List.flatMap_cons, List.length_append] at hc
    obtain ⟨b3, e⟩ := named_loop ts (acc ++ t.2.cs) d w (v t.1) (fun x hx => h x (List.mem_cons_of_mem _ hx)) (by rw [List.length_append]; omega)
    refine ⟨b3, ?_⟩
    have hcat : dCat (.list (iL acc)) (.list (iL t.2.cs)) = some (iL (acc ++ t.2.cs)) := by
      show (if (iL acc).length + (iL t.2.cs).length ≤ cap then _ else none) = _
      rw [if_pos (by rw [List.length_map, List.length_map]; omega), ← List.map_append]
    have hb : b__law_named_1 (f__law_named n) [v d, v w, v (.list (iL acc)), v t.1] = some (.nx [v d, v w, v (.list (iL (acc ++ t.2.cs))), v t.1]) := by
      have ht := h t List.mem_cons_self
      simp -implicitDefEqProofs only [b__law_named_1, nAsg_e, mLst_e, m2O_e, mVar_0, mVar_s, mCallF_e, mCons_e, mNil_e, Option.bind_some, Option.map_some, ht, hcat, List.set_cons_succ, List.set_cons_zero]
    rw [List.map_cons, mForL_cons]
    show fr2 _ (b__law_named_1 (f__law_named n) [v d, v w, v (.list (iL acc)), v t.1]) = _
    rw [hb, fr2_nx, e, List.flatMap_cons, List.append_assoc]
theorem col_vals {f : D → Option (Option D)} {xs : LA} (ts : List (D × Info)) (h : ∀ t ∈ ts, f t.1 = some (some (eA (t.2.F xs)))) : colO f (ts.map (·.1)) = some (aL (ts.map fun t => t.2.F xs)) := by
  rw [colO_eq (·.1) (fun t : D × Info => eA (t.2.F xs)) ts h]
  show _ = some ((ts.map _).map eA)
  rw [List.map_map]
  rfl
theorem pick_all {n m : Nat} {s : Int} {L N dep : Nat} (d0 : D) : ∀ ts : List (D × Info), (∀ t ∈ ts, GI n m s L N dep t.1 t.2) → ∃ es : List Int, colO (pk d0) (ts.flatMap (·.2.ps)) = some (iL es) ∧ ∀ k, k ∈ es ↔ k ∈ ts.flatMap (·.2.cs)
  | [], _ => ⟨[], rfl, fun k => Iff.rfl⟩
  | t :: ts, h => by
    obtain ⟨e1, p1, q1⟩ := (h t List.mem_cons_self).pick d0
    obtain ⟨e2, p2, q2⟩ := pick_all d0 ts fun x hx => h x (List.mem_cons_of_mem _ hx)
    refine ⟨e1 ++ e2, ?_, fun k => ?_⟩
    · rw [List.flatMap_cons, colO_app p1 p2, ← List.map_append]
    · rw [List.flatMap_cons, List.mem_append, List.mem_append, q1, q2]
theorem gi_list {n m : Nat} {s : Int} {L N dep q : Nat} (l : Bool) {ts : List (D × Info)} (h0 : ts ≠ []) (hq : ts.length ≤ q) (h : ∀ t ∈ ts, GI n m s L N dep t.1 t.2) (hL : q * L ≤ 1000) (hq2 : q ≤ 1000) :
    GI (n + 1) m s (q * L + 1) (q * (N + 2) + 40) (dep + 2) (.tuple [.str (if l = true then "least" else "greatest"), .list (ts.map (·.1))])
      ⟨fun xs => if l = true then leastA (ts.map fun t => t.2.F xs) else greatestA (ts.map fun t => t.2.F xs), ts.flatMap (·.2.cs), .tuple [.str (if l = true then "least" else "greatest"), .list (ts.map (·.1))] :: ts.flatMap (·.2.ps)⟩ := by
  have hmul := Nat.mul_le_mul_right L hq
  have hcap : (ts.map (·.1)).length ≤ cap := by
    rw [List.length_map]
    unfold cap
    omega
  have hcl := flat_len (fun t : D × Info => t.2.cs) L ts fun t ht => (h t ht).clen
  have hpl := flat_len (fun t : D × Info => t.2.ps) L ts fun t ht => (h t ht).plen
  have hcap2 : (1000 : Nat) + 1 ≤ cap := by decide
  have g1 : ∀ w : Str, atI [PyData.str w, .list (ts.map (·.1))] 1 = some (.list (ts.map (·.1))) := fun w => atI_nat (j := 1) rfl
  have hparts : ∀ w : Str, (w = "least" ∨ w = "greatest") → f_parts_of (n + 1) [.tuple [.str w, .list (ts.map (·.1))]] = some (.own (.tuple [.str w, .list (ts.map (·.1))] :: ts.flatMap (·.2.ps))) := fun w hw => by
    have e := parts_go (n := n) (d := .tuple [.str w, .list (ts.map (·.1))]) (ts := ts.map fun t => (t.1, t.2.ps)) (r := .own (ts.map (·.1))) (inner_go (by
        rcases hw with rfl | rfl
        · simp -implicitDefEqProofs [m_formulas_in, inStr, g1, dListOf]
        · simp -implicitDefEqProofs [m_formulas_in, inStr, g1, dListOf])) (by rw [List.map_map]; rfl) (fun t ht => by
        obtain ⟨u, hu, rfl⟩ := List.mem_map.mp ht
        exact (h u hu).parts) (by
        rw [List.flatMap_map]
        show 1 + (ts.flatMap fun t => t.2.ps).length ≤ cap
        omega)
    rw [List.flatMap_map] at e
    exact e
  have hnamed : ∀ w : Str, (w = "least" ∨ w = "greatest") → (f__law_named (n + 1) [.tuple [.str w, .list (ts.map (·.1))]]).map DV.data = some (.list (iL (ts.flatMap (·.2.cs)))) := fun w hw => by
    obtain ⟨b3, e⟩ := named_loop ts [] (.tuple [.str w, .list (ts.map (·.1))]) (.str w) none (fun t ht => (h t ht).named) (by
      show 0 + (ts.flatMap fun t => t.2.cs).length ≤ cap
      omega)
    have e' : mForL (gmName 3) (b__law_named_1 (f__law_named n)) (ts.map (·.1)) [v (.tuple [.str w, .list (ts.map (·.1))]), v (.str w), v (.list []), none] = some (.nx [v (.tuple [.str w, .list (ts.map (·.1))]), v (.str w), v (.list (iL (ts.flatMap (·.2.cs)))), b3]) := e
    have q : f__law_named (n + 1) [.tuple [.str w, .list (ts.map (·.1))]] = some (.val (.list (iL (ts.flatMap (·.2.cs))))) := named_go (by
      have hne : dNe (.str w) (.str "amount") = some (.bool true) := by
        rcases hw with rfl | rfl
        · show some (PyData.bool (!decide (("least" : Str) = "amount"))) = _
          rw [ne_least_amount]
          rfl
        · show some (PyData.bool (!decide (("greatest" : Str) = "amount"))) = _
          rw [ne_greatest_amount]
          rfl
      have h1 : decide (w = "cell") = false := by rcases hw with rfl | rfl <;> simp
      have h2 : decide (w = "more") = false := by rcases hw with rfl | rfl <;> simp
      have h3 : decide (w = "when") = false := by rcases hw with rfl | rfl <;> simp
      simp -implicitDefEqProofs only [m__law_named, nSeq_e, nAsg_e, nIf_e, mB_e, m2_e, mVar_0, mVar_s, mC_e, Option.bind_some, Option.map_some, dIx_t, atI_zero, g1, List.set_cons_succ, List.set_cons_zero, nx2_nx, nx2_rt, dEq_str, h1, h2, h3, hne, toB_some, Bool.false_eq_true, if_false, if_true, nNext_e, nRet_e, mLst_e, mNil_e, nFor_e, mItems_e, gItems_some, e'])
    rw [q]
    rfl
  have hshw : ∀ w : Str, (w = "least" ∨ w = "greatest") → Shw (.tuple [.str w, .list (ts.map (·.1))]) (dep + 2) (q * (N + 2) + 40) := fun w hw => by
    have hs := shw_list (shw_all (ds := ts.map (·.1)) (dep := dep) (n := N) fun d hd => by
      obtain ⟨t, ht, rfl⟩ := List.mem_map.mp hd
      exact (h t ht).shw)
    rw [List.length_map] at hs
    have hw' : Shw (.str w) 0 12 := by
      rcases hw with rfl | rfl
      · exact shw_w rt5
      · exact shw_w rt6
    have hm2 : (N + 2) * ts.length ≤ q * (N + 2) := by rw [Nat.mul_comm]; exact Nat.mul_le_mul_right _ hq
    exact (shw_tup (shw_cons (hw'.mono (Nat.zero_le _) (Nat.le_refl _)) (shw_cons hs shw_nil))).mono (Nat.le_refl _) (by omega)
  have hinb : ∀ c ∈ ts.flatMap (·.2.cs), 0 ≤ c ∧ c < (m : Int) := fun c hc => by
    obtain ⟨t, ht, hc⟩ := List.mem_flatMap.mp hc
    exact (h t ht).inb c hc
  have hne : ∀ xs, (ts.map fun t => t.2.F xs) ≠ [] := fun xs z => h0 (List.map_eq_nil_iff.mp z)
  have hvl : ∀ xs, (ts.map fun t => t.2.F xs).length ≤ 1000 := fun xs => by rw [List.length_map]; omega
  have hval : ∀ xs, Row m xs → ∀ a0 a2 a3, colO (mLcF (gmName 4) mYes (c_value_of_1 (f_value_of n)) [a0, v (.list (aL xs)), a2, a3, none]) (ts.map (·.1)) = some (aL (ts.map fun t => t.2.F xs)) := fun xs r a0 a2 a3 => col_vals ts fun t ht => by
    have e := (h t ht).val xs r
    simp -implicitDefEqProofs [mLcF, c_value_of_1, e]
  have hlval : ∀ xs, Row m xs → ∀ a0 a2, colO (mLcF (gmName 3) mYes (c__law_value_1 (f__law_value n)) [a0, v (.list (aL xs)), a2, none]) (ts.map (·.1)) = some (aL (ts.map fun t => t.2.F xs)) := fun xs r a0 a2 => col_vals ts fun t ht => by
    have e := (h t ht).lval xs r
    simp -implicitDefEqProofs [mLcF, c__law_value_1, e]
  have hpick : ∀ (w : Str), (w = "least" ∨ w = "greatest") → ∀ d0, ∃ es : List Int, colO (pk d0) (.tuple [.str w, .list (ts.map (·.1))] :: ts.flatMap (·.2.ps)) = some (iL es) ∧ ∀ k, k ∈ es ↔ k ∈ ts.flatMap (·.2.cs) := fun w hw d0 => by
    obtain ⟨es, e1, e2⟩ := pick_all d0 ts h
    refine ⟨es, pk_skip (pk_no ?_) e1, e2⟩
    rcases hw with rfl | rfl <;> decide
  cases l with
  | true =>
    refine ⟨comp_least h0 fun t ht => (h t ht).comp, fun xs r => value_of_go ?_, fun xs r => law_value_go ?_, hnamed _ (.inl rfl), hinb, hparts _ (.inl rfl), ?_, ?_, hpick _ (.inl rfl), hshw _ (.inl rfl)⟩
    · have hp := hval xs r (v (.tuple [.str "least", .list (ts.map (·.1))])) (v (.str "least")) none
      have hq := least_of_ok _ (hvl xs)
      show _ = some (Out.rt (DV.val (eA (leastA (ts.map fun t => t.2.F xs)))))
      generalize (ts.map fun t => t.2.F xs) = vs at hp hq ⊢
      simp -implicitDefEqProofs only [m_value_of, ne_least_amount, ne_least_cell, ne_least_more, ne_least_when, g1, if_pos hcap, hp, hq, nSeq_e, nAsg_e, nIf_e, mB_e, m2_e, mVar_0, mVar_s, mC_e, Option.bind_some, Option.map_some, dIx_t, atI_zero, List.set_cons_succ, List.set_cons_zero, nx2_nx, nx2_rt, dEq_str, toB_some, decide_true, Bool.false_eq_true, if_false, if_true, nNext_e, nRet_e, mLst_e, mLcI_e, mItems_e, gItems_some, wipeD_cons, wipeD_nil, mIf_e, mCallF_e, mCons_e, mNil_e, data_val]
    · have hp := hlval xs r (v (.tuple [.str "least", .list (ts.map (·.1))])) (v (.str "least"))
      have hq := one_of_ok true _ (hne xs)
      show _ = some (Out.rt (DV.val (eA (leastA (ts.map fun t => t.2.F xs)))))
      rw [least_one (hne xs)]
      generalize (ts.map fun t => t.2.F xs) = vs at hp hq ⊢
      simp -implicitDefEqProofs only [m__law_value, ne_least_amount, ne_least_cell, ne_least_more, ne_least_when, g1, if_pos hcap, hp, hq, nSeq_e, nAsg_e, nIf_e, mB_e, m2_e, mVar_0, mVar_s, mC_e, Option.bind_some, Option.map_some, dIx_t, atI_zero, List.set_cons_succ, List.set_cons_zero, nx2_nx, nx2_rt, dEq_str, toB_some, decide_true, Bool.false_eq_true, if_false, if_true, nNext_e, nRetC_e, mLst_e, mLcI_e, mItems_e, gItems_some, wipeD_cons, wipeD_nil, mCons_e, mNil_e]
    · show (ts.flatMap fun t => t.2.ps).length + 1 ≤ _
      omega
    · show (ts.flatMap fun t => t.2.cs).length ≤ _
      omega
  | false =>
    refine ⟨comp_greatest h0 fun t ht => (h t ht).comp, fun xs r => value_of_go ?_, fun xs r => law_value_go ?_, hnamed _ (.inr rfl), hinb, hparts _ (.inr rfl), ?_, ?_, hpick _ (.inr rfl), hshw _ (.inr rfl)⟩
    · have hp := hval xs r (v (.tuple [.str "greatest", .list (ts.map (·.1))])) (v (.str "greatest")) none
      have hq := greatest_of_ok (ts.map fun t => t.2.F xs)
      show _ = some (Out.rt (DV.val (eA (greatestA (ts.map fun t => t.2.F xs)))))
      generalize (ts.map fun t => t.2.F xs) = vs at hp hq ⊢
      simp -implicitDefEqProofs only [m_value_of, ne_greatest_amount, ne_greatest_cell, ne_greatest_more, ne_greatest_when, ne_greatest_least, g1, if_pos hcap, hp, hq, nSeq_e, nAsg_e, nIf_e, mB_e, m2_e, mVar_0, mVar_s, mC_e, Option.bind_some, Option.map_some, dIx_t, atI_zero, List.set_cons_succ, List.set_cons_zero, nx2_nx, nx2_rt, dEq_str, toB_some, decide_true, Bool.false_eq_true, if_false, if_true, nNext_e, nRet_e, mLst_e, mLcI_e, mItems_e, gItems_some, wipeD_cons, wipeD_nil, mIf_e, mCallF_e, mCons_e, mNil_e, data_val]
    · have hp := hlval xs r (v (.tuple [.str "greatest", .list (ts.map (·.1))])) (v (.str "greatest"))
      have hq := one_of_ok false _ (hne xs)
      show _ = some (Out.rt (DV.val (eA (greatestA (ts.map fun t => t.2.F xs)))))
      rw [greatest_one (hne xs)]
      generalize (ts.map fun t => t.2.F xs) = vs at hp hq ⊢
      simp -implicitDefEqProofs only [m__law_value, ne_greatest_amount, ne_greatest_cell, ne_greatest_more, ne_greatest_when, ne_greatest_least, g1, if_pos hcap, hp, hq, nSeq_e, nAsg_e, nIf_e, mB_e, m2_e, mVar_0, mVar_s, mC_e, Option.bind_some, Option.map_some, dIx_t, atI_zero, List.set_cons_succ, List.set_cons_zero, nx2_nx, nx2_rt, dEq_str, toB_some, decide_true, Bool.false_eq_true, if_false, if_true, nNext_e, nRetC_e, mLst_e, mLcI_e, mItems_e, gItems_some, wipeD_cons, wipeD_nil, mCons_e, mNil_e]
    · show (ts.flatMap fun t => t.2.ps).length + 1 ≤ _
      omega
    · show (ts.flatMap fun t => t.2.cs).length ≤ _
      omega
theorem amount_ok (ds : List Int) (hl : ds.length = 2) (hb : ∀ d ∈ ds, 0 ≤ d ∧ d < 1000) : ∃ o, amS o ∧ f__law_amount [.list (iL ds)] = some (.val (eA o)) := by
  obtain ⟨a, b, rfl⟩ := len2 hl
  have i0 : atI (iL [a, b]) 0 = some (.int a) := rfl
  have i1 : atI (iL [a, b]) 1 = some (.int b) := rfl
  generalize iL [a, b] = L at i0 i1
  by_cases hc : b % 9 = 8
  · refine ⟨none, (fun n h => by cases h), ?_⟩
    unfold f__law_amount
    refine fnD_rt rfl ?_
    simp -implicitDefEqProofs [m__law_amount, N__law_amount, i0, i1, hc]
  · refine ⟨some (a % 12), fun n h => ?_, ?_⟩
    · cases h
      exact ⟨Int.emod_nonneg _ (by decide), Int.emod_lt_of_pos _ (by decide)⟩
    · unfold f__law_amount
      refine fnD_rt rfl ?_
      simp -implicitDefEqProofs [m__law_amount, N__law_amount, i0, i1, hc]
theorem mod_nat (x : Int) {m : Nat} (hm : 0 < m) : ∃ i : Nat, i < m ∧ x % (m : Int) = (i : Int) := by
  have h0 := Int.emod_nonneg x (b := (m : Int)) (by omega)
  have h1 := Int.emod_lt_of_pos x (b := (m : Int)) (by omega)
  exact ⟨(x % (m : Int)).toNat, by omega, by omega⟩
theorem rng_pos {k : Int} (h0 : 0 ≤ k) (h : k ≤ 1000) : gRng1 (some [.int k]) = some (rngD 0 k.toNat) := gRng1_some (by omega) (by omega)
theorem sublist_ok {ds : List Int} {n : Nat} (hl : ds.length = n) (hb : ∀ d ∈ ds, 0 ≤ d ∧ d < 1000) {a b : Int} (h0 : 0 ≤ a) (h1 : a ≤ b) (h2 : b ≤ n) : ∃ es : List Int, es.length = (b - a).toNat ∧ (∀ d ∈ es, 0 ≤ d ∧ d < 1000) ∧ cutD (iL ds) (some a) (some b) = iL es := by
  obtain ⟨a', rfl⟩ := Int.eq_ofNat_of_zero_le h0
  obtain ⟨b', rfl⟩ := Int.eq_ofNat_of_zero_le (by omega : 0 ≤ b)
  obtain ⟨es, q1, q2, q3⟩ := slice_ok hl hb (a := a') (b := b') (by omega) (by omega)
  exact ⟨es, by omega, q2, q3⟩
def GL (m : Nat) (d : D) : Prop := ∃ i, ∀ n, GI (n + 2) m 4 2 100 2 d i
def GW (m : Nat) (d : D) : Prop := ∃ i, ∀ n, GI (n + 3) m 4 3 200 3 d i
def GF (m : Nat) (d : D) : Prop := ∃ i, ∀ n, GI (n + 4) m 7 19 2000 8 d i
theorem leaf_ok (ds : List Int) (hl : ds.length = 3) (hb : ∀ d ∈ ds, 0 ≤ d ∧ d < 1000) {m : Nat} (hm : 0 < m) (hm2 : m ≤ 1000) : ∃ d, f__law_leaf [.list (iL ds), .int m] = some (.val d) ∧ GL m d := by
  obtain ⟨es, he1, he2, he3⟩ := slice_ok hl hb (a := 1) (b := 3) (by decide) (by decide)
  obtain ⟨o, ho, hf⟩ := amount_ok es he1 he2
  obtain ⟨a, b, c, rfl⟩ := len3 hl
  have i0 : atI (iL [a, b, c]) 0 = some (.int a) := rfl
  have i1 : atI (iL [a, b, c]) 1 = some (.int b) := rfl
  have i2 : atI (iL [a, b, c]) 2 = some (.int c) := rfl
  have he3' : cutD (iL [a, b, c]) (some 1) (some 3) = iL es := he3
  generalize iL [a, b, c] = L at i0 i1 i2 he3'
  obtain ⟨i, hi, hbi⟩ := mod_nat b hm
  have hmi : (0 : Int) < (m : Int) := by omega
  have hmod : dMod (.int b) (.int (m : Int)) = some (.int (i : Int)) := by rw [dMod_i hmi, hbi]
  have st : ∀ d, m__law_leaf [v (.list L), v (.int m), none] = some (.rt (.val d)) → f__law_leaf [.list L, .int m] = some (.val d) := fun d h => by
    unfold f__law_leaf
    refine fnD_rt rfl ?_
    show m__law_leaf (startD 3 [.list L, .int m]) = _
    rw [startD_2]
    exact h
  by_cases c0 : a % 5 = 0
  · refine ⟨.tuple [.str "amount", eA o], st _ ?_, _, fun n => (gi_amount (n := n + 1) ho).weak (by decide) (by decide) (by decide) (by decide)⟩
    simp -implicitDefEqProofs [m__law_leaf, i0, c0, he3', hf]
  · by_cases c1 : a % 5 < 3
    · refine ⟨.tuple [.str "cell", .int i], st _ ?_, _, fun n => (gi_cell (n := n + 1) hi hm2).weak (by decide) (by decide) (by decide) (by decide)⟩
      simp -implicitDefEqProofs [m__law_leaf, i0, c0, c1, i1, hmod]
    · refine ⟨.tuple [.str "more", .tuple [.str "cell", .int i], .int (c % 9 - 4)], st _ ?_, _, fun n => (gi_more (n := n + 1) (t := 4) (k := c % 9 - 4) (gi_cell (n := n) hi hm2) (by omega) (by omega) (by decide) (by decide) (by decide)).weak (by decide) (by decide) (by decide) (by decide)⟩
      simp -implicitDefEqProofs [m__law_leaf, i0, c0, c1, i1, i2, hmod]
theorem formula_ok (ds : List Int) (hl : ds.length = 14) (hb : ∀ d ∈ ds, 0 ≤ d ∧ d < 1000) {m : Nat} (hm : 0 < m) (hm2 : m ≤ 1000) : ∃ d, f__law_formula [.list (iL ds), .int m] = some (.val d) ∧ GF m d := by
  obtain ⟨a0, _, _, i0⟩ := at_dr hl hb (i := 0) (by decide)
  obtain ⟨a1, _, _, i1⟩ := at_dr hl hb (i := 1) (by decide)
  obtain ⟨a11, _, _, i11⟩ := at_dr hl hb (i := 11) (by decide)
  obtain ⟨a12, _, _, i12⟩ := at_dr hl hb (i := 12) (by decide)
  obtain ⟨a13, _, _, i13⟩ := at_dr hl hb (i := 13) (by decide)
  have j0 : atI (iL ds) 0 = some (.int a0) := i0
  have j1 : atI (iL ds) 1 = some (.int a1) := i1
  have j11 : atI (iL ds) 11 = some (.int a11) := i11
  have j12 : atI (iL ds) 12 = some (.int a12) := i12
  have j13 : atI (iL ds) 13 = some (.int a13) := i13
  obtain ⟨es, e1, e2, e3⟩ := sublist_ok hl hb (a := 11) (b := 14) (by decide) (by decide) (by decide)
  obtain ⟨d11, hf11, x11, hg11⟩ := leaf_ok es e1 e2 hm hm2
  obtain ⟨i, hi, hai⟩ := mod_nat a11 hm
  have hmi : (0 : Int) < (m : Int) := by omega
  have hmod : dMod (.int a11) (.int (m : Int)) = some (.int (i : Int)) := by rw [dMod_i hmi, hai]
  obtain ⟨k, hk⟩ : ∃ k, k = 1 + a1 % 3 := ⟨_, rfl⟩
  have hk0 : 1 ≤ k := by omega
  have hk1 : k ≤ 3 := by omega
  have hr := rng_pos (k := k) (by omega) (by omega)
  obtain ⟨ps, p1, p2, p3⟩ := colO_map (f := mLcF (gmName 4) mYes c__law_formula_1 [v (.list (iL ds)), v (.int m), v (.int (a0 % 8)), none, none]) (fun _ d => GL m d) id (rngD 0 k.toNat) 0 fun j d hj => by
    obtain ⟨rfl, hj2⟩ := rngD_get hj
    obtain ⟨es, e1, e2, e3⟩ := sublist_ok hl hb (a := 2 + 3 * (j : Int)) (b := 5 + 3 * (j : Int)) (by omega) (by omega) (by omega)
    obtain ⟨d, hf, hg⟩ := leaf_ok es (by omega) e2 hm hm2
    refine ⟨d, hg, ?_⟩
    have hmul : dMul (.int 3) (.int (j : Int)) = some (.int (3 * (j : Int))) := dMul_l (by decide) (by decide)
    simp -implicitDefEqProofs [mLcF, c__law_formula_1, hmul, e3, hf]
  rw [rngD_len] at p1
  rw [List.map_id] at p3
  have pg : ∀ d ∈ ps, GL m d := fun d hd => by
    obtain ⟨j, hj, e⟩ := List.mem_iff_getElem.mp hd
    exact p2 j d (by rw [List.getElem?_eq_getElem hj, e])
  obtain ⟨ts, hts, htg⟩ := choose_list (P := fun d i => ∀ n, GI (n + 2) m 4 2 100 2 d i) ps pg
  have hlen : ts.length = k.toNat := by rw [← p1, ← hts, List.length_map]
  have ht0 : ts ≠ [] := fun z => by
    rw [z, List.length_nil] at hlen
    omega
  subst hts
  obtain ⟨f0, hf0, xf, hgf⟩ : ∃ f0, atI (ts.map (·.1)) 0 = some f0 ∧ ∃ i, ∀ n, GI (n + 2) m 4 2 100 2 f0 i := by
    cases ts with
    | nil => exact absurd rfl ht0
    | cons t r => exact ⟨t.1, atI_zero, t.2, htg t List.mem_cons_self⟩
  have hcap : (rngD 0 k.toNat).length ≤ cap := by
    rw [rngD_len]
    unfold cap
    omega
  have go : ∀ d, (∀ ds3 L, L = iL ds → ds3 = v (.list (ts.map (·.1))) → ∀ q, q = a0 % 8 →
      (nSeq (nIf (mB (m2 dLt (mVar 2) (mC (.int 2)))) (nRet (m2 dIx (mVar 3) (mC (.int 0)))) nNext)
      (nSeq (nIf (mB (m2 dLt (mVar 2) (mC (.int 4)))) (nRet (mTup (mCons (m2 dIx (mLst (mCons (mC (.str "least")) (mCons (mC (.str "greatest")) mNil))) (m2 dSub (mVar 2) (mC (.int 2)))) (mCons (mVar 3) mNil)))) nNext)
      (nSeq (nIf (mB (m2 dEq (mVar 2) (mC (.int 4)))) (nRet (mTup (mCons (mC (.str "when")) (mCons (m2 dMod (mCall (mCons (m2 dIx (mVar 0) (mC (.int 11))) mNil) dInt) (mVar 1)) (mCons (m2 dAdd (mC (.int 1)) (m2 dMod (mCall (mCons (m2 dIx (mVar 0) (mC (.int 12))) mNil) dInt) (mC (.int 9)))) (mCons (m2 dIx (mVar 3) (mC (.int 0))) mNil)))))) nNext)
      (nSeq (nIf (mB (m2 dEq (mVar 2) (mC (.int 5)))) (nRet (mTup (mCons (mC (.str "more")) (mCons (mTup (mCons (mC (.str "least")) (mCons (mVar 3) mNil))) (mCons (m2 dSub (m2 dMod (mCall (mCons (m2 dIx (mVar 0) (mC (.int 13))) mNil) dInt) (mC (.int 7))) (mC (.int 3))) mNil))))) nNext)
      (nSeq (nIf (mB (m2 dEq (mVar 2) (mC (.int 6)))) (nRet (mTup (mCons (mC (.str "greatest")) (mCons (mLst (mCons (mTup (mCons (mC (.str "least")) (mCons (mVar 3) mNil))) (mCons (mCallF (mCons (mLst (mSlL (mVar 0) (mP (mC (.int 11))) (mP (mC (.int 14))))) (mCons (mVar 1) mNil)) f__law_leaf) mNil))) mNil)))) nNext)
      (nRet (mTup (mCons (mC (.str "least")) (mCons (mLst (mCons (mTup (mCons (mC (.str "greatest")) (mCons (mVar 3) mNil))) (mCons (mCallF (mCons (mLst (mSlL (mVar 0) (mP (mC (.int 11))) (mP (mC (.int 14))))) (mCons (mVar 1) mNil)) f__law_leaf) mNil))) mNil)))))))))
      [v (.list L), v (.int m), v (.int q), ds3, none] = some (.rt (.val d))) → f__law_formula [.list (iL ds), .int m] = some (.val d) := fun d h => by
    unfold f__law_formula
    refine fnD_rt rfl ?_
    show m__law_formula (startD 5 [.list (iL ds), .int m]) = _
    rw [startD_2]
    unfold m__law_formula
    refine seq_go (δ' := [v (.list (iL ds)), v (.int m), v (.int (a0 % 8)), none, none]) (by simp -implicitDefEqProofs [j0, List.replicate]) ?_
    refine seq_go (δ' := [v (.list (iL ds)), v (.int m), v (.int (a0 % 8)), v (.list (ts.map (·.1))), none]) (by simp -implicitDefEqProofs only [nAsg_e, mLst_e, mLcI_e, mRng1_e, mCons_e, mNil_e, m2_e, mC_e, mVar_0, mVar_s, mCall_e, Option.bind_some, Option.map_some, dIx_l, j1, dInt_i, dMod_i (show (0 : Int) < 3 by decide), dAdd_i, ← hk, hr, if_pos hcap, wipeD_cons, wipeD_nil, List.set_cons_succ, List.set_cons_zero, p3]) ?_
    exact h _ _ rfl rfl _ rfl
  have q0 : 0 ≤ a0 % 8 := Int.emod_nonneg _ (by decide)
  have q1 : a0 % 8 < 8 := Int.emod_lt_of_pos _ (by decide)
  have gl : ∀ (l : Bool), ∃ i, ∀ n, GI (n + 3) m 4 7 346 4 (.tuple [.str (if l = true then "least" else "greatest"), .list (ts.map (·.1))]) i := fun l =>
    ⟨_, fun n => gi_list (n := n + 2) l (q := 3) ht0 (by omega) (fun t ht => htg t ht n) (by decide) (by decide)⟩
  have two : ∀ (l l2 : Bool), ∃ i, ∀ n, GI (n + 4) m 4 15 736 6 (.tuple [.str (if l = true then "least" else "greatest"), .list [.tuple [.str (if l2 = true then "least" else "greatest"), .list (ts.map (·.1))], d11]]) i := fun l l2 => by
    obtain ⟨xi, hxi⟩ := gl l2
    exact ⟨_, fun n => gi_list (n := n + 3) l (q := 2) (ts := [(_, xi), (d11, x11)]) (fun z => by cases z) (by simp) (fun t ht => by
      rcases List.mem_cons.mp ht with rfl | ht
      · exact hxi n
      · rw [List.mem_singleton.mp ht]
        exact (hg11 (n + 1)).weak (by decide) (by decide) (by decide) (by decide)) (by decide) (by decide)⟩
  by_cases c2 : a0 % 8 < 2
  · refine ⟨f0, go _ fun ds3 L hL h3 q hq => ?_, xf, fun n => (hgf (n + 2)).weak (by decide) (by decide) (by decide) (by decide)⟩
    subst hL h3
    rw [← hq] at c2
    simp -implicitDefEqProofs [c2, hf0]
  by_cases c4 : a0 % 8 < 4
  · by_cases c3 : a0 % 8 = 2
    · obtain ⟨xi, hxi⟩ := gl true
      refine ⟨.tuple [.str "least", .list (ts.map (·.1))], go _ fun ds3 L hL h3 q hq => ?_, xi, fun n => (hxi (n + 1)).weak (by decide) (by decide) (by decide) (by decide)⟩
      subst hL h3
      rw [c3] at hq
      subst hq
      simp -implicitDefEqProofs
    · obtain ⟨xi, hxi⟩ := gl false
      have c3' : a0 % 8 = 3 := by omega
      refine ⟨.tuple [.str "greatest", .list (ts.map (·.1))], go _ fun ds3 L hL h3 q hq => ?_, xi, fun n => (hxi (n + 1)).weak (by decide) (by decide) (by decide) (by decide)⟩
      subst hL h3
      rw [c3'] at hq
      subst hq
      have g : atI [PyData.str "least", .str "greatest"] 1 = some (.str "greatest") := atI_nat (j := 1) rfl
      simp -implicitDefEqProofs [g]
  by_cases c5 : a0 % 8 = 4
  · refine ⟨.tuple [.str "when", .int i, .int (1 + a12 % 9), f0], go _ fun ds3 L hL h3 q hq => ?_, _, fun n => (gi_when (n := n + 3) (hgf (n + 1)) hi hm2 (by omega) (by omega) (by decide) (by decide) (by decide)).weak (by decide) (by decide) (by decide) (by decide)⟩
    subst hL h3
    rw [c5] at hq
    subst hq
    simp -implicitDefEqProofs [j11, j12, hmod, hf0]
  by_cases c6 : a0 % 8 = 5
  · obtain ⟨xi, hxi⟩ := gl true
    refine ⟨.tuple [.str "more", .tuple [.str "least", .list (ts.map (·.1))], .int (a13 % 7 - 3)], go _ fun ds3 L hL h3 q hq => ?_, _, fun n => (gi_more (n := n + 3) (t := 3) (k := a13 % 7 - 3) (hxi n) (by omega) (by omega) (by decide) (by decide) (by decide)).weak (by decide) (by decide) (by decide) (by decide)⟩
    subst hL h3
    rw [c6] at hq
    subst hq
    simp -implicitDefEqProofs [j13]
  by_cases c7 : a0 % 8 = 6
  · obtain ⟨xi, hxi⟩ := two false true
    refine ⟨.tuple [.str "greatest", .list [.tuple [.str "least", .list (ts.map (·.1))], d11]], go _ fun ds3 L hL h3 q hq => ?_, xi, fun n => (hxi n).weak (by decide) (by decide) (by decide) (by decide)⟩
    subst hL h3
    rw [c7] at hq
    subst hq
    simp -implicitDefEqProofs [e3, hf11]
  · obtain ⟨xi, hxi⟩ := two true false
    have c8 : a0 % 8 = 7 := by omega
    refine ⟨.tuple [.str "least", .list [.tuple [.str "greatest", .list (ts.map (·.1))], d11]], go _ fun ds3 L hL h3 q hq => ?_, xi, fun n => (hxi n).weak (by decide) (by decide) (by decide) (by decide)⟩
    subst hL h3
    rw [c8] at hq
    subst hq
    simp -implicitDefEqProofs [e3, hf11]
theorem sheet_ok (ds : List Int) {N : Nat} (hl : ds.length = N) (hb : ∀ d ∈ ds, 0 ≤ d ∧ d < 1000) {most : Nat} (hm0 : 0 < most) (hm1 : most ≤ 100) (hN : 1 + 14 * most ≤ N) : ∃ (m : Nat) (sh : List D), 1 ≤ m ∧ m ≤ most ∧ sh.length = m ∧ (∀ d ∈ sh, GF m d) ∧ f__law_sheet [.list (iL ds), .int most] = some (.own sh) := by
  obtain ⟨a0, _, _, i0⟩ := at_dr hl hb (i := 0) (by omega)
  have j0 : atI (iL ds) 0 = some (.int a0) := i0
  obtain ⟨k, hk⟩ : ∃ k, k = 1 + a0 % (most : Int) := ⟨_, rfl⟩
  have hmp : (0 : Int) < (most : Int) := by omega
  have k0 := Int.emod_nonneg a0 (b := (most : Int)) (by omega)
  have k1 := Int.emod_lt_of_pos a0 hmp
  have hk0 : 1 ≤ k := by omega
  have hk1 : k ≤ most := by omega
  obtain ⟨m, rfl⟩ := Int.eq_ofNat_of_zero_le (by omega : 0 ≤ k)
  have hr := rng_pos (k := (m : Int)) (by omega) (by omega)
  have hmod : dMod (.int a0) (.int (most : Int)) = some (.int (a0 % (most : Int))) := dMod_i hmp
  obtain ⟨ps, p1, p2, p3⟩ := colO_map (f := mLcF (gmName 3) mYes c__law_sheet_1 [v (.list (iL ds)), v (.int most), v (.int m), none]) (fun _ d => GF m d) id (rngD 0 (m : Int).toNat) 0 fun j d hj => by
    obtain ⟨rfl, hj2⟩ := rngD_get hj
    obtain ⟨es, e1, e2, e3⟩ := sublist_ok hl hb (a := 1 + 14 * (j : Int)) (b := 15 + 14 * (j : Int)) (by omega) (by omega) (by omega)
    obtain ⟨d, hf, hg⟩ := formula_ok es (by omega) e2 (m := m) (by omega) (by omega)
    refine ⟨d, hg, ?_⟩
    have hmul : dMul (.int 14) (.int (j : Int)) = some (.int (14 * (j : Int))) := dMul_l (by decide) (by decide)
    simp -implicitDefEqProofs [mLcF, c__law_sheet_1, hmul, e3, hf]
  rw [rngD_len] at p1
  rw [List.map_id, Int.toNat_natCast] at p3
  have hcap' : (rngD 0 m).length ≤ cap := by
    rw [rngD_len]
    unfold cap
    omega
  refine ⟨m, ps, by omega, by omega, by omega, fun d hd => ?_, ?_⟩
  · obtain ⟨j, hj, e⟩ := List.mem_iff_getElem.mp hd
    exact p2 j d (by rw [List.getElem?_eq_getElem hj, e])
  · unfold f__law_sheet
    refine fnD_rt rfl ?_
    show m__law_sheet (startD 4 [.list (iL ds), .int most]) = _
    rw [startD_2]
    simp -implicitDefEqProofs [m__law_sheet, j0, hmod, ← hk, hr, List.replicate]
    exact ⟨hcap', p3⟩
theorem wide_ok (ds : List Int) (hl : ds.length = 34) (hb : ∀ d ∈ ds, 0 ≤ d ∧ d < 1000) {m : Nat} (hm : 0 < m) (hm2 : m ≤ 1000) : ∃ d, f__law_wide [.list (iL ds), .int m] = some (.val d) ∧ GF m d := by
  obtain ⟨a0, _, _, i0⟩ := at_dr hl hb (i := 0) (by decide)
  obtain ⟨a1, _, _, i1⟩ := at_dr hl hb (i := 1) (by decide)
  have j0 : atI (iL ds) 0 = some (.int a0) := i0
  have j1 : atI (iL ds) 1 = some (.int a1) := i1
  obtain ⟨k, hk⟩ : ∃ k, k = 4 + a0 % 3 := ⟨_, rfl⟩
  have hk0 : 4 ≤ k := by omega
  have hk1 : k ≤ 6 := by omega
  have hr := rng_pos (k := k) (by omega) (by omega)
  have hmi : (0 : Int) < (m : Int) := by omega
  obtain ⟨δ', hloop, ps, b3, b4, p1, p2, rfl⟩ := mForL_inv (gm := gmName 3) (b := b__law_wide_1) (fun j δ => ∃ (ps : List D) (b3 b4 : Option DV), ps.length = j ∧ (∀ d ∈ ps, GW m d) ∧ δ = [v (.list (iL ds)), v (.int m), some (.own ps), b3, b4]) (rngD 0 k.toNat) 0
    [v (.list (iL ds)), v (.int m), some (.own []), none, none] ⟨[], _, _, rfl, fun d h => (by cases h), rfl⟩ fun i d δ hi hp => by
      obtain ⟨rfl, hi4⟩ := rngD_get hi
      obtain ⟨ps, b3, b4, p1, p2, rfl⟩ := hp
      have e0 : (0 : Int) + (i : Int) = (i : Int) := Int.zero_add _
      obtain ⟨es, e1, e2, e3⟩ := sublist_ok hl hb (a := 2 + 5 * (i : Int)) (b := 5 + 5 * (i : Int)) (by omega) (by omega) (by omega)
      obtain ⟨lf, hf, xi, hxi⟩ := leaf_ok es (by omega) e2 hm hm2
      obtain ⟨p, _, _, hp⟩ := at_dr hl hb (i := 5 + 5 * i) (by omega)
      obtain ⟨q, _, _, hq⟩ := at_dr hl hb (i := 6 + 5 * i) (by omega)
      have hp' : atI (iL ds) (5 + 5 * (i : Int)) = some (.int p) := by rw [← hp]; congr 1
      have hq' : atI (iL ds) (6 + 5 * (i : Int)) = some (.int q) := by rw [← hq]; congr 1
      have hmul : dMul (.int 5) (.int (i : Int)) = some (.int (5 * (i : Int))) := dMul_l (by decide) (by decide)
      obtain ⟨j, hj, hpj⟩ := mod_nat (p / 3) hm
      have hmod : dMod (.int (p / 3)) (.int (m : Int)) = some (.int (j : Int)) := by rw [dMod_i hmi, hpj]
      have hdiv : dDiv (.int p) (.int 3) = some (.int (p / 3)) := dDiv_i (by decide) (by decide)
      have hpc : ps.length ≤ cap := by
        rw [p1]
        unfold cap
        omega
      refine ⟨_, rfl, ?_⟩
      rw [e0]
      have s1 : ∀ f : DS → Option Out, nSeq (nAsg 4 (mCallF (mCons (mLst (mSlL (mVar 0) (mP (m2 dAdd (mC (.int 2)) (m2 dMul (mC (.int 5)) (mVar 3)))) (mP (m2 dAdd (mC (.int 5)) (m2 dMul (mC (.int 5)) (mVar 3)))))) (mCons (mVar 1) mNil)) f__law_leaf)) f [v (.list (iL ds)), v (.int m), some (.own ps), v (.int (i : Int)), b4] = f [v (.list (iL ds)), v (.int m), some (.own ps), v (.int (i : Int)), v lf] := fun f => by
        simp -implicitDefEqProofs only [nSeq_e, nAsg_e, mCallF_e, mCons_e, mLst_e, mSlL_e, mVar_0, mVar_s, mP_e, m2_e, mC_e, hmul, Option.bind_some, Option.map_some, dAdd_i, toP_some, gSlL_some, e3, mNil_e, hf, data_val, List.set_cons_succ, List.set_cons_zero, nx2_nx]
      have fin : ∀ d, GW m d → ∃ (ps' : List D) (c3 c4 : Option DV), ps'.length = 0 + i + 1 ∧ (∀ d ∈ ps', GW m d) ∧ [v (.list (iL ds)), v (.int m), some (.own (ps ++ [d])), v (.int (i : Int)), v d] = [v (.list (iL ds)), v (.int m), some (.own ps'), c3, c4] := fun d hd => ⟨ps ++ [d], _, _, by rw [List.length_append, p1]; rfl, fun x hx => by
        rcases List.mem_append.mp hx with h | h
        · exact p2 x h
        · rw [List.mem_singleton.mp h]; exact hd, rfl⟩
      by_cases hc : p % 3 = 0
      · refine ⟨_, .inl ?_, fin (.tuple [.str "when", .int j, .int (1 + q % 9), lf]) ⟨_, fun n => (gi_when (n := n + 2) (hxi n) hj hm2 (by omega) (by omega) (by decide) (by decide) (by decide)).weak (by decide) (by decide) (by decide) (by decide)⟩⟩
        show b__law_wide_1 [v (.list (iL ds)), v (.int m), some (.own ps), v (.int (i : Int)), b4] = _
        unfold b__law_wide_1
        rw [s1]
        refine seq_go (δ' := [v (.list (iL ds)), v (.int m), some (.own ps), v (.int (i : Int)), v (.tuple [.str "when", .int j, .int (1 + q % 9), lf])]) (by
          simp -implicitDefEqProofs [hmul, hp', hq', hc, hdiv, hmod]) ?_
        simp -implicitDefEqProofs [gApp_o hpc]
      · refine ⟨_, .inl ?_, fin lf ⟨xi, fun n => (hxi (n + 1)).weak (by decide) (by decide) (by decide) (by decide)⟩⟩
        show b__law_wide_1 [v (.list (iL ds)), v (.int m), some (.own ps), v (.int (i : Int)), b4] = _
        unfold b__law_wide_1
        rw [s1]
        refine seq_go (δ' := [v (.list (iL ds)), v (.int m), some (.own ps), v (.int (i : Int)), v lf]) (by
          simp -implicitDefEqProofs [hmul, hp', hc]) ?_
        simp -implicitDefEqProofs [gApp_o hpc]
  rw [rngD_len, Nat.zero_add] at p1
  obtain ⟨ts, hts, htg⟩ := choose_list (P := fun d i => ∀ n, GI (n + 3) m 4 3 200 3 d i) ps p2
  have hlen : ts.length = k.toNat := by rw [← p1, ← hts, List.length_map]
  have ht0 : ts ≠ [] := fun z => by
    rw [z, List.length_nil] at hlen
    omega
  subst hts
  have gl : ∀ (l : Bool), ∃ i, ∀ n, GI (n + 4) m 7 19 2000 8 (.tuple [.str (if l = true then "least" else "greatest"), .list (ts.map (·.1))]) i := fun l =>
    ⟨_, fun n => (gi_list (n := n + 3) l (q := 6) ht0 (by omega) (fun t ht => htg t ht n) (by decide) (by decide)).weak (by decide) (by decide) (by decide) (by decide)⟩
  have st : ∀ d, nFrz 2 (nRet (mTup (mCons (m2 dIx (mLst (mCons (mC (.str "least")) (mCons (mC (.str "greatest")) mNil))) (m2 dMod (mCall (mCons (m2 dIx (mVar 0) (mC (.int 1))) mNil) dInt) (mC (.int 2)))) (mCons (mVar 2) mNil)))) [v (.list (iL ds)), v (.int m), some (.own (ts.map (·.1))), b3, b4] = some (.rt (.val d)) → f__law_wide [.list (iL ds), .int m] = some (.val d) := fun d h => by
    unfold f__law_wide
    refine fnD_rt rfl ?_
    show m__law_wide (startD 5 [.list (iL ds), .int m]) = _
    rw [startD_2]
    unfold m__law_wide
    refine seq_go (δ' := [v (.list (iL ds)), v (.int m), some (.own []), none, none]) (by simp -implicitDefEqProofs [List.replicate]) ?_
    refine seq_go (δ' := [v (.list (iL ds)), v (.int m), some (.own (ts.map (·.1))), b3, b4]) (by
      simp -implicitDefEqProofs only [nFor_e, mRng1_e, mCons_e, mNil_e, m2_e, mC_e, mVar_0, mVar_s, mCall_e, Option.bind_some, Option.map_some, dIx_l, j0, dInt_i, dMod_i (show (0 : Int) < 3 by decide), dAdd_i, ← hk, hr, hloop]) ?_
    exact h
  have q0 : 0 ≤ a1 % 2 := Int.emod_nonneg _ (by decide)
  have q1 : a1 % 2 < 2 := Int.emod_lt_of_pos _ (by decide)
  by_cases c : a1 % 2 = 0
  · obtain ⟨xi, hxi⟩ := gl true
    refine ⟨_, st _ ?_, xi, hxi⟩
    show _ = some (Out.rt (DV.val (.tuple [.str "least", .list (ts.map (·.1))])))
    rw [nFrz_e, frz_e (ds := ts.map (·.1)) rfl]
    simp -implicitDefEqProofs [j1, c]
  · obtain ⟨xi, hxi⟩ := gl false
    have c' : a1 % 2 = 1 := by omega
    have g : atI [PyData.str "least", .str "greatest"] 1 = some (.str "greatest") := atI_nat (j := 1) rfl
    refine ⟨_, st _ ?_, xi, hxi⟩
    show _ = some (Out.rt (DV.val (.tuple [.str "greatest", .list (ts.map (·.1))])))
    rw [nFrz_e, frz_e (ds := ts.map (·.1)) rfl]
    simp -implicitDefEqProofs [j1, c', g]
/-! ### the solvers -/
theorem const_col {c : D} (f : D → Option (Option D)) (h : ∀ d, f d = some (some c)) : ∀ ds : List D, colO f ds = some (List.replicate ds.length c)
  | [] => rfl
  | d :: ds => by
    rw [colO_cons, h, const_col f h ds]
    rfl
theorem sheet_vals {m : Nat} {ts : List (D × Info)} (h : ∀ t ∈ ts, GI 8 m 7 19 2000 8 t.1 t.2) {xs : LA} (r : Row m xs) (a0 a2 a3 a4 : Option DV) :
    colO (mLcF (gmName 5) mYes c__law_settled_1 [a0, v (.list (aL xs)), a2, a3, a4, none]) (ts.map (·.1)) = some (aL (vals ts (fun t => t.2.F) xs)) := col_vals ts fun t ht => by
  have e := (h t ht).lval xs r
  simp -implicitDefEqProofs [mLcF, c__law_settled_1, e]
theorem sheet_vals2 {m : Nat} {ts : List (D × Info)} (h : ∀ t ∈ ts, GI 8 m 7 19 2000 8 t.1 t.2) {xs : LA} (r : Row m xs) (a0 a2 a3 : Option DV) :
    colO (mLcF (gmName 4) mYes c__law_greatest_2 [a0, v (.list (aL xs)), a2, a3, none]) (ts.map (·.1)) = some (aL (vals ts (fun t => t.2.F) xs)) := col_vals ts fun t ht => by
  have e := (h t ht).lval xs r
  simp -implicitDefEqProofs [mLcF, c__law_greatest_2, e]
theorem bounded_ok (B : Int) (xs : LA) (h : xs.length ≤ 1000) : f__law_bounded [.list (aL xs), .int B] = some (.own (aL (xs.map (bdA B)))) := by
  unfold f__law_bounded
  refine fnD_rt rfl ?_
  show m__law_bounded (startD 4 [.list (aL xs), .int B]) = _
  rw [startD_2]
  unfold m__law_bounded
  refine seq_go (δ' := [v (.list (aL xs)), v (.int B), some (.own []), none]) (by simp -implicitDefEqProofs [List.replicate]) ?_
  have loop : ∀ (ys acc : LA) (a3 : Option DV), acc.length + ys.length ≤ 1000 → ∃ b3, mForL (gmName 3) b__law_bounded_1 (aL ys) [v (.list (aL xs)), v (.int B), some (.own (aL acc)), a3] = some (.nx [v (.list (aL xs)), v (.int B), some (.own (aL (acc ++ ys.map (bdA B)))), b3]) := by
    intro ys
    induction ys with
    | nil => exact fun acc a3 _ => ⟨a3, by simp⟩
    | cons y ys ih =>
      intro acc a3 hc
      rw [List.length_cons] at hc
      obtain ⟨b3, e⟩ := ih (acc ++ [bdA B y]) (v (eA y)) (by rw [List.length_append]; simp; omega)
      refine ⟨b3, ?_⟩
      have hac : (aL acc).length ≤ cap := by
        rw [List.length_map]
        unfold cap
        omega
      have hb : b__law_bounded_1 [v (.list (aL xs)), v (.int B), some (.own (aL acc)), v (eA y)] = some (.nx [v (.list (aL xs)), v (.int B), some (.own (aL (acc ++ [bdA B y]))), v (eA y)]) := by
        have e2 : aL (acc ++ [bdA B y]) = aL acc ++ [eA (bdA B y)] := by
          show (acc ++ [bdA B y]).map eA = _
          rw [List.map_append]
          rfl
        rw [e2]
        cases y with
        | none => simp -implicitDefEqProofs only [b__law_bounded_1, nIf_e, mAndT_e, mB_e, m2_e, mVar_0, mVar_s, mC_e, Option.bind_some, eA_n, dIsNot_n, isNoneD_n, Bool.not_true, toB_some, Bool.false_eq_true, if_false, nApp_e, List.getElem?_cons_succ, List.getElem?_cons_zero, gApp_o hac, List.set_cons_succ, List.set_cons_zero, bdA]
        | some n =>
          by_cases hn : B < n
          · rw [bdA_hi hn]
            simp -implicitDefEqProofs only [b__law_bounded_1, nIf_e, mAndT_e, mB_e, m2_e, mVar_0, mVar_s, mC_e, Option.bind_some, eA_s, eA_n, dIsNot_n, isNoneD_i, Bool.not_false, toB_some, Bool.false_eq_true, if_false, if_true, dGt_i, hn, decide_true, nApp_e, List.getElem?_cons_succ, List.getElem?_cons_zero, gApp_o hac, List.set_cons_succ, List.set_cons_zero]
          · rw [bdA_lo (by omega)]
            simp -implicitDefEqProofs only [b__law_bounded_1, nIf_e, mAndT_e, mB_e, m2_e, mVar_0, mVar_s, mC_e, Option.bind_some, eA_s, eA_n, dIsNot_n, isNoneD_i, Bool.not_false, toB_some, Bool.false_eq_true, if_false, if_true, dGt_i, hn, decide_false, nApp_e, List.getElem?_cons_succ, List.getElem?_cons_zero, gApp_o hac, List.set_cons_succ, List.set_cons_zero]
      show mForL _ _ (eA y :: aL ys) _ = _
      rw [mForL_cons]
      show fr2 _ (b__law_bounded_1 [v (.list (aL xs)), v (.int B), some (.own (aL acc)), v (eA y)]) = _
      rw [hb, fr2_nx, e, List.map_cons, List.append_assoc]
      rfl
  obtain ⟨b3, e⟩ := loop xs [] none (by simpa using h)
  have e' : mForL (gmName 3) b__law_bounded_1 (aL xs) [v (.list (aL xs)), v (.int B), some (.own []), none] = some (.nx [v (.list (aL xs)), v (.int B), some (.own (aL (xs.map (bdA B)))), b3]) := e
  refine seq_go (δ' := [v (.list (aL xs)), v (.int B), some (.own (aL (xs.map (bdA B)))), b3]) (by
    simp -implicitDefEqProofs only [nFor_e, mItems_e, mVar_0, gItems_some, Option.bind_some, e']) ?_
  simp -implicitDefEqProofs
/-- a loop that breaks when nothing changes -/
theorem settled_loop {b : DS → Option Out} {gm : D → DS → Option DS} (S : LA → LA) (I : LA → Prop) (St : LA → DS → Prop) (hI : ∀ x, I x → I (S x))
    (h : ∀ x δ d, I x → St x δ → ∃ δ1, gm d δ = some δ1 ∧ ∃ δ2, (S x = x ∧ b δ1 = some (.bk δ2) ∧ St x δ2 ∨ S x ≠ x ∧ b δ1 = some (.nx δ2) ∧ St (S x) δ2)) :
    ∀ (n : Nat) (lo : Int) (x : LA) (δ : DS), I x → St x δ → ∃ δ', mForL gm b (rngD lo n) δ = some (.nx δ') ∧ St (settle S n x) δ'
  | 0, lo, x, δ, _, hs => ⟨δ, rfl, hs⟩
  | n + 1, lo, x, δ, hi, hs => by
    obtain ⟨δ1, e1, δ2, h2⟩ := h x δ (.int lo) hi hs
    rw [rngD_succ, mForL_cons, e1]
    show ∃ δ', fr2 _ (b δ1) = _ ∧ _
    unfold settle
    rcases h2 with ⟨a, e2, s2⟩ | ⟨a, e2, s2⟩
    · rw [if_pos a, e2, fr2_bk]
      exact ⟨δ2, rfl, s2⟩
    · rw [if_neg a, e2, fr2_nx]
      exact settled_loop S I St hI h n (lo + 1) (S x) δ2 (hI x hi) s2
theorem is_sheet {m : Nat} {ts : List (D × Info)} (hl : ts.length = m) (h : ∀ t ∈ ts, GI 8 m 7 19 2000 8 t.1 t.2) : Sheet m 11 7 ts (fun t => t.2.F) := ⟨hl, fun t ht => (h t ht).comp, by decide, by decide⟩
theorem rng20000 : gRng1 (some [.int 20000]) = some (rngD 0 20000) := gRng1_some (by decide) (by decide)
theorem settled_ok {m : Nat} {ts : List (D × Info)} (hl : ts.length = m) (hm : m ≤ 100) (h : ∀ t ∈ ts, GI 8 m 7 19 2000 8 t.1 t.2) {x0 : LA} (r0 : Row m x0) (B : Int) :
    f__law_settled [.list (ts.map (·.1)), .list (aL x0), .int B] = some (.val (.list (aL (settle (valsB B ts (fun t => t.2.F)) 20000 x0)))) := by
  have S := is_sheet hl h
  have hcap : (ts.map (·.1)).length ≤ cap := by
    rw [List.length_map]
    unfold cap
    omega
  unfold f__law_settled
  refine fnD_rt rfl ?_
  show m__law_settled (startD 6 [.list (ts.map (·.1)), .list (aL x0), .int B]) = _
  rw [startD_3]
  unfold m__law_settled
  obtain ⟨δ', e, a3, a4, rfl⟩ := settled_loop (gm := gmName 3) (b := b__law_settled_1) (valsB B ts (fun t => t.2.F)) (Row m) (fun x δ => ∃ a3 a4, δ = [v (.list (ts.map (·.1))), v (.list (aL x)), v (.int B), a3, a4, none]) (fun x r => S.rowB r) (fun x δ d r hs => by
      obtain ⟨a3, a4, rfl⟩ := hs
      refine ⟨_, rfl, ?_⟩
      have hcol := sheet_vals h r (v (.list (ts.map (·.1)))) (v (.int B)) (v d) a4
      have hbd := bounded_ok B (vals ts (fun t => t.2.F) x) (by rw [(S.row r).len]; omega)
      have s1 : ∀ f : DS → Option Out, nSeq (nAsg 4 (mCallF (mCons (mLst (mLcI (mItems (mVar 0)) (gmName 5) mYes c__law_settled_1 [5])) (mCons (mVar 2) mNil)) f__law_bounded)) f [v (.list (ts.map (·.1))), v (.list (aL x)), v (.int B), v d, a4, none] = f [v (.list (ts.map (·.1))), v (.list (aL x)), v (.int B), v d, v (.list (aL (valsB B ts (fun t => t.2.F) x))), none] := fun f => by
        simp -implicitDefEqProofs only [nSeq_e, nAsg_e, mCallF_e, mCons_e, mLst_e, mLcI_e, mItems_e, mVar_0, mVar_s, gItems_some, Option.bind_some, if_pos hcap, wipeD_cons, wipeD_nil, List.set_cons_succ, List.set_cons_zero, hcol, Option.map_some, mNil_e, hbd, data_own, nx2_nx]
        rfl
      by_cases hx : valsB B ts (fun t => t.2.F) x = x
      · refine ⟨[v (.list (ts.map (·.1))), v (.list (aL x)), v (.int B), v d, v (.list (aL x)), none], .inl ⟨hx, ?_, _, _, rfl⟩⟩
        show b__law_settled_1 [v (.list (ts.map (·.1))), v (.list (aL x)), v (.int B), v d, a4, none] = _
        unfold b__law_settled_1
        rw [s1, hx]
        simp -implicitDefEqProofs only [nSeq_e, nIf_e, mB_e, m2_e, mVar_0, mVar_s, Option.bind_some, dEq_aL, decide_true, toB_some, if_true, nBrk_e, nx2_bk]
      · refine ⟨[v (.list (ts.map (·.1))), v (.list (aL (valsB B ts (fun t => t.2.F) x))), v (.int B), v d, v (.list (aL (valsB B ts (fun t => t.2.F) x))), none], .inr ⟨hx, ?_, _, _, rfl⟩⟩
        show b__law_settled_1 [v (.list (ts.map (·.1))), v (.list (aL x)), v (.int B), v d, a4, none] = _
        unfold b__law_settled_1
        rw [s1]
        simp -implicitDefEqProofs only [nSeq_e, nIf_e, mB_e, m2_e, mVar_0, mVar_s, Option.bind_some, Option.map_some, dEq_aL, hx, decide_false, toB_some, Bool.false_eq_true, if_false, nNext_e, nx2_nx, nAsg_e, List.set_cons_succ, List.set_cons_zero]) 20000 0 x0 [v (.list (ts.map (·.1))), v (.list (aL x0)), v (.int B), none, none, none] r0 ⟨_, _, rfl⟩
  refine seq_go (δ' := [v (.list (ts.map (·.1))), v (.list (aL (settle (valsB B ts (fun t => t.2.F)) 20000 x0))), v (.int B), a3, a4, none]) (by
    simp -implicitDefEqProofs only [nFor_e, mRng1_e, mCons_e, mNil_e, mC_e, Option.bind_some, rng20000, List.replicate, e]) ?_
  simp -implicitDefEqProofs only [nRet_e, mVar_0, mVar_s, Option.map_some]
theorem least_ok {m : Nat} {ts : List (D × Info)} (hl : ts.length = m) (hm : m ≤ 100) (h : ∀ t ∈ ts, GI 8 m 7 19 2000 8 t.1 t.2) :
    f__law_least [.list (ts.map (·.1))] = some (.val (.list (aL (settle (valsB (60 + 60 * (m : Int)) ts (fun t => t.2.F)) 20000 (List.replicate m (some 0)))))) := by
  have hcap : (ts.map (·.1)).length ≤ cap := by
    rw [List.length_map]
    unfold cap
    omega
  have hcol := const_col (mLcF (gmName 1) mYes c__law_least_1 [v (.list (ts.map (·.1))), none]) (c := .int 0) (fun d => rfl) (ts.map (·.1))
  have hz : List.replicate (ts.map (·.1)).length (PyData.int 0) = aL (List.replicate m (some 0)) := by
    rw [List.length_map, hl]
    show _ = (List.replicate m (some 0)).map eA
    rw [List.map_replicate]
    rfl
  rw [hz] at hcol
  have hs := settled_ok hl hm h (row_rep nn0 m) (60 + 60 * (m : Int))
  have hmul : dMul (.int 60) (.int (m : Int)) = some (.int (60 * (m : Int))) := dMul_l (by decide) (by decide)
  have hlen : ((ts.map (·.1)).length : Int) = (m : Int) := by rw [List.length_map, hl]
  unfold f__law_least
  refine fnD_rt rfl ?_
  show m__law_least (startD 2 [.list (ts.map (·.1))]) = _
  rw [startD_1]
  simp -implicitDefEqProofs only [m__law_least, nRetC_e, mCons_e, mNil_e, mLst_e, mLcI_e, mItems_e, mVar_0, gItems_some, Option.bind_some, if_pos hcap, List.replicate, wipeD_cons, wipeD_nil, List.set_cons_succ, List.set_cons_zero, hcol, Option.map_some, m2_e, mC_e, mCall_e, dLen_l, hlen, hmul, dAdd_i, hs]
theorem greatest_ok {m : Nat} {ts : List (D × Info)} (hl : ts.length = m) (hm : m ≤ 100) (h : ∀ t ∈ ts, GI 8 m 7 19 2000 8 t.1 t.2) :
    f__law_greatest [.list (ts.map (·.1))] = some (.val (.list (aL (settle (vals ts (fun t => t.2.F)) 20000 (List.replicate m none))))) := by
  have S := is_sheet hl h
  have hcap : (ts.map (·.1)).length ≤ cap := by
    rw [List.length_map]
    unfold cap
    omega
  have hcol := const_col (mLcF (gmName 4) mYes c__law_greatest_1 [v (.list (ts.map (·.1))), none, none, none, none]) (c := .none) (fun d => rfl) (ts.map (·.1))
  have hz : List.replicate (ts.map (·.1)).length PyData.none = aL (List.replicate m none) := by
    rw [List.length_map, hl]
    show _ = (List.replicate m none).map eA
    rw [List.map_replicate]
    rfl
  rw [hz] at hcol
  unfold f__law_greatest
  refine fnD_rt rfl ?_
  show m__law_greatest (startD 5 [.list (ts.map (·.1))]) = _
  rw [startD_1]
  unfold m__law_greatest
  refine seq_go (δ' := [v (.list (ts.map (·.1))), v (.list (aL (List.replicate m none))), none, none, none]) (by
    simp -implicitDefEqProofs only [nAsg_e, mLst_e, mLcI_e, mItems_e, mVar_0, gItems_some, Option.bind_some, if_pos hcap, List.replicate, wipeD_cons, wipeD_nil, List.set_cons_succ, List.set_cons_zero, hcol, Option.map_some]) ?_
  obtain ⟨δ', e, a2, a3, rfl⟩ := settled_loop (gm := gmName 2) (b := b__law_greatest_1) (vals ts (fun t => t.2.F)) (Row m) (fun x δ => ∃ a2 a3, δ = [v (.list (ts.map (·.1))), v (.list (aL x)), a2, a3, none]) (fun x r => S.row r) (fun x δ d r hs => by
      obtain ⟨a2, a3, rfl⟩ := hs
      refine ⟨_, rfl, ?_⟩
      have hcol := sheet_vals2 h r (v (.list (ts.map (·.1)))) (v d) a3
      have s1 : ∀ f : DS → Option Out, nSeq (nAsg 3 (mLst (mLcI (mItems (mVar 0)) (gmName 4) mYes c__law_greatest_2 [4]))) f [v (.list (ts.map (·.1))), v (.list (aL x)), v d, a3, none] = f [v (.list (ts.map (·.1))), v (.list (aL x)), v d, v (.list (aL (vals ts (fun t => t.2.F) x))), none] := fun f => by
        simp -implicitDefEqProofs only [nSeq_e, nAsg_e, mLst_e, mLcI_e, mItems_e, mVar_0, mVar_s, gItems_some, Option.bind_some, if_pos hcap, wipeD_cons, wipeD_nil, List.set_cons_succ, List.set_cons_zero, hcol, Option.map_some, nx2_nx]
      by_cases hx : vals ts (fun t => t.2.F) x = x
      · refine ⟨[v (.list (ts.map (·.1))), v (.list (aL x)), v d, v (.list (aL x)), none], .inl ⟨hx, ?_, _, _, rfl⟩⟩
        show b__law_greatest_1 [v (.list (ts.map (·.1))), v (.list (aL x)), v d, a3, none] = _
        unfold b__law_greatest_1
        rw [s1, hx]
        simp -implicitDefEqProofs only [nSeq_e, nIf_e, mB_e, m2_e, mVar_0, mVar_s, Option.bind_some, dEq_aL, decide_true, toB_some, if_true, nBrk_e, nx2_bk]
      · refine ⟨[v (.list (ts.map (·.1))), v (.list (aL (vals ts (fun t => t.2.F) x))), v d, v (.list (aL (vals ts (fun t => t.2.F) x))), none], .inr ⟨hx, ?_, _, _, rfl⟩⟩
        show b__law_greatest_1 [v (.list (ts.map (·.1))), v (.list (aL x)), v d, a3, none] = _
        unfold b__law_greatest_1
        rw [s1]
        simp -implicitDefEqProofs only [nSeq_e, nIf_e, mB_e, m2_e, mVar_0, mVar_s, Option.bind_some, Option.map_some, dEq_aL, hx, decide_false, toB_some, Bool.false_eq_true, if_false, nNext_e, nx2_nx, nAsg_e, List.set_cons_succ, List.set_cons_zero]) 20000 0 (List.replicate m none) [v (.list (ts.map (·.1))), v (.list (aL (List.replicate m none))), none, none, none] (row_rep nnN m) ⟨_, _, rfl⟩
  refine seq_go (δ' := [v (.list (ts.map (·.1))), v (.list (aL (settle (vals ts (fun t => t.2.F)) 20000 (List.replicate m none)))), a2, a3, none]) (by
    simp -implicitDefEqProofs only [nFor_e, mRng1_e, mCons_e, mNil_e, mC_e, Option.bind_some, rng20000, e]) ?_
  simp -implicitDefEqProofs only [nRet_e, mVar_0, mVar_s, Option.map_some]
theorem values_ok {m : Nat} {ts : List (D × Info)} (hl : ts.length = m) (hm : m ≤ 100) (h : ∀ t ∈ ts, GI 8 m 7 19 2000 8 t.1 t.2) {xs : LA} (r : Row m xs) : f_values_of [.list (ts.map (·.1)), .list (aL xs)] = some (.own (aL (vals ts (fun t => t.2.F) xs))) := by
  have hcap : (ts.map (·.1)).length ≤ cap := by
    rw [List.length_map]
    unfold cap
    omega
  have hcol : colO (mLcF (gmName 2) mYes c_values_of_1 [v (.list (ts.map (·.1))), v (.list (aL xs)), none]) (ts.map (·.1)) = some (aL (vals ts (fun t => t.2.F) xs)) := col_vals ts fun t ht => by
    have e := (h t ht).val xs r
    simp -implicitDefEqProofs [mLcF, c_values_of_1, e]
  unfold f_values_of
  refine fnD_rt rfl ?_
  show m_values_of (startD 3 [.list (ts.map (·.1)), .list (aL xs)]) = _
  rw [startD_2]
  simp -implicitDefEqProofs only [m_values_of, nRetO_e, mLcI_e, mItems_e, mVar_0, gItems_some, Option.bind_some, if_pos hcap, List.replicate, wipeD_cons, wipeD_nil, List.set_cons_succ, List.set_cons_zero, hcol, Option.map_some]
theorem solution_ok {m : Nat} {ts : List (D × Info)} (hl : ts.length = m) (hm : m ≤ 100) (h : ∀ t ∈ ts, GI 8 m 7 19 2000 8 t.1 t.2) {xs : LA} (r : Row m xs) : f_is_solution [.list (ts.map (·.1)), .list (aL xs)] = some (.val (.bool (decide (vals ts (fun t => t.2.F) xs = xs)))) := by
  have hv := values_ok hl hm h r
  unfold f_is_solution
  refine fnD_rt rfl ?_
  show m_is_solution (startD 2 [.list (ts.map (·.1)), .list (aL xs)]) = _
  rw [startD_2]
  simp -implicitDefEqProofs only [m_is_solution, nRet_e, m2_e, mCallF_e, mCons_e, mNil_e, mVar_0, mVar_s, Option.bind_some, Option.map_some, hv, data_own, dEq_aL]
theorem cells_ok {m : Nat} {d : D} {i : Info} (h : GI 8 m 7 19 2000 8 d i) : f_cells_in [d] = some (.own (iL (sortU i.cs))) := by
  obtain ⟨es, e1, e2⟩ := h.pick d
  have hlt : i.ps.length < 64 := by
    have := h.plen
    omega
  have hs : sortU es = sortU i.cs := up_unique _ _ (sortU_up _) (sortU_up _) fun k => by rw [sortU_mem, sortU_mem, e2]
  unfold f_cells_in
  refine fnD_rt rfl ?_
  show m_cells_in (startD 2 [d]) = _
  rw [startD_1]
  have hp := h.parts
  have hc : colO (mLcF (gmName 1) (mB (m2 dIn (m2 dIx (mVar 1) (mC (.int 0))) (mTup (mCons (mC (.str "cell")) (mCons (mC (.str "when")) mNil))))) c_cells_in_1 [v d, none]) i.ps = some (iL es) := e1
  have e : mSset (mItems (mCallF (mCons (mVar 0) mNil) (f_parts_of 8))) (gmName 1) (mB (m2 dIn (m2 dIx (mVar 1) (mC (.int 0))) (mTup (mCons (mC (.str "cell")) (mCons (mC (.str "when")) mNil))))) c_cells_in_1 [1] [v d, none] = some (iL (sortU i.cs)) := by
    unfold mSset
    have e0 : mItems (mCallF (mCons (mVar 0) mNil) (f_parts_of 8)) [v d, none] = some i.ps := by
      simp -implicitDefEqProofs [hp]
    rw [e0]
    show (if i.ps.length < 64 then _ else none) = _
    rw [if_pos hlt]
    show (colO (mLcF (gmName 1) (mB (m2 dIn (m2 dIx (mVar 1) (mC (.int 0))) (mTup (mCons (mC (.str "cell")) (mCons (mC (.str "when")) mNil))))) c_cells_in_1 [v d, none]) i.ps).bind _ = _
    rw [hc]
    show (asIs (iL es)).map _ = _
    rw [asIs_map, Option.map_some, hs]
  show nRetO _ [v d, none] = _
  rw [nRetO_e, e]
  rfl
theorem inD_int (i : Int) : ∀ cs : List Int, inD (.int i) (iL cs) = decide (i ∈ cs)
  | [] => rfl
  | c :: cs => by
    have ih := inD_int i cs
    unfold inD at ih ⊢
    show ((PyData.int c :: iL cs).any fun e => PyData.eqv e (PyData.int i)) = _
    rw [List.any_cons, ih, PyData.eqv]
    by_cases h1 : c = i
    · subst h1
      simp
    · have h2 : ¬ i = c := fun z => h1 z.symm
      simp [h1, h2]
theorem dIn_int (i : Int) (cs : List Int) : dIn (.int i) (.list (iL cs)) = some (.bool (decide (i ∈ cs))) := by
  unfold dIn
  rw [inB_l rfl (by
    rw [List.all_eq_true]
    intro d hd
    obtain ⟨a, _, rfl⟩ := List.mem_map.mp hd
    rfl), inD_int]
  rfl
@[simp] theorem dNe_iL {xs ys : List Int} : dNe (.list (iL xs)) (.list (iL ys)) = some (.bool (!decide (xs = ys))) := Flt.int.list.dNe (by decide) xs ys (fun x z => by cases z)
theorem insU_len (k : Int) : ∀ ns : List Int, (insU k ns).length ≤ ns.length + 1
  | [] => Nat.le_refl _
  | n :: r => by
    unfold insU
    split
    · exact Nat.le_refl _
    · split
      · exact Nat.le_succ _
      · rw [List.length_cons, List.length_cons]
        exact Nat.succ_le_succ (insU_len k r)
theorem sortU_len : ∀ ns : List Int, (sortU ns).length ≤ ns.length
  | [] => Nat.le_refl _
  | n :: r => by
    have h1 := sortU_len r
    have h2 := insU_len n (sortU r)
    show (insU n (sortU r)).length ≤ r.length + 1
    omega
theorem range_cells (m : Nat) (cs : List Int) (h : ∀ c ∈ cs, 0 ≤ c ∧ c < (m : Int)) : ((List.range m).filterMap fun i : Nat => if ((i : Nat) : Int) ∈ cs then some ((i : Nat) : Int) else none) = sortU cs := by
  refine up_unique _ _ ?_ (sortU_up _) fun k => ?_
  · rw [List.pairwise_filterMap]
    refine List.Pairwise.imp ?_ List.pairwise_lt_range
    intro a b hab x hx y hy
    by_cases h1 : (a : Int) ∈ cs
    · by_cases h2 : (b : Int) ∈ cs
      · rw [if_pos h1] at hx
        rw [if_pos h2] at hy
        cases hx
        cases hy
        omega
      · rw [if_neg h2] at hy
        cases hy
    · rw [if_neg h1] at hx
      cases hx
  · rw [List.mem_filterMap, sortU_mem]
    constructor
    · rintro ⟨a, _, ha⟩
      by_cases h1 : (a : Int) ∈ cs
      · rw [if_pos h1] at ha
        cases ha
        exact h1
      · rw [if_neg h1] at ha
        cases ha
    · intro hk
      have := h k hk
      refine ⟨k.toNat, List.mem_range.mpr (by omega), ?_⟩
      have e : ((k.toNat : Nat) : Int) = k := by omega
      rw [e, if_pos hk]
theorem turn1 {m : Nat} {ts : List (D × Info)} (hl : ts.length = m) (hm : m ≤ 100) (h : ∀ t ∈ ts, GI 8 m 7 19 2000 8 t.1 t.2) {xs : LA} (r : Row m xs) (n0 n1 l4 k5 a7 a8 a9 a10 a11 a12 a13 : Option DV) :
    ∃ b7 b8 b9, b_law_1 [n0, n1, v (.list (ts.map (·.1))), v (.int m), l4, k5, v (.list (aL xs)), a7, a8, a9, a10, a11, a12, a13] = some (.nx [n0, n1, v (.list (ts.map (·.1))), v (.int m), l4, k5, v (.list (aL xs)), b7, b8, b9, a10, a11, a12, a13]) := by
  have S := is_sheet hl h
  have rv := S.row r
  have hcap : (ts.map (·.1)).length ≤ cap := by
    rw [List.length_map]
    unfold cap
    omega
  have hv := values_ok hl hm h r
  have hs := solution_ok hl hm h r
  have c3 : ∀ a7 a8 a9, colO (mLcF (gmName 10) mYes c_law_3 [n0, n1, v (.list (ts.map (·.1))), v (.int m), l4, k5, v (.list (aL xs)), a7, a8, a9, none, a11, a12, a13]) (ts.map (·.1)) = some (aL (vals ts (fun t => t.2.F) xs)) := fun a7 a8 a9 => col_vals ts fun t ht => by
    have e := (h t ht).lval xs r
    simp -implicitDefEqProofs [mLcF, c_law_3, e]
  have c4 : ∀ a7 a8 a9, colO (mLcF (gmName 10) mYes c_law_4 [n0, n1, v (.list (ts.map (·.1))), v (.int m), l4, k5, v (.list (aL xs)), a7, a8, a9, none, a11, a12, a13]) (ts.map (·.1)) = some (aL (vals ts (fun t => t.2.F) xs)) := fun a7 a8 a9 => col_vals ts fun t ht => by
    have e := (h t ht).val xs r
    simp -implicitDefEqProofs [mLcF, c_law_4, e]
  have am := amounts_ok _ m rv.len rv.nn
  have hac : (aL (vals ts (fun t => t.2.F) xs)).length ≤ cap := by
    rw [List.length_map, rv.len]
    unfold cap
    omega
  generalize vals ts (fun t => t.2.F) xs = q at hv hs c3 c4 am hac
  refine ⟨v (.list (aL q)), some (.own (aL q ++ [.int 0])), v (.bool (decide (q = xs))), ?_⟩
  unfold b_law_1
  refine seq_go (δ' := [n0, n1, v (.list (ts.map (·.1))), v (.int m), l4, k5, v (.list (aL xs)), v (.list (aL q)), a8, a9, a10, a11, a12, a13]) (by
    simp -implicitDefEqProofs only [nAsg_e, mLst_e, mLcI_e, mItems_e, mVar_s, mVar_0, gItems_some, Option.bind_some, if_pos hcap, wipeD_cons, wipeD_nil, List.set_cons_succ, List.set_cons_zero, c3, Option.map_some]) ?_
  refine seq_go (δ' := [n0, n1, v (.list (ts.map (·.1))), v (.int m), l4, k5, v (.list (aL xs)), v (.list (aL q)), some (.own (aL q)), a9, a10, a11, a12, a13]) (by
    simp -implicitDefEqProofs only [nAsgO_e, mCallFO_e, mCons_e, mNil_e, mVar_s, mVar_0, Option.bind_some, hv, owned_own, Option.map_some, List.set_cons_succ, List.set_cons_zero]) ?_
  refine seq_go (δ' := [n0, n1, v (.list (ts.map (·.1))), v (.int m), l4, k5, v (.list (aL xs)), v (.list (aL q)), some (.own (aL q)), a9, a10, a11, a12, a13]) (by
    simp -implicitDefEqProofs [am]) ?_
  refine seq_go (δ' := [n0, n1, v (.list (ts.map (·.1))), v (.int m), l4, k5, v (.list (aL xs)), v (.list (aL q)), some (.own (aL q)), a9, a10, a11, a12, a13]) (by
    simp -implicitDefEqProofs only [nIf_e, mB_e, m2_e, mLst_e, mLcI_e, mItems_e, mVar_s, mVar_0, gItems_some, Option.bind_some, if_pos hcap, wipeD_cons, wipeD_nil, List.set_cons_succ, List.set_cons_zero, c4, Option.map_some, dNe_aL, decide_true, Bool.not_true, toB_some, Bool.false_eq_true, if_false, nNext_e]) ?_
  refine seq_go (δ' := [n0, n1, v (.list (ts.map (·.1))), v (.int m), l4, k5, v (.list (aL xs)), v (.list (aL q)), some (.own (aL q)), v (.bool (decide (q = xs))), a10, a11, a12, a13]) (by
    simp -implicitDefEqProofs only [nAsg_e, mCallF_e, mCons_e, mNil_e, mVar_s, mVar_0, Option.bind_some, hs, data_val, Option.map_some, List.set_cons_succ, List.set_cons_zero]) ?_
  refine seq_go (δ' := [n0, n1, v (.list (ts.map (·.1))), v (.int m), l4, k5, v (.list (aL xs)), v (.list (aL q)), some (.own (aL q)), v (.bool (decide (q = xs))), a10, a11, a12, a13]) (by
    simp -implicitDefEqProofs only [nIf_e, mOrT_e, mNotT_e, mB_e, mIsi_e, m2_e, mVar_s, mVar_0, Option.bind_some, isi_bb, toB_some, Option.map_some, Bool.not_true, Bool.false_eq_true, if_false, dEq_aL, dNe_bool, decide_true, nNext_e]) ?_
  refine seq_go (δ' := [n0, n1, v (.list (ts.map (·.1))), v (.int m), l4, k5, v (.list (aL xs)), v (.list (aL q)), some (.own (aL q ++ [.int 0])), v (.bool (decide (q = xs))), a10, a11, a12, a13]) (by
    simp -implicitDefEqProofs only [nApp_e, mC_e, List.getElem?_cons_succ, List.getElem?_cons_zero, gApp_o hac, List.set_cons_succ, List.set_cons_zero]) ?_
  simp -implicitDefEqProofs only [nIf_e, mB_e, m2_e, mCallF_e, mCons_e, mNil_e, mVar_s, mVar_0, Option.bind_some, hv, data_own, Option.map_some, dNe_aL, decide_true, Bool.not_true, toB_some, Bool.false_eq_true, if_false, nNext_e]
theorem turn2 {m : Nat} (hm : m ≤ 100) {t : D × Info} (h : GI 8 m 7 19 2000 8 t.1 t.2) (n0 n1 s2 l4 k5 a6 a7 a8 a9 a11 a12 a13 : Option DV) :
    ∃ b8 b11, b_law_2 [n0, n1, s2, v (.int m), l4, k5, a6, a7, a8, a9, v t.1, a11, a12, a13] = some (.nx [n0, n1, s2, v (.int m), l4, k5, a6, a7, b8, a9, v t.1, b11, a12, a13]) := by
  have hc := cells_ok h
  have hr : gRng1 (some [.int (m : Int)]) = some (rngD 0 m) := by
    have q := rng_pos (k := (m : Int)) (by omega) (by omega)
    rw [Int.toNat_natCast] at q
    exact q
  have hcap : (rngD 0 m).length ≤ cap := by
    rw [rngD_len]
    unfold cap
    omega
  have hac : (iL (sortU t.2.cs)).length ≤ cap := by
    have h1 := sortU_len t.2.cs
    have h2 := h.clen
    rw [List.length_map]
    unfold cap
    omega
  refine ⟨some (.own (iL (sortU t.2.cs) ++ [.int 99])), v (.list (iL t.2.cs)), ?_⟩
  have hcol : ∀ a0 a1 a2 a3 a4 a5 a6 a7 a8 a9 a10 a12, colO (mLcF (gmName 13) (mB (m2 dIn (mVar 13) (mVar 11))) c_law_5 [a0, a1, a2, a3, a4, a5, a6, a7, a8, a9, a10, v (.list (iL t.2.cs)), a12, none]) (rngD 0 m) = some (iL (sortU t.2.cs)) := fun a0 a1 a2 a3 a4 a5 a6 a7 a8 a9 a10 a12 => by
    have e := colO_fm (f := mLcF (gmName 13) (mB (m2 dIn (mVar 13) (mVar 11))) c_law_5 [a0, a1, a2, a3, a4, a5, a6, a7, a8, a9, a10, v (.list (iL t.2.cs)), a12, none]) (fun i : Nat => PyData.int (0 + (i : Int))) (fun i : Nat => if ((i : Nat) : Int) ∈ t.2.cs then some ((i : Nat) : Int) else none) PyData.int (List.range m) fun i _ => by
      rw [Int.zero_add]
      by_cases hi : (i : Int) ∈ t.2.cs
      · rw [if_pos hi]
        simp -implicitDefEqProofs only [mLcF, c_law_5, gmName_e, List.set_cons_succ, List.set_cons_zero, Option.bind_some, mB_e, m2_e, mVar_s, mVar_0, dIn_int, hi, decide_true, toB_some, if_true, Option.map_some]
      · rw [if_neg hi]
        simp -implicitDefEqProofs only [mLcF, c_law_5, gmName_e, List.set_cons_succ, List.set_cons_zero, Option.bind_some, mB_e, m2_e, mVar_s, mVar_0, dIn_int, hi, decide_false, toB_some, Bool.false_eq_true, if_false, Option.map_none]
    rw [range_cells m t.2.cs h.inb] at e
    exact e
  unfold b_law_2
  refine seq_go (δ' := [n0, n1, s2, v (.int m), l4, k5, a6, a7, a8, a9, v t.1, v (.list (iL t.2.cs)), a12, a13]) (by
    have hn := h.named
    simp -implicitDefEqProofs only [nAsg_e, mCallF_e, mCons_e, mNil_e, mVar_s, mVar_0, Option.bind_some, hn, Option.map_some, List.set_cons_succ, List.set_cons_zero]) ?_
  refine seq_go (δ' := [n0, n1, s2, v (.int m), l4, k5, a6, a7, some (.own (iL (sortU t.2.cs))), a9, v t.1, v (.list (iL t.2.cs)), a12, a13]) (by
    simp -implicitDefEqProofs only [nAsgO_e, mCallFO_e, mCons_e, mNil_e, mVar_s, mVar_0, Option.bind_some, hc, owned_own, Option.map_some, List.set_cons_succ, List.set_cons_zero]) ?_
  refine seq_go (δ' := [n0, n1, s2, v (.int m), l4, k5, a6, a7, some (.own (iL (sortU t.2.cs))), a9, v t.1, v (.list (iL t.2.cs)), a12, a13]) (by
    simp -implicitDefEqProofs only [nIf_e, mBorT_e, thaw_c, thaw_nil, tw_v, tw_o, mOrT_e, mNotT_e, mB_e, mIsi_e, m2_e, mVar_s, mVar_0, Option.bind_some, isi_lst, toB_some, Option.map_some, Bool.not_true, Bool.false_eq_true, if_false, mLst_e, mLcI_e, mRng1_e, mCons_e, mNil_e, hr, if_pos hcap, wipeD_cons, wipeD_nil, List.set_cons_succ, List.set_cons_zero, hcol, dNe_iL, decide_true, nNext_e]) ?_
  simp -implicitDefEqProofs only [nApp_e, mC_e, List.getElem?_cons_succ, List.getElem?_cons_zero, gApp_o hac, List.set_cons_succ, List.set_cons_zero]
theorem shw_row {xs : LA} (h : ∀ a ∈ xs, nnA a ∧ finLe 1000 a) (hl : xs.length ≤ 7) : Shw (.list (aL xs)) 1 100 := by
  have q := shw_list (shw_all (ds := aL xs) (dep := 0) (n := 12) fun d hd => by
    obtain ⟨a, ha, rfl⟩ := List.mem_map.mp hd
    have hh := h a ha
    cases a with
    | none => exact shw_none.mono (Nat.le_refl _) (by decide)
    | some n =>
      have h1 := hh.1 n rfl
      have h2 := hh.2 n rfl
      exact shw_small (by omega) (by omega))
  rw [List.length_map] at q
  exact q.mono (Nat.le_refl _) (by omega)
theorem law_true (ns : List Int) (hn : ns.length ≤ 63) : m_law (startD N_law.length [.list (ns.map PyData.int)]) = some (.rt (.val (.bool true))) := by
  obtain ⟨ds, hl, hb, hdraws⟩ := draws_ok ns 180 (by decide) hn
  have hdraws' : f__law_draws [.list (iL ns), .int 180] = some (.own (iL ds)) := hdraws
  obtain ⟨m, sh, hm0, hm1, hsl, hgood, hsheet⟩ := sheet_ok ds hl hb (most := 7) (by decide) (by decide) (by decide)
  have hsheet' : f__law_sheet [.list (iL ds), .int 7] = some (.own sh) := hsheet
  show m_law (startD 14 [.list (iL ns)]) = _
  rw [startD_1]
  unfold m_law
  refine seq_go (δ' := [v (.list (iL ns)), v (.list (iL ds)), none, none, none, none, none, none, none, none, none, none, none, none]) (by simp -implicitDefEqProofs [hdraws', List.replicate]) ?_
  refine seq_go (δ' := [v (.list (iL ns)), v (.list (iL ds)), some (.own sh), none, none, none, none, none, none, none, none, none, none, none]) (by simp -implicitDefEqProofs [hsheet']) ?_
  refine seq_go (δ' := [v (.list (iL ns)), v (.list (iL ds)), some (.own sh), v (.int m), none, none, none, none, none, none, none, none, none, none]) (by simp -implicitDefEqProofs [hsl]) ?_
  -- one formula may be put in
  have hput : ∃ sh2 : List D, sh2.length = m ∧ (∀ d ∈ sh2, GF m d) ∧ nIf (mB (m2 dEq (m2 dMod (mCall (mCons (m2 dIx (mVar 1) (mC (.int 140))) mNil) dInt) (mC (.int 2))) (mC (.int 0)))) (nSetI 2 (m2 dMod (mCall (mCons (m2 dIx (mVar 1) (mC (.int 141))) mNil) dInt) (mVar 3)) (mCallF (mCons (mLst (mSlL (mVar 1) (mP (mC (.int 142))) (mP (mC (.int 176))))) (mCons (mVar 3) mNil)) f__law_wide)) nNext
      [v (.list (iL ns)), v (.list (iL ds)), some (.own sh), v (.int m), none, none, none, none, none, none, none, none, none, none] = some (.nx [v (.list (iL ns)), v (.list (iL ds)), some (.own sh2), v (.int m), none, none, none, none, none, none, none, none, none, none]) := by
    obtain ⟨p, _, _, hp⟩ := at_dr hl hb (i := 140) (by decide)
    have hp' : atI (iL ds) 140 = some (.int p) := hp
    obtain ⟨q, _, _, hq⟩ := at_dr hl hb (i := 141) (by decide)
    have hq' : atI (iL ds) 141 = some (.int q) := hq
    by_cases hc : p % 2 = 0
    · obtain ⟨es, e1, e2, e3⟩ := sublist_ok hl hb (a := 142) (b := 176) (by decide) (by decide) (by decide)
      obtain ⟨d, hf, hg⟩ := wide_ok es e1 e2 (m := m) (by omega) (by omega)
      obtain ⟨j, hj, hqj⟩ := mod_nat q (m := m) (by omega)
      have hmod : dMod (.int q) (.int (m : Int)) = some (.int (j : Int)) := by rw [dMod_i (by omega), hqj]
      have hix : ixN sh.length (j : Int) = some j := by
        rw [ixN_nat (by omega) (by omega)]
        congr 1
      refine ⟨sh.set j d, by rw [List.length_set, hsl], fun x hx => ?_, ?_⟩
      · rcases List.mem_or_eq_of_mem_set hx with hx | hx
        · exact hgood x hx
        · rw [hx]; exact hg
      · simp -implicitDefEqProofs [hp', hq', hc, hmod, e3, hf, hix]
    · exact ⟨sh, hsl, hgood, by simp -implicitDefEqProofs [hp', hc]⟩
  obtain ⟨sh2, hl2, hg2, hst⟩ := hput
  refine seq_go hst ?_
  clear hst
  obtain ⟨ts, rfl, hts⟩ := choose_list (P := fun d i => GI 8 m 7 19 2000 8 d i) sh2 fun d hd => by
    obtain ⟨i, hi⟩ := hg2 d hd
    exact ⟨i, hi 4⟩
  have htl : ts.length = m := by rw [← hl2, List.length_map]
  rw [nFrz_e, frz_e (ds := ts.map (·.1)) rfl]
  show nSeq _ _ [v (.list (iL ns)), v (.list (iL ds)), v (.list (ts.map (·.1))), v (.int m), none, none, none, none, none, none, none, none, none, none] = _
  have hr : gRng1 (some [.int (m : Int)]) = some (rngD 0 m) := by
    have q := rng_pos (k := (m : Int)) (by omega) (by omega)
    rw [Int.toNat_natCast] at q
    exact q
  have hcap : (rngD 0 m).length ≤ cap := by
    rw [rngD_len]
    unfold cap
    omega
  -- drawn rows
  have rowOf : ∀ (xs : LA), xs.length = m → (∀ (i : Nat) a, xs[i]? = some a → amS a) → Row m xs ∧ ∀ a ∈ xs, nnA a ∧ finLe 1000 a := fun xs h1 h2 => by
    have h3 : ∀ a ∈ xs, amS a := fun a ha => by
      obtain ⟨i, hi, e⟩ := List.mem_iff_getElem.mp ha
      exact h2 i a (by rw [List.getElem?_eq_getElem hi, e])
    refine ⟨⟨h1, fun a ha n e => (h3 a ha n e).1⟩, fun a ha => ⟨fun n e => (h3 a ha n e).1, fun n e => ?_⟩⟩
    have := h3 a ha n e
    omega
  obtain ⟨x0, hx01, hx02, hx03⟩ := colO_map (f := mLcF (gmName 12) mYes c_law_1 [v (.list (iL ns)), v (.list (iL ds)), v (.list (ts.map (·.1))), v (.int m), none, none, none, none, none, none, none, none, none, none]) (fun _ a => amS a) eA (rngD 0 m) 0 fun i d hi => by
    obtain ⟨rfl, hi4⟩ := rngD_get hi
    obtain ⟨es, h1, h2, h3⟩ := sublist_ok hl hb (a := 100 + 2 * (i : Int)) (b := 102 + 2 * (i : Int)) (by omega) (by omega) (by omega)
    obtain ⟨o, ho, hd⟩ := amount_ok es (by omega) h2
    refine ⟨o, ho, ?_⟩
    have hmul : dMul (.int 2) (.int (i : Int)) = some (.int (2 * (i : Int))) := dMul_l (by decide) (by decide)
    simp -implicitDefEqProofs [mLcF, c_law_1, hmul, h3, hd]
  rw [rngD_len] at hx01
  obtain ⟨r0, s0⟩ := rowOf x0 hx01 hx02
  refine seq_go (δ' := [v (.list (iL ns)), v (.list (iL ds)), v (.list (ts.map (·.1))), v (.int m), some (.own [.list (aL x0)]), none, none, none, none, none, none, none, none, none]) (by
    simp -implicitDefEqProofs only [nAsgO_e, mCons_e, mNil_e, mLst_e, mLcI_e, mRng1_e, mVar_s, mVar_0, Option.bind_some, hr, if_pos hcap, wipeD_cons, wipeD_nil, List.set_cons_succ, List.set_cons_zero, hx03, Option.map_some]) ?_
  obtain ⟨x1, hx11, hx12, hx13⟩ := colO_map (f := mLcF (gmName 12) mYes c_law_2 [v (.list (iL ns)), v (.list (iL ds)), v (.list (ts.map (·.1))), v (.int m), some (.own [.list (aL x0)]), none, none, none, none, none, none, none, none, none]) (fun _ a => amS a) eA (rngD 0 m) 0 fun i d hi => by
    obtain ⟨rfl, hi4⟩ := rngD_get hi
    obtain ⟨es, h1, h2, h3⟩ := sublist_ok hl hb (a := 116 + 2 * (i : Int)) (b := 118 + 2 * (i : Int)) (by omega) (by omega) (by omega)
    obtain ⟨o, ho, hd⟩ := amount_ok es (by omega) h2
    refine ⟨o, ho, ?_⟩
    have hmul : dMul (.int 2) (.int (i : Int)) = some (.int (2 * (i : Int))) := dMul_l (by decide) (by decide)
    simp -implicitDefEqProofs [mLcF, c_law_2, hmul, h3, hd]
  rw [rngD_len] at hx11
  obtain ⟨r1, s1⟩ := rowOf x1 hx11 hx12
  have cap1 : ([PyData.list (aL x0)]).length ≤ cap := by show 1 ≤ cap; decide
  have cap2 : ([PyData.list (aL x0), .list (aL x1)]).length ≤ cap := by show 2 ≤ cap; decide
  refine seq_go (δ' := [v (.list (iL ns)), v (.list (iL ds)), v (.list (ts.map (·.1))), v (.int m), some (.own [.list (aL x0), .list (aL x1)]), none, none, none, none, none, none, none, none, none]) (by
    simp -implicitDefEqProofs only [nApp_e, mLst_e, mLcI_e, mRng1_e, mCons_e, mNil_e, mVar_s, mVar_0, Option.bind_some, hr, if_pos hcap, wipeD_cons, wipeD_nil, List.set_cons_succ, List.set_cons_zero, hx13, Option.map_some, List.getElem?_cons_succ, List.getElem?_cons_zero, gApp_o cap1]
    rfl) ?_
  -- a solution
  have S := is_sheet htl hts
  have hsol : ∃ x2 : LA, Row m x2 ∧ vals ts (fun t => t.2.F) x2 = x2 ∧ (∀ a ∈ x2, finLe 1000 a) ∧ nApp 4 (m2 dIx (mLst (mCons (mCallF (mCons (mVar 2) mNil) f__law_least) (mCons (mCallF (mCons (mVar 2) mNil) f__law_greatest) mNil))) (m2 dMod (mCall (mCons (m2 dIx (mVar 1) (mC (.int 135))) mNil) dInt) (mC (.int 2))))
      [v (.list (iL ns)), v (.list (iL ds)), v (.list (ts.map (·.1))), v (.int m), some (.own [.list (aL x0), .list (aL x1)]), none, none, none, none, none, none, none, none, none] = some (.nx [v (.list (iL ns)), v (.list (iL ds)), v (.list (ts.map (·.1))), v (.int m), some (.own [.list (aL x0), .list (aL x1), .list (aL x2)]), none, none, none, none, none, none, none, none, none]) := by
    have k1 := least_ok htl (by omega) hts
    have k2 := greatest_ok htl (by omega) hts
    obtain ⟨t1, t2, t3, _⟩ := least_settles S (B := 60 + 60 * (m : Int)) (n := 20000) (by omega) (by
      have e : (60 + 60 * (m : Int)).toNat = 60 + 60 * m := by omega
      rw [e]
      exact Nat.le_trans (Nat.mul_le_mul hm1 (by omega : 60 + 60 * m + 1 ≤ 481)) (by omega))
    obtain ⟨g1, g2, g3, _⟩ := greatest_settles S (n := 20000) (by
      have e : ((11 : Int) + 7 * (m : Int) + 1).toNat = 12 + 7 * m := by omega
      rw [e]
      exact Nat.le_trans (Nat.mul_le_mul hm1 (by omega : 12 + 7 * m ≤ 61)) (by omega))
    obtain ⟨p, _, _, hp⟩ := at_dr hl hb (i := 135) (by decide)
    have hp' : atI (iL ds) 135 = some (.int p) := hp
    generalize settle (valsB (60 + 60 * (m : Int)) ts (fun t => t.2.F)) 20000 (List.replicate m (some 0)) = xl at k1 t1 t2 t3
    generalize settle (vals ts (fun t => t.2.F)) 20000 (List.replicate m none) = xg at k2 g1 g2 g3
    have q0 : 0 ≤ p % 2 := Int.emod_nonneg _ (by decide)
    have q1 : p % 2 < 2 := Int.emod_lt_of_pos _ (by decide)
    by_cases hc : p % 2 = 0
    · refine ⟨xl, t1, t2, fun a ha => (t3 a ha).mono (by omega), ?_⟩
      simp -implicitDefEqProofs only [nApp_e, m2_e, mLst_e, mCons_e, mNil_e, mCallF_e, mCall_e, mC_e, mVar_s, mVar_0, Option.bind_some, Option.map_some, k1, k2, data_val, dIx_l, hp', dInt_i, dMod_i (show (0 : Int) < 2 by decide), hc, atI_zero, List.getElem?_cons_succ, List.getElem?_cons_zero, gApp_o cap2, List.set_cons_succ, List.set_cons_zero]
      rfl
    · have hc' : p % 2 = 1 := by omega
      have hat : atI [PyData.list (aL xl), .list (aL xg)] 1 = some (.list (aL xg)) := atI_nat (j := 1) rfl
      refine ⟨xg, g1, g2, fun a ha => (g3 a ha).mono (by omega), ?_⟩
      simp -implicitDefEqProofs only [nApp_e, m2_e, mLst_e, mCons_e, mNil_e, mCallF_e, mCall_e, mC_e, mVar_s, mVar_0, Option.bind_some, Option.map_some, k1, k2, data_val, dIx_l, hp', dInt_i, dMod_i (show (0 : Int) < 2 by decide), hc', hat, List.getElem?_cons_succ, List.getElem?_cons_zero, gApp_o cap2, List.set_cons_succ, List.set_cons_zero]
      rfl
  obtain ⟨x2, r2, e2, s2, hst⟩ := hsol
  refine seq_go hst ?_
  clear hst
  rw [nFrz_e, frz_e (ds := [.list (aL x0), .list (aL x1), .list (aL x2)]) rfl]
  show nSeq _ _ [v (.list (iL ns)), v (.list (iL ds)), v (.list (ts.map (·.1))), v (.int m), v (.list [.list (aL x0), .list (aL x1), .list (aL x2)]), none, none, none, none, none, none, none, none, none] = _
  -- kept
  have hrep : dRepr [.tuple [.list (ts.map (·.1)), .list [.list (aL x0), .list (aL x1), .list (aL x2)]]] = some (.str (PyData.tuple [.list (ts.map (·.1)), .list [.list (aL x0), .list (aL x1), .list (aL x2)]]).shown) := by
    have h1 := shw_list (shw_all (ds := ts.map (·.1)) (dep := 8) (n := 2000) fun d hd => by
      obtain ⟨t, ht, rfl⟩ := List.mem_map.mp hd
      exact (hts t ht).shw)
    rw [List.length_map, htl] at h1
    have h2 := shw_list (shw_cons (shw_row s0 (by omega)) (shw_cons (shw_row s1 (by omega)) (shw_cons (shw_row (fun a ha => ⟨r2.nn a ha, s2 a ha⟩) (by rw [r2.len]; omega)) shw_nil)))
    have h3 := shw_tup (shw_cons (h1.mono (Nat.le_refl 9) (show (2000 + 2) * m + 2 ≤ 20000 by omega)) (shw_cons (h2.mono (show 1 + 1 ≤ 9 by decide) (Nat.le_refl _)) shw_nil))
    have ok := h3.ok (by decide) (by decide)
    show (if reprOk _ = true then _ else none) = _
    rw [if_pos ok]
  refine seq_go (δ' := [v (.list (iL ns)), v (.list (iL ds)), v (.list (ts.map (·.1))), v (.int m), v (.list [.list (aL x0), .list (aL x1), .list (aL x2)]), v (.str (PyData.tuple [.list (ts.map (·.1)), .list [.list (aL x0), .list (aL x1), .list (aL x2)]]).shown), none, none, none, none, none, none, none, none]) (by
    simp -implicitDefEqProofs only [nAsg_e, mCall_e, mCons_e, mNil_e, mTup_e, mVar_s, mVar_0, Option.bind_some, Option.map_some, hrep, List.set_cons_succ, List.set_cons_zero]) ?_
  generalize hk : (PyData.tuple [.list (ts.map (·.1)), .list [.list (aL x0), .list (aL x1), .list (aL x2)]]).shown = kept at hrep ⊢
  -- the lists
  obtain ⟨δ', hloop, a6, a7, a8, a9, rfl⟩ := mForL_fold (gm := gmName 6) (b := b_law_1) (fun x : LA => PyData.list (aL x)) (fun (s : Unit) _ => s) (fun _ δ => ∃ a6 a7 a8 a9, δ = [v (.list (iL ns)), v (.list (iL ds)), v (.list (ts.map (·.1))), v (.int m), v (.list [.list (aL x0), .list (aL x1), .list (aL x2)]), v (.str kept), a6, a7, a8, a9, none, none, none, none]) [x0, x1, x2] ()
    [v (.list (iL ns)), v (.list (iL ds)), v (.list (ts.map (·.1))), v (.int m), v (.list [.list (aL x0), .list (aL x1), .list (aL x2)]), v (.str kept), none, none, none, none, none, none, none, none] ⟨_, _, _, _, rfl⟩ fun x hx _ δ hs => by
      obtain ⟨a6, a7, a8, a9, rfl⟩ := hs
      have rx : Row m x := by
        rcases List.mem_cons.mp hx with rfl | hx
        · exact r0
        · rcases List.mem_cons.mp hx with rfl | hx
          · exact r1
          · rw [List.mem_singleton.mp hx]
            exact r2
      obtain ⟨b7, b8, b9, e⟩ := turn1 htl (by omega) hts rx (v (.list (iL ns))) (v (.list (iL ds))) (v (.list [.list (aL x0), .list (aL x1), .list (aL x2)])) (v (.str kept)) a7 a8 a9 none none none none
      exact ⟨_, rfl, _, e, _, _, _, _, rfl⟩
  have hloop' : mForL (gmName 6) b_law_1 [.list (aL x0), .list (aL x1), .list (aL x2)] [v (.list (iL ns)), v (.list (iL ds)), v (.list (ts.map (·.1))), v (.int m), v (.list [.list (aL x0), .list (aL x1), .list (aL x2)]), v (.str kept), none, none, none, none, none, none, none, none] = some (.nx [v (.list (iL ns)), v (.list (iL ds)), v (.list (ts.map (·.1))), v (.int m), v (.list [.list (aL x0), .list (aL x1), .list (aL x2)]), v (.str kept), a6, a7, a8, a9, none, none, none, none]) := hloop
  refine seq_go (δ' := [v (.list (iL ns)), v (.list (iL ds)), v (.list (ts.map (·.1))), v (.int m), v (.list [.list (aL x0), .list (aL x1), .list (aL x2)]), v (.str kept), a6, a7, a8, a9, none, none, none, none]) (by
    simp -implicitDefEqProofs only [nFor_e, mItems_e, mVar_s, mVar_0, gItems_some, Option.bind_some, hloop']) ?_
  -- the formulas
  obtain ⟨δ', hloop2, b8, b10, b11, rfl⟩ := mForL_fold (gm := gmName 10) (b := b_law_2) (fun t : D × Info => t.1) (fun (s : Unit) _ => s) (fun _ δ => ∃ b8 b10 b11, δ = [v (.list (iL ns)), v (.list (iL ds)), v (.list (ts.map (·.1))), v (.int m), v (.list [.list (aL x0), .list (aL x1), .list (aL x2)]), v (.str kept), a6, a7, b8, a9, b10, b11, none, none]) ts ()
    [v (.list (iL ns)), v (.list (iL ds)), v (.list (ts.map (·.1))), v (.int m), v (.list [.list (aL x0), .list (aL x1), .list (aL x2)]), v (.str kept), a6, a7, a8, a9, none, none, none, none] ⟨_, _, _, rfl⟩ fun t ht _ δ hs => by
      obtain ⟨b8, b10, b11, rfl⟩ := hs
      obtain ⟨c8, c11, e⟩ := turn2 (m := m) (by omega) (hts t ht) (v (.list (iL ns))) (v (.list (iL ds))) (v (.list (ts.map (·.1)))) (v (.list [.list (aL x0), .list (aL x1), .list (aL x2)])) (v (.str kept)) a6 a7 b8 a9 b11 none none
      exact ⟨_, rfl, _, e, _, _, _, rfl⟩
  refine seq_go (δ' := [v (.list (iL ns)), v (.list (iL ds)), v (.list (ts.map (·.1))), v (.int m), v (.list [.list (aL x0), .list (aL x1), .list (aL x2)]), v (.str kept), a6, a7, b8, a9, b10, b11, none, none]) (by
    simp -implicitDefEqProofs only [nFor_e, mItems_e, mVar_s, mVar_0, gItems_some, Option.bind_some, hloop2]) ?_
  have hsolv := solution_ok htl (by omega) hts r2
  rw [decide_eq_true e2] at hsolv
  have hat : atI [PyData.list (aL x0), .list (aL x1), .list (aL x2)] 2 = some (.list (aL x2)) := atI_nat (j := 2) rfl
  simp -implicitDefEqProofs only [nRet_e, mAndV_e, mB_e, m2_e, mCallF_e, mCall_e, mCons_e, mNil_e, mTup_e, mC_e, mVar_s, mVar_0, Option.bind_some, Option.map_some, dIx_l, hat, hsolv, data_val, dIs_b, decide_true, toB_some, if_true, hrep, dEq_str]
end Law
namespace Law
open PySem PySem.Spec PyProof.Rows L2 Dl
def topS (i : Nat) : Stmt := PySem.Challenge.pw_circlesettle_k03_values.main.body.getD i (.Pass ⟨0, 0, 0, 0⟩)
section
variable {Pg : Program} {w : World} {K : PySem.W.Frag} {mg : Str → Option Value} {base : Heap}
abbrev s__law_draws : Stmt := topS 13
theorem sc__law_draws : FnScope N__law_draws ["script", "count"] (defScope s__law_draws) := ⟨rfl, rfl, rfl, by decide +kernel, rfl, by decide +kernel, by decide +kernel⟩
theorem ok__law_draws {f : Addr} {fd : FuncData} (T : Tx K mg "_law_draws" s__law_draws ["script", "count"] f fd) (b_int : mg "int" = none) (b_len : mg "len" = none) (b_range : mg "range" = none) : Df Pg w K mg base 1 "_law_draws" ["script", "count"] f__law_draws :=
  Tx.df (P := Pg) (w := w) (base := base) (k := 0) (mm := m__law_draws) T sc__law_draws fun cdv A outer s H E hr => ⟨_, (pss_cons (ps_setLc (i := 2) rfl sc__law_draws.nd rfl rfl (sw_true rfl rfl rfl (by decide +kernel)) (own := [("cell", 8)]) (pi_list (pv 0)) (blkOk_by (own := [("cell", 8)]) (N := N__law_draws) (sc := defScope s__law_draws) (by decide +kernel)) (fun _ _ _ _ _ => (pg_name (i := 8) sc__law_draws.nd rfl (Or.inl rfl))) (fun _ _ _ _ _ => pts_nil) (fun _ _ _ _ _ => (pv 8)))
      (pss_cons (ps_set (i := 3) sc__law_draws.nd rfl (Or.inl rfl) (pe_lst pa_nil))
      (pss_cons (ps_for PassesOwn.never rfl (pi_range1 rfl b_range (pa_cons (pv 1) pa_nil)) (pg_name (i := 4) sc__law_draws.nd rfl (Or.inl rfl)) (pss_cons (ps_set (i := 5) sc__law_draws.nd rfl (Or.inl rfl) pe_int)
      (pss_cons (ps_if (pt_cmpR op_gt (pe_callB call_len (by rfl) b_len (by decide +kernel) (pa_cons (pv 2) pa_nil)) pe_int (nomark _)) (pss_cons (ps_set (i := 6) sc__law_draws.nd rfl (Or.inl rfl) (pe_op op_mod (pe_callTy call_int1 (by rfl) b_int (by decide +kernel) (pa_cons (pv 4) pa_nil)) (pe_callB call_len (by rfl) b_len (by decide +kernel) (pa_cons (pv 2) pa_nil))))
      (pss_one (ps_if (pt_cmpR op_ge (pe_ix ix_seq (pv 2) (pv 6) (fun _ _ => rfl)) (pe_op op_pow pe_int pe_int) (nomark _)) (pss_cons (ps_set (i := 5) sc__law_draws.nd rfl (Or.inl rfl) (pe_op op_mod (pe_callTy call_int1 (by rfl) b_int (by decide +kernel) (pa_cons (pe_ix ix_seq (pv 2) (pv 6) (fun _ _ => rfl)) pa_nil)) pe_int))
      (pss_one (ps_asg (pe_op op_fdiv (pe_ix ix_seq (pv 2) (pv 6) (fun _ _ => rfl)) pe_int) (pg_sub (pv 2) (pv 6) set_list)))) (pss_cons (ps_set (i := 7) sc__law_draws.nd rfl (Or.inl rfl) (pe_op op_mod (pe_callTy call_int1 (by rfl) b_int (by decide +kernel) (pa_cons (pe_op op_addU (pe_op op_addU (pe_op op_mul (pe_ix ix_seq (pv 2) (pv 6) (fun _ _ => rfl)) pe_int) (pe_op op_mul (pv 4) pe_int)) pe_int) pa_nil)) pe_int))
      (pss_cons (ps_set (i := 7) sc__law_draws.nd rfl (Or.inl rfl) (pe_op op_mod (pe_callTy call_int1 (by rfl) b_int (by decide +kernel) (pa_cons (pe_op op_addU (pe_op op_mul (pv 7) pe_int) (pv 6)) pa_nil)) pe_int))
      (pss_one (ps_set (i := 5) sc__law_draws.nd rfl (Or.inl rfl) (pe_op op_mod (pe_callTy call_int1 (by rfl) b_int (by decide +kernel) (pa_cons (pe_op op_fdiv (pv 7) pe_int) pa_nil)) pe_int)))))))) pss_nil)
      (pss_one (ps_expr (pe_bm PySem.F.plainAttrs_list PySem.F.slot_list_append PySem.F.type_list_append mt_append (pv 3) (pa_cons (pv 5) pa_nil)))))))
      (pss_one (ps_ret (pv 3)))))),
    (sd_seq (sd_asgO (eo_lcI (vs := [8]) (ei_list ev_var) eg_name et_yes ev_var))
      (sd_seq (sd_asgO (eo_lst ea_nil))
      (sd_seq (sd_for (ei_rng1 (ea_cons ev_var ea_nil)) eg_name (sd_seq (sd_asg ev_int)
      (sd_seq (sd_if (EvT.bor (et_test (ev_op (ev_cb (ea_cons ev_var ea_nil) cd_len) ev_int od_gt))) (sd_seq (sd_asg (Ev.bor (ev_op (ev_cb (ea_cons ev_var ea_nil) cd_int) (ev_cb (ea_cons ev_var ea_nil) cd_len) od_mod)))
      (sd_if (EvT.bor (et_test (ev_op (ev_op ev_var ev_var od_ix) (ev_op ev_int ev_int od_pow) od_ge))) (sd_seq (sd_asg (Ev.bor (ev_op (ev_cb (ea_cons (ev_op ev_var ev_var od_ix) ea_nil) cd_int) ev_int od_mod)))
      (sd_setI (Ev.bor (ev_op (ev_op ev_var ev_var od_ix) ev_int od_div)) ev_var)) (sd_seq (sd_asg (Ev.bor (ev_op (ev_cb (ea_cons (ev_op (ev_op (ev_op (ev_op ev_var ev_var od_ix) ev_int od_mul) (ev_op ev_var ev_int od_mul) od_add) ev_int od_add) ea_nil) cd_int) ev_int od_mod)))
      (sd_seq (sd_asg (ev_op (ev_cb (ea_cons (ev_op (ev_op ev_var ev_int od_mul) ev_var od_add) ea_nil) cd_int) ev_int od_mod))
      (sd_asg (ev_op (ev_cb (ea_cons (ev_op ev_var ev_int od_div) ea_nil) cd_int) ev_int od_mod)))))) sd_next)
      (sd_app ev_var))))
      sd_retX)))⟩
abbrev s__law_amount : Stmt := topS 15
theorem sc__law_amount : FnScope N__law_amount ["draws"] (defScope s__law_amount) := ⟨rfl, rfl, rfl, by decide +kernel, rfl, by decide +kernel, by decide +kernel⟩
theorem ok__law_amount {f : Addr} {fd : FuncData} (T : Tx K mg "_law_amount" s__law_amount ["draws"] f fd) (b_int : mg "int" = none) : Df Pg w K mg base 1 "_law_amount" ["draws"] f__law_amount :=
  Tx.df (P := Pg) (w := w) (base := base) (k := 0) (mm := m__law_amount) T sc__law_amount fun cdv A outer s H E hr => ⟨_, (pss_cons (ps_if (pt_cmpR (op_eqU hr.units) (pe_op op_mod (pe_callTy call_int1 (by rfl) b_int (by decide +kernel) (pa_cons (pe_ix ix_seq (pv 0) pe_int (fun _ _ => rfl)) pa_nil)) pe_int) pe_int (nomark _)) (pss_one (ps_ret pe_non)) pss_nil)
      (pss_one (ps_ret (pe_op op_mod (pe_callTy call_int1 (by rfl) b_int (by decide +kernel) (pa_cons (pe_ix ix_seq (pv 0) pe_int (fun _ _ => rfl)) pa_nil)) pe_int)))),
    (sd_seq (sd_if (et_test (ev_op (ev_op (ev_cb (ea_cons (ev_op ev_var ev_int od_ix) ea_nil) cd_int) ev_int od_mod) ev_int od_eq)) (sd_ret ev_non) sd_next)
      (sd_ret (ev_op (ev_cb (ea_cons (ev_op ev_var ev_int od_ix) ea_nil) cd_int) ev_int od_mod)))⟩
abbrev s__law_leaf : Stmt := topS 16
theorem sc__law_leaf : FnScope N__law_leaf ["draws", "many"] (defScope s__law_leaf) := ⟨rfl, rfl, rfl, by decide +kernel, rfl, by decide +kernel, by decide +kernel⟩
theorem ok__law_leaf {f : Addr} {fd : FuncData} (T : Tx K mg "_law_leaf" s__law_leaf ["draws", "many"] f fd) (D__law_amount : Df Pg w K mg base 1 "_law_amount" ["draws"] f__law_amount) (b_int : mg "int" = none) : Df Pg w K mg base 2 "_law_leaf" ["draws", "many"] f__law_leaf :=
  Tx.df (P := Pg) (w := w) (base := base) (k := 1) (mm := m__law_leaf) T sc__law_leaf fun cdv A outer s H E hr => ⟨_, (pss_cons (ps_set (i := 2) sc__law_leaf.nd rfl (Or.inl rfl) (pe_op op_mod (pe_callTy call_int1 (by rfl) b_int (by decide +kernel) (pa_cons (pe_ix ix_seq (pv 0) pe_int (fun _ _ => rfl)) pa_nil)) pe_int))
      (pss_cons (ps_if (pt_cmpR (op_eqU hr.units) (pv 2) pe_int (nomark _)) (pss_one (ps_ret (pe_tup (pa_cons pe_str (pa_cons (pe_d D__law_amount (hr.mono (by omega)) (by rfl) (pa_cons (pe_slice sl_list (pv 0) (po_some pe_int) (po_some pe_int)) pa_nil)) pa_nil))))) pss_nil)
      (pss_cons (ps_if (pt_cmpR op_lt (pv 2) pe_int (nomark _)) (pss_one (ps_ret (pe_tup (pa_cons pe_str (pa_cons (pe_op op_mod (pe_callTy call_int1 (by rfl) b_int (by decide +kernel) (pa_cons (pe_ix ix_seq (pv 0) pe_int (fun _ _ => rfl)) pa_nil)) (pv 1)) pa_nil))))) pss_nil)
      (pss_one (ps_ret (pe_tup (pa_cons pe_str (pa_cons (pe_tup (pa_cons pe_str (pa_cons (pe_op op_mod (pe_callTy call_int1 (by rfl) b_int (by decide +kernel) (pa_cons (pe_ix ix_seq (pv 0) pe_int (fun _ _ => rfl)) pa_nil)) (pv 1)) pa_nil))) (pa_cons (pe_op op_sub (pe_op op_mod (pe_callTy call_int1 (by rfl) b_int (by decide +kernel) (pa_cons (pe_ix ix_seq (pv 0) pe_int (fun _ _ => rfl)) pa_nil)) pe_int) pe_int) pa_nil))))))))),
    (sd_seq (sd_asg (ev_op (ev_cb (ea_cons (ev_op ev_var ev_int od_ix) ea_nil) cd_int) ev_int od_mod))
      (sd_seq (sd_if (et_test (ev_op ev_var ev_int od_eq)) (sd_ret (ev_tup (ea_cons ev_str (ea_cons (ev_call (ea_cons (EvO.ev (eo_slL ev_var (ep_some ev_int) (ep_some ev_int))) ea_nil)) ea_nil)))) sd_next)
      (sd_seq (sd_if (et_test (ev_op ev_var ev_int od_lt)) (sd_ret (ev_tup (ea_cons ev_str (ea_cons (ev_op (ev_cb (ea_cons (ev_op ev_var ev_int od_ix) ea_nil) cd_int) ev_var od_mod) ea_nil)))) sd_next)
      (sd_ret (ev_tup (ea_cons ev_str (ea_cons (ev_tup (ea_cons ev_str (ea_cons (ev_op (ev_cb (ea_cons (ev_op ev_var ev_int od_ix) ea_nil) cd_int) ev_var od_mod) ea_nil))) (ea_cons (ev_op (ev_op (ev_cb (ea_cons (ev_op ev_var ev_int od_ix) ea_nil) cd_int) ev_int od_mod) ev_int od_sub) ea_nil))))))))⟩
abbrev s__law_formula : Stmt := topS 17
theorem sc__law_formula : FnScope N__law_formula ["draws", "many"] (defScope s__law_formula) := ⟨rfl, rfl, rfl, by decide +kernel, rfl, by decide +kernel, by decide +kernel⟩
theorem ok__law_formula {f : Addr} {fd : FuncData} (T : Tx K mg "_law_formula" s__law_formula ["draws", "many"] f fd) (D__law_leaf : Df Pg w K mg base 2 "_law_leaf" ["draws", "many"] f__law_leaf) (b_int : mg "int" = none) (b_range : mg "range" = none) : Df Pg w K mg base 3 "_law_formula" ["draws", "many"] f__law_formula :=
  Tx.df (P := Pg) (w := w) (base := base) (k := 2) (mm := m__law_formula) T sc__law_formula fun cdv A outer s H E hr => ⟨_, (pss_cons (ps_set (i := 2) sc__law_formula.nd rfl (Or.inl rfl) (pe_op op_mod (pe_callTy call_int1 (by rfl) b_int (by decide +kernel) (pa_cons (pe_ix ix_seq (pv 0) pe_int (fun _ _ => rfl)) pa_nil)) pe_int))
      (pss_cons (ps_setLc (i := 3) rfl sc__law_formula.nd rfl rfl (sw_true rfl rfl rfl (by decide +kernel)) (own := [("k", 4)]) (pi_range1 rfl b_range (pa_cons (pe_op op_addU pe_int (pe_op op_mod (pe_callTy call_int1 (by rfl) b_int (by decide +kernel) (pa_cons (pe_ix ix_seq (pv 0) pe_int (fun _ _ => rfl)) pa_nil)) pe_int)) pa_nil)) (blkOk_by (own := [("k", 4)]) (N := N__law_formula) (sc := defScope s__law_formula) (by decide +kernel)) (fun _ _ _ _ _ => (pg_name (i := 4) sc__law_formula.nd rfl (Or.inl rfl))) (fun _ _ _ _ _ => pts_nil) (fun _ _ _ _ _ => (pe_d D__law_leaf (hr.mono (by omega)) (by rfl) (pa_cons (pe_slice sl_list (pv 0) (po_some (pe_op op_addU pe_int (pe_op op_mul pe_int (pv 4)))) (po_some (pe_op op_addU pe_int (pe_op op_mul pe_int (pv 4))))) (pa_cons (pv 1) pa_nil)))))
      (pss_cons (ps_if (pt_cmpR op_lt (pv 2) pe_int (nomark _)) (pss_one (ps_ret (pe_ix ix_seq (pv 3) pe_int (fun _ _ => rfl)))) pss_nil)
      (pss_cons (ps_if (pt_cmpR op_lt (pv 2) pe_int (nomark _)) (pss_one (ps_ret (pe_tup (pa_cons (pe_ix ix_seq (pe_lst (pa_cons pe_str (pa_cons pe_str pa_nil))) (pe_op op_sub (pv 2) pe_int) (fun _ _ => rfl)) (pa_cons (pv 3) pa_nil))))) pss_nil)
      (pss_cons (ps_if (pt_cmpR (op_eqU hr.units) (pv 2) pe_int (nomark _)) (pss_one (ps_ret (pe_tup (pa_cons pe_str (pa_cons (pe_op op_mod (pe_callTy call_int1 (by rfl) b_int (by decide +kernel) (pa_cons (pe_ix ix_seq (pv 0) pe_int (fun _ _ => rfl)) pa_nil)) (pv 1)) (pa_cons (pe_op op_addU pe_int (pe_op op_mod (pe_callTy call_int1 (by rfl) b_int (by decide +kernel) (pa_cons (pe_ix ix_seq (pv 0) pe_int (fun _ _ => rfl)) pa_nil)) pe_int)) (pa_cons (pe_ix ix_seq (pv 3) pe_int (fun _ _ => rfl)) pa_nil))))))) pss_nil)
      (pss_cons (ps_if (pt_cmpR (op_eqU hr.units) (pv 2) pe_int (nomark _)) (pss_one (ps_ret (pe_tup (pa_cons pe_str (pa_cons (pe_tup (pa_cons pe_str (pa_cons (pv 3) pa_nil))) (pa_cons (pe_op op_sub (pe_op op_mod (pe_callTy call_int1 (by rfl) b_int (by decide +kernel) (pa_cons (pe_ix ix_seq (pv 0) pe_int (fun _ _ => rfl)) pa_nil)) pe_int) pe_int) pa_nil)))))) pss_nil)
      (pss_cons (ps_if (pt_cmpR (op_eqU hr.units) (pv 2) pe_int (nomark _)) (pss_one (ps_ret (pe_tup (pa_cons pe_str (pa_cons (pe_lst (pa_cons (pe_tup (pa_cons pe_str (pa_cons (pv 3) pa_nil))) (pa_cons (pe_d D__law_leaf (hr.mono (by omega)) (by rfl) (pa_cons (pe_slice sl_list (pv 0) (po_some pe_int) (po_some pe_int)) (pa_cons (pv 1) pa_nil))) pa_nil))) pa_nil))))) pss_nil)
      (pss_one (ps_ret (pe_tup (pa_cons pe_str (pa_cons (pe_lst (pa_cons (pe_tup (pa_cons pe_str (pa_cons (pv 3) pa_nil))) (pa_cons (pe_d D__law_leaf (hr.mono (by omega)) (by rfl) (pa_cons (pe_slice sl_list (pv 0) (po_some pe_int) (po_some pe_int)) (pa_cons (pv 1) pa_nil))) pa_nil))) pa_nil)))))))))))),
    (sd_seq (sd_asg (ev_op (ev_cb (ea_cons (ev_op ev_var ev_int od_ix) ea_nil) cd_int) ev_int od_mod))
      (sd_seq (sd_asg (EvO.ev (eo_lcI (vs := [4]) (ei_rng1 (ea_cons (ev_op ev_int (ev_op (ev_cb (ea_cons (ev_op ev_var ev_int od_ix) ea_nil) cd_int) ev_int od_mod) od_add) ea_nil)) eg_name et_yes (ev_call (ea_cons (EvO.ev (eo_slL ev_var (ep_some (ev_op ev_int (ev_op ev_int ev_var od_mul) od_add)) (ep_some (ev_op ev_int (ev_op ev_int ev_var od_mul) od_add)))) (ea_cons ev_var ea_nil))))))
      (sd_seq (sd_if (et_test (ev_op ev_var ev_int od_lt)) (sd_ret (ev_op ev_var ev_int od_ix)) sd_next)
      (sd_seq (sd_if (et_test (ev_op ev_var ev_int od_lt)) (sd_ret (ev_tup (ea_cons (ev_op (EvO.ev (eo_lst (ea_cons ev_str (ea_cons ev_str ea_nil)))) (ev_op ev_var ev_int od_sub) od_ix) (ea_cons ev_var ea_nil)))) sd_next)
      (sd_seq (sd_if (et_test (ev_op ev_var ev_int od_eq)) (sd_ret (ev_tup (ea_cons ev_str (ea_cons (ev_op (ev_cb (ea_cons (ev_op ev_var ev_int od_ix) ea_nil) cd_int) ev_var od_mod) (ea_cons (ev_op ev_int (ev_op (ev_cb (ea_cons (ev_op ev_var ev_int od_ix) ea_nil) cd_int) ev_int od_mod) od_add) (ea_cons (ev_op ev_var ev_int od_ix) ea_nil)))))) sd_next)
      (sd_seq (sd_if (et_test (ev_op ev_var ev_int od_eq)) (sd_ret (ev_tup (ea_cons ev_str (ea_cons (ev_tup (ea_cons ev_str (ea_cons ev_var ea_nil))) (ea_cons (ev_op (ev_op (ev_cb (ea_cons (ev_op ev_var ev_int od_ix) ea_nil) cd_int) ev_int od_mod) ev_int od_sub) ea_nil))))) sd_next)
      (sd_seq (sd_if (et_test (ev_op ev_var ev_int od_eq)) (sd_ret (ev_tup (ea_cons ev_str (ea_cons (EvO.ev (eo_lst (ea_cons (ev_tup (ea_cons ev_str (ea_cons ev_var ea_nil))) (ea_cons (ev_call (ea_cons (EvO.ev (eo_slL ev_var (ep_some ev_int) (ep_some ev_int))) (ea_cons ev_var ea_nil))) ea_nil)))) ea_nil)))) sd_next)
      (sd_ret (ev_tup (ea_cons ev_str (ea_cons (EvO.ev (eo_lst (ea_cons (ev_tup (ea_cons ev_str (ea_cons ev_var ea_nil))) (ea_cons (ev_call (ea_cons (EvO.ev (eo_slL ev_var (ep_some ev_int) (ep_some ev_int))) (ea_cons ev_var ea_nil))) ea_nil)))) ea_nil)))))))))))⟩
abbrev s__law_sheet : Stmt := topS 18
theorem sc__law_sheet : FnScope N__law_sheet ["draws", "most"] (defScope s__law_sheet) := ⟨rfl, rfl, rfl, by decide +kernel, rfl, by decide +kernel, by decide +kernel⟩
theorem ok__law_sheet {f : Addr} {fd : FuncData} (T : Tx K mg "_law_sheet" s__law_sheet ["draws", "most"] f fd) (D__law_formula : Df Pg w K mg base 3 "_law_formula" ["draws", "many"] f__law_formula) (b_int : mg "int" = none) (b_range : mg "range" = none) : Df Pg w K mg base 4 "_law_sheet" ["draws", "most"] f__law_sheet :=
  Tx.df (P := Pg) (w := w) (base := base) (k := 3) (mm := m__law_sheet) T sc__law_sheet fun cdv A outer s H E hr => ⟨_, (pss_cons (ps_set (i := 2) sc__law_sheet.nd rfl (Or.inr rfl) (pe_op op_addU pe_int (pe_op op_mod (pe_callTy call_int1 (by rfl) b_int (by decide +kernel) (pa_cons (pe_ix ix_seq (pv 0) pe_int (fun _ _ => rfl)) pa_nil)) (pv 1))))
      (pss_one (ps_ret (pe_lc (own := [("k", 3)]) rfl sc__law_sheet.nd (pi_range1 rfl b_range (pa_cons (pv 2) pa_nil)) (blkOk_by (own := [("k", 3)]) (N := N__law_sheet) (sc := defScope s__law_sheet) (by decide +kernel)) (fun _ _ _ _ _ => (pg_name (i := 3) sc__law_sheet.nd rfl (Or.inl rfl))) (fun _ _ _ _ _ => pts_nil) (fun _ _ _ _ _ => (pe_d D__law_formula (hr.mono (by omega)) (by rfl) (pa_cons (pe_slice sl_list (pv 0) (po_some (pe_op op_addU pe_int (pe_op op_mul pe_int (pv 3)))) (po_some (pe_op op_addU pe_int (pe_op op_mul pe_int (pv 3))))) (pa_cons (pv 2) pa_nil)))))))),
    (sd_seq (sd_asg (ev_op ev_int (ev_op (ev_cb (ea_cons (ev_op ev_var ev_int od_ix) ea_nil) cd_int) ev_var od_mod) od_add))
      (sd_retO (eo_lcI (vs := [3]) (ei_rng1 (ea_cons ev_var ea_nil)) eg_name et_yes (ev_call (ea_cons (EvO.ev (eo_slL ev_var (ep_some (ev_op ev_int (ev_op ev_int ev_var od_mul) od_add)) (ep_some (ev_op ev_int (ev_op ev_int ev_var od_mul) od_add)))) (ea_cons ev_var ea_nil))))))⟩
abbrev s__law_wide : Stmt := topS 29
theorem sc__law_wide : FnScope N__law_wide ["draws", "many"] (defScope s__law_wide) := ⟨rfl, rfl, rfl, by decide +kernel, rfl, by decide +kernel, by decide +kernel⟩
theorem ok__law_wide {f : Addr} {fd : FuncData} (T : Tx K mg "_law_wide" s__law_wide ["draws", "many"] f fd) (D__law_leaf : Df Pg w K mg base 2 "_law_leaf" ["draws", "many"] f__law_leaf) (b_int : mg "int" = none) (b_range : mg "range" = none) : Df Pg w K mg base 3 "_law_wide" ["draws", "many"] f__law_wide :=
  Tx.df (P := Pg) (w := w) (base := base) (k := 2) (mm := m__law_wide) T sc__law_wide fun cdv A outer s H E hr => ⟨_, (pss_cons (ps_set (i := 2) sc__law_wide.nd rfl (Or.inl rfl) (pe_lst pa_nil))
      (pss_cons (ps_for PassesOwn.never rfl (pi_range1 rfl b_range (pa_cons (pe_op op_addU pe_int (pe_op op_mod (pe_callTy call_int1 (by rfl) b_int (by decide +kernel) (pa_cons (pe_ix ix_seq (pv 0) pe_int (fun _ _ => rfl)) pa_nil)) pe_int)) pa_nil)) (pg_name (i := 3) sc__law_wide.nd rfl (Or.inl rfl)) (pss_cons (ps_set (i := 4) sc__law_wide.nd rfl (Or.inl rfl) (pe_d D__law_leaf (hr.mono (by omega)) (by rfl) (pa_cons (pe_slice sl_list (pv 0) (po_some (pe_op op_addU pe_int (pe_op op_mul pe_int (pv 3)))) (po_some (pe_op op_addU pe_int (pe_op op_mul pe_int (pv 3))))) (pa_cons (pv 1) pa_nil))))
      (pss_cons (ps_if (pt_cmpR (op_eqU hr.units) (pe_op op_mod (pe_callTy call_int1 (by rfl) b_int (by decide +kernel) (pa_cons (pe_ix ix_seq (pv 0) (pe_op op_addU pe_int (pe_op op_mul pe_int (pv 3))) (fun _ _ => rfl)) pa_nil)) pe_int) pe_int (nomark _)) (pss_one (ps_set (i := 4) sc__law_wide.nd rfl (Or.inl rfl) (pe_tup (pa_cons pe_str (pa_cons (pe_op op_mod (pe_callTy call_int1 (by rfl) b_int (by decide +kernel) (pa_cons (pe_op op_fdiv (pe_ix ix_seq (pv 0) (pe_op op_addU pe_int (pe_op op_mul pe_int (pv 3))) (fun _ _ => rfl)) pe_int) pa_nil)) (pv 1)) (pa_cons (pe_op op_addU pe_int (pe_op op_mod (pe_callTy call_int1 (by rfl) b_int (by decide +kernel) (pa_cons (pe_ix ix_seq (pv 0) (pe_op op_addU pe_int (pe_op op_mul pe_int (pv 3))) (fun _ _ => rfl)) pa_nil)) pe_int)) (pa_cons (pv 4) pa_nil))))))) pss_nil)
      (pss_one (ps_expr (pe_bm PySem.F.plainAttrs_list PySem.F.slot_list_append PySem.F.type_list_append mt_append (pv 2) (pa_cons (pv 4) pa_nil)))))))
      (pss_one (ps_ret (pe_tup (pa_cons (pe_ix ix_seq (pe_lst (pa_cons pe_str (pa_cons pe_str pa_nil))) (pe_op op_mod (pe_callTy call_int1 (by rfl) b_int (by decide +kernel) (pa_cons (pe_ix ix_seq (pv 0) pe_int (fun _ _ => rfl)) pa_nil)) pe_int) (fun _ _ => rfl)) (pa_cons (pv 2) pa_nil))))))),
    (sd_seq (sd_asgO (eo_lst ea_nil))
      (sd_seq (sd_for (ei_rng1 (ea_cons (ev_op ev_int (ev_op (ev_cb (ea_cons (ev_op ev_var ev_int od_ix) ea_nil) cd_int) ev_int od_mod) od_add) ea_nil)) eg_name (sd_seq (sd_asg (ev_call (ea_cons (EvO.ev (eo_slL ev_var (ep_some (ev_op ev_int (ev_op ev_int ev_var od_mul) od_add)) (ep_some (ev_op ev_int (ev_op ev_int ev_var od_mul) od_add)))) (ea_cons ev_var ea_nil))))
      (sd_seq (sd_if (et_test (ev_op (ev_op (ev_cb (ea_cons (ev_op ev_var (ev_op ev_int (ev_op ev_int ev_var od_mul) od_add) od_ix) ea_nil) cd_int) ev_int od_mod) ev_int od_eq)) (sd_asg (ev_tup (ea_cons ev_str (ea_cons (ev_op (ev_cb (ea_cons (ev_op (ev_op ev_var (ev_op ev_int (ev_op ev_int ev_var od_mul) od_add) od_ix) ev_int od_div) ea_nil) cd_int) ev_var od_mod) (ea_cons (ev_op ev_int (ev_op (ev_cb (ea_cons (ev_op ev_var (ev_op ev_int (ev_op ev_int ev_var od_mul) od_add) od_ix) ea_nil) cd_int) ev_int od_mod) od_add) (ea_cons ev_var ea_nil)))))) sd_next)
      (sd_app ev_var))))
      (sd_frz 2 (sd_ret (ev_tup (ea_cons (ev_op (EvO.ev (eo_lst (ea_cons ev_str (ea_cons ev_str ea_nil)))) (ev_op (ev_cb (ea_cons (ev_op ev_var ev_int od_ix) ea_nil) cd_int) ev_int od_mod) od_ix) (ea_cons ev_var ea_nil)))))))⟩
abbrev s_shifted : Stmt := topS 4
theorem sc_shifted : FnScope N_shifted ["a", "c"] (defScope s_shifted) := ⟨rfl, rfl, rfl, by decide +kernel, rfl, by decide +kernel, by decide +kernel⟩
theorem ok_shifted {f : Addr} {fd : FuncData} (T : Tx K mg "shifted" s_shifted ["a", "c"] f fd) (b_max : mg "max" = none) : Df Pg w K mg base 1 "shifted" ["a", "c"] f_shifted :=
  Tx.df (P := Pg) (w := w) (base := base) (k := 0) (mm := m_shifted) T sc_shifted fun cdv A outer s H E hr => ⟨_, (pss_cons (ps_if (pt_cmpR op_isU (pv 0) pe_non (nomark _)) (pss_one (ps_ret pe_non)) pss_nil)
      (pss_one (ps_ret (pe_callB (call_max2 rfl) (by rfl) b_max (by decide +kernel) (pa_cons (pe_op op_addU (pv 0) (pv 1)) (pa_cons pe_int pa_nil)))))),
    (sd_seq (sd_if (et_test (ev_op ev_var ev_non od_is)) (sd_ret ev_non) sd_next)
      (sd_ret (ev_cb (ea_cons (ev_op ev_var ev_var od_add) (ea_cons ev_int ea_nil)) cd_max2)))⟩
abbrev s_least_of : Stmt := topS 2
theorem sc_least_of : FnScope N_least_of ["amounts"] (defScope s_least_of) := ⟨rfl, rfl, rfl, by decide +kernel, rfl, by decide +kernel, by decide +kernel⟩
theorem ok_least_of {f : Addr} {fd : FuncData} (T : Tx K mg "least_of" s_least_of ["amounts"] f fd) (b_min : mg "min" = none) : Df Pg w K mg base 1 "least_of" ["amounts"] f_least_of :=
  Tx.df (P := Pg) (w := w) (base := base) (k := 0) (mm := m_least_of) T sc_least_of fun cdv A outer s H E hr => ⟨_, (pss_cons (ps_setLc (i := 1) rfl sc_least_of.nd rfl rfl (sw_true rfl rfl rfl (by decide +kernel)) (own := [("amount", 2)]) (pi_list (pv 0)) (blkOk_by (own := [("amount", 2)]) (N := N_least_of) (sc := defScope s_least_of) (by decide +kernel)) (fun _ _ _ _ _ => (pg_name (i := 2) sc_least_of.nd rfl (Or.inl rfl))) (fun _ _ _ _ _ => pts_one (pt_cmpR op_notU (pv 2) pe_non (nomark _))) (fun _ _ _ _ _ => (pv 2)))
      (pss_one (ps_ret (pe_callBK (cr_minDf hr) (by rfl) b_min (by decide +kernel) (pa_cons (pv 1) pa_nil) (pk_cons pe_non pk_nil))))),
    (sd_seq (sd_asg (EvO.ev (eo_lcI (vs := [2]) (ei_list ev_var) eg_name (et_test (ev_op ev_var ev_non od_isNot)) ev_var)))
      (sd_ret (ev_ckw (ea_cons ev_var ea_nil) (ea_cons ev_non ea_nil) ck_pick)))⟩
abbrev s_greatest_of : Stmt := topS 3
theorem sc_greatest_of : FnScope N_greatest_of ["amounts"] (defScope s_greatest_of) := ⟨rfl, rfl, rfl, by decide +kernel, rfl, by decide +kernel, by decide +kernel⟩
theorem ok_greatest_of {f : Addr} {fd : FuncData} (T : Tx K mg "greatest_of" s_greatest_of ["amounts"] f fd) (b_max : mg "max" = none) : Df Pg w K mg base 1 "greatest_of" ["amounts"] f_greatest_of :=
  Tx.df (P := Pg) (w := w) (base := base) (k := 0) (mm := m_greatest_of) T sc_greatest_of fun cdv A outer s H E hr => ⟨_, (pss_cons (ps_if (pt_cmpR op_in_seq pe_non (pv 0) (by rfl)) (pss_one (ps_ret pe_non)) pss_nil)
      (pss_one (ps_ret (pe_callBK (cr_maxDf hr) (by rfl) b_max (by decide +kernel) (pa_cons (pv 0) pa_nil) (pk_cons pe_int pk_nil))))),
    (sd_seq (sd_if (et_test (ev_op ev_non ev_var od_in)) (sd_ret ev_non) sd_next)
      (sd_ret (ev_ckw (ea_cons ev_var ea_nil) (ea_cons ev_int ea_nil) ck_pick)))⟩
abbrev s_at_most : Stmt := topS 1
theorem sc_at_most : FnScope N_at_most ["a", "b"] (defScope s_at_most) := ⟨rfl, rfl, rfl, by decide +kernel, rfl, by decide +kernel, by decide +kernel⟩
theorem ok_at_most {f : Addr} {fd : FuncData} (T : Tx K mg "at_most" s_at_most ["a", "b"] f fd) : Df Pg w K mg base 1 "at_most" ["a", "b"] f_at_most :=
  Tx.df (P := Pg) (w := w) (base := base) (k := 0) (mm := m_at_most) T sc_at_most fun cdv A outer s H E hr => ⟨_, (pss_cons (ps_if (pt_cmpR op_isU (pv 1) pe_non (nomark _)) (pss_one (ps_ret pe_bl)) pss_nil)
      (pss_one (ps_ret (pe_and (pe_cmpR op_notU (pv 0) pe_non (nomark _)) (pe_one (pe_cmpR op_le (pv 0) (pv 1) (nomark _))))))),
    (sd_seq (sd_if (et_test (ev_op ev_var ev_non od_is)) (sd_ret ev_bl) sd_next)
      (sd_ret (ev_and (ev_op ev_var ev_non od_isNot) (ev_op ev_var ev_var od_le))))⟩
abbrev s_value_of : Stmt := topS 9
theorem sc_value_of : FnScope N_value_of ["formula", "x"] (defScope s_value_of) := ⟨rfl, rfl, rfl, by decide +kernel, rfl, by decide +kernel, by decide +kernel⟩
theorem ok_value_of {f : Addr} {fd : FuncData} (T : Tx K mg "value_of" s_value_of ["formula", "x"] f fd) (D_at_most : Df Pg w K mg base 1 "at_most" ["a", "b"] f_at_most) (D_greatest_of : Df Pg w K mg base 1 "greatest_of" ["amounts"] f_greatest_of) (D_least_of : Df Pg w K mg base 1 "least_of" ["amounts"] f_least_of) (D_shifted : Df Pg w K mg base 1 "shifted" ["a", "c"] f_shifted) : ∀ n, Df Pg w K mg base (1 + n) "value_of" ["formula", "x"] (f_value_of n)
  | 0 => Tx.no T
  | n + 1 => by
    have D_value_of := ok_value_of T D_at_most D_greatest_of D_least_of D_shifted n
    exact Tx.df (P := Pg) (w := w) (base := base) (k := 1 + n) (mm := m_value_of (f_value_of n)) T sc_value_of fun cdv A outer s H E hr => ⟨_, (pss_cons (ps_set (i := 2) sc_value_of.nd rfl (Or.inl rfl) (pe_ix ix_seq (pv 0) pe_int (fun _ _ => rfl)))
      (pss_cons (ps_if (pt_cmpR (op_eqU hr.units) (pv 2) pe_str (nomark _)) (pss_one (ps_ret (pe_ix ix_seq (pv 0) pe_int (fun _ _ => rfl)))) pss_nil)
      (pss_cons (ps_if (pt_cmpR (op_eqU hr.units) (pv 2) pe_str (nomark _)) (pss_one (ps_ret (pe_ix ix_seq (pv 1) (pe_ix ix_seq (pv 0) pe_int (fun _ _ => rfl)) (fun _ _ => rfl)))) pss_nil)
      (pss_cons (ps_if (pt_cmpR (op_eqU hr.units) (pv 2) pe_str (nomark _)) (pss_one (ps_ret (pe_d D_shifted (hr.mono (by omega)) (by rfl) (pa_cons (pe_d D_value_of (hr.mono (by omega)) (by rfl) (pa_cons (pe_ix ix_seq (pv 0) pe_int (fun _ _ => rfl)) (pa_cons (pv 1) pa_nil))) (pa_cons (pe_ix ix_seq (pv 0) pe_int (fun _ _ => rfl)) pa_nil))))) pss_nil)
      (pss_cons (ps_if (pt_cmpR (op_eqU hr.units) (pv 2) pe_str (nomark _)) (pss_one (ps_ret (pe_ifExp (pt_val (pe_d D_at_most (hr.mono (by omega)) (by rfl) (pa_cons (pe_ix ix_seq (pv 0) pe_int (fun _ _ => rfl)) (pa_cons (pe_ix ix_seq (pv 1) (pe_ix ix_seq (pv 0) pe_int (fun _ _ => rfl)) (fun _ _ => rfl)) pa_nil)))) (pe_d D_value_of (hr.mono (by omega)) (by rfl) (pa_cons (pe_ix ix_seq (pv 0) pe_int (fun _ _ => rfl)) (pa_cons (pv 1) pa_nil))) pe_int))) pss_nil)
      (pss_cons (ps_setLc (i := 3) rfl sc_value_of.nd rfl rfl (sw_true rfl rfl rfl (by decide +kernel)) (own := [("inner", 4)]) (pi_list (pe_ix ix_seq (pv 0) pe_int (fun _ _ => rfl))) (blkOk_by (own := [("inner", 4)]) (N := N_value_of) (sc := defScope s_value_of) (by decide +kernel)) (fun _ _ _ _ _ => (pg_name (i := 4) sc_value_of.nd rfl (Or.inl rfl))) (fun _ _ _ _ _ => pts_nil) (fun _ _ _ _ _ => (pe_d D_value_of (hr.mono (by omega)) (by rfl) (pa_cons (pv 4) (pa_cons (pv 1) pa_nil)))))
      (pss_one (ps_ret (pe_ifExp (pt_cmpR (op_eqU hr.units) (pv 2) pe_str (nomark _)) (pe_d D_least_of (hr.mono (by omega)) (by rfl) (pa_cons (pv 3) pa_nil)) (pe_d D_greatest_of (hr.mono (by omega)) (by rfl) (pa_cons (pv 3) pa_nil))))))))))),
    (sd_seq (sd_asg (ev_op ev_var ev_int od_ix))
      (sd_seq (sd_if (et_test (ev_op ev_var ev_str od_eq)) (sd_ret (ev_op ev_var ev_int od_ix)) sd_next)
      (sd_seq (sd_if (et_test (ev_op ev_var ev_str od_eq)) (sd_ret (ev_op ev_var (ev_op ev_var ev_int od_ix) od_ix)) sd_next)
      (sd_seq (sd_if (et_test (ev_op ev_var ev_str od_eq)) (sd_retC (ea_cons (ev_call (ea_cons (ev_op ev_var ev_int od_ix) (ea_cons ev_var ea_nil))) (ea_cons (ev_op ev_var ev_int od_ix) ea_nil))) sd_next)
      (sd_seq (sd_if (et_test (ev_op ev_var ev_str od_eq)) (sd_ret (ev_if (et_B (ev_call (ea_cons (ev_op ev_var ev_int od_ix) (ea_cons (ev_op ev_var (ev_op ev_var ev_int od_ix) od_ix) ea_nil)))) (ev_call (ea_cons (ev_op ev_var ev_int od_ix) (ea_cons ev_var ea_nil))) ev_int)) sd_next)
      (sd_seq (sd_asg (EvO.ev (eo_lcI (vs := [4]) (ei_list (ev_op ev_var ev_int od_ix)) eg_name et_yes (ev_call (ea_cons ev_var (ea_cons ev_var ea_nil))))))
      (sd_ret (ev_if (et_test (ev_op ev_var ev_str od_eq)) (ev_call (ea_cons ev_var ea_nil)) (ev_call (ea_cons ev_var ea_nil))))))))))⟩
abbrev s_values_of : Stmt := topS 10
theorem sc_values_of : FnScope N_values_of ["sheet", "x"] (defScope s_values_of) := ⟨rfl, rfl, rfl, by decide +kernel, rfl, by decide +kernel, by decide +kernel⟩
theorem ok_values_of {f : Addr} {fd : FuncData} (T : Tx K mg "values_of" s_values_of ["sheet", "x"] f fd) (D_value_of : Df Pg w K mg base 9 "value_of" ["formula", "x"] (f_value_of 8)) : Df Pg w K mg base 10 "values_of" ["sheet", "x"] f_values_of :=
  Tx.df (P := Pg) (w := w) (base := base) (k := 9) (mm := m_values_of) T sc_values_of fun cdv A outer s H E hr => ⟨_, (pss_one (ps_ret (pe_lc (own := [("formula", 2)]) rfl sc_values_of.nd (pi_list (pv 0)) (blkOk_by (own := [("formula", 2)]) (N := N_values_of) (sc := defScope s_values_of) (by decide +kernel)) (fun _ _ _ _ _ => (pg_name (i := 2) sc_values_of.nd rfl (Or.inl rfl))) (fun _ _ _ _ _ => pts_nil) (fun _ _ _ _ _ => (pe_d D_value_of (hr.mono (by omega)) (by rfl) (pa_cons (pv 2) (pa_cons (pv 1) pa_nil))))))),
    (sd_retO (eo_lcI (vs := [2]) (ei_list ev_var) eg_name et_yes (ev_call (ea_cons ev_var (ea_cons ev_var ea_nil)))))⟩
abbrev s_is_solution : Stmt := topS 11
theorem sc_is_solution : FnScope N_is_solution ["sheet", "x"] (defScope s_is_solution) := ⟨rfl, rfl, rfl, by decide +kernel, rfl, by decide +kernel, by decide +kernel⟩
theorem ok_is_solution {f : Addr} {fd : FuncData} (T : Tx K mg "is_solution" s_is_solution ["sheet", "x"] f fd) (D_values_of : Df Pg w K mg base 10 "values_of" ["sheet", "x"] f_values_of) : Df Pg w K mg base 11 "is_solution" ["sheet", "x"] f_is_solution :=
  Tx.df (P := Pg) (w := w) (base := base) (k := 10) (mm := m_is_solution) T sc_is_solution fun cdv A outer s H E hr => ⟨_, (pss_one (ps_ret (pe_cmpR (op_eqU hr.units) (pe_d D_values_of (hr.mono (by omega)) (by rfl) (pa_cons (pv 0) (pa_cons (pv 1) pa_nil))) (pv 1) (nomark _)))),
    (sd_ret (ev_op (ev_call (ea_cons ev_var (ea_cons ev_var ea_nil))) ev_var od_eq))⟩
abbrev s__law_named : Stmt := topS 28
theorem sc__law_named : FnScope N__law_named ["formula"] (defScope s__law_named) := ⟨rfl, rfl, rfl, by decide +kernel, rfl, by decide +kernel, by decide +kernel⟩
theorem ok__law_named {f : Addr} {fd : FuncData} (T : Tx K mg "_law_named" s__law_named ["formula"] f fd) : ∀ n, Df Pg w K mg base (0 + n) "_law_named" ["formula"] (f__law_named n)
  | 0 => Tx.no T
  | n + 1 => by
    have D__law_named := ok__law_named T  n
    exact Tx.df (P := Pg) (w := w) (base := base) (k := 0 + n) (mm := m__law_named (f__law_named n)) T sc__law_named fun cdv A outer s H E hr => ⟨_, (pss_cons (ps_set (i := 1) sc__law_named.nd rfl (Or.inl rfl) (pe_ix ix_seq (pv 0) pe_int (fun _ _ => rfl)))
      (pss_cons (ps_if (pt_cmpR (op_eqU hr.units) (pv 1) pe_str (nomark _)) (pss_one (ps_ret (pe_lst (pa_cons (pe_ix ix_seq (pv 0) pe_int (fun _ _ => rfl)) pa_nil)))) pss_nil)
      (pss_cons (ps_if (pt_cmpR (op_eqU hr.units) (pv 1) pe_str (nomark _)) (pss_one (ps_ret (pe_d D__law_named (hr.mono (by omega)) (by rfl) (pa_cons (pe_ix ix_seq (pv 0) pe_int (fun _ _ => rfl)) pa_nil)))) pss_nil)
      (pss_cons (ps_if (pt_cmpR (op_eqU hr.units) (pv 1) pe_str (nomark _)) (pss_one (ps_ret (pe_op op_catS (pe_lst (pa_cons (pe_ix ix_seq (pv 0) pe_int (fun _ _ => rfl)) pa_nil)) (pe_d D__law_named (hr.mono (by omega)) (by rfl) (pa_cons (pe_ix ix_seq (pv 0) pe_int (fun _ _ => rfl)) pa_nil))))) pss_nil)
      (pss_cons (ps_set (i := 2) sc__law_named.nd rfl (Or.inl rfl) (pe_lst pa_nil))
      (pss_cons (ps_if (pt_cmpR (op_neU hr.units) (pv 1) pe_str (nomark _)) (pss_one (ps_for PassesOwn.never rfl (pi_list (pe_ix ix_seq (pv 0) pe_int (fun _ _ => rfl))) (pg_name (i := 3) sc__law_named.nd rfl (Or.inl rfl)) (pss_one (ps_set (i := 2) sc__law_named.nd rfl (Or.inl rfl) (pe_op op_catS (pv 2) (pe_d D__law_named (hr.mono (by omega)) (by rfl) (pa_cons (pv 3) pa_nil))))))) pss_nil)
      (pss_one (ps_ret (pv 2))))))))),
    (sd_seq (sd_asg (ev_op ev_var ev_int od_ix))
      (sd_seq (sd_if (et_test (ev_op ev_var ev_str od_eq)) (sd_retO (eo_lst (ea_cons (ev_op ev_var ev_int od_ix) ea_nil))) sd_next)
      (sd_seq (sd_if (et_test (ev_op ev_var ev_str od_eq)) (sd_retC (ea_cons (ev_op ev_var ev_int od_ix) ea_nil)) sd_next)
      (sd_seq (sd_if (et_test (ev_op ev_var ev_str od_eq)) (sd_retO (eo_op (EvO.ev (eo_lst (ea_cons (ev_op ev_var ev_int od_ix) ea_nil))) (ev_call (ea_cons (ev_op ev_var ev_int od_ix) ea_nil)) od_cat)) sd_next)
      (sd_seq (sd_asg (EvO.ev (eo_lst ea_nil)))
      (sd_seq (sd_if (et_test (ev_op ev_var ev_str od_ne)) (sd_for (ei_list (ev_op ev_var ev_int od_ix)) eg_name (sd_asg (EvO.ev (eo_op ev_var (ev_call (ea_cons ev_var ea_nil)) od_cat)))) sd_next)
      (sd_ret ev_var)))))))⟩
abbrev s_formulas_in : Stmt := topS 6
theorem sc_formulas_in : FnScope N_formulas_in ["formula"] (defScope s_formulas_in) := ⟨rfl, rfl, rfl, by decide +kernel, rfl, by decide +kernel, by decide +kernel⟩
theorem ok_formulas_in {f : Addr} {fd : FuncData} (T : Tx K mg "formulas_in" s_formulas_in ["formula"] f fd) (b_list : mg "list" = none) : Df Pg w K mg base 1 "formulas_in" ["formula"] f_formulas_in :=
  Tx.df (P := Pg) (w := w) (base := base) (k := 0) (mm := m_formulas_in) T sc_formulas_in fun cdv A outer s H E hr => ⟨_, (pss_cons (ps_set (i := 1) sc_formulas_in.nd rfl (Or.inl rfl) (pe_ix ix_seq (pv 0) pe_int (fun _ _ => rfl)))
      (pss_cons (ps_if (pt_cmpR (op_eqU hr.units) (pv 1) pe_str (nomark _)) (pss_one (ps_ret (pe_lst (pa_cons (pe_ix ix_seq (pv 0) pe_int (fun _ _ => rfl)) pa_nil)))) pss_nil)
      (pss_cons (ps_if (pt_cmpR (op_eqU hr.units) (pv 1) pe_str (nomark _)) (pss_one (ps_ret (pe_lst (pa_cons (pe_ix ix_seq (pv 0) pe_int (fun _ _ => rfl)) pa_nil)))) pss_nil)
      (pss_cons (ps_if (pt_cmpR op_in_seq (pv 1) (pe_tup (pa_cons pe_str (pa_cons pe_str pa_nil))) (by rfl)) (pss_one (ps_ret (pe_callTy call_list_of (by rfl) b_list (by decide +kernel) (pa_cons (pe_ix ix_seq (pv 0) pe_int (fun _ _ => rfl)) pa_nil)))) pss_nil)
      (pss_one (ps_ret (pe_lst pa_nil))))))),
    (sd_seq (sd_asg (ev_op ev_var ev_int od_ix))
      (sd_seq (sd_if (et_test (ev_op ev_var ev_str od_eq)) (sd_retO (eo_lst (ea_cons (ev_op ev_var ev_int od_ix) ea_nil))) sd_next)
      (sd_seq (sd_if (et_test (ev_op ev_var ev_str od_eq)) (sd_retO (eo_lst (ea_cons (ev_op ev_var ev_int od_ix) ea_nil))) sd_next)
      (sd_seq (sd_if (et_test (ev_op ev_var (ev_tup (ea_cons ev_str (ea_cons ev_str ea_nil))) od_in)) (sd_retO (eo_cb (ea_cons (ev_op ev_var ev_int od_ix) ea_nil) co_list)) sd_next)
      (sd_retO (eo_lst ea_nil))))))⟩
abbrev s_parts_of : Stmt := topS 7
theorem sc_parts_of : FnScope N_parts_of ["formula"] (defScope s_parts_of) := ⟨rfl, rfl, rfl, by decide +kernel, rfl, by decide +kernel, by decide +kernel⟩
theorem ok_parts_of {f : Addr} {fd : FuncData} (T : Tx K mg "parts_of" s_parts_of ["formula"] f fd) (D_formulas_in : Df Pg w K mg base 1 "formulas_in" ["formula"] f_formulas_in) : ∀ n, Df Pg w K mg base (1 + n) "parts_of" ["formula"] (f_parts_of n)
  | 0 => Tx.no T
  | n + 1 => by
    have D_parts_of := ok_parts_of T D_formulas_in n
    exact Tx.df (P := Pg) (w := w) (base := base) (k := 1 + n) (mm := m_parts_of (f_parts_of n)) T sc_parts_of fun cdv A outer s H E hr => ⟨_, (pss_cons (ps_set (i := 1) sc_parts_of.nd rfl (Or.inl rfl) (pe_lst (pa_cons (pv 0) pa_nil)))
      (pss_cons (ps_for PassesOwn.never rfl (pi_list (pe_d D_formulas_in (hr.mono (by omega)) (by rfl) (pa_cons (pv 0) pa_nil))) (pg_name (i := 2) sc_parts_of.nd rfl (Or.inl rfl)) (pss_one (ps_expr (pe_bm PySem.F.plainAttrs_list PySem.F.slot_list_extend PySem.F.type_list_extend mt_extend (pv 1) (pa_cons (pe_d D_parts_of (hr.mono (by omega)) (by rfl) (pa_cons (pv 2) pa_nil)) pa_nil)))))
      (pss_one (ps_ret (pv 1))))),
    (sd_seq (sd_asgO (eo_lst (ea_cons ev_var ea_nil)))
      (sd_seq (sd_for (ei_list (ev_call (ea_cons ev_var ea_nil))) eg_name (sd_ext (eo_call (ea_cons ev_var ea_nil))))
      sd_retX))⟩
abbrev s_cells_in : Stmt := topS 8
theorem sc_cells_in : FnScope N_cells_in ["formula"] (defScope s_cells_in) := ⟨rfl, rfl, rfl, by decide +kernel, rfl, by decide +kernel, by decide +kernel⟩
theorem ok_cells_in {f : Addr} {fd : FuncData} (T : Tx K mg "cells_in" s_cells_in ["formula"] f fd) (D_parts_of : Df Pg w K mg base 9 "parts_of" ["formula"] (f_parts_of 8)) (b_sorted : mg "sorted" = none) : Df Pg w K mg base 10 "cells_in" ["formula"] f_cells_in :=
  Tx.df (P := Pg) (w := w) (base := base) (k := 9) (mm := m_cells_in) T sc_cells_in fun cdv A outer s H E hr => ⟨_, (pss_one (ps_ret (pe_callB (cr_sortedSet rfl) (by rfl) b_sorted (by decide +kernel) (pa_cons (pe_si (own := [("part", 1)]) rfl sc_cells_in.nd (pi_list (pe_d D_parts_of (hr.mono (by omega)) (by rfl) (pa_cons (pv 0) pa_nil))) (blkOk_by (own := [("part", 1)]) (N := N_cells_in) (sc := defScope s_cells_in) (by decide +kernel)) (fun _ _ _ _ _ => (pg_name (i := 1) sc_cells_in.nd rfl (Or.inl rfl))) (fun _ _ _ _ _ => pts_one (pt_cmpR op_in_seq (pe_ix ix_seq (pv 1) pe_int (fun _ _ => rfl)) (pe_tup (pa_cons pe_str (pa_cons pe_str pa_nil))) (by rfl))) (fun _ _ _ _ _ => (pe_ix ix_seq (pv 1) pe_int (fun _ _ => rfl))) (fun _ => rfl)) pa_nil)))),
    (sd_retO (eo_sset (vs := [1]) (ei_list (ev_call (ea_cons ev_var ea_nil))) eg_name (et_test (ev_op (ev_op ev_var ev_int od_ix) (ev_tup (ea_cons ev_str (ea_cons ev_str ea_nil))) od_in)) (ev_op ev_var ev_int od_ix)))⟩
abbrev s__law_at_most : Stmt := topS 19
theorem sc__law_at_most : FnScope N__law_at_most ["a", "b"] (defScope s__law_at_most) := ⟨rfl, rfl, rfl, by decide +kernel, rfl, by decide +kernel, by decide +kernel⟩
theorem ok__law_at_most {f : Addr} {fd : FuncData} (T : Tx K mg "_law_at_most" s__law_at_most ["a", "b"] f fd) : Df Pg w K mg base 1 "_law_at_most" ["a", "b"] f__law_at_most :=
  Tx.df (P := Pg) (w := w) (base := base) (k := 0) (mm := m__law_at_most) T sc__law_at_most fun cdv A outer s H E hr => ⟨_, (pss_one (ps_ret (pe_or (pe_cmpR op_isU (pv 1) pe_non (nomark _)) (pe_one (pe_and (pe_cmpR op_notU (pv 0) pe_non (nomark _)) (pe_one (pe_cmpR op_le (pv 0) (pv 1) (nomark _)))))))),
    (sd_ret (ev_or (ev_op ev_var ev_non od_is) (ev_and (ev_op ev_var ev_non od_isNot) (ev_op ev_var ev_var od_le))))⟩
abbrev s__law_one_of : Stmt := topS 21
theorem sc__law_one_of : FnScope N__law_one_of ["amounts", "least"] (defScope s__law_one_of) := ⟨rfl, rfl, rfl, by decide +kernel, rfl, by decide +kernel, by decide +kernel⟩
theorem ok__law_one_of {f : Addr} {fd : FuncData} (T : Tx K mg "_law_one_of" s__law_one_of ["amounts", "least"] f fd) (D__law_at_most : Df Pg w K mg base 1 "_law_at_most" ["a", "b"] f__law_at_most) : Df Pg w K mg base 2 "_law_one_of" ["amounts", "least"] f__law_one_of :=
  Tx.df (P := Pg) (w := w) (base := base) (k := 1) (mm := m__law_one_of) T sc__law_one_of fun cdv A outer s H E hr => ⟨_, (pss_cons (ps_set (i := 2) sc__law_one_of.nd rfl (Or.inl rfl) (pe_ix ix_seq (pv 0) pe_int (fun _ _ => rfl)))
      (pss_cons (ps_for PassesOwn.never rfl (pi_list (pv 0)) (pg_name (i := 3) sc__law_one_of.nd rfl (Or.inl rfl)) (pss_one (ps_if (PW.pt (pw_and (pt_cmpR (op_eqU hr.units) (pe_d D__law_at_most (hr.mono (by omega)) (by rfl) (pa_cons (pv 3) (pa_cons (pv 2) pa_nil))) (pv 1) (nomark _)) (pw_and1 (pt_cmpR (op_neU hr.units) (pv 3) (pv 2) (nomark _))))) (pss_one (ps_set (i := 2) sc__law_one_of.nd rfl (Or.inl rfl) (pv 3))) pss_nil)))
      (pss_one (ps_ret (pv 2))))),
    (sd_seq (sd_asg (ev_op ev_var ev_int od_ix))
      (sd_seq (sd_for (ei_list ev_var) eg_name (sd_if (et_and (et_test (ev_op (ev_call (ea_cons ev_var (ea_cons ev_var ea_nil))) ev_var od_eq)) (et_test (ev_op ev_var ev_var od_ne))) (sd_asg ev_var) sd_next))
      (sd_ret ev_var)))⟩
abbrev s__law_shifted : Stmt := topS 20
theorem sc__law_shifted : FnScope N__law_shifted ["a", "c"] (defScope s__law_shifted) := ⟨rfl, rfl, rfl, by decide +kernel, rfl, by decide +kernel, by decide +kernel⟩
theorem ok__law_shifted {f : Addr} {fd : FuncData} (T : Tx K mg "_law_shifted" s__law_shifted ["a", "c"] f fd) (b_max : mg "max" = none) : Df Pg w K mg base 1 "_law_shifted" ["a", "c"] f__law_shifted :=
  Tx.df (P := Pg) (w := w) (base := base) (k := 0) (mm := m__law_shifted) T sc__law_shifted fun cdv A outer s H E hr => ⟨_, (pss_cons (ps_if (pt_cmpR op_isU (pv 0) pe_non (nomark _)) (pss_one (ps_ret pe_non)) pss_nil)
      (pss_one (ps_ret (pe_callB (call_max2 rfl) (by rfl) b_max (by decide +kernel) (pa_cons pe_int (pa_cons (pe_op op_addU (pv 0) (pv 1)) pa_nil)))))),
    (sd_seq (sd_if (et_test (ev_op ev_var ev_non od_is)) (sd_ret ev_non) sd_next)
      (sd_ret (ev_cb (ea_cons ev_int (ea_cons (ev_op ev_var ev_var od_add) ea_nil)) cd_max2)))⟩
abbrev s__law_value : Stmt := topS 22
theorem sc__law_value : FnScope N__law_value ["formula", "x"] (defScope s__law_value) := ⟨rfl, rfl, rfl, by decide +kernel, rfl, by decide +kernel, by decide +kernel⟩
theorem ok__law_value {f : Addr} {fd : FuncData} (T : Tx K mg "_law_value" s__law_value ["formula", "x"] f fd) (D__law_at_most : Df Pg w K mg base 1 "_law_at_most" ["a", "b"] f__law_at_most) (D__law_one_of : Df Pg w K mg base 2 "_law_one_of" ["amounts", "least"] f__law_one_of) (D__law_shifted : Df Pg w K mg base 1 "_law_shifted" ["a", "c"] f__law_shifted) : ∀ n, Df Pg w K mg base (2 + n) "_law_value" ["formula", "x"] (f__law_value n)
  | 0 => Tx.no T
  | n + 1 => by
    have D__law_value := ok__law_value T D__law_at_most D__law_one_of D__law_shifted n
    exact Tx.df (P := Pg) (w := w) (base := base) (k := 2 + n) (mm := m__law_value (f__law_value n)) T sc__law_value fun cdv A outer s H E hr => ⟨_, (pss_cons (ps_set (i := 2) sc__law_value.nd rfl (Or.inl rfl) (pe_ix ix_seq (pv 0) pe_int (fun _ _ => rfl)))
      (pss_cons (ps_if (pt_cmpR (op_eqU hr.units) (pv 2) pe_str (nomark _)) (pss_one (ps_ret (pe_ix ix_seq (pv 0) pe_int (fun _ _ => rfl)))) pss_nil)
      (pss_cons (ps_if (pt_cmpR (op_eqU hr.units) (pv 2) pe_str (nomark _)) (pss_one (ps_ret (pe_ix ix_seq (pv 1) (pe_ix ix_seq (pv 0) pe_int (fun _ _ => rfl)) (fun _ _ => rfl)))) pss_nil)
      (pss_cons (ps_if (pt_cmpR (op_eqU hr.units) (pv 2) pe_str (nomark _)) (pss_one (ps_ret (pe_d D__law_shifted (hr.mono (by omega)) (by rfl) (pa_cons (pe_d D__law_value (hr.mono (by omega)) (by rfl) (pa_cons (pe_ix ix_seq (pv 0) pe_int (fun _ _ => rfl)) (pa_cons (pv 1) pa_nil))) (pa_cons (pe_ix ix_seq (pv 0) pe_int (fun _ _ => rfl)) pa_nil))))) pss_nil)
      (pss_cons (ps_if (pt_cmpR (op_eqU hr.units) (pv 2) pe_str (nomark _)) (pss_cons (ps_if (pt_val (pe_d D__law_at_most (hr.mono (by omega)) (by rfl) (pa_cons (pe_ix ix_seq (pv 0) pe_int (fun _ _ => rfl)) (pa_cons (pe_ix ix_seq (pv 1) (pe_ix ix_seq (pv 0) pe_int (fun _ _ => rfl)) (fun _ _ => rfl)) pa_nil)))) (pss_one (ps_ret (pe_d D__law_value (hr.mono (by omega)) (by rfl) (pa_cons (pe_ix ix_seq (pv 0) pe_int (fun _ _ => rfl)) (pa_cons (pv 1) pa_nil))))) pss_nil)
      (pss_one (ps_ret pe_int))) pss_nil)
      (pss_one (ps_ret (pe_d D__law_one_of (hr.mono (by omega)) (by rfl) (pa_cons (pe_lc (own := [("part", 3)]) rfl sc__law_value.nd (pi_list (pe_ix ix_seq (pv 0) pe_int (fun _ _ => rfl))) (blkOk_by (own := [("part", 3)]) (N := N__law_value) (sc := defScope s__law_value) (by decide +kernel)) (fun _ _ _ _ _ => (pg_name (i := 3) sc__law_value.nd rfl (Or.inl rfl))) (fun _ _ _ _ _ => pts_nil) (fun _ _ _ _ _ => (pe_d D__law_value (hr.mono (by omega)) (by rfl) (pa_cons (pv 3) (pa_cons (pv 1) pa_nil))))) (pa_cons (pe_cmpR (op_eqU hr.units) (pv 2) pe_str (nomark _)) pa_nil)))))))))),
    (sd_seq (sd_asg (ev_op ev_var ev_int od_ix))
      (sd_seq (sd_if (et_test (ev_op ev_var ev_str od_eq)) (sd_ret (ev_op ev_var ev_int od_ix)) sd_next)
      (sd_seq (sd_if (et_test (ev_op ev_var ev_str od_eq)) (sd_ret (ev_op ev_var (ev_op ev_var ev_int od_ix) od_ix)) sd_next)
      (sd_seq (sd_if (et_test (ev_op ev_var ev_str od_eq)) (sd_retC (ea_cons (ev_call (ea_cons (ev_op ev_var ev_int od_ix) (ea_cons ev_var ea_nil))) (ea_cons (ev_op ev_var ev_int od_ix) ea_nil))) sd_next)
      (sd_seq (sd_if (et_test (ev_op ev_var ev_str od_eq)) (sd_seq (sd_if (et_B (ev_call (ea_cons (ev_op ev_var ev_int od_ix) (ea_cons (ev_op ev_var (ev_op ev_var ev_int od_ix) od_ix) ea_nil)))) (sd_retC (ea_cons (ev_op ev_var ev_int od_ix) (ea_cons ev_var ea_nil))) sd_next)
      (sd_ret ev_int)) sd_next)
      (sd_retC (ea_cons (EvO.ev (eo_lcI (vs := [3]) (ei_list (ev_op ev_var ev_int od_ix)) eg_name et_yes (ev_call (ea_cons ev_var (ea_cons ev_var ea_nil))))) (ea_cons (ev_op ev_var ev_str od_eq) ea_nil))))))))⟩
abbrev s__law_bounded : Stmt := topS 23
theorem sc__law_bounded : FnScope N__law_bounded ["x", "bound"] (defScope s__law_bounded) := ⟨rfl, rfl, rfl, by decide +kernel, rfl, by decide +kernel, by decide +kernel⟩
theorem ok__law_bounded {f : Addr} {fd : FuncData} (T : Tx K mg "_law_bounded" s__law_bounded ["x", "bound"] f fd) : Df Pg w K mg base 1 "_law_bounded" ["x", "bound"] f__law_bounded :=
  Tx.df (P := Pg) (w := w) (base := base) (k := 0) (mm := m__law_bounded) T sc__law_bounded fun cdv A outer s H E hr => ⟨_, (pss_cons (ps_set (i := 2) sc__law_bounded.nd rfl (Or.inl rfl) (pe_lst pa_nil))
      (pss_cons (ps_for PassesOwn.never rfl (pi_list (pv 0)) (pg_name (i := 3) sc__law_bounded.nd rfl (Or.inl rfl)) (pss_one (ps_if (PW.pt (pw_and (pt_cmpR op_notU (pv 3) pe_non (nomark _)) (pw_and1 (pt_cmpR op_gt (pv 3) (pv 1) (nomark _))))) (pss_one (ps_expr (pe_bm PySem.F.plainAttrs_list PySem.F.slot_list_append PySem.F.type_list_append mt_append (pv 2) (pa_cons pe_non pa_nil)))) (pss_one (ps_expr (pe_bm PySem.F.plainAttrs_list PySem.F.slot_list_append PySem.F.type_list_append mt_append (pv 2) (pa_cons (pv 3) pa_nil)))))))
      (pss_one (ps_ret (pv 2))))),
    (sd_seq (sd_asgO (eo_lst ea_nil))
      (sd_seq (sd_for (ei_list ev_var) eg_name (sd_if (et_and (et_test (ev_op ev_var ev_non od_isNot)) (et_test (ev_op ev_var ev_var od_gt))) (sd_app ev_non) (sd_app ev_var)))
      sd_retX))⟩
abbrev s__law_settled : Stmt := topS 24
theorem sc__law_settled : FnScope N__law_settled ["sheet", "x", "bound"] (defScope s__law_settled) := ⟨rfl, rfl, rfl, by decide +kernel, rfl, by decide +kernel, by decide +kernel⟩
theorem ok__law_settled {f : Addr} {fd : FuncData} (T : Tx K mg "_law_settled" s__law_settled ["sheet", "x", "bound"] f fd) (D__law_bounded : Df Pg w K mg base 1 "_law_bounded" ["x", "bound"] f__law_bounded) (D__law_value : Df Pg w K mg base 10 "_law_value" ["formula", "x"] (f__law_value 8)) (b_range : mg "range" = none) : Df Pg w K mg base 11 "_law_settled" ["sheet", "x", "bound"] f__law_settled :=
  Tx.df (P := Pg) (w := w) (base := base) (k := 10) (mm := m__law_settled) T sc__law_settled fun cdv A outer s H E hr => ⟨_, (pss_cons (ps_for PassesOwn.never rfl (pi_range1 rfl b_range (pa_cons pe_int pa_nil)) (pg_name (i := 3) sc__law_settled.nd rfl (Or.inl rfl)) (pss_cons (ps_set (i := 4) sc__law_settled.nd rfl (Or.inl rfl) (pe_d D__law_bounded (hr.mono (by omega)) (by rfl) (pa_cons (pe_lc (own := [("formula", 5)]) rfl sc__law_settled.nd (pi_list (pv 0)) (blkOk_by (own := [("formula", 5)]) (N := N__law_settled) (sc := defScope s__law_settled) (by decide +kernel)) (fun _ _ _ _ _ => (pg_name (i := 5) sc__law_settled.nd rfl (Or.inl rfl))) (fun _ _ _ _ _ => pts_nil) (fun _ _ _ _ _ => (pe_d D__law_value (hr.mono (by omega)) (by rfl) (pa_cons (pv 5) (pa_cons (pv 1) pa_nil))))) (pa_cons (pv 2) pa_nil))))
      (pss_cons (ps_if (pt_cmpR (op_eqU hr.units) (pv 4) (pv 1) (nomark _)) (pss_one ps_break) pss_nil)
      (pss_one (ps_set (i := 1) sc__law_settled.nd rfl (Or.inr rfl) (pv 4))))))
      (pss_one (ps_ret (pv 1)))),
    (sd_seq (sd_for (ei_rng1 (ea_cons ev_int ea_nil)) eg_name (sd_seq (sd_asg (ev_call (ea_cons (EvO.ev (eo_lcI (vs := [5]) (ei_list ev_var) eg_name et_yes (ev_call (ea_cons ev_var (ea_cons ev_var ea_nil))))) (ea_cons ev_var ea_nil))))
      (sd_seq (sd_if (et_test (ev_op ev_var ev_var od_eq)) sd_brk sd_next)
      (sd_asg ev_var))))
      (sd_ret ev_var))⟩
abbrev s__law_least : Stmt := topS 25
theorem sc__law_least : FnScope N__law_least ["sheet"] (defScope s__law_least) := ⟨rfl, rfl, rfl, by decide +kernel, rfl, by decide +kernel, by decide +kernel⟩
theorem ok__law_least {f : Addr} {fd : FuncData} (T : Tx K mg "_law_least" s__law_least ["sheet"] f fd) (D__law_settled : Df Pg w K mg base 11 "_law_settled" ["sheet", "x", "bound"] f__law_settled) (b_len : mg "len" = none) : Df Pg w K mg base 12 "_law_least" ["sheet"] f__law_least :=
  Tx.df (P := Pg) (w := w) (base := base) (k := 11) (mm := m__law_least) T sc__law_least fun cdv A outer s H E hr => ⟨_, (pss_one (ps_ret (pe_d D__law_settled (hr.mono (by omega)) (by rfl) (pa_cons (pv 0) (pa_cons (pe_lc (own := [("formula", 1)]) rfl sc__law_least.nd (pi_list (pv 0)) (blkOk_by (own := [("formula", 1)]) (N := N__law_least) (sc := defScope s__law_least) (by decide +kernel)) (fun _ _ _ _ _ => (pg_name (i := 1) sc__law_least.nd rfl (Or.inl rfl))) (fun _ _ _ _ _ => pts_nil) (fun _ _ _ _ _ => pe_int)) (pa_cons (pe_op op_addU pe_int (pe_op op_mul pe_int (pe_callB call_len (by rfl) b_len (by decide +kernel) (pa_cons (pv 0) pa_nil)))) pa_nil)))))),
    (sd_retC (ea_cons ev_var (ea_cons (EvO.ev (eo_lcI (vs := [1]) (ei_list ev_var) eg_name et_yes ev_int)) (ea_cons (ev_op ev_int (ev_op ev_int (ev_cb (ea_cons ev_var ea_nil) cd_len) od_mul) od_add) ea_nil))))⟩
abbrev s__law_greatest : Stmt := topS 26
theorem sc__law_greatest : FnScope N__law_greatest ["sheet"] (defScope s__law_greatest) := ⟨rfl, rfl, rfl, by decide +kernel, rfl, by decide +kernel, by decide +kernel⟩
theorem ok__law_greatest {f : Addr} {fd : FuncData} (T : Tx K mg "_law_greatest" s__law_greatest ["sheet"] f fd) (D__law_value : Df Pg w K mg base 10 "_law_value" ["formula", "x"] (f__law_value 8)) (b_range : mg "range" = none) : Df Pg w K mg base 11 "_law_greatest" ["sheet"] f__law_greatest :=
  Tx.df (P := Pg) (w := w) (base := base) (k := 10) (mm := m__law_greatest) T sc__law_greatest fun cdv A outer s H E hr => ⟨_, (pss_cons (ps_set (i := 1) sc__law_greatest.nd rfl (Or.inr rfl) (pe_lc (own := [("formula", 4)]) rfl sc__law_greatest.nd (pi_list (pv 0)) (blkOk_by (own := [("formula", 4)]) (N := N__law_greatest) (sc := defScope s__law_greatest) (by decide +kernel)) (fun _ _ _ _ _ => (pg_name (i := 4) sc__law_greatest.nd rfl (Or.inl rfl))) (fun _ _ _ _ _ => pts_nil) (fun _ _ _ _ _ => pe_non)))
      (pss_cons (ps_for PassesOwn.never rfl (pi_range1 rfl b_range (pa_cons pe_int pa_nil)) (pg_name (i := 2) sc__law_greatest.nd rfl (Or.inl rfl)) (pss_cons (ps_setLc (i := 3) rfl sc__law_greatest.nd rfl rfl (sw_true rfl rfl rfl (by decide +kernel)) (own := [("formula", 4)]) (pi_list (pv 0)) (blkOk_by (own := [("formula", 4)]) (N := N__law_greatest) (sc := defScope s__law_greatest) (by decide +kernel)) (fun _ _ _ _ _ => (pg_name (i := 4) sc__law_greatest.nd rfl (Or.inl rfl))) (fun _ _ _ _ _ => pts_nil) (fun _ _ _ _ _ => (pe_d D__law_value (hr.mono (by omega)) (by rfl) (pa_cons (pv 4) (pa_cons (pv 1) pa_nil)))))
      (pss_cons (ps_if (pt_cmpR (op_eqU hr.units) (pv 3) (pv 1) (nomark _)) (pss_one ps_break) pss_nil)
      (pss_one (ps_set (i := 1) sc__law_greatest.nd rfl (Or.inr rfl) (pv 3))))))
      (pss_one (ps_ret (pv 1))))),
    (sd_seq (sd_asg (EvO.ev (eo_lcI (vs := [4]) (ei_list ev_var) eg_name et_yes ev_non)))
      (sd_seq (sd_for (ei_rng1 (ea_cons ev_int ea_nil)) eg_name (sd_seq (sd_asg (EvO.ev (eo_lcI (vs := [4]) (ei_list ev_var) eg_name et_yes (ev_call (ea_cons ev_var (ea_cons ev_var ea_nil))))))
      (sd_seq (sd_if (et_test (ev_op ev_var ev_var od_eq)) sd_brk sd_next)
      (sd_asg ev_var))))
      (sd_ret ev_var)))⟩
abbrev s__law_is_amounts : Stmt := topS 27
theorem sc__law_is_amounts : FnScope N__law_is_amounts ["actual", "many"] (defScope s__law_is_amounts) := ⟨rfl, rfl, rfl, by decide +kernel, rfl, by decide +kernel, by decide +kernel⟩
theorem ok__law_is_amounts {f : Addr} {fd : FuncData} (T : Tx K mg "_law_is_amounts" s__law_is_amounts ["actual", "many"] f fd) (b_bool : mg "bool" = none) (b_int : mg "int" = none) (b_isinstance : mg "isinstance" = none) (b_len : mg "len" = none) (b_list : mg "list" = none) : Df Pg w K mg base 1 "_law_is_amounts" ["actual", "many"] f__law_is_amounts :=
  Tx.df (P := Pg) (w := w) (base := base) (k := 0) (mm := m__law_is_amounts) T sc__law_is_amounts fun cdv A outer s H E hr => ⟨_, (pss_cons (ps_if (PW.pt (pw_or (pt_not (pt_val (pe_callB call_isi (by rfl) b_isinstance (by decide +kernel) (pa_cons (pv 0) (pa_cons (pe_bltn (v := .ty "list") (by rfl) b_list (by decide +kernel) rfl) pa_nil))))) (pw_or1 (pt_cmpR (op_neU hr.units) (pe_callB call_len (by rfl) b_len (by decide +kernel) (pa_cons (pv 0) pa_nil)) (pv 1) (nomark _))))) (pss_one (ps_ret pe_bl)) pss_nil)
      (pss_cons (ps_for PassesOwn.never rfl (pi_list (pv 0)) (pg_name (i := 2) sc__law_is_amounts.nd rfl (Or.inl rfl)) (pss_one (ps_if (PW.pt (pw_and (pt_cmpR op_notU (pv 2) pe_non (nomark _)) (pw_and1 (PW.pt (pw_or (pt_val (pe_callB call_isi (by rfl) b_isinstance (by decide +kernel) (pa_cons (pv 2) (pa_cons (pe_bltn (v := .ty "bool") (by rfl) b_bool (by decide +kernel) rfl) pa_nil)))) (pw_or (pt_not (pt_val (pe_callB call_isi (by rfl) b_isinstance (by decide +kernel) (pa_cons (pv 2) (pa_cons (pe_bltn (v := .ty "int") (by rfl) b_int (by decide +kernel) rfl) pa_nil))))) (pw_or1 (pt_cmpR op_lt (pv 2) pe_int (nomark _))))))))) (pss_one (ps_ret pe_bl)) pss_nil)))
      (pss_one (ps_ret pe_bl)))),
    (sd_seq (sd_if (et_or (et_not (et_B (ev_isi ev_var))) (et_test (ev_op (ev_cb (ea_cons ev_var ea_nil) cd_len) ev_var od_ne))) (sd_ret ev_bl) sd_next)
      (sd_seq (sd_for (ei_list ev_var) eg_name (sd_if (et_and (et_test (ev_op ev_var ev_non od_isNot)) (et_or (et_B (ev_isi ev_var)) (et_or (et_not (et_B (ev_isi ev_var))) (et_test (ev_op ev_var ev_int od_lt))))) (sd_ret ev_bl) sd_next))
      (sd_ret ev_bl)))⟩
abbrev s_law : Stmt := topS 30
theorem sc_law : FnScope N_law ["script"] (defScope s_law) := ⟨rfl, rfl, rfl, by decide +kernel, rfl, by decide +kernel, by decide +kernel⟩
theorem body_law {f : Addr} (D__law_amount : Df Pg w K mg base 1 "_law_amount" ["draws"] f__law_amount) (D__law_draws : Df Pg w K mg base 1 "_law_draws" ["script", "count"] f__law_draws) (D__law_greatest : Df Pg w K mg base 11 "_law_greatest" ["sheet"] f__law_greatest) (D__law_is_amounts : Df Pg w K mg base 1 "_law_is_amounts" ["actual", "many"] f__law_is_amounts) (D__law_least : Df Pg w K mg base 12 "_law_least" ["sheet"] f__law_least) (D__law_named : Df Pg w K mg base 8 "_law_named" ["formula"] (f__law_named 8)) (D__law_sheet : Df Pg w K mg base 4 "_law_sheet" ["draws", "most"] f__law_sheet) (D__law_value : Df Pg w K mg base 10 "_law_value" ["formula", "x"] (f__law_value 8)) (D__law_wide : Df Pg w K mg base 3 "_law_wide" ["draws", "many"] f__law_wide) (D_cells_in : Df Pg w K mg base 10 "cells_in" ["formula"] f_cells_in) (D_is_solution : Df Pg w K mg base 11 "is_solution" ["sheet", "x"] f_is_solution) (D_value_of : Df Pg w K mg base 9 "value_of" ["formula", "x"] (f_value_of 8)) (D_values_of : Df Pg w K mg base 10 "values_of" ["sheet", "x"] f_values_of) (b_bool : mg "bool" = none) (b_int : mg "int" = none) (b_isinstance : mg "isinstance" = none) (b_len : mg "len" = none) (b_list : mg "list" = none) (b_range : mg "range" = none) (b_repr : mg "repr" = none) (cdv : Value) (s : Shared) (H : Hp) (E : XK) : ∃ t, PSs (cxOf CX0 Pg w K mg base N_law "law" (defScope s_law) f cdv callerA [] s H E).nox (defBody s_law) t ∧ SD K t m_law := by
  have hr : Room 12 (callerA.deeper (envOfC "law" (defScope s_law) s.heap.objs.size f cdv)) := Room.deeper (show Room 13 callerA from ⟨rfl, by decide, by decide⟩) _
  have hg : (callerA.deeper (envOfC "law" (defScope s_law) s.heap.objs.size f cdv)).guards = some [] := rfl
  exact ⟨_, (pss_cons (ps_set (i := 1) sc_law.nd rfl (Or.inr rfl) (pe_d D__law_draws (hr.mono (by omega)) (by rfl) (pa_cons (pv 0) (pa_cons pe_int pa_nil))))
      (pss_cons (ps_set (i := 2) sc_law.nd rfl (Or.inl rfl) (pe_d D__law_sheet (hr.mono (by omega)) (by rfl) (pa_cons (pv 1) (pa_cons pe_int pa_nil))))
      (pss_cons (ps_set (i := 3) sc_law.nd rfl (Or.inl rfl) (pe_callB call_len (by rfl) b_len (by decide +kernel) (pa_cons (pv 2) pa_nil)))
      (pss_cons (ps_if (pt_cmpR (op_eqU hr.units) (pe_op op_mod (pe_callTy call_int1 (by rfl) b_int (by decide +kernel) (pa_cons (pe_ix ix_seq (pv 1) pe_int (fun _ _ => rfl)) pa_nil)) pe_int) pe_int (nomark _)) (pss_one (ps_asg (pe_d D__law_wide (hr.mono (by omega)) (by rfl) (pa_cons (pe_slice sl_list (pv 1) (po_some pe_int) (po_some pe_int)) (pa_cons (pv 3) pa_nil))) (pg_sub (pv 2) (pe_op op_mod (pe_callTy call_int1 (by rfl) b_int (by decide +kernel) (pa_cons (pe_ix ix_seq (pv 1) pe_int (fun _ _ => rfl)) pa_nil)) (pv 3)) set_list))) pss_nil)
      (pss_cons (ps_set (i := 4) sc_law.nd rfl (Or.inl rfl) (pe_lst (pa_cons (pe_lc (own := [("k", 12)]) rfl sc_law.nd (pi_range1 rfl b_range (pa_cons (pv 3) pa_nil)) (blkOk_by (own := [("k", 12)]) (N := N_law) (sc := defScope s_law) (by decide +kernel)) (fun _ _ _ _ _ => (pg_name (i := 12) sc_law.nd rfl (Or.inl rfl))) (fun _ _ _ _ _ => pts_nil) (fun _ _ _ _ _ => (pe_d D__law_amount (hr.mono (by omega)) (by rfl) (pa_cons (pe_slice sl_list (pv 1) (po_some (pe_op op_addU pe_int (pe_op op_mul pe_int (pv 12)))) (po_some (pe_op op_addU pe_int (pe_op op_mul pe_int (pv 12))))) pa_nil)))) pa_nil)))
      (pss_cons (ps_expr (pe_bm PySem.F.plainAttrs_list PySem.F.slot_list_append PySem.F.type_list_append mt_append (pv 4) (pa_cons (pe_lc (own := [("k", 12)]) rfl sc_law.nd (pi_range1 rfl b_range (pa_cons (pv 3) pa_nil)) (blkOk_by (own := [("k", 12)]) (N := N_law) (sc := defScope s_law) (by decide +kernel)) (fun _ _ _ _ _ => (pg_name (i := 12) sc_law.nd rfl (Or.inl rfl))) (fun _ _ _ _ _ => pts_nil) (fun _ _ _ _ _ => (pe_d D__law_amount (hr.mono (by omega)) (by rfl) (pa_cons (pe_slice sl_list (pv 1) (po_some (pe_op op_addU pe_int (pe_op op_mul pe_int (pv 12)))) (po_some (pe_op op_addU pe_int (pe_op op_mul pe_int (pv 12))))) pa_nil)))) pa_nil)))
      (pss_cons (ps_expr (pe_bm PySem.F.plainAttrs_list PySem.F.slot_list_append PySem.F.type_list_append mt_append (pv 4) (pa_cons (pe_ix ix_seq (pe_lst (pa_cons (pe_d D__law_least (hr.mono (by omega)) (by rfl) (pa_cons (pv 2) pa_nil)) (pa_cons (pe_d D__law_greatest (hr.mono (by omega)) (by rfl) (pa_cons (pv 2) pa_nil)) pa_nil))) (pe_op op_mod (pe_callTy call_int1 (by rfl) b_int (by decide +kernel) (pa_cons (pe_ix ix_seq (pv 1) pe_int (fun _ _ => rfl)) pa_nil)) pe_int) (fun _ _ => rfl)) pa_nil)))
      (pss_cons (ps_set (i := 5) sc_law.nd rfl (Or.inl rfl) (pe_callB (cr_repr hr hg) (by rfl) b_repr (by decide +kernel) (pa_cons (pe_tup (pa_cons (pv 2) (pa_cons (pv 4) pa_nil))) pa_nil)))
      (pss_cons (ps_for PassesOwn.never rfl (pi_list (pv 4)) (pg_name (i := 6) sc_law.nd rfl (Or.inr rfl)) (pss_cons (ps_setLc (i := 7) rfl sc_law.nd rfl rfl (sw_true rfl rfl rfl (by decide +kernel)) (own := [("formula", 10)]) (pi_list (pv 2)) (blkOk_by (own := [("formula", 10)]) (N := N_law) (sc := defScope s_law) (by decide +kernel)) (fun _ _ _ _ _ => (pg_name (i := 10) sc_law.nd rfl (Or.inl rfl))) (fun _ _ _ _ _ => pts_nil) (fun _ _ _ _ _ => (pe_d D__law_value (hr.mono (by omega)) (by rfl) (pa_cons (pv 10) (pa_cons (pv 6) pa_nil)))))
      (pss_cons (ps_set (i := 8) sc_law.nd rfl (Or.inl rfl) (pe_d D_values_of (hr.mono (by omega)) (by rfl) (pa_cons (pv 2) (pa_cons (pv 6) pa_nil))))
      (pss_cons (ps_if (PW.pt (pw_or (pt_not (pt_val (pe_d D__law_is_amounts (hr.mono (by omega)) (by rfl) (pa_cons (pv 8) (pa_cons (pv 3) pa_nil))))) (pw_or1 (pt_cmpR (op_neU hr.units) (pv 8) (pv 7) (nomark _))))) (pss_one (ps_ret pe_bl)) pss_nil)
      (pss_cons (ps_if (pt_cmpR (op_neU hr.units) (pe_lc (own := [("formula", 10)]) rfl sc_law.nd (pi_list (pv 2)) (blkOk_by (own := [("formula", 10)]) (N := N_law) (sc := defScope s_law) (by decide +kernel)) (fun _ _ _ _ _ => (pg_name (i := 10) sc_law.nd rfl (Or.inl rfl))) (fun _ _ _ _ _ => pts_nil) (fun _ _ _ _ _ => (pe_d D_value_of (hr.mono (by omega)) (by rfl) (pa_cons (pv 10) (pa_cons (pv 6) pa_nil))))) (pv 7) (nomark _)) (pss_one (ps_ret pe_bl)) pss_nil)
      (pss_cons (ps_set (i := 9) sc_law.nd rfl (Or.inl rfl) (pe_d D_is_solution (hr.mono (by omega)) (by rfl) (pa_cons (pv 2) (pa_cons (pv 6) pa_nil))))
      (pss_cons (ps_if (PW.pt (pw_or (pt_not (pt_val (pe_callB call_isi (by rfl) b_isinstance (by decide +kernel) (pa_cons (pv 9) (pa_cons (pe_bltn (v := .ty "bool") (by rfl) b_bool (by decide +kernel) rfl) pa_nil))))) (pw_or1 (pt_cmpR (op_neU hr.units) (pv 9) (pe_cmpR (op_eqU hr.units) (pv 7) (pv 6) (nomark _)) (nomark _))))) (pss_one (ps_ret pe_bl)) pss_nil)
      (pss_cons (ps_expr (pe_bm PySem.F.plainAttrs_list PySem.F.slot_list_append PySem.F.type_list_append mt_append (pv 8) (pa_cons pe_int pa_nil)))
      (pss_one (ps_if (pt_cmpR (op_neU hr.units) (pe_d D_values_of (hr.mono (by omega)) (by rfl) (pa_cons (pv 2) (pa_cons (pv 6) pa_nil))) (pv 7) (nomark _)) (pss_one (ps_ret pe_bl)) pss_nil))))))))))
      (pss_cons (ps_for PassesOwn.never rfl (pi_list (pv 2)) (pg_name (i := 10) sc_law.nd rfl (Or.inl rfl)) (pss_cons (ps_set (i := 11) sc_law.nd rfl (Or.inr rfl) (pe_d D__law_named (hr.mono (by omega)) (by rfl) (pa_cons (pv 10) pa_nil)))
      (pss_cons (ps_set (i := 8) sc_law.nd rfl (Or.inl rfl) (pe_d D_cells_in (hr.mono (by omega)) (by rfl) (pa_cons (pv 10) pa_nil)))
      (pss_cons (ps_if (PW.pt (pw_or (pt_not (pt_val (pe_callB call_isi (by rfl) b_isinstance (by decide +kernel) (pa_cons (pv 8) (pa_cons (pe_bltn (v := .ty "list") (by rfl) b_list (by decide +kernel) rfl) pa_nil))))) (pw_or1 (pt_cmpR (op_neU hr.units) (pv 8) (pe_lc (own := [("cell", 13)]) rfl sc_law.nd (pi_range1 rfl b_range (pa_cons (pv 3) pa_nil)) (blkOk_by (own := [("cell", 13)]) (N := N_law) (sc := defScope s_law) (by decide +kernel)) (fun _ _ _ _ _ => (pg_name (i := 13) sc_law.nd rfl (Or.inl rfl))) (fun _ _ _ _ _ => pts_one (pt_cmpR op_in_seq (pv 13) (pv 11) (by rfl))) (fun _ _ _ _ _ => (pv 13))) (nomark _))))) (pss_one (ps_ret pe_bl)) pss_nil)
      (pss_one (ps_expr (pe_bm PySem.F.plainAttrs_list PySem.F.slot_list_append PySem.F.type_list_append mt_append (pv 8) (pa_cons pe_int pa_nil))))))))
      (pss_one (ps_ret (pe_and (pe_cmpR op_isU (pe_d D_is_solution (hr.mono (by omega)) (by rfl) (pa_cons (pv 2) (pa_cons (pe_ix ix_seq (pv 4) pe_int (fun _ _ => rfl)) pa_nil))) pe_bl (nomark _)) (pe_one (pe_cmpR (op_eqU hr.units) (pe_callB (cr_repr hr hg) (by rfl) b_repr (by decide +kernel) (pa_cons (pe_tup (pa_cons (pv 2) (pa_cons (pv 4) pa_nil))) pa_nil)) (pv 5) (nomark _)))))))))))))))),
    (sd_seq (sd_asg (ev_call (ea_cons ev_var (ea_cons ev_int ea_nil))))
      (sd_seq (sd_asgO (eo_call (ea_cons ev_var (ea_cons ev_int ea_nil))))
      (sd_seq (sd_asg (Ev.bor (ev_cb (ea_cons ev_var ea_nil) cd_len)))
      (sd_seq (sd_if (et_test (ev_op (ev_op (ev_cb (ea_cons (ev_op ev_var ev_int od_ix) ea_nil) cd_int) ev_int od_mod) ev_int od_eq)) (sd_setI (ev_call (ea_cons (EvO.ev (eo_slL ev_var (ep_some ev_int) (ep_some ev_int))) (ea_cons ev_var ea_nil))) (ev_op (ev_cb (ea_cons (ev_op ev_var ev_int od_ix) ea_nil) cd_int) ev_var od_mod)) sd_next)
      (sd_frz 2 (sd_seq (sd_asgO (eo_lst (ea_cons (EvO.ev (eo_lcI (vs := [12]) (ei_rng1 (ea_cons ev_var ea_nil)) eg_name et_yes (ev_call (ea_cons (EvO.ev (eo_slL ev_var (ep_some (ev_op ev_int (ev_op ev_int ev_var od_mul) od_add)) (ep_some (ev_op ev_int (ev_op ev_int ev_var od_mul) od_add)))) ea_nil)))) ea_nil)))
      (sd_seq (sd_app (EvO.ev (eo_lcI (vs := [12]) (ei_rng1 (ea_cons ev_var ea_nil)) eg_name et_yes (ev_call (ea_cons (EvO.ev (eo_slL ev_var (ep_some (ev_op ev_int (ev_op ev_int ev_var od_mul) od_add)) (ep_some (ev_op ev_int (ev_op ev_int ev_var od_mul) od_add)))) ea_nil)))))
      (sd_seq (sd_app (ev_op (EvO.ev (eo_lst (ea_cons (ev_call (ea_cons ev_var ea_nil)) (ea_cons (ev_call (ea_cons ev_var ea_nil)) ea_nil)))) (ev_op (ev_cb (ea_cons (ev_op ev_var ev_int od_ix) ea_nil) cd_int) ev_int od_mod) od_ix))
      (sd_frz 4 (sd_seq (sd_asg (ev_cb (ea_cons (ev_tup (ea_cons ev_var (ea_cons ev_var ea_nil))) ea_nil) cd_repr))
      (sd_seq (sd_for (ei_list ev_var) eg_name (sd_seq (sd_asg (EvO.ev (eo_lcI (vs := [10]) (ei_list ev_var) eg_name et_yes (ev_call (ea_cons ev_var (ea_cons ev_var ea_nil))))))
      (sd_seq (sd_asgO (eo_call (ea_cons ev_var (ea_cons ev_var ea_nil))))
      (sd_seq (sd_if (EvT.bor (et_or (et_not (et_B (ev_call (ea_cons ev_var (ea_cons ev_var ea_nil))))) (et_test (ev_op ev_var ev_var od_ne)))) (sd_ret ev_bl) sd_next)
      (sd_seq (sd_if (et_test (ev_op (EvO.ev (eo_lcI (vs := [10]) (ei_list ev_var) eg_name et_yes (ev_call (ea_cons ev_var (ea_cons ev_var ea_nil))))) ev_var od_ne)) (sd_ret ev_bl) sd_next)
      (sd_seq (sd_asg (ev_call (ea_cons ev_var (ea_cons ev_var ea_nil))))
      (sd_seq (sd_if (et_or (et_not (et_B (ev_isi ev_var))) (et_test (ev_op ev_var (ev_op ev_var ev_var od_eq) od_ne))) (sd_ret ev_bl) sd_next)
      (sd_seq (sd_app ev_int)
      (sd_if (et_test (ev_op (ev_call (ea_cons ev_var (ea_cons ev_var ea_nil))) ev_var od_ne)) (sd_ret ev_bl) sd_next)))))))))
      (sd_seq (sd_for (ei_list ev_var) eg_name (sd_seq (sd_asg (ev_call (ea_cons ev_var ea_nil)))
      (sd_seq (sd_asgO (eo_call (ea_cons ev_var ea_nil)))
      (sd_seq (sd_if (EvT.bor (et_or (et_not (et_B (ev_isi ev_var))) (et_test (ev_op ev_var (EvO.ev (eo_lcI (vs := [13]) (ei_rng1 (ea_cons ev_var ea_nil)) eg_name (et_test (ev_op ev_var ev_var od_in)) ev_var)) od_ne)))) (sd_ret ev_bl) sd_next)
      (sd_app ev_int)))))
      (sd_ret (ev_and (ev_op (ev_call (ea_cons ev_var (ea_cons (ev_op ev_var ev_int od_ix) ea_nil))) ev_bl od_is) (ev_op (ev_cb (ea_cons (ev_tup (ea_cons ev_var (ea_cons ev_var ea_nil))) ea_nil) cd_repr) ev_var od_eq)))))))))))))))⟩
end
theorem all_mk {l : PySem.W.OpenLaw} {w : World} {K : PySem.W.Frag} {h : Heap} {mg : Str → Option Value} {fa : Addr} (X : K.In h) (G : h.Ns mainGlobals mg) (hfa : mg "law" = some (.ref fa))
    {f0 : Addr} {od0 an0 : Option Addr} {sl0 : Array (Option Value)} {oc0 kV0 dc0 pm0 cd0 ct0 : Value}
    (a0 : PySem.W.nsIn K mainGlobals "_law_draws" = some (some (.ref f0))) (l0 : K.lookup f0 = some ⟨oc0, od0, .func (PySem.W.fnOf "_law_draws" "_law_draws" (defArgs s__law_draws) (defBody s__law_draws) (defScope s__law_draws) .none kV0 dc0 pm0 an0 cd0 ct0), sl0⟩) (c0 : PySem.W.codeIn K cd0 "_law_draws" = true) (k0 : PySem.W.keepIn K (.ref f0) = true)
    {f1 : Addr} {od1 an1 : Option Addr} {sl1 : Array (Option Value)} {oc1 kV1 dc1 pm1 cd1 ct1 : Value}
    (a1 : PySem.W.nsIn K mainGlobals "_law_amount" = some (some (.ref f1))) (l1 : K.lookup f1 = some ⟨oc1, od1, .func (PySem.W.fnOf "_law_amount" "_law_amount" (defArgs s__law_amount) (defBody s__law_amount) (defScope s__law_amount) .none kV1 dc1 pm1 an1 cd1 ct1), sl1⟩) (c1 : PySem.W.codeIn K cd1 "_law_amount" = true) (k1 : PySem.W.keepIn K (.ref f1) = true)
    {f2 : Addr} {od2 an2 : Option Addr} {sl2 : Array (Option Value)} {oc2 kV2 dc2 pm2 cd2 ct2 : Value}
    (a2 : PySem.W.nsIn K mainGlobals "_law_leaf" = some (some (.ref f2))) (l2 : K.lookup f2 = some ⟨oc2, od2, .func (PySem.W.fnOf "_law_leaf" "_law_leaf" (defArgs s__law_leaf) (defBody s__law_leaf) (defScope s__law_leaf) .none kV2 dc2 pm2 an2 cd2 ct2), sl2⟩) (c2 : PySem.W.codeIn K cd2 "_law_leaf" = true) (k2 : PySem.W.keepIn K (.ref f2) = true)
    {f3 : Addr} {od3 an3 : Option Addr} {sl3 : Array (Option Value)} {oc3 kV3 dc3 pm3 cd3 ct3 : Value}
    (a3 : PySem.W.nsIn K mainGlobals "_law_formula" = some (some (.ref f3))) (l3 : K.lookup f3 = some ⟨oc3, od3, .func (PySem.W.fnOf "_law_formula" "_law_formula" (defArgs s__law_formula) (defBody s__law_formula) (defScope s__law_formula) .none kV3 dc3 pm3 an3 cd3 ct3), sl3⟩) (c3 : PySem.W.codeIn K cd3 "_law_formula" = true) (k3 : PySem.W.keepIn K (.ref f3) = true)
    {f4 : Addr} {od4 an4 : Option Addr} {sl4 : Array (Option Value)} {oc4 kV4 dc4 pm4 cd4 ct4 : Value}
    (a4 : PySem.W.nsIn K mainGlobals "_law_sheet" = some (some (.ref f4))) (l4 : K.lookup f4 = some ⟨oc4, od4, .func (PySem.W.fnOf "_law_sheet" "_law_sheet" (defArgs s__law_sheet) (defBody s__law_sheet) (defScope s__law_sheet) .none kV4 dc4 pm4 an4 cd4 ct4), sl4⟩) (c4 : PySem.W.codeIn K cd4 "_law_sheet" = true) (k4 : PySem.W.keepIn K (.ref f4) = true)
    {f5 : Addr} {od5 an5 : Option Addr} {sl5 : Array (Option Value)} {oc5 kV5 dc5 pm5 cd5 ct5 : Value}
    (a5 : PySem.W.nsIn K mainGlobals "_law_wide" = some (some (.ref f5))) (l5 : K.lookup f5 = some ⟨oc5, od5, .func (PySem.W.fnOf "_law_wide" "_law_wide" (defArgs s__law_wide) (defBody s__law_wide) (defScope s__law_wide) .none kV5 dc5 pm5 an5 cd5 ct5), sl5⟩) (c5 : PySem.W.codeIn K cd5 "_law_wide" = true) (k5 : PySem.W.keepIn K (.ref f5) = true)
    {f6 : Addr} {od6 an6 : Option Addr} {sl6 : Array (Option Value)} {oc6 kV6 dc6 pm6 cd6 ct6 : Value}
    (a6 : PySem.W.nsIn K mainGlobals "shifted" = some (some (.ref f6))) (l6 : K.lookup f6 = some ⟨oc6, od6, .func (PySem.W.fnOf "shifted" "shifted" (defArgs s_shifted) (defBody s_shifted) (defScope s_shifted) .none kV6 dc6 pm6 an6 cd6 ct6), sl6⟩) (c6 : PySem.W.codeIn K cd6 "shifted" = true) (k6 : PySem.W.keepIn K (.ref f6) = true)
    {f7 : Addr} {od7 an7 : Option Addr} {sl7 : Array (Option Value)} {oc7 kV7 dc7 pm7 cd7 ct7 : Value}
    (a7 : PySem.W.nsIn K mainGlobals "least_of" = some (some (.ref f7))) (l7 : K.lookup f7 = some ⟨oc7, od7, .func (PySem.W.fnOf "least_of" "least_of" (defArgs s_least_of) (defBody s_least_of) (defScope s_least_of) .none kV7 dc7 pm7 an7 cd7 ct7), sl7⟩) (c7 : PySem.W.codeIn K cd7 "least_of" = true) (k7 : PySem.W.keepIn K (.ref f7) = true)
    {f8 : Addr} {od8 an8 : Option Addr} {sl8 : Array (Option Value)} {oc8 kV8 dc8 pm8 cd8 ct8 : Value}
    (a8 : PySem.W.nsIn K mainGlobals "greatest_of" = some (some (.ref f8))) (l8 : K.lookup f8 = some ⟨oc8, od8, .func (PySem.W.fnOf "greatest_of" "greatest_of" (defArgs s_greatest_of) (defBody s_greatest_of) (defScope s_greatest_of) .none kV8 dc8 pm8 an8 cd8 ct8), sl8⟩) (c8 : PySem.W.codeIn K cd8 "greatest_of" = true) (k8 : PySem.W.keepIn K (.ref f8) = true)
    {f9 : Addr} {od9 an9 : Option Addr} {sl9 : Array (Option Value)} {oc9 kV9 dc9 pm9 cd9 ct9 : Value}
    (a9 : PySem.W.nsIn K mainGlobals "at_most" = some (some (.ref f9))) (l9 : K.lookup f9 = some ⟨oc9, od9, .func (PySem.W.fnOf "at_most" "at_most" (defArgs s_at_most) (defBody s_at_most) (defScope s_at_most) .none kV9 dc9 pm9 an9 cd9 ct9), sl9⟩) (c9 : PySem.W.codeIn K cd9 "at_most" = true) (k9 : PySem.W.keepIn K (.ref f9) = true)
    {f10 : Addr} {od10 an10 : Option Addr} {sl10 : Array (Option Value)} {oc10 kV10 dc10 pm10 cd10 ct10 : Value}
    (a10 : PySem.W.nsIn K mainGlobals "value_of" = some (some (.ref f10))) (l10 : K.lookup f10 = some ⟨oc10, od10, .func (PySem.W.fnOf "value_of" "value_of" (defArgs s_value_of) (defBody s_value_of) (defScope s_value_of) .none kV10 dc10 pm10 an10 cd10 ct10), sl10⟩) (c10 : PySem.W.codeIn K cd10 "value_of" = true) (k10 : PySem.W.keepIn K (.ref f10) = true)
    {f11 : Addr} {od11 an11 : Option Addr} {sl11 : Array (Option Value)} {oc11 kV11 dc11 pm11 cd11 ct11 : Value}
    (a11 : PySem.W.nsIn K mainGlobals "values_of" = some (some (.ref f11))) (l11 : K.lookup f11 = some ⟨oc11, od11, .func (PySem.W.fnOf "values_of" "values_of" (defArgs s_values_of) (defBody s_values_of) (defScope s_values_of) .none kV11 dc11 pm11 an11 cd11 ct11), sl11⟩) (c11 : PySem.W.codeIn K cd11 "values_of" = true) (k11 : PySem.W.keepIn K (.ref f11) = true)
    {f12 : Addr} {od12 an12 : Option Addr} {sl12 : Array (Option Value)} {oc12 kV12 dc12 pm12 cd12 ct12 : Value}
    (a12 : PySem.W.nsIn K mainGlobals "is_solution" = some (some (.ref f12))) (l12 : K.lookup f12 = some ⟨oc12, od12, .func (PySem.W.fnOf "is_solution" "is_solution" (defArgs s_is_solution) (defBody s_is_solution) (defScope s_is_solution) .none kV12 dc12 pm12 an12 cd12 ct12), sl12⟩) (c12 : PySem.W.codeIn K cd12 "is_solution" = true) (k12 : PySem.W.keepIn K (.ref f12) = true)
    {f13 : Addr} {od13 an13 : Option Addr} {sl13 : Array (Option Value)} {oc13 kV13 dc13 pm13 cd13 ct13 : Value}
    (a13 : PySem.W.nsIn K mainGlobals "_law_named" = some (some (.ref f13))) (l13 : K.lookup f13 = some ⟨oc13, od13, .func (PySem.W.fnOf "_law_named" "_law_named" (defArgs s__law_named) (defBody s__law_named) (defScope s__law_named) .none kV13 dc13 pm13 an13 cd13 ct13), sl13⟩) (c13 : PySem.W.codeIn K cd13 "_law_named" = true) (k13 : PySem.W.keepIn K (.ref f13) = true)
    {f14 : Addr} {od14 an14 : Option Addr} {sl14 : Array (Option Value)} {oc14 kV14 dc14 pm14 cd14 ct14 : Value}
    (a14 : PySem.W.nsIn K mainGlobals "formulas_in" = some (some (.ref f14))) (l14 : K.lookup f14 = some ⟨oc14, od14, .func (PySem.W.fnOf "formulas_in" "formulas_in" (defArgs s_formulas_in) (defBody s_formulas_in) (defScope s_formulas_in) .none kV14 dc14 pm14 an14 cd14 ct14), sl14⟩) (c14 : PySem.W.codeIn K cd14 "formulas_in" = true) (k14 : PySem.W.keepIn K (.ref f14) = true)
    {f15 : Addr} {od15 an15 : Option Addr} {sl15 : Array (Option Value)} {oc15 kV15 dc15 pm15 cd15 ct15 : Value}
    (a15 : PySem.W.nsIn K mainGlobals "parts_of" = some (some (.ref f15))) (l15 : K.lookup f15 = some ⟨oc15, od15, .func (PySem.W.fnOf "parts_of" "parts_of" (defArgs s_parts_of) (defBody s_parts_of) (defScope s_parts_of) .none kV15 dc15 pm15 an15 cd15 ct15), sl15⟩) (c15 : PySem.W.codeIn K cd15 "parts_of" = true) (k15 : PySem.W.keepIn K (.ref f15) = true)
    {f16 : Addr} {od16 an16 : Option Addr} {sl16 : Array (Option Value)} {oc16 kV16 dc16 pm16 cd16 ct16 : Value}
    (a16 : PySem.W.nsIn K mainGlobals "cells_in" = some (some (.ref f16))) (l16 : K.lookup f16 = some ⟨oc16, od16, .func (PySem.W.fnOf "cells_in" "cells_in" (defArgs s_cells_in) (defBody s_cells_in) (defScope s_cells_in) .none kV16 dc16 pm16 an16 cd16 ct16), sl16⟩) (c16 : PySem.W.codeIn K cd16 "cells_in" = true) (k16 : PySem.W.keepIn K (.ref f16) = true)
    {f17 : Addr} {od17 an17 : Option Addr} {sl17 : Array (Option Value)} {oc17 kV17 dc17 pm17 cd17 ct17 : Value}
    (a17 : PySem.W.nsIn K mainGlobals "_law_at_most" = some (some (.ref f17))) (l17 : K.lookup f17 = some ⟨oc17, od17, .func (PySem.W.fnOf "_law_at_most" "_law_at_most" (defArgs s__law_at_most) (defBody s__law_at_most) (defScope s__law_at_most) .none kV17 dc17 pm17 an17 cd17 ct17), sl17⟩) (c17 : PySem.W.codeIn K cd17 "_law_at_most" = true) (k17 : PySem.W.keepIn K (.ref f17) = true)
    {f18 : Addr} {od18 an18 : Option Addr} {sl18 : Array (Option Value)} {oc18 kV18 dc18 pm18 cd18 ct18 : Value}
    (a18 : PySem.W.nsIn K mainGlobals "_law_one_of" = some (some (.ref f18))) (l18 : K.lookup f18 = some ⟨oc18, od18, .func (PySem.W.fnOf "_law_one_of" "_law_one_of" (defArgs s__law_one_of) (defBody s__law_one_of) (defScope s__law_one_of) .none kV18 dc18 pm18 an18 cd18 ct18), sl18⟩) (c18 : PySem.W.codeIn K cd18 "_law_one_of" = true) (k18 : PySem.W.keepIn K (.ref f18) = true)
    {f19 : Addr} {od19 an19 : Option Addr} {sl19 : Array (Option Value)} {oc19 kV19 dc19 pm19 cd19 ct19 : Value}
    (a19 : PySem.W.nsIn K mainGlobals "_law_shifted" = some (some (.ref f19))) (l19 : K.lookup f19 = some ⟨oc19, od19, .func (PySem.W.fnOf "_law_shifted" "_law_shifted" (defArgs s__law_shifted) (defBody s__law_shifted) (defScope s__law_shifted) .none kV19 dc19 pm19 an19 cd19 ct19), sl19⟩) (c19 : PySem.W.codeIn K cd19 "_law_shifted" = true) (k19 : PySem.W.keepIn K (.ref f19) = true)
    {f20 : Addr} {od20 an20 : Option Addr} {sl20 : Array (Option Value)} {oc20 kV20 dc20 pm20 cd20 ct20 : Value}
    (a20 : PySem.W.nsIn K mainGlobals "_law_value" = some (some (.ref f20))) (l20 : K.lookup f20 = some ⟨oc20, od20, .func (PySem.W.fnOf "_law_value" "_law_value" (defArgs s__law_value) (defBody s__law_value) (defScope s__law_value) .none kV20 dc20 pm20 an20 cd20 ct20), sl20⟩) (c20 : PySem.W.codeIn K cd20 "_law_value" = true) (k20 : PySem.W.keepIn K (.ref f20) = true)
    {f21 : Addr} {od21 an21 : Option Addr} {sl21 : Array (Option Value)} {oc21 kV21 dc21 pm21 cd21 ct21 : Value}
    (a21 : PySem.W.nsIn K mainGlobals "_law_bounded" = some (some (.ref f21))) (l21 : K.lookup f21 = some ⟨oc21, od21, .func (PySem.W.fnOf "_law_bounded" "_law_bounded" (defArgs s__law_bounded) (defBody s__law_bounded) (defScope s__law_bounded) .none kV21 dc21 pm21 an21 cd21 ct21), sl21⟩) (c21 : PySem.W.codeIn K cd21 "_law_bounded" = true) (k21 : PySem.W.keepIn K (.ref f21) = true)
    {f22 : Addr} {od22 an22 : Option Addr} {sl22 : Array (Option Value)} {oc22 kV22 dc22 pm22 cd22 ct22 : Value}
    (a22 : PySem.W.nsIn K mainGlobals "_law_settled" = some (some (.ref f22))) (l22 : K.lookup f22 = some ⟨oc22, od22, .func (PySem.W.fnOf "_law_settled" "_law_settled" (defArgs s__law_settled) (defBody s__law_settled) (defScope s__law_settled) .none kV22 dc22 pm22 an22 cd22 ct22), sl22⟩) (c22 : PySem.W.codeIn K cd22 "_law_settled" = true) (k22 : PySem.W.keepIn K (.ref f22) = true)
    {f23 : Addr} {od23 an23 : Option Addr} {sl23 : Array (Option Value)} {oc23 kV23 dc23 pm23 cd23 ct23 : Value}
    (a23 : PySem.W.nsIn K mainGlobals "_law_least" = some (some (.ref f23))) (l23 : K.lookup f23 = some ⟨oc23, od23, .func (PySem.W.fnOf "_law_least" "_law_least" (defArgs s__law_least) (defBody s__law_least) (defScope s__law_least) .none kV23 dc23 pm23 an23 cd23 ct23), sl23⟩) (c23 : PySem.W.codeIn K cd23 "_law_least" = true) (k23 : PySem.W.keepIn K (.ref f23) = true)
    {f24 : Addr} {od24 an24 : Option Addr} {sl24 : Array (Option Value)} {oc24 kV24 dc24 pm24 cd24 ct24 : Value}
    (a24 : PySem.W.nsIn K mainGlobals "_law_greatest" = some (some (.ref f24))) (l24 : K.lookup f24 = some ⟨oc24, od24, .func (PySem.W.fnOf "_law_greatest" "_law_greatest" (defArgs s__law_greatest) (defBody s__law_greatest) (defScope s__law_greatest) .none kV24 dc24 pm24 an24 cd24 ct24), sl24⟩) (c24 : PySem.W.codeIn K cd24 "_law_greatest" = true) (k24 : PySem.W.keepIn K (.ref f24) = true)
    {f25 : Addr} {od25 an25 : Option Addr} {sl25 : Array (Option Value)} {oc25 kV25 dc25 pm25 cd25 ct25 : Value}
    (a25 : PySem.W.nsIn K mainGlobals "_law_is_amounts" = some (some (.ref f25))) (l25 : K.lookup f25 = some ⟨oc25, od25, .func (PySem.W.fnOf "_law_is_amounts" "_law_is_amounts" (defArgs s__law_is_amounts) (defBody s__law_is_amounts) (defScope s__law_is_amounts) .none kV25 dc25 pm25 an25 cd25 ct25), sl25⟩) (c25 : PySem.W.codeIn K cd25 "_law_is_amounts" = true) (k25 : PySem.W.keepIn K (.ref f25) = true)
    {f26 : Addr} {od26 an26 : Option Addr} {sl26 : Array (Option Value)} {oc26 kV26 dc26 pm26 cd26 ct26 : Value}
    (a26 : PySem.W.nsIn K mainGlobals "law" = some (some (.ref f26))) (l26 : K.lookup f26 = some ⟨oc26, od26, .func (PySem.W.fnOf "law" "law" (defArgs s_law) (defBody s_law) (defScope s_law) .none kV26 dc26 pm26 an26 cd26 ct26), sl26⟩) (c26 : PySem.W.codeIn K cd26 "law" = true) (k26 : PySem.W.keepIn K (.ref f26) = true)
    (z_bool : PySem.W.nsIn K mainGlobals "bool" = some none)
    (z_int : PySem.W.nsIn K mainGlobals "int" = some none)
    (z_isinstance : PySem.W.nsIn K mainGlobals "isinstance" = some none)
    (z_len : PySem.W.nsIn K mainGlobals "len" = some none)
    (z_list : PySem.W.nsIn K mainGlobals "list" = some none)
    (z_max : PySem.W.nsIn K mainGlobals "max" = some none)
    (z_min : PySem.W.nsIn K mainGlobals "min" = some none)
    (z_range : PySem.W.nsIn K mainGlobals "range" = some none)
    (z_repr : PySem.W.nsIn K mainGlobals "repr" = some none)
    (z_sorted : PySem.W.nsIn K mainGlobals "sorted" = some none)
    : ∃ fd : FuncData, Fun K "law" "law" s_law fa fd ∧ (∀ (s : Shared) (u : Value), BindsTo s fd ⟨[u], []⟩ [("script", u)]) ∧ ∀ base : Heap, K.In base → base.Ns mainGlobals mg → ∀ (cdv : Value) (s : Shared) (H : Hp) (E : XK), ∃ t, PSs (cxOf CX0 l.prog w K mg base N_law "law" (defScope s_law) fa cdv callerA [] s H E).nox (defBody s_law) t ∧ SD K t m_law := by
  have e := hfa.symm.trans (PySem.W.mg_of X G a26)
  cases e
  have F0 := fun_mk (st := s__law_draws) l0 c0 k0
  have T0 : Tx K mg "_law_draws" s__law_draws ["script", "count"] f0 _ := ⟨F0, PySem.W.mg_of X G a0, F0.binds (ps := ["script", "count"]) fun _ _ _ _ _ _ us hl => match us, hl with | [_, _], _ => rfl⟩
  have F1 := fun_mk (st := s__law_amount) l1 c1 k1
  have T1 : Tx K mg "_law_amount" s__law_amount ["draws"] f1 _ := ⟨F1, PySem.W.mg_of X G a1, F1.binds (ps := ["draws"]) fun _ _ _ _ _ _ us hl => match us, hl with | [_], _ => rfl⟩
  have F2 := fun_mk (st := s__law_leaf) l2 c2 k2
  have T2 : Tx K mg "_law_leaf" s__law_leaf ["draws", "many"] f2 _ := ⟨F2, PySem.W.mg_of X G a2, F2.binds (ps := ["draws", "many"]) fun _ _ _ _ _ _ us hl => match us, hl with | [_, _], _ => rfl⟩
  have F3 := fun_mk (st := s__law_formula) l3 c3 k3
  have T3 : Tx K mg "_law_formula" s__law_formula ["draws", "many"] f3 _ := ⟨F3, PySem.W.mg_of X G a3, F3.binds (ps := ["draws", "many"]) fun _ _ _ _ _ _ us hl => match us, hl with | [_, _], _ => rfl⟩
  have F4 := fun_mk (st := s__law_sheet) l4 c4 k4
  have T4 : Tx K mg "_law_sheet" s__law_sheet ["draws", "most"] f4 _ := ⟨F4, PySem.W.mg_of X G a4, F4.binds (ps := ["draws", "most"]) fun _ _ _ _ _ _ us hl => match us, hl with | [_, _], _ => rfl⟩
  have F5 := fun_mk (st := s__law_wide) l5 c5 k5
  have T5 : Tx K mg "_law_wide" s__law_wide ["draws", "many"] f5 _ := ⟨F5, PySem.W.mg_of X G a5, F5.binds (ps := ["draws", "many"]) fun _ _ _ _ _ _ us hl => match us, hl with | [_, _], _ => rfl⟩
  have F6 := fun_mk (st := s_shifted) l6 c6 k6
  have T6 : Tx K mg "shifted" s_shifted ["a", "c"] f6 _ := ⟨F6, PySem.W.mg_of X G a6, F6.binds (ps := ["a", "c"]) fun _ _ _ _ _ _ us hl => match us, hl with | [_, _], _ => rfl⟩
  have F7 := fun_mk (st := s_least_of) l7 c7 k7
  have T7 : Tx K mg "least_of" s_least_of ["amounts"] f7 _ := ⟨F7, PySem.W.mg_of X G a7, F7.binds (ps := ["amounts"]) fun _ _ _ _ _ _ us hl => match us, hl with | [_], _ => rfl⟩
  have F8 := fun_mk (st := s_greatest_of) l8 c8 k8
  have T8 : Tx K mg "greatest_of" s_greatest_of ["amounts"] f8 _ := ⟨F8, PySem.W.mg_of X G a8, F8.binds (ps := ["amounts"]) fun _ _ _ _ _ _ us hl => match us, hl with | [_], _ => rfl⟩
  have F9 := fun_mk (st := s_at_most) l9 c9 k9
  have T9 : Tx K mg "at_most" s_at_most ["a", "b"] f9 _ := ⟨F9, PySem.W.mg_of X G a9, F9.binds (ps := ["a", "b"]) fun _ _ _ _ _ _ us hl => match us, hl with | [_, _], _ => rfl⟩
  have F10 := fun_mk (st := s_value_of) l10 c10 k10
  have T10 : Tx K mg "value_of" s_value_of ["formula", "x"] f10 _ := ⟨F10, PySem.W.mg_of X G a10, F10.binds (ps := ["formula", "x"]) fun _ _ _ _ _ _ us hl => match us, hl with | [_, _], _ => rfl⟩
  have F11 := fun_mk (st := s_values_of) l11 c11 k11
  have T11 : Tx K mg "values_of" s_values_of ["sheet", "x"] f11 _ := ⟨F11, PySem.W.mg_of X G a11, F11.binds (ps := ["sheet", "x"]) fun _ _ _ _ _ _ us hl => match us, hl with | [_, _], _ => rfl⟩
  have F12 := fun_mk (st := s_is_solution) l12 c12 k12
  have T12 : Tx K mg "is_solution" s_is_solution ["sheet", "x"] f12 _ := ⟨F12, PySem.W.mg_of X G a12, F12.binds (ps := ["sheet", "x"]) fun _ _ _ _ _ _ us hl => match us, hl with | [_, _], _ => rfl⟩
  have F13 := fun_mk (st := s__law_named) l13 c13 k13
  have T13 : Tx K mg "_law_named" s__law_named ["formula"] f13 _ := ⟨F13, PySem.W.mg_of X G a13, F13.binds (ps := ["formula"]) fun _ _ _ _ _ _ us hl => match us, hl with | [_], _ => rfl⟩
  have F14 := fun_mk (st := s_formulas_in) l14 c14 k14
  have T14 : Tx K mg "formulas_in" s_formulas_in ["formula"] f14 _ := ⟨F14, PySem.W.mg_of X G a14, F14.binds (ps := ["formula"]) fun _ _ _ _ _ _ us hl => match us, hl with | [_], _ => rfl⟩
  have F15 := fun_mk (st := s_parts_of) l15 c15 k15
  have T15 : Tx K mg "parts_of" s_parts_of ["formula"] f15 _ := ⟨F15, PySem.W.mg_of X G a15, F15.binds (ps := ["formula"]) fun _ _ _ _ _ _ us hl => match us, hl with | [_], _ => rfl⟩
  have F16 := fun_mk (st := s_cells_in) l16 c16 k16
  have T16 : Tx K mg "cells_in" s_cells_in ["formula"] f16 _ := ⟨F16, PySem.W.mg_of X G a16, F16.binds (ps := ["formula"]) fun _ _ _ _ _ _ us hl => match us, hl with | [_], _ => rfl⟩
  have F17 := fun_mk (st := s__law_at_most) l17 c17 k17
  have T17 : Tx K mg "_law_at_most" s__law_at_most ["a", "b"] f17 _ := ⟨F17, PySem.W.mg_of X G a17, F17.binds (ps := ["a", "b"]) fun _ _ _ _ _ _ us hl => match us, hl with | [_, _], _ => rfl⟩
  have F18 := fun_mk (st := s__law_one_of) l18 c18 k18
  have T18 : Tx K mg "_law_one_of" s__law_one_of ["amounts", "least"] f18 _ := ⟨F18, PySem.W.mg_of X G a18, F18.binds (ps := ["amounts", "least"]) fun _ _ _ _ _ _ us hl => match us, hl with | [_, _], _ => rfl⟩
  have F19 := fun_mk (st := s__law_shifted) l19 c19 k19
  have T19 : Tx K mg "_law_shifted" s__law_shifted ["a", "c"] f19 _ := ⟨F19, PySem.W.mg_of X G a19, F19.binds (ps := ["a", "c"]) fun _ _ _ _ _ _ us hl => match us, hl with | [_, _], _ => rfl⟩
  have F20 := fun_mk (st := s__law_value) l20 c20 k20
  have T20 : Tx K mg "_law_value" s__law_value ["formula", "x"] f20 _ := ⟨F20, PySem.W.mg_of X G a20, F20.binds (ps := ["formula", "x"]) fun _ _ _ _ _ _ us hl => match us, hl with | [_, _], _ => rfl⟩
  have F21 := fun_mk (st := s__law_bounded) l21 c21 k21
  have T21 : Tx K mg "_law_bounded" s__law_bounded ["x", "bound"] f21 _ := ⟨F21, PySem.W.mg_of X G a21, F21.binds (ps := ["x", "bound"]) fun _ _ _ _ _ _ us hl => match us, hl with | [_, _], _ => rfl⟩
  have F22 := fun_mk (st := s__law_settled) l22 c22 k22
  have T22 : Tx K mg "_law_settled" s__law_settled ["sheet", "x", "bound"] f22 _ := ⟨F22, PySem.W.mg_of X G a22, F22.binds (ps := ["sheet", "x", "bound"]) fun _ _ _ _ _ _ us hl => match us, hl with | [_, _, _], _ => rfl⟩
  have F23 := fun_mk (st := s__law_least) l23 c23 k23
  have T23 : Tx K mg "_law_least" s__law_least ["sheet"] f23 _ := ⟨F23, PySem.W.mg_of X G a23, F23.binds (ps := ["sheet"]) fun _ _ _ _ _ _ us hl => match us, hl with | [_], _ => rfl⟩
  have F24 := fun_mk (st := s__law_greatest) l24 c24 k24
  have T24 : Tx K mg "_law_greatest" s__law_greatest ["sheet"] f24 _ := ⟨F24, PySem.W.mg_of X G a24, F24.binds (ps := ["sheet"]) fun _ _ _ _ _ _ us hl => match us, hl with | [_], _ => rfl⟩
  have F25 := fun_mk (st := s__law_is_amounts) l25 c25 k25
  have T25 : Tx K mg "_law_is_amounts" s__law_is_amounts ["actual", "many"] f25 _ := ⟨F25, PySem.W.mg_of X G a25, F25.binds (ps := ["actual", "many"]) fun _ _ _ _ _ _ us hl => match us, hl with | [_, _], _ => rfl⟩
  have b_bool := PySem.W.mg_none_of X G z_bool
  have b_int := PySem.W.mg_none_of X G z_int
  have b_isinstance := PySem.W.mg_none_of X G z_isinstance
  have b_len := PySem.W.mg_none_of X G z_len
  have b_list := PySem.W.mg_none_of X G z_list
  have b_max := PySem.W.mg_none_of X G z_max
  have b_min := PySem.W.mg_none_of X G z_min
  have b_range := PySem.W.mg_none_of X G z_range
  have b_repr := PySem.W.mg_none_of X G z_repr
  have b_sorted := PySem.W.mg_none_of X G z_sorted
  refine ⟨PySem.W.fnOf "law" "law" (defArgs s_law) (defBody s_law) (defScope s_law) .none kV26 dc26 pm26 an26 cd26 ct26, fun_mk (st := s_law) l26 c26 k26, fun s v => .of_eq rfl, fun base _ _ cdv s H E => ?_⟩
  have D__law_draws := ok__law_draws (Pg := l.prog) (w := w) (base := base) T0 b_int b_len b_range
  have D__law_amount := ok__law_amount (Pg := l.prog) (w := w) (base := base) T1 b_int
  have D__law_leaf := ok__law_leaf (Pg := l.prog) (w := w) (base := base) T2 D__law_amount b_int
  have D__law_formula := ok__law_formula (Pg := l.prog) (w := w) (base := base) T3 D__law_leaf b_int b_range
  have D__law_sheet := ok__law_sheet (Pg := l.prog) (w := w) (base := base) T4 D__law_formula b_int b_range
  have D__law_wide := ok__law_wide (Pg := l.prog) (w := w) (base := base) T5 D__law_leaf b_int b_range
  have D_shifted := ok_shifted (Pg := l.prog) (w := w) (base := base) T6 b_max
  have D_least_of := ok_least_of (Pg := l.prog) (w := w) (base := base) T7 b_min
  have D_greatest_of := ok_greatest_of (Pg := l.prog) (w := w) (base := base) T8 b_max
  have D_at_most := ok_at_most (Pg := l.prog) (w := w) (base := base) T9 
  have D_value_of := ok_value_of (Pg := l.prog) (w := w) (base := base) T10 D_at_most D_greatest_of D_least_of D_shifted 8
  have D_values_of := ok_values_of (Pg := l.prog) (w := w) (base := base) T11 D_value_of
  have D_is_solution := ok_is_solution (Pg := l.prog) (w := w) (base := base) T12 D_values_of
  have D__law_named := ok__law_named (Pg := l.prog) (w := w) (base := base) T13  8
  have D_formulas_in := ok_formulas_in (Pg := l.prog) (w := w) (base := base) T14 b_list
  have D_parts_of := ok_parts_of (Pg := l.prog) (w := w) (base := base) T15 D_formulas_in 8
  have D_cells_in := ok_cells_in (Pg := l.prog) (w := w) (base := base) T16 D_parts_of b_sorted
  have D__law_at_most := ok__law_at_most (Pg := l.prog) (w := w) (base := base) T17 
  have D__law_one_of := ok__law_one_of (Pg := l.prog) (w := w) (base := base) T18 D__law_at_most
  have D__law_shifted := ok__law_shifted (Pg := l.prog) (w := w) (base := base) T19 b_max
  have D__law_value := ok__law_value (Pg := l.prog) (w := w) (base := base) T20 D__law_at_most D__law_one_of D__law_shifted 8
  have D__law_bounded := ok__law_bounded (Pg := l.prog) (w := w) (base := base) T21 
  have D__law_settled := ok__law_settled (Pg := l.prog) (w := w) (base := base) T22 D__law_bounded D__law_value b_range
  have D__law_least := ok__law_least (Pg := l.prog) (w := w) (base := base) T23 D__law_settled b_len
  have D__law_greatest := ok__law_greatest (Pg := l.prog) (w := w) (base := base) T24 D__law_value b_range
  have D__law_is_amounts := ok__law_is_amounts (Pg := l.prog) (w := w) (base := base) T25 b_bool b_int b_isinstance b_len b_list
  exact body_law D__law_amount D__law_draws D__law_greatest D__law_is_amounts D__law_least D__law_named D__law_sheet D__law_value D__law_wide D_cells_in D_is_solution D_value_of D_values_of b_bool b_int b_isinstance b_len b_list b_range b_repr cdv s H E
end Law
open PySem PySem.W PyProof.Rows
set_option maxHeartbeats 0 in
theorem PySem.Challenge.cw_circlesettle_k03_values_holds : PySem.Challenge.rw_circlesettle_k03_values.Holds := by
  w_on; o_law; k_head; (case hw => w_witness2)
  k_fill
  refine Dl.walk_D (l := PySem.Challenge.rw_circlesettle_k03_values) (mm := Law.m_law) rfl rfl (fun w h Y => PySem.W.kIn_of Y) Law.sc_law ?F Law.law_true
  case F =>
    intro w mg fa h KX G hmg
    refine' Law.all_mk KX G hmg ?a0 ?l0 ?c0 ?k0 ?a1 ?l1 ?c1 ?k1 ?a2 ?l2 ?c2 ?k2 ?a3 ?l3 ?c3 ?k3 ?a4 ?l4 ?c4 ?k4 ?a5 ?l5 ?c5 ?k5 ?a6 ?l6 ?c6 ?k6 ?a7 ?l7 ?c7 ?k7 ?a8 ?l8 ?c8 ?k8 ?a9 ?l9 ?c9 ?k9 ?a10 ?l10 ?c10 ?k10 ?a11 ?l11 ?c11 ?k11 ?a12 ?l12 ?c12 ?k12 ?a13 ?l13 ?c13 ?k13 ?a14 ?l14 ?c14 ?k14 ?a15 ?l15 ?c15 ?k15 ?a16 ?l16 ?c16 ?k16 ?a17 ?l17 ?c17 ?k17 ?a18 ?l18 ?c18 ?k18 ?a19 ?l19 ?c19 ?k19 ?a20 ?l20 ?c20 ?k20 ?a21 ?l21 ?c21 ?k21 ?a22 ?l22 ?c22 ?k22 ?a23 ?l23 ?c23 ?k23 ?a24 ?l24 ?c24 ?k24 ?a25 ?l25 ?c25 ?k25 ?a26 ?l26 ?c26 ?k26 ?z_bool ?z_int ?z_isinstance ?z_len ?z_list ?z_max ?z_min ?z_range ?z_repr ?z_sorted
    (case a0 => k_is); (case l0 => k_is); (case c0 => k_is); (case k0 => k_is); (case a1 => k_is); (case l1 => k_is); (case c1 => k_is); (case k1 => k_is); (case a2 => k_is); (case l2 => k_is); (case c2 => k_is); (case k2 => k_is); (case a3 => k_is); (case l3 => k_is); (case c3 => k_is); (case k3 => k_is); (case a4 => k_is); (case l4 => k_is); (case c4 => k_is); (case k4 => k_is); (case a5 => k_is); (case l5 => k_is); (case c5 => k_is); (case k5 => k_is); (case a6 => k_is); (case l6 => k_is); (case c6 => k_is); (case k6 => k_is); (case a7 => k_is); (case l7 => k_is); (case c7 => k_is); (case k7 => k_is); (case a8 => k_is); (case l8 => k_is); (case c8 => k_is); (case k8 => k_is); (case a9 => k_is); (case l9 => k_is); (case c9 => k_is); (case k9 => k_is); (case a10 => k_is); (case l10 => k_is); (case c10 => k_is); (case k10 => k_is); (case a11 => k_is); (case l11 => k_is); (case c11 => k_is); (case k11 => k_is); (case a12 => k_is); (case l12 => k_is); (case c12 => k_is); (case k12 => k_is); (case a13 => k_is); (case l13 => k_is); (case c13 => k_is); (case k13 => k_is); (case a14 => k_is); (case l14 => k_is); (case c14 => k_is); (case k14 => k_is); (case a15 => k_is); (case l15 => k_is); (case c15 => k_is); (case k15 => k_is); (case a16 => k_is); (case l16 => k_is); (case c16 => k_is); (case k16 => k_is); (case a17 => k_is); (case l17 => k_is); (case c17 => k_is); (case k17 => k_is); (case a18 => k_is); (case l18 => k_is); (case c18 => k_is); (case k18 => k_is); (case a19 => k_is); (case l19 => k_is); (case c19 => k_is); (case k19 => k_is); (case a20 => k_is); (case l20 => k_is); (case c20 => k_is); (case k20 => k_is); (case a21 => k_is); (case l21 => k_is); (case c21 => k_is); (case k21 => k_is); (case a22 => k_is); (case l22 => k_is); (case c22 => k_is); (case k22 => k_is); (case a23 => k_is); (case l23 => k_is); (case c23 => k_is); (case k23 => k_is); (case a24 => k_is); (case l24 => k_is); (case c24 => k_is); (case k24 => k_is); (case a25 => k_is); (case l25 => k_is); (case c25 => k_is); (case k25 => k_is); (case a26 => k_is); (case l26 => k_is); (case c26 => k_is); (case k26 => k_is); (case z_bool => k_is); (case z_int => k_is); (case z_isinstance => k_is); (case z_len => k_is); (case z_list => k_is); (case z_max => k_is); (case z_min => k_is); (case z_range => k_is); (case z_repr => k_is); (case z_sorted => k_is)
